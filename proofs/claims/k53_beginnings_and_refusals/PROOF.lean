import PyProof.Rows.All
import Wide.All
import OpenK.AllK
import Wide.FinOn
import Lean
import PyProof.EqAt
import PyProof.EqKinds
import PyProof.TupleCall
import PyProof.NeKinds
import KE.IntBitsLaws
import PyProof.FitsBits
import PySem.Challenge.RW_wavyrow_k53_beginnings_and_refusals
namespace PySem.W.Fast
theorem te14697158906024131612:True:=True.intro
noncomputable def tw11816708013788105405:=PySem.Challenge.pw_wavyrow_k53_beginnings_and_refusals
theorem te11816708013788105405:PySem.Challenge.pw_wavyrow_k53_beginnings_and_refusals=tw11816708013788105405:=rfl
def tw7253728091742295905:=0
def tw18201762606463344610:=0
def tw9909771474766384963:=0
def tw15529436144483638276:=0
def tw4285503466390657092:=0
def tw10570876838068974438:=0
def tw18392489472930055470:=0
def tw5624870489715330128:=0
def tw1924472664220215698:=0
def tw12288785200336693335:=0
def tw5363388055723987639:=0
def tw17733635145307523739:=0
def tw9100813745095349147:=0
def tw12236371265859797661:=0
end PySem.W.Fast
set_option Elab.async false
set_option linter.all false
set_option maxRecDepth 100000
namespace L2
open List
open PySem PySem.Spec PyProof.Rows
section
noncomputable abbrev Key:=Sum Int Str
noncomputable def xi7:Key->Value->Bool
 | .inl k,v=>Value.isInt k v
 | .inr x,v=>Value.isStrOf x v
noncomputable def keyH (w:World):Key->Int
 | .inl k=>hashInt k
 | .inr x=>hashStr w x
theorem g7:∀{k:Key}{v:Value},xi7 k v=true->(∃ i t,k=Sum.inl i/\v=Value.int i t)\/(∃ x t,k=Sum.inr x/\v=Value.str x t)
 | .inl i,v,h=>by
  obtain⟨t,e⟩:=Value.isInt_shape (k:=i) (v:=v) h
  exact .inl ⟨i,t,rfl,e⟩
 | .inr x,v,h=>by
  obtain⟨t,e⟩:=Value.isStrOf_shape (x:=x) (v:=v) h
  exact .inr ⟨x,t,rfl,e⟩
theorem xi6 (a b:Int):decide ((Sum.inl a:Key)=Sum.inl b)=(a==b):=by
 by_cases e:a=b
 .subst e;simp
 .have h:¬ (Sum.inl a:Key)=Sum.inl b:=fun q=>e (Sum.inl.inj q)
  rw[decide_eq_false h]
  exact(beq_eq_false_iff_ne.mpr e).symm
theorem xi3 (a b:Str):decide ((Sum.inr a:Key)=Sum.inr b)=decide (a=b):=by
 by_cases e:a=b
 .subst e;simp
 .have h:¬ (Sum.inr a:Key)=Sum.inr b:=fun q=>e (Sum.inr.inj q)
  rw[decide_eq_false h,decide_eq_false e]
theorem xi5 (a:Int)(b:Str):decide ((Sum.inl a:Key)=Sum.inr b)=false:=decide_eq_false (fun q=>nomatch q)
theorem xi4 (a:Str)(b:Int):decide ((Sum.inr a:Key)=Sum.inl b)=false:=decide_eq_false (fun q=>nomatch q)
noncomputable def zi0 (prog:Program)(w:World):PySem.KeyKind prog w Key where
 is:=xi7
 hash:=keyH w
 inj:=fun v a b ha hb=>by
  rcases g7 ha with⟨i,t,rfl,rfl⟩|⟨x,t,rfl,rfl⟩
  .rcases g7 hb with⟨j,u,rfl,e⟩|⟨y,u,rfl,e⟩
   .injection e with e1 _;rw[e1]
   .exact nomatch e
  .rcases g7 hb with⟨j,u,rfl,e⟩|⟨y,u,rfl,e⟩
   .exact nomatch e
   .injection e with e1 _;rw[e1]
 byValue:=fun k v h=>by
  rcases g7 h with⟨i,t,rfl,rfl⟩|⟨x,t,rfl,rfl⟩ <;> rfl
 pyHash:=fun hv h=>by
  rcases g7 hv with⟨i,t,rfl,rfl⟩|⟨x,t,rfl,rfl⟩
  .exact wpAny_pyHash_int h
  .exact wpAny_pyHash_str h
 eqBool:=fun hu hv h=>by
  rcases g7 hu with⟨i,t,rfl,rfl⟩|⟨x,t,rfl,rfl⟩
  .rcases g7 hv with⟨j,u,rfl,rfl⟩|⟨y,u,rfl,rfl⟩
   .rw[xi6]at h;exact wpAny_eqBool_int h
   .rw[xi5]at h;exact SeqAt.EqAt.int_str i t y u _ _ _ _ h
  .rcases g7 hv with⟨j,u,rfl,rfl⟩|⟨y,u,rfl,rfl⟩
   .rw[xi4]at h;exact SeqAt.EqAt.str_int x t j u _ _ _ _ h
   .rw[xi3]at h;exact wpAny_eqBool_str h
 «strs»:=fun k x t v h=>by
  rcases g7 h with⟨i,u,rfl,e⟩|⟨y,u,rfl,e⟩
  .exact nomatch e
  .injection e with e1 _
   subst e1
   cases v <;> rfl
end
section
inductive V where
 |non|bl (b:Bool)|int (i:Int)|str (x:Str)|byt (b:Array UInt8)|flt (b:UInt64)|ref (a:Addr)|ty (n:String)
 deriving DecidableEq
noncomputable def RelV:V->Value->Prop
 | .non,u=>u=Value.none
 | .bl b,u=>u=Value.bool b
 | .int i,u=>∃ t,u=Value.int i t
 | .str x,u=>∃ t,u=Value.str x t
 | .byt b,u=>∃ t,u=Value.bytes b t
 | .flt b,u=>∃ t,u=Value.float b t
 | .ref a,u=>u=Value.ref a
 | .ty n,u=>u=Value.type n
abbrev Vals:List V->List Value->Prop:=Paired RelV
theorem Vals.length {xs:List V}{us:List Value}(r:Vals xs us):xs.length=us.length:=Paired.length r
theorem Vals.get:∀{xs:List V}{us:List Value}{i:Nat}{x:V},Vals xs us->xs[i]? =some x->∃ u,us[i]? =some u/\RelV x u
 |_,_,_,_,.nil,e=>by simp at e
 |_,_,0,_,.cons r _,e=>by simp at e;subst e;exact⟨_,rfl,r⟩
 |_,_,i+1,x,.cons _ t,e=>by
  obtain⟨u,h1,h2⟩:=Vals.get (i:=i) (x:=x) t (by simpa using e)
  exact⟨u,by simpa using h1,h2⟩
theorem Vals.set {x:V}{u:Value}(r:RelV x u):∀{xs:List V}{us:List Value}(i:Nat),Vals xs us->Vals (xs.set i x) (us.set i u)
 |_,_,_,.nil=>.nil
 |_,_,0,.cons _ t=>.cons r t
 |_,_,i+1,.cons q t=>.cons q (Vals.set r i t)
theorem Vals.append:∀{xs ys:List V}{us ws:List Value},Vals xs us->Vals ys ws->Vals (xs++ys) (us++ws)
 |_,_,_,_,.nil,s=>s
 |_,_,_,_,.cons r t,s=>.cons r (Vals.append t s)
theorem Vals.take:∀{xs:List V}{us:List Value}(n:Nat),Vals xs us->Vals (xs.take n) (us.take n)
 |_,_,0,_=>.nil
 |_,_,_+1,.nil=>.nil
 |_,_,n+1,.cons r t=>.cons r (Vals.take n t)
theorem Vals.drop:∀{xs:List V}{us:List Value}(n:Nat),Vals xs us->Vals (xs.drop n) (us.drop n)
 |_,_,0,r=>r
 |_,_,_+1,.nil=>.nil
 |_,_,n+1,.cons _ t=>Vals.drop n t
noncomputable def RelO:Option V->Option Value->Prop
 |some v,some u=>RelV v u
 |none,none=>True
 |_,_=>False
def KV {κ:Type}:List (κ×V)->List (κ×Value)->Prop:=Paired fun(p:κ×V)(q:κ×Value)=>p.1=q.1/\RelV p.2 q.2
noncomputable def kV:Key->V
 | .inl i=>.int i
 | .inr x=>.str x
inductive HO where
 |lst (xs:List V)
 |tup (xs:List V)
 |dK (kvs:List (Key×V))|dT (kvs:List (List Key×V))
 |set (S:Int->Bool) (n:Nat)
 |ins (C dx:Addr) (fs:List (Str×V))
 |own (x:Addr)
 |xd (fs:List (Str×V))
 |met (f x:Addr)
 |rng (lo hi:Int)
 |frz (o:Obj) (u:HO)
 |tbl (ps:Array Value)
 |ext (φ:Heap->Prop)
noncomputable abbrev Hp:=Addr->Option HO
noncomputable def upd (H:Hp)(a:Addr)(o:HO):Hp:=fun b=>if b=a then some o else H b
theorem w4 {H:Hp}{a:Addr}{o:HO}:upd H a o a=some o:=by unfold upd;rw[if_pos rfl]
theorem w5 {H:Hp}{a b:Addr}{o:HO}(h:b≠a):upd H a o b=H b:=by unfold upd;rw[if_neg h]
theorem m6 {H:Hp}{a b:Addr}{o:HO}(h:H a=some o)(h':H b=none):a≠b:=by
 intro e;subst e;rw[h]at h';cases h'
section
variable (P:Program)(w:World)
noncomputable def ObjOk (H:Hp)(h:Heap)(a:Addr):HO->Prop
 | .lst xs=>xs.length<=sizeLine/\∃(its:List Value)(n:Nat),Vals xs its/\h.get? a=some { cls:=.type "list",data:=.seq its.toArray n }
 | .tup xs=>xs.length<=sizeLine/\∃ its:List Value,Vals xs its/\IsTup h a its.toArray
 | .dK kvs=>kvs.length<=sizeLine/\(a==sysModules)=false/\∃ vs,KV kvs vs/\h.DictOf (zi0 P w) a vs
 | .dT kvs=>kvs.length<=sizeLine/\(a==sysModules)=false/\∃ xs:List (List Key×Addr×Value),
   Paired (fun(p:List Key×V)(q:List Key×Addr×Value)=>p.1=q.1/\H q.2.1=some (.tup (p.1.map kV))/\RelV p.2 q.2.2) kvs xs/\
   ∃ o es ep,h.get? a=some o/\o.ExactDict/\o.data= .dict es ep/\es.toList=xs.map (entryOfKey (tupleKind (zi0 P w)))/\(xs.map (·.1)).Nodup
 | .set S n=>h.SetOf (intKind P w) a S n
 | .ins C dx fs=>H dx=some (.own a)/\fs.length<=1000/\dx≠a/\h.get? a=some (W.instObj C dx)/\
   ∃ mA,h.Ns1 dx mA/\(∀ f,RelO (fs.lookup f) (mA f))/\PySem.Within mA (fs.map (·.1))
 | .own _=>∃ o,h.get? a=some o
 | .xd fs=>∃ mA,h.Ns1 a mA/\∀ f,RelO (fs.lookup f) (mA f)
 | .rng lo hi=>∃ t u v,h.get? a=some { cls:=.type "range",data:=.fields #[.int lo t,.int hi u,.int 1 v] }
 | .frz o u=>h.get? a=some o/\ObjOk H h a u
 | .tbl ps=>h.get? a=some { cls:=.none,data:=.fields ps }
 | .met f x=>h.get? a=some (W.methodObj (.ref f) (.ref x))
 | .ext φ=>φ h/\(∃ o,h.get? a=some o)/\∀ h1 h2:Heap,φ h1->(∀ o,h1.get? a=some o->h2.get? a=some o)->φ h2
def HOk (H:Hp)(h:Heap):Prop:=∀ a o,H a=some o->ObjOk P w H h a o
end
section
variable {P:Program}{w:World}{H H':Hp}{h h':Heap}{a:Addr}{o:HO}
theorem ObjOk.lt (x:ObjOk P w H h a o):a<h.objs.size:=by
 cases o with
 |lst xs=>obtain⟨_,_,_,_,e⟩:=x;exact Heap.lt_size e
 |tup xs=>obtain⟨_,_,_,p⟩:=x;exact p.lt
 |dK kvs=>obtain⟨_,_,_,_,o,_,_,e,_⟩:=x;exact Heap.lt_size e
 |dT kvs=>obtain⟨_,_,_,_,o,_,_,e,_⟩:=x;exact Heap.lt_size e
 |set S n=>obtain⟨o,_,_,_,e,_⟩:=x;exact Heap.lt_size e
 |ins C dx fs=>obtain⟨_,_,_,e,_⟩:=x;exact Heap.lt_size e
 |own y=>obtain⟨_,e⟩:=x;exact Heap.lt_size e
 |xd fs=>obtain⟨_,⟨_,_,_,e,_⟩,_⟩:=x;exact Heap.lt_size e
 |rng lo hi=>obtain⟨_,_,_,e⟩:=x;exact Heap.lt_size e
 |frz ob u=>obtain⟨e,_⟩:=x;exact Heap.lt_size e
 |tbl ps=>exact Heap.lt_size (show h.get? a=some _ from x)
 |met f y=>exact Heap.lt_size (show h.get? a=some _ from x)
 |ext φ=>obtain⟨_,⟨_,e⟩,_⟩:=x;exact Heap.lt_size e
theorem Paired.mapP {z β:Type}{F G:z->β->Prop}:∀{j:List z}{i:List β},Paired F j i->(∀ a b,F a b->G a b)->Paired G j i
 |_,_,.nil,_=>.nil
 |_,_,.cons r t,f=>.cons (f _ _ r) (Paired.mapP t f)
theorem ObjOk.stay (x:ObjOk P w H h a o)(k:∀ b u,(b=a\/H b=some (.own a))->h.get? b=some u->h'.get? b=some u)
  (j:∀ b,H b=some (.own a)->H' b=some (.own a)) (ht:∀ b xs,H b=some (.tup xs)->H' b=some (.tup xs)):ObjOk P w H' h' a o:=by
 induction o with
 |lst xs=>obtain⟨z,its,n,r,e⟩:=x;exact⟨z,its,n,r,k _ _ (.inl rfl) e⟩
 |tup xs=>obtain⟨z,its,r,ob,e,c⟩:=x;exact⟨z,its,r,ob,k _ _ (.inl rfl) e,c⟩
 |dK kvs=>obtain⟨z,y,vs,r,ob,es,ep,e,c⟩:=x;exact⟨z,y,vs,r,ob,es,ep,k _ _ (.inl rfl) e,c⟩
 |dT kvs=>
  obtain⟨z,y,xs,r,ob,es,ep,e,c⟩:=x
  exact⟨z,y,xs,Paired.mapP r fun p q z=>⟨z.1,ht _ _ z.2.1,z.2.2⟩,ob,es,ep,k _ _ (.inl rfl) e,c⟩
 |set S n=>obtain⟨ob,es,ep,t,e,c⟩:=x;exact⟨ob,es,ep,t,k _ _ (.inl rfl) e,c⟩
 |ins C dx fs=>
  obtain⟨d,z,ne,e,mA,⟨od,es,ep,e2,c⟩,r⟩:=x
  exact⟨j _ d,z,ne,k _ _ (.inl rfl) e,mA,⟨od,es,ep,k _ _ (.inr d) e2,c⟩,r⟩
 |own y=>obtain⟨ob,e⟩:=x;exact⟨ob,k _ _ (.inl rfl) e⟩
 |xd fs=>obtain⟨mA,⟨od,es,ep,e,c⟩,r⟩:=x;exact⟨mA,⟨od,es,ep,k _ _ (.inl rfl) e,c⟩,r⟩
 |rng lo hi=>obtain⟨t,u,v,e⟩:=x;exact⟨t,u,v,k _ _ (.inl rfl) e⟩
 |frz ob u i=>obtain⟨e,q⟩:=x;exact⟨k _ _ (.inl rfl) e,i q⟩
 |tbl ps=>
  have e:h.get? a=some { cls:=.none,data:=.fields ps }:=x
  show h'.get? a=some { cls:=.none,data:=.fields ps }
  exact k a _ (.inl rfl) e
 |met f y=>
  have e:h.get? a=some (W.methodObj (.ref f) (.ref y)):=x
  show h'.get? a=some (W.methodObj (.ref f) (.ref y))
  exact k a _ (.inl rfl) e
 |ext φ=>obtain⟨p,⟨o,e⟩,st⟩:=x;exact⟨st _ _ p fun o q=>k _ _ (.inl rfl) q,⟨o,k _ _ (.inl rfl) e⟩,st⟩
theorem HOk.lt (x:HOk P w H h)(e:H a=some o):a<h.objs.size:=(x a o e).lt
theorem HOk.fresh (x:HOk P w H h)(e:h.objs.size<=a):H a=none:=by
 cases q:H a with
 |none=>rfl
 |some u=>exact absurd (Nat.lt_of_lt_of_le (x.lt q) e) (Nat.lt_irrefl _)
theorem HOk.kept (x:HOk P w H h)(k:∀ b u,h.get? b=some u->h'.get? b=some u):HOk P w H h':=fun a o e=>
 (x a o e).stay (fun b u _ q=>k b u q) (fun _ q=>q) fun _ _ q=>q
theorem HOk.laid (x:HOk P w H h)(k:∀ b u,h.get? b=some u->h'.get? b=some u)(hp:h.objs.size<=a)(new:ObjOk P w (upd H a o) h' a o):HOk P w (upd H a o) h':=fun b u e=>by
 have hn:=x.fresh hp
 by_cases i:b=a
 .subst i;rw[w4]at e;cases e;exact new
 .rw[w5 i]at e
  exact(x b u e).stay (fun c v _ q=>k c v q) (fun c q=>by rw[w5 (m6 q hn)];exact q) fun c xs q=>by rw[w5 (m6 q hn)];exact q
end
def Rd (H:Hp)(a:Addr)(u:HO):Prop:=H a=some u\/∃ o,H a=some (.frz o u)
theorem Rd.ok {P:Program}{w:World}{H:Hp}{h:Heap}{a:Addr}{u:HO}(r:Rd H a u)(x:HOk P w H h):ObjOk P w H h a u:=by
 rcases r with r|⟨o,r⟩
 .exact x a u r
 .obtain⟨_,q⟩:=x a _ r
  exact q
noncomputable def Mut:Option HO->Prop
 |some (.lst _)=>True
 |some (.dK _)=>True
 |some (.dT _)=>True
 |some (.set _ _)=>True
 |some (.ins _ _ _)=>True
 |some (.ext _)=>True
 |_=>False
section
variable {P:Program}{w:World}{H:Hp}{h h':Heap}{x e:Addr}{o':HO}
theorem HOk.write (ok:HOk P w H h)(I:Mut (H x))(U:e=x\/H e=some (.own x))(k:∀ b u,b≠e->h.get? b=some u->h'.get? b=some u)(R:∃ u,h'.get? e=some u)
  (new:ObjOk P w (upd H x o') h' x o'):HOk P w (upd H x o') h':=fun b u q=>by
 have j:∀ c y,H c=some (.own y)->c≠x:=fun c y r z=>by subst z;rw[r]at I;exact I
 have G:∀ c xs,H c=some (.tup xs)->c≠x:=fun c xs r z=>by subst z;rw[r]at I;exact I
 by_cases O:b=x
 .subst O;rw[w4]at q;cases q;exact new
 .rw[w5 O]at q
  by_cases i:b=e
  .have q':H b=some (.own x):=by
    rcases U with z|z
    .exact absurd (i.trans z) O
    .rw[i];exact z
   rw[q]at q';cases q'
   obtain⟨v,Y⟩:=R
   exact⟨v,by rw[i];exact Y⟩
  .refine(ok b u q).stay (fun c v N r=>k c v ?_ r) (fun c r=>by rw[w5 (j c b r)];exact r) fun c xs r=>by rw[w5 (G c xs r)];exact r
   rcases N with rfl|N
   .exact i
   .rintro rfl
    rcases U with z|z
    .exact j c b N z
    .rw[N]at z;cases z;exact O rfl
end
structure Un (fs ex:List Addr)(H H':Hp)(h h':Heap):Prop where
 keep:∀ b o,h.get? b=some o->H b=none->b∉fs->b∉ex->h'.get? b=some o
 slot:∀ b o,h.get? b=some o->H b=none->b∈fs->b∉ex->∃ sl,h'.get? b=some { o with slots:=sl }
 free:∀ b o,h.get? b=some o->H b=none->b∉ex->H' b=none
 there:∀ b o,h.get? b=some o->b∉ex->∃ o',h'.get? b=some o'
 tups:∀ b xs,H b=some (.tup xs)->H' b=some (.tup xs)
 frzs:∀ b o u,H b=some (.frz o u)->H' b=some (.frz o u)
 tbls:∀ b ps,H b=some (.tbl ps)->∃ more,H' b=some (.tbl (ps++more))
section
variable {fs fs' ex ex':List Addr}{H H1 H2:Hp}{h h1 h2 h':Heap}{a x e:Addr}{o:HO}
theorem Un.any (u:Un fs ex H H1 h h1){b:Addr}{ob:Obj}(q:h.get? b=some ob)(n:H b=none)(i:b∉ex):∃ sl,h1.get? b=some { ob with slots:=sl }:=by
 by_cases j:b∈fs
 .exact u.slot b ob q n j i
 .exact⟨ob.slots,u.keep b ob q n j i⟩
theorem Un.kept (k:∀ b u,h.get? b=some u->h'.get? b=some u):Un fs ex H H h h':=
 ⟨fun b ob q _ _ _=>k b ob q,fun b ob q _ _ _=>⟨ob.slots,k b ob q⟩,fun _ _ _ n _=>n,fun b ob q _=>⟨ob,k b ob q⟩,fun _ _ q=>q,fun _ _ _ q=>q,fun _ ps q=>⟨#[],by rw[q];simp⟩⟩
theorem Un.refl:Un fs ex H H h h:=Un.kept fun _ _ q=>q
theorem Un.laid (k:∀ b u,h.get? b=some u->h'.get? b=some u)(hp:h.objs.size<=a)(hn:H a=none):Un fs ex H (upd H a o) h h' where
 keep:=fun b u q _ _ _=>k b u q
 slot:=fun b u q _ _ _=>⟨u.slots,k b u q⟩
 free:=fun b u q n _=>by rw[w5 (Nat.ne_of_lt (Nat.lt_of_lt_of_le (Heap.lt_size q) hp))];exact n
 there:=fun b u q _=>⟨u,k b u q⟩
 tups:=fun b xs q=>by rw[w5 (m6 q hn)];exact q
 frzs:=fun b u xs q=>by rw[w5 (m6 q hn)];exact q
 tbls:=fun b ps q=>⟨#[],by rw[w5 (m6 q hn),q];simp⟩
theorem Un.write (j:Mut (H x))(O:e=x\/H e=some (.own x))(k:∀ b u,b≠e->h.get? b=some u->h'.get? b=some u)(G:∃ u,h'.get? e=some u):Un fs ex H (upd H x o) h h':=by
 have I:∀ b,H b=none->b≠x:=fun b n z=>by subst z;rw[n]at j;exact j
 have N:∀ b,H b=none->b≠e:=fun b n z=>by
  subst z
  rcases O with r|r
  .exact I b n r
  .rw[n]at r;cases r
 have hm:∀ b u,H b=some u->¬ Mut (some u)->b≠x:=fun b u q nm z=>by subst z;rw[q]at j;exact nm j
 refine⟨fun b u q n _ _=>k b u (N b n) q,fun b u q n _ _=>⟨u.slots,k b u (N b n) q⟩,fun b u q n _=>by rw[w5 (I b n)];exact n,fun b u q _=>?_,
  fun b xs q=>by rw[w5 (hm b _ q fun z=>z)];exact q,fun b u xs q=>by rw[w5 (hm b _ q fun z=>z)];exact q,fun b ps q=>⟨#[],by rw[w5 (hm b _ q fun z=>z),q];simp⟩⟩
 by_cases i:b=e
 .subst i;exact G
 .exact⟨u,k b u i q⟩
end
noncomputable def trk (h:Heap)(H:Hp):List Addr:=(List.range h.objs.size).filter fun a=>(H a).isSome
noncomputable def hidT (h:Heap)(H:Hp):Heap:=W.hideAll h (trk h H)
theorem yp0 (h:Heap)(H:Hp):(hidT h H).objs.size=h.objs.size:=W.hideAll_size _ _
theorem ye0 {h:Heap}{H:Hp}{b:Addr}{o:Obj}(e:h.get? b=some o)(n:H b=none):(hidT h H).get? b=some o:=
 W.hideAll_get _ e fun hm=>by
  have q:(H b).isSome=true:=(List.mem_filter.mp hm).2
  rw[n]at q;simp at q
theorem xu4 {h:Heap}{H:Hp}{b:Addr}{o:Obj}(e:(hidT h H).get? b=some o):h.get? b=some o/\H b=none:=by
 have i:h.get? b=some o:=W.of_hideAll (trk h H) e
 refine⟨i,?_⟩
 cases q:H b with
 |none=>rfl
 |some x=>
  have hm:b∈trk h H:=List.mem_filter.mpr ⟨List.mem_range.mpr (Heap.lt_size i),by simp[q]⟩
  have z:(hidT h H).get? b=none:=W.hideAll_none (trk h H) hm
  rw[z]at e;cases e
noncomputable def xq0 (g h:Heap)(L:Addr):List (Addr×Obj):=(List.range h.objs.size).filterMap fun a=>if a=L\/(g.get? a).isSome=true then none else (h.get? a).map fun o=>(a,o)
noncomputable def rest (g h:Heap)(L d:Addr):List (Addr×Obj):=(xq0 g h L).filter fun p=>decide (p.1≠d)
end
section
structure Mod (K:W.Frag)(mg:Str->Option Value)(base:Heap):Prop where
 kin:K.In base
 glob:base.Ns mainGlobals mg
 blt:∃ mb,base.Ns builtinsNs mb/\∀ x:Str,x≠"__name__"->mb x=bootBuiltins x
 nolimit:base.NoLimit
structure Cx where
 prog:Program
 w:World
 K:W.Frag
 mg:Str->Option Value
 base:Heap
 A:Around
 N:List Str
 s₀:Shared
 H₀:Hp
 env:Env
 outer:List Env
 stack:List Env
 ex:List Addr
 fn:Str->Bool
 calm:Bool
 pn:List (Addr×Obj)
 xe:Value->Shared->Prop
noncomputable def frs (l:List Env):List Addr:=l.filterMap (·.frame)
noncomputable abbrev Cx.fs (X:Cx):List Addr:=frs X.outer
def Vis (sc:Scope)(x:Str):Prop:=sc.names.lookup x=some .local\/sc.names.lookup x=some .cell\/sc.names.lookup x=some .free
def Loc (sc:Scope)(x:Str):Prop:=sc.names.lookup x=some .local\/sc.names.lookup x=some .cell
def Look (env:Env)(h:Heap)(m:Str->Option Value)(x:Str)(u:Value):Prop:=
 (env.kindOf x=some .local/\m x=some u)\/((env.kindOf x=some .cell\/env.kindOf x=some .free)/\∃ c,env.cells.lookup x=some c/\h.IsCell c (some u))
structure Cx.Ok (X:Cx):Prop where
 mod:Mod X.K X.mg X.base
 kind:X.env.scope.kind= .function
 glob:X.env.globals=mainGlobals
 blt:X.env.builtins=builtinsNs
 above:X.s₀.heap.objs.size<=X.env.locals
 inj:∀ x y c,X.env.cells.lookup x=some c->X.env.cells.lookup y=some c->x=y
 has:∀ x,(X.env.kindOf x=some .cell\/X.env.kindOf x=some .free)->∃ c,X.env.cells.lookup x=some c
 cab:∀ x c,X.fn x=true->X.env.cells.lookup x=some c->X.s₀.heap.objs.size<=c
 hd:X.calm=true->X.A.handled=none
 frames:X.A.frames=some X.stack
 stk:X.stack=X.outer\/(X.stack=X.env::X.outer/\X.env.frame=some X.env.locals)
 exf:∀ b∈X.ex,b≠X.env.locals/\∀ x c,X.env.cells.lookup x=some c->c≠b
 bs:∀ b o,X.base.get? b=some o->X.s₀.heap.get? b=some o/\X.H₀ b=none
 bsz:X.base.objs.size<=X.s₀.heap.objs.size
 noex:∀ b o,X.base.get? b=some o->b∉X.ex
 exfs:∀ b∈X.ex,b∉X.fs
 funs:X.s₀.heap.FunFrames X.base X.outer
 frf:∀ b∈X.fs,X.H₀ b=none
structure Inv (X:Cx)(pins:List (Addr×Obj))(σ:List (Option V))(H:Hp)(s:Shared):Prop where
 ok:X.Ok
 os:s.os=X.s₀.os
 bare:AllBare s.gens
 base:Un X.fs X.ex X.H₀ H X.s₀.heap s.heap
 loc:∃ m,s.heap.Ns X.env.locals m/\∀(i:Nat)(x:Str)(v:V),X.N[i]? =some x->σ[i]? =some (some v)->Vis X.env.scope x->∃ u,RelV v u/\Look X.env s.heap m x u
 cell:∀ x c,X.env.cells.lookup x=some c->∃ v,s.heap.IsCell c v
 free:H X.env.locals=none
 freeC:∀ x c,X.env.cells.lookup x=some c->H c=none
 pin:∀ p∈X.pn++pins,s.heap.get? p.1=some p.2/\H p.1=none/\p.1≠X.env.locals/\p.1∉X.fs/\∀ v,p.2.data≠ .cell v
 hok:HOk X.prog X.w H s.heap
 len:σ.length=X.N.length
section
variable {X:Cx}{pins:List (Addr×Obj)}{σ:List (Option V)}{H H':Hp}{s:Shared}{h':Heap}
theorem Cx.Ok.nofr (ok:X.Ok){b:Addr}{o:Obj}(e:X.base.get? b=some o):b∉X.fs:=fun i=>by
 have:=(ok.funs.mem i).1
 rw[e]at this;cases this
theorem Inv.bs (I:Inv X pins σ H s):∀ b o,X.base.get? b=some o->s.heap.get? b=some o/\H b=none:=fun b o e=>
 ⟨I.base.keep b o (I.ok.bs b o e).1 (I.ok.bs b o e).2 (I.ok.nofr e) (I.ok.noex b o e),I.base.free b o (I.ok.bs b o e).1 (I.ok.bs b o e).2 (I.ok.noex b o e)⟩
theorem Inv.bk (I:Inv X pins σ H s):∀ b o,X.base.get? b=some o->s.heap.get? b=some o:=fun b o e=>(I.bs b o e).1
theorem Inv.mod (I:Inv X pins σ H s):Mod X.K X.mg X.base:=I.ok.mod
theorem Inv.kIn (I:Inv X pins σ H s):X.K.In s.heap:=I.ok.mod.kin.keeps I.bk
theorem Inv.nolimit (I:Inv X pins σ H s):s.heap.NoLimit:=I.ok.mod.nolimit.keeps I.bk
theorem Inv.lt (I:Inv X pins σ H s):X.env.locals<s.heap.objs.size:=let ⟨_,hn,_⟩:=I.loc;hn.lt
theorem Inv.sz (I:Inv X pins σ H s):X.s₀.heap.objs.size<=s.heap.objs.size:=Nat.le_trans I.ok.above (Nat.le_of_lt I.lt)
theorem Inv.nofs (I:Inv X pins σ H s){a:Addr}(h:s.heap.objs.size<=a):a∉X.fs:=fun j=>by
 obtain⟨_,o,i,_⟩:=I.ok.funs.mem j
 exact absurd (Nat.lt_of_lt_of_le (Heap.lt_size i) (Nat.le_trans I.sz h)) (Nat.lt_irrefl _)
theorem Inv.cne (I:Inv X pins σ H s):∀ x c,X.env.cells.lookup x=some c->c≠X.env.locals:=fun x c e z=>by
 obtain⟨v,o,G,hd⟩:=I.cell x c e
 obtain⟨m,⟨o',es,ep,i,j,_⟩,_⟩:=I.loc
 rw[z,i]at G;cases G;rw[j]at hd;cases hd
theorem Inv.funs (I:Inv X pins σ H s):s.heap.FunFrames X.base X.outer:=by
 have all:∀(l:List Env),(∀ b∈frs l,b∈X.fs)->X.s₀.heap.FunFrames X.base l->s.heap.FunFrames X.base l:=by
  intro l
  induction l with
  |nil=>intro _ _;trivial
  |cons env r N=>
   intro hs hl
   obtain⟨U,⟨L,o,i,hn,R,hd⟩,O⟩:=hl
   have G:L∈X.fs:=hs L (by unfold frs;rw[filterMap_cons,i];exact mem_cons_self)
   obtain⟨sl,e⟩:=I.base.slot L o R (I.ok.frf L G) G fun z=>I.ok.exfs L z G
   exact⟨U,⟨L,_,i,hn,e,hd⟩,N (fun b j=>hs b (by unfold frs;rw[filterMap_cons,i];exact mem_cons_of_mem _ j)) O⟩
 exact all X.outer (fun _ j=>j) I.ok.funs
theorem Inv.stack (I:Inv X pins σ H s):s.heap.FunFrames X.base X.stack:=by
 rcases I.ok.stk with e|⟨e,i⟩
 .rw[e];exact I.funs
 .rw[e]
  obtain⟨m,hn,_⟩:=I.loc
  refine .cons (by rw[I.ok.kind];decide) i hn ?_ I.funs
  exact Heap.get?_none_of_le (Nat.le_trans I.ok.bsz I.ok.above)
theorem Inv.stkSub (I:Inv X pins σ H s):∀ b∈frs X.stack,b∈X.env.locals::X.fs:=fun b i=>by
 rcases I.ok.stk with e|⟨e,j⟩
 .rw[e]at i;exact mem_cons_of_mem _ i
 .rw[e]at i
  unfold frs at i
  rw[filterMap_cons,j]at i
  exact i
theorem Inv.stkFree (I:Inv X pins σ H s):∀ b∈frs X.stack,H b=none:=fun b i=>by
 rcases List.mem_cons.mp (I.stkSub b i)with e|i
 .rw[e];exact I.free
 .obtain⟨_,o,ho,_⟩:=I.ok.funs.mem i
  exact I.base.free b o ho (I.ok.frf b i) fun z=>I.ok.exfs b z i
theorem Inv.step {g':Array GenState}{t':Nat}{d':Drawn}{ch:List Addr}(I:Inv X pins σ H s)
  (N:∀ b∈ch,(b∈X.ex\/X.s₀.heap.objs.size<=b)/\b≠X.env.locals/\(∀ x c,X.env.cells.lookup x=some c->c≠b)/\∀ p∈X.pn++pins,p.1≠b)
  (keep:∀ b o,b≠X.env.locals->b∉X.fs->b∉ch->s.heap.get? b=some o->H b=none->h'.get? b=some o)
  (slot:∀ b o,b≠X.env.locals->b∈X.fs->b∉ch->s.heap.get? b=some o->H b=none->∃ sl,h'.get? b=some { o with slots:=sl }) (free:∀ b o,b∉ch->s.heap.get? b=some o->H b=none->H' b=none)
  (there:∀ b o,b∉ch->s.heap.get? b=some o->∃ o',h'.get? b=some o')
  (tups:∀ b xs,H b=some (.tup xs)->H' b=some (.tup xs)) (frzs:∀ b o u,H b=some (.frz o u)->H' b=some (.frz o u)) (tbls:∀ b ps,H b=some (.tbl ps)->∃ more,H' b=some (.tbl (ps++more)))
  (ns:∀ m,s.heap.Ns X.env.locals m->h'.Ns X.env.locals m) (hok:HOk X.prog X.w H' h') (hg:AllBare g'):
  Inv X pins σ H' { s with heap:=h',gens:=g',drawn:=d',toks:=t' }:=by
 have Z:∀ b o,X.s₀.heap.get? b=some o->b≠X.env.locals:=fun b o e=>Nat.ne_of_lt (Nat.lt_of_lt_of_le (Heap.lt_size e) I.ok.above)
 have R:∀ b o,X.s₀.heap.get? b=some o->b∉X.ex->b∉ch:=fun b o e j U=>by
  rcases (N b U).1 with z|z
  .exact j z
  .exact absurd (Nat.lt_of_lt_of_le (Heap.lt_size e) z) (Nat.lt_irrefl _)
 have O:∀ x c,X.env.cells.lookup x=some c->∀ v,s.heap.IsCell c v->h'.IsCell c v:=fun x c e v a1=>by
  obtain⟨o,Y,hd⟩:=a1
  have G:c∉ch:=fun z=>(N c z).2.2.1 x c e rfl
  by_cases hc:c∈X.fs
  .obtain⟨sl,q⟩:=slot c o (I.cne x c e) hc G Y (I.freeC x c e)
   exact⟨_,q,hd⟩
  .exact⟨o,keep c o (I.cne x c e) hc G Y (I.freeC x c e),hd⟩
 refine⟨I.ok,I.os,hg,⟨fun b o e n U j=>?_,fun b o e n U j=>?_,fun b o e n j=>?_,fun b o e j=>?_,fun b xs e=>tups b xs (I.base.tups b xs e),fun b o xs e=>frzs b o xs (I.base.frzs b o xs e),fun b ps e=>?_⟩,?_,fun x c e=>?_,?_,fun x c e=>?_,fun p hp=>?_,hok,I.len⟩
 .exact keep b o (Z b o e) U (R b o e j) (I.base.keep b o e n U j) (I.base.free b o e n j)
 .obtain⟨sl,e1⟩:=I.base.slot b o e n U j
  obtain⟨a2,e2⟩:=slot b _ (Z b o e) U (R b o e j) e1 (I.base.free b o e n j)
  exact⟨a2,e2⟩
 .obtain⟨o',e1⟩:=I.base.there b o e j
  exact free b o' (R b o e j) e1 (I.base.free b o e n j)
 .obtain⟨o',e1⟩:=I.base.there b o e j
  exact there b o' (R b o e j) e1
 .obtain⟨m1,e1⟩:=I.base.tbls b ps e
  obtain⟨m2,e2⟩:=tbls b _ e1
  exact⟨m1++m2,by rw[e2,Array.append_assoc]⟩
 .obtain⟨m,hn,hl⟩:=I.loc
  refine⟨m,ns m hn,fun i x v e1 e2 e3=>?_⟩
  obtain⟨u,r,l⟩:=hl i x v e1 e2 e3
  refine⟨u,r,?_⟩
  rcases l with l|⟨k,c,e,z⟩
  .exact .inl l
  .exact .inr ⟨k,c,e,O x c e _ z⟩
 .obtain⟨v,z⟩:=I.cell x c e
  exact⟨v,O x c e v z⟩
 .obtain⟨m,⟨o,_,_,Y,_⟩,_⟩:=I.loc
  exact free _ o (fun z=>(N _ z).2.1 rfl) Y I.free
 .obtain⟨v,o,Y,hd⟩:=I.cell x c e
  exact free c o (fun z=>(N c z).2.2.1 x c e rfl) Y (I.freeC x c e)
 .obtain⟨e,n,ne,nf,d⟩:=I.pin p hp
  have G:p.1∉ch:=fun z=>(N p.1 z).2.2.2 p hp rfl
  exact⟨keep p.1 p.2 ne nf G e n,free p.1 p.2 G e n,ne,nf,d⟩
theorem Inv.un {t':Nat}(I:Inv X pins σ H s)(u:Un X.fs [] H H' s.heap h')(hok:HOk X.prog X.w H' h'):Inv X pins σ H' { s with heap:=h',toks:=t' }:=by
 obtain⟨m,⟨o,es,ep,O,r⟩,_⟩:=id I.loc
 obtain⟨sl,U⟩:=u.any O I.free (by simp)
 exact I.step (g':=s.gens) (d':=s.drawn) (ch:=[]) (fun _ z=>nomatch z) (fun b o _ j _ e n=>u.keep b o e n j (by simp)) (fun b o _ j _ e n=>u.slot b o e n j (by simp)) (fun b o _ e n=>u.free b o e n (by simp)) (fun b o _ e=>u.there b o e (by simp)) u.tups u.frzs u.tbls (fun Y hm=>by
  obtain⟨o',G,N,i,R⟩:=hm
  rw[O]at i;cases i
  exact⟨_,G,N,U,R⟩) hok I.bare
theorem Inv.call {g':Array GenState}{t':Nat}{d':Drawn}{ch:List Addr}(I:Inv X pins σ H s)(u:Un (frs X.stack) ch H H' s.heap h')(hok:HOk X.prog X.w H' h')(Z:AllBare g')
  (G:∀ b∈ch,(b∈X.ex\/X.s₀.heap.objs.size<=b)/\b≠X.env.locals/\(∀ x c,X.env.cells.lookup x=some c->c≠b)/\∀ p∈X.pn++pins,p.1≠b):
  Inv X pins σ H' { s with heap:=h',gens:=g',drawn:=d',toks:=t' }:=by
 obtain⟨m,⟨o,es,ep,U,r⟩,_⟩:=id I.loc
 obtain⟨sl,N⟩:=u.any U I.free fun z=>(G _ z).2.1 rfl
 exact I.step (ch:=ch) G (fun b o N hb i e n=>u.keep b o e n (fun z=>(List.mem_cons.mp (I.stkSub b z)).elim N hb) i) (fun b o _ _ i e n=>u.any e n i) (fun b o i e n=>u.free b o e n i) (fun b o i e=>u.there b o e i) u.tups u.frzs u.tbls (fun m' hm=>by
  obtain⟨o',O,R,j,Y⟩:=hm
  rw[U]at j;cases j
  exact⟨_,O,R,N,Y⟩) hok Z
theorem Inv.turned {t':Nat}{it:Addr}(I:Inv X pins σ H s)(k:∀ b o,b≠it->s.heap.get? b=some o->h'.get? b=some o)(hn:H it=none)(G:it≠X.env.locals)
  (h1:it∈X.ex\/X.s₀.heap.objs.size<=it) (h2:∀ x c,X.env.cells.lookup x=some c->c≠it) (O:∀ p∈X.pn++pins,p.1≠it):Inv X pins σ H { s with heap:=h',toks:=t' }:=by
 have j:∀ b u,H b=some u->b≠it:=fun b u e z=>by rw[z,hn]at e;cases e
 refine I.step (g':=s.gens) (d':=s.drawn) (ch:=[it]) (fun b N=>?_) (fun b o _ _ i e _=>k b o (fun z=>i (by simp[z])) e) (fun b o _ _ i e _=>⟨o.slots,k b o (fun z=>i (by simp[z])) e⟩) (fun _ _ _ _ n=>n)
  (fun b o i e=>⟨o,k b o (fun z=>i (by simp[z])) e⟩) (fun _ _ e=>e) (fun _ _ _ e=>e) (fun b ps e=>⟨#[],by rw[e];simp⟩) (fun m hm=>?_) (fun b u e=>?_) I.bare
 .have e:b=it:=by simpa using N
  subst e
  exact⟨h1,G,h2,O⟩
 .obtain⟨o,es,ep,ho,r⟩:=hm
  exact⟨o,es,ep,k _ o (Ne.symm G) ho,r⟩
 .refine(I.hok b u e).stay (fun c v i q=>k c v ?_ q) (fun _ q=>q) fun _ _ q=>q
  rcases i with z|z
  .rw[z];exact j b u e
  .exact j c _ z
theorem Inv.tok (I:Inv X pins σ H s)(t:Nat):Inv X pins σ H { s with toks:=t }:=I.un (h':=s.heap) (t':=t) Un.refl I.hok
theorem Inv.kept {t':Nat}(I:Inv X pins σ H s)(k:∀ b u,s.heap.get? b=some u->h'.get? b=some u):Inv X pins σ H { s with heap:=h',toks:=t' }:=I.un (Un.kept k) (I.hok.kept k)
theorem Inv.laid {a:Addr}{o:HO}{t':Nat}(I:Inv X pins σ H s)(k:∀ b u,s.heap.get? b=some u->h'.get? b=some u)(hp:s.heap.objs.size<=a)(new:ObjOk X.prog X.w (upd H a o) h' a o):
  Inv X pins σ (upd H a o) { s with heap:=h',toks:=t' }:=I.un (Un.laid k hp (I.hok.fresh hp)) (I.hok.laid k hp new)
theorem Inv.write {x e:Addr}{o:HO}{t':Nat}(I:Inv X pins σ H s)(j:Mut (H x))(z:e=x\/H e=some (.own x))(k:∀ b u,b≠e->s.heap.get? b=some u->h'.get? b=some u)(i:∃ u,h'.get? e=some u)
  (new:ObjOk X.prog X.w (upd H x o) h' x o):Inv X pins σ (upd H x o) { s with heap:=h',toks:=t' }:=I.un (Un.write j z k i) (I.hok.write j z k i new)
theorem Inv.pins_of {pins':List (Addr×Obj)}(I:Inv X pins σ H s)(h:∀ p∈pins',s.heap.get? p.1=some p.2/\H p.1=none/\p.1≠X.env.locals/\p.1∉X.fs/\∀ v,p.2.data≠ .cell v):Inv X pins' σ H s:=
 ⟨I.ok,I.os,I.bare,I.base,I.loc,I.cell,I.free,I.freeC,fun p hp=>(List.mem_append.mp hp).elim (fun z=>I.pin p (mem_append_left _ z)) (h p),I.hok,I.len⟩
theorem zu2 {N:List Str}(z:N.Nodup){i j:Nat}{x:Str}(a:N[i]? =some x)(b:N[j]? =some x):i=j:=by
 obtain⟨h1,e1⟩:=List.getElem?_eq_some_iff.mp a
 obtain⟨h2,e2⟩:=List.getElem?_eq_some_iff.mp b
 exact(getElem_inj z).mp (e1.trans e2.symm)
theorem zr5 {M:Model}{A:Around}{E:Value->Shared->Prop}{i:Nat}{x:Str}{v:V}{u:Value}{Q:Unit->Shared->Prop}(I:Inv X pins σ H s)(hN:X.N.Nodup)(hi:X.N[i]? =some x)(R:Loc X.env.scope x)(r:RelV v u)
  (h:∀ s',Inv X pins (σ.set i (some v)) H s'->(∃ a,Heap.SameBut a s.heap s'.heap/\(a=X.env.locals\/X.env.cells.lookup x=some a))->Q () s') (hf:X.fn x=true\/X.env.scope.names.lookup x=some .local:=by first|exact .inl rfl|exact .inr rfl|assumption):wpAny M A (storeName X.env x u) Q E s:=by
 obtain⟨m,hn,hl⟩:=id I.loc
 have a3:(X.env.scope.kind== .class || (X.env.scope.kind== .module&&X.env.locals != X.env.globals))=false:=by rw[I.ok.kind];rfl
 have Z:i<σ.length:=by rw[I.len];exact(List.getElem?_eq_some_iff.mp hi).1
 have cne:=I.cne
 have G:∀{a:Addr}{h':Heap},(∃ o,s.heap.get? a=some o/\H a=none)->Heap.SameBut a s.heap h'->HOk X.prog X.w H h':=fun{a h'} ha hs b ob e=>by
  obtain⟨_,_,U⟩:=ha
  refine(I.hok b ob e).stay (fun c w' O q=>(hs.2 c ?_).trans q) (fun _ q=>q) fun _ _ q=>q
  rintro rfl
  rcases O with rfl|O
  .rw[U]at e;cases e
  .rw[U]at O;cases O
 rcases R with Y|Y
 .refine wpAny_storeName_local Y hn (fun h' a6 hs=>?_) a3
  obtain⟨oL,_,_,a5,_⟩:=id hn
  refine h _ ⟨I.ok,I.os,I.bare,⟨fun b o e n hb R=>?_,fun b o e n hb R=>?_,I.base.free,fun b o e R=>?_,I.base.tups,I.base.frzs,I.base.tbls⟩,⟨_,a6,fun j y v' e1 e2 e3=>?_⟩,fun y c e=>?_,I.free,I.freeC,fun p hp=>?_,G ⟨oL,a5,I.free⟩ hs,by simpa using I.len⟩ ⟨_,hs,.inl rfl⟩
  .exact(hs.2 b (Nat.ne_of_lt (Nat.lt_of_lt_of_le (Heap.lt_size e) I.ok.above))).trans (I.base.keep b o e n hb R)
  .obtain⟨sl,e1⟩:=I.base.slot b o e n hb R
   exact⟨sl,(hs.2 b (Nat.ne_of_lt (Nat.lt_of_lt_of_le (Heap.lt_size e) I.ok.above))).trans e1⟩
  .obtain⟨o',e1⟩:=I.base.there b o e R
   exact⟨o',(hs.2 b (Nat.ne_of_lt (Nat.lt_of_lt_of_le (Heap.lt_size e) I.ok.above))).trans e1⟩
  .by_cases hj:j=i
   .subst hj
    rw[hi]at e1;cases e1
    rw[getElem?_set_self Z]at e2
    cases e2
    exact⟨u,r,.inl ⟨Y,by simp⟩⟩
   .rw[getElem?_set_ne (Ne.symm hj)]at e2
    obtain⟨u',r',q⟩:=hl j y v' e1 e2 e3
    refine⟨u',r',?_⟩
    rcases q with⟨k,e⟩|⟨k,c,e,z⟩
    .refine .inl ⟨k,?_⟩
     have:y≠x:=fun e=>hj (zu2 hN e1 (e ▸ hi))
     simp[this,e]
    .exact .inr ⟨k,c,e,z.sameBut hs (cne y c e)⟩
  .obtain⟨w',z⟩:=I.cell y c e
   exact⟨w',z.sameBut hs (cne y c e)⟩
  .obtain⟨e,n,ne,nf,d⟩:=I.pin p hp
   exact⟨(hs.2 p.1 ne).trans e,n,ne,nf,d⟩
 .have hfn:X.fn x=true:=by
   rcases hf with z|z
   .exact z
   .rw[z]at Y;cases Y
  obtain⟨c,O⟩:=I.ok.has x (.inl Y)
  obtain⟨w',z⟩:=I.cell x c O
  refine wpAny_storeName_cell I.ok.kind Y O z (fun h' a4 hs=>?_)
  obtain⟨oc,a2,a1⟩:=id z
  refine h { s with heap:=h' } ⟨I.ok,I.os,I.bare,⟨fun b o e n hb R=>?_,fun b o e n hb R=>?_,I.base.free,fun b o e R=>?_,I.base.tups,I.base.frzs,I.base.tbls⟩,⟨m,hn.sameBut hs (Ne.symm (cne x c O)),fun j y v' e1 e2 e3=>?_⟩,fun y c' e=>?_,I.free,I.freeC,fun p hp=>?_,G ⟨oc,a2,I.freeC x c O⟩ hs,by simpa using I.len⟩ ⟨c,hs,.inr O⟩
  .exact(hs.2 b (Nat.ne_of_lt (Nat.lt_of_lt_of_le (Heap.lt_size e) (I.ok.cab x c hfn O)))).trans (I.base.keep b o e n hb R)
  .obtain⟨sl,e1⟩:=I.base.slot b o e n hb R
   exact⟨sl,(hs.2 b (Nat.ne_of_lt (Nat.lt_of_lt_of_le (Heap.lt_size e) (I.ok.cab x c hfn O)))).trans e1⟩
  .obtain⟨o',e1⟩:=I.base.there b o e R
   exact⟨o',(hs.2 b (Nat.ne_of_lt (Nat.lt_of_lt_of_le (Heap.lt_size e) (I.ok.cab x c hfn O)))).trans e1⟩
  .by_cases hj:j=i
   .subst hj
    rw[hi]at e1;cases e1
    rw[getElem?_set_self Z]at e2
    cases e2
    exact⟨u,r,.inr ⟨.inl Y,c,O,a4⟩⟩
   .rw[getElem?_set_ne (Ne.symm hj)]at e2
    obtain⟨u',r',q⟩:=hl j y v' e1 e2 e3
    refine⟨u',r',?_⟩
    rcases q with q|⟨k,c',e,z'⟩
    .exact .inl q
    .refine .inr ⟨k,c',e,z'.sameBut hs ?_⟩
     rintro rfl
     exact hj (zu2 hN e1 (I.ok.inj _ _ _ e O ▸ hi))
  .by_cases hcc:c'=c
   .subst hcc;exact⟨_,a4⟩
   .obtain⟨w2,z2⟩:=I.cell y c' e
    exact⟨w2,z2.sameBut hs hcc⟩
  .obtain⟨e,n,ne,nf,d⟩:=I.pin p hp
   refine⟨(hs.2 p.1 ?_).trans e,n,ne,nf,d⟩
   intro q
   rw[q,a2]at e
   have q':oc=p.2:=Option.some.inj e
   exact d w' (by rw[<-q'];exact a1)
theorem zw4 {M:Model}{A:Around}{E:Value->Shared->Prop}{i:Nat}{x:Str}{v:V}{u:Value}{Q:Unit->Shared->Prop}(I:Inv X pins σ H s)(G:X.N.Nodup)(hi:X.N[i]? =some x)(j:Loc X.env.scope x)(r:RelV v u)
  (h:∀ s',Inv X pins (σ.set i (some v)) H s'->Q () s') (z:X.fn x=true\/X.env.scope.names.lookup x=some .local:=by first|exact .inl rfl|exact .inr rfl|assumption):wpAny M A (storeName X.env x u) Q E s:=
 zr5 I G hi j r (fun s' O _=>h s' O) z
theorem Inv.call' {s':Shared}{ch:List Addr}(I:Inv X pins σ H s)(j:s'.os=s.os)(u:Un (frs X.stack) ch H H' s.heap s'.heap)(hok:HOk X.prog X.w H' s'.heap)(z:AllBare s'.gens)
  (i:∀ b∈ch,(b∈X.ex\/X.s₀.heap.objs.size<=b)/\b≠X.env.locals/\(∀ x c,X.env.cells.lookup x=some c->c≠b)/\∀ p∈X.pn++pins,p.1≠b):Inv X pins σ H' s':=by
 obtain⟨h',g',d',t',o'⟩:=s'
 have e:o'=s.os:=j
 subst e
 exact I.call (g':=g') (t':=t') (d':=d') u hok z i
end
noncomputable abbrev XK:=Value->Option Addr->Hp->Prop
noncomputable abbrev St:=List (Option V)
noncomputable abbrev VK:=V->Hp->Prop
noncomputable abbrev TE:=St->Hp->VK->Prop
noncomputable abbrev TT:=St->Hp->(Bool->Hp->Prop)->Prop
noncomputable abbrev TA:=St->Hp->(List V->Hp->Prop)->Prop
structure Ends where
 nx:St->Hp->Prop
 rt:VK
 bk:St->Hp->Prop:=fun _ _=>False
 ct:St->Hp->Prop:=fun _ _=>False
noncomputable abbrev TS:=Ends->St->Hp->Prop
def EP (X:Cx)(pins:List (Addr×Obj))(σ:St)(Q:VK)(u:Value)(s':Shared):Prop:=∃ v H',Inv X pins σ H' s'/\RelV v u/\Q v H'
def TP (X:Cx)(pins:List (Addr×Obj))(σ:St)(Q:Bool->Hp->Prop)(b:Bool)(s':Shared):Prop:=∃ H',Inv X pins σ H' s'/\Q b H'
def AP (X:Cx)(pins:List (Addr×Obj))(σ:St)(Q:List V->Hp->Prop)(us:List Value)(s':Shared):Prop:=∃ vs H',Inv X pins σ H' s'/\Vals vs us/\Q vs H'
def SP (X:Cx)(pins:List (Addr×Obj))(D:Ends)(f:Flow)(s':Shared):Prop:=
 match f with
 | .next=>∃ σ' H',Inv X pins σ' H' s'/\D.nx σ' H'
 | .brk=>∃ σ' H',Inv X pins σ' H' s'/\D.bk σ' H'
 | .cont=>∃ σ' H',Inv X pins σ' H' s'/\D.ct σ' H'
 | .ret u=>∃ v σ' H',Inv X pins σ' H' s'/\RelV v u/\D.rt v H'
def PE (X:Cx)(e:Expr)(t:TE):Prop:=
 ∀(pins:List (Addr×Obj))(s:Shared)(σ:St)(H:Hp)(Q:VK),Inv X pins σ H s->t σ H Q->wpAny (model X.prog X.w) X.A (eval e X.env) (EP X pins σ Q) X.xe s
def PT (X:Cx)(e:Expr)(t:TT):Prop:=
 ∀(pins:List (Addr×Obj))(s:Shared)(σ:St)(H:Hp)(Q:Bool->Hp->Prop),Inv X pins σ H s->t σ H Q->wpAny (model X.prog X.w) X.A (isTrue e X.env (eval e X.env)) (TP X pins σ Q) X.xe s
def PW (X:Cx)(e:Expr)(t:TT):Prop:=
 ∀(whole:Sem Value)(pins:List (Addr×Obj))(s:Shared)(σ:St)(H:Hp)(Q:Bool->Hp->Prop),Inv X pins σ H s->t σ H Q->wpAny (model X.prog X.w) X.A (isTrue e X.env whole) (TP X pins σ Q) X.xe s
theorem PW.pt {X:Cx}{e:Expr}{t:TT}(h:PW X e t):PT X e t:=h _
def PA (X:Cx)(es:List Expr)(t:TA):Prop:=
 ∀(pos:Pos)(pins:List (Addr×Obj))(s:Shared)(σ:St)(H:Hp)(Q:List V->Hp->Prop),Inv X pins σ H s->t σ H Q->wpAny (model X.prog X.w) X.A (spliced (backTo pos (starEach es X.env))) (AP X pins σ Q) X.xe s
def PS (X:Cx)(st:Stmt)(t:TS):Prop:=
 ∀(pins:List (Addr×Obj))(s:Shared)(σ:St)(H:Hp)(D:Ends),Inv X pins σ H s->t D σ H->wpAny (model X.prog X.w) X.A (exec st X.env) (SP X pins D) X.xe s
def PSs (X:Cx)(st:List Stmt)(t:TS):Prop:=
 ∀(pins:List (Addr×Obj))(s:Shared)(σ:St)(H:Hp)(D:Ends),Inv X pins σ H s->t D σ H->wpAny (model X.prog X.w) X.A (execs st X.env) (SP X pins D) X.xe s
theorem thn {i:Type}{t:Sem i}{Q j:i->Shared->Prop}{M:Model}{A:Around}{E:Value->Shared->Prop}{s:Shared}(h:wpAny M A t Q E s)(z:∀ a s,Q a s->j a s):wpAny M A t j E s:=wpAny_mono h z fun _ _ x=>x
end
section
section
variable {X:Cx}
def tVar (i:Nat):TE:=fun σ H Q=>∃ v,σ[i]? =some (some v)/\Q v H
def tC (v:V):TE:=fun _ H Q=>Q v H
theorem xn8 {i:Nat}{x:Str}{pos:Pos}(U:X.N[i]? =some x)(R:Vis X.env.scope x)(hd:(x==("__debug__":Str))=false:=by decide)(G:(x==("__classdict__":Str))=false:=by decide):PE X (.Name x pos) (tVar i):=by
 intro pins s σ H Q I h
 obtain⟨v,e,h⟩:=h
 obtain⟨m,hn,hl⟩:=I.loc
 obtain⟨u,r,l⟩:=hl i x v U e R
 have fin:EP X pins σ Q u s:=⟨v,H,I,r,h⟩
 rcases l with⟨z,hm⟩|⟨z,c,O,j⟩
 .exact wpAny_Name (wpAny_loadName_local I.ok.kind z hn hm fin) hd
 .rcases z with z|z
  .exact wpAny_Name (wpAny_loadName_cell I.ok.kind z O j fin) hd
  .exact wpAny_Name (wpAny_loadName_free I.ok.kind z O j fin G) hd
theorem pe_int {i j pos}:PE X (.Constant (.int i) j pos) (tC (.int i)):=fun _ _ _ H _ I h=>wpAny_Constant_int ⟨.int i,H,I.tok _,⟨_,rfl⟩,h⟩
theorem pe_bl {b j pos}:PE X (.Constant (.bool b) j pos) (tC (.bl b)):=fun _ _ _ H _ I h=>Constant_bool ⟨.bl b,H,I,rfl,h⟩
theorem pe_non {j pos}:PE X (.Constant .none j pos) (tC .non):=fun _ _ _ H _ I h=>Constant_none ⟨.non,H,I,rfl,h⟩
theorem pe_str {x j pos}:PE X (.Constant (.str x) j pos) (tC (.str x)):=fun _ _ _ H _ I h=>Calls.Constant_str ⟨.str x,H,I.tok _,⟨_,rfl⟩,h⟩
def Gl (X:Cx)(x:Str):Prop:=X.env.kindOf x=some .globalImplicit
theorem P1 {E:Value->Shared->Prop}{pins:List (Addr×Obj)}{s:Shared}{σ:St}{H:Hp}{x:Str}{u:Value}{pos:Pos}{Q:Value->Shared->Prop}(I:Inv X pins σ H s)(i:Gl X x)(hm:X.mg x=some u)(h:Q u s)
  (hd:(x==("__debug__":Str))=false:=by decide):wpAny (model X.prog X.w) X.A (eval (.Name x pos) X.env) Q E s:=
 Calls.Name_function_global I.ok.kind i (Calls.loadGlobal_global (by rw[I.ok.glob];exact I.mod.glob.keeps I.bk) hm h) hd
theorem L9 {E:Value->Shared->Prop}{pins:List (Addr×Obj)}{s:Shared}{σ:St}{H:Hp}{x:Str}{u:Value}{pos:Pos}{Q:Value->Shared->Prop}(I:Inv X pins σ H s)(j:Gl X x)(hm:X.mg x=none)(i:bootBuiltins x=some u)(h:Q u s)
  (hn:x≠"__name__":=by decide) (hd:(x==("__debug__":Str))=false:=by decide):wpAny (model X.prog X.w) X.A (eval (.Name x pos) X.env) Q E s:=by
 obtain⟨mb,h1,h2⟩:=I.mod.blt
 exact Calls.Name_function_global I.ok.kind j (Calls.loadGlobal_builtin (by rw[I.ok.glob];exact I.mod.glob.keeps I.bk) hm (by rw[I.ok.blt];exact h1.keeps I.bk) ((h2 x hn).trans i) h) hd
theorem M3 {x:Str}{v:V}{u:Value}{pos:Pos}(i:Gl X x)(hm:X.mg x=some u)(r:RelV v u)(hd:(x==("__debug__":Str))=false:=by decide):PE X (.Name x pos) (tC v):=
 fun _ _ _ H _ I h=>P1 I i hm ⟨v,H,I,r,h⟩ hd
theorem yu0 {x:Str}{v:V}{u:Value}{pos:Pos}(j:Gl X x)(hm:X.mg x=none)(i:bootBuiltins x=some u)(r:RelV v u)(hn:x≠"__name__":=by decide)(hd:(x==("__debug__":Str))=false:=by decide):PE X (.Name x pos) (tC v):=
 fun _ _ _ H _ I h=>L9 I j hm i ⟨v,H,I,r,h⟩ hn hd
variable {a b:Expr}{ta tb:TE}{pos:Pos}
def tB (t:TE):TT:=fun σ H Q=>t σ H fun x H1=>∃ c,x= .bl c/\Q c H1
variable {tA tB':TT}{rest:List Expr}
def tAnd (t u:TT):TT:=fun σ H Q=>t σ H fun c H1=>if c=true then u σ H1 Q else Q false H1
def tOr (t u:TT):TT:=fun σ H Q=>t σ H fun c H1=>if c=true then Q true H1 else u σ H1 Q
def tNot (t:TT):TT:=fun σ H Q=>t σ H fun c H1=>Q (!c) H1
theorem yw2 (ha:PT X a tA):PW X (.BoolOp .And [a] pos) tA:=by
 intro i pins s σ H Q I h
 refine isTrue_and (thn (ha pins s σ H Q I h) fun c s1 e=>?_)
 cases c with
 |true=>exact isTrue_and_nil e
 |false=>exact e
theorem yc0 (ha:PT X a tA):PW X (.BoolOp .Or [a] pos) tA:=by
 intro i pins s σ H Q I h
 refine isTrue_or (thn (ha pins s σ H Q I h) fun c s1 e=>?_)
 cases c with
 |false=>exact isTrue_or_nil e
 |true=>exact e
theorem yc1 (ha:PT X a tA)(N:PW X (.BoolOp .And (b::rest) pos) tB'):PW X (.BoolOp .And (a::b::rest) pos) (tAnd tA tB'):=by
 intro G pins s σ H Q I h
 refine isTrue_and (thn (ha pins s σ H _ I h) fun c s1 i=>?_)
 obtain⟨H1,z,j⟩:=i
 cases c with
 |true=>exact N G pins s1 σ H1 Q z j
 |false=>exact⟨H1,z,j⟩
theorem xn3 (ha:PT X a tA)(N:PW X (.BoolOp .Or (b::rest) pos) tB'):PW X (.BoolOp .Or (a::b::rest) pos) (tOr tA tB'):=by
 intro G pins s σ H Q I h
 refine isTrue_or (thn (ha pins s σ H _ I h) fun c s1 i=>?_)
 obtain⟨H1,z,j⟩:=i
 cases c with
 |true=>exact⟨H1,z,j⟩
 |false=>exact N G pins s1 σ H1 Q z j
theorem xn4 (ha:PT X a tA):PT X (.UnaryOp .Not a pos) (tNot tA):=by
 intro pins s σ H Q I h
 exact isTrue_not (ha pins s σ H (fun c H1=>Q (!c) H1) I h)
def xe4 (ta tb:TE):TE:=fun σ H Q=>ta σ H fun x H1=>∃ c,x= .bl c/\if c=true then tb σ H1 Q else Q (.bl false) H1
def tOrV (ta tb:TE):TE:=fun σ H Q=>ta σ H fun x H1=>∃ c,x= .bl c/\if c=true then Q (.bl true) H1 else tb σ H1 Q
def xe2 (ta:TE):TE:=fun σ H Q=>ta σ H fun x H1=>∃ c,x= .bl c/\Q (.bl (!c)) H1
theorem xn9 {op}{t:TE}(h:PE X a t):PE X (.BoolOp op [a] pos) t:=fun pins s σ H Q I hw=>BoolOp_one (h pins s σ H Q I hw)
theorem xm1 (ha:PE X a ta)(N:PE X (.BoolOp .And (b::rest) pos) tb):PE X (.BoolOp .And (a::b::rest) pos) (xe4 ta tb):=by
 intro pins s σ H Q I h
 refine BoolOp_and (thn (ha pins s σ H _ I h) fun v s1 i=>?_)
 obtain⟨x,H1,z,G,j⟩:=i
 obtain⟨c,rfl,j⟩:=j
 cases G
 refine wpAny_truthy_bool ?_
 cases c with
 |true=>exact N pins s1 σ H1 Q z j
 |false=>exact⟨.bl false,H1,z,rfl,j⟩
theorem xd0 (ha:PE X a ta)(N:PE X (.BoolOp .Or (b::rest) pos) tb):PE X (.BoolOp .Or (a::b::rest) pos) (tOrV ta tb):=by
 intro pins s σ H Q I h
 refine BoolOp_or (thn (ha pins s σ H _ I h) fun v s1 i=>?_)
 obtain⟨x,H1,z,G,j⟩:=i
 obtain⟨c,rfl,j⟩:=j
 cases G
 refine wpAny_truthy_bool ?_
 cases c with
 |false=>exact N pins s1 σ H1 Q z j
 |true=>exact⟨.bl true,H1,z,rfl,j⟩
theorem xm0 (ha:PE X a ta):PE X (.UnaryOp .Not a pos) (xe2 ta):=by
 intro pins s σ H Q I h
 refine UnaryOp_ (thn (ha pins s σ H _ I h) fun v s1 i=>?_)
 obtain⟨x,H1,G,z,j⟩:=i
 obtain⟨c,rfl,j⟩:=j
 cases z
 exact not_of (wpAny_truthy_bool ⟨.bl (!c),H1,G,rfl,j⟩)
def tIf (t:TT)(ta tb:TE):TE:=fun σ H Q=>t σ H fun c H1=>if c=true then ta σ H1 Q else tb σ H1 Q
theorem yi4 {c:Expr}(G:PT X c tA)(ha:PE X a ta)(N:PE X b tb):PE X (.IfExp c a b pos) (tIf tA ta tb):=by
 intro pins s σ H Q I h
 refine wpAny_IfExp (thn (G pins s σ H _ I h) fun d s1 i=>?_)
 obtain⟨H1,z,j⟩:=i
 cases d with
 |true=>exact ha pins s1 σ H1 Q z j
 |false=>exact N pins s1 σ H1 Q z j
end
end
section
def SqL (K:W.Frag)(H:Hp)(a:Addr)(xs:List V):Prop:=
 Rd H a (.lst xs)\/
  ∃(o:Obj)(its:Array Value)(n:Nat),K.lookup a=some o/\o.cls= .type "list"/\o.dict=none/\o.data= .seq its n/\its.size<=sizeLine/\Vals xs its.toList
def SqT (K:W.Frag)(H:Hp)(a:Addr)(xs:List V):Prop:=
 Rd H a (.tup xs)\/
  ∃(o:Obj)(its:Array Value)(n:Nat),K.lookup a=some o/\o.cls= .type "tuple"/\o.data= .seq its n/\its.size<=sizeLine/\Vals xs its.toList
noncomputable def absV:Value->Option V
 | .none=>some .non
 | .bool b=>some (.bl b)
 | .int i _=>some (.int i)
 | .str x _=>some (.str x)
 | .bytes b _=>some (.byt b)
 | .float b _=>some (.flt b)
 | .ref a=>some (.ref a)
 | .type n=>some (.ty n)
 |_=>none
theorem RelV.abs {x:V}{u:Value}(r:RelV x u):absV u=some x:=by
 cases x with
 |non=>cases r;rfl
 |bl _=>cases r;rfl
 |int _=>obtain⟨t,rfl⟩:=r;rfl
 |str _=>obtain⟨t,rfl⟩:=r;rfl
 |byt _=>obtain⟨t,rfl⟩:=r;rfl
 |flt _=>obtain⟨t,rfl⟩:=r;rfl
 |ref _=>cases r;rfl
 |ty _=>cases r;rfl
theorem RelV.inj {x y:V}{u:Value}(r:RelV x u)(q:RelV y u):x=y:=Option.some.inj (r.abs.symm.trans q.abs)
theorem Vals.inj:∀{xs ys:List V}{us:List Value},Vals xs us->Vals ys us->xs=ys
 |_,_,_,.nil,.nil=>rfl
 |_,_,_,.cons r t,.cons r' t'=>by rw[r.inj r',Vals.inj t t']
section
variable {X:Cx}{pins:List (Addr×Obj)}{σ:St}{H:Hp}{s:Shared}{a:Addr}{xs ys:List V}
theorem SqL.of {K:W.Frag}(h:H a=some (.lst xs)):SqL K H a xs:=.inl (.inl h)
theorem SqT.of {K:W.Frag}(h:H a=some (.tup xs)):SqT K H a xs:=.inl (.inl h)
theorem Inv.list (I:Inv X pins σ H s)(h:SqL X.K H a xs):∃ its:List Value,Vals xs its/\PlainL s.heap a its.toArray/\xs.length<=sizeLine:=by
 rcases h with h|⟨o,its,n,i,j,hd,hs,G,r⟩
 .obtain⟨z,its,n,r,e⟩:=h.ok I.hok
  exact⟨its,r,⟨_,n,e,rfl,rfl,rfl⟩,z⟩
 .refine⟨its.toList,r,⟨o,n,I.kIn a o i,j,hd,by simpa using hs⟩,?_⟩
  have e:=r.length
  simp only[Array.length_toList]at e
  omega
theorem Inv.tuple (I:Inv X pins σ H s)(h:SqT X.K H a xs):∃ its:List Value,Vals xs its/\IsTup s.heap a its.toArray/\xs.length<=sizeLine:=by
 rcases h with h|⟨o,its,n,i,j,hs,G,r⟩
 .obtain⟨z,its,r,p⟩:=h.ok I.hok
  exact⟨its,r,p,z⟩
 .refine⟨its.toList,r,⟨o,I.kIn a o i,j,n,by simpa using hs⟩,?_⟩
  have e:=r.length
  simp only[Array.length_toList]at e
  omega
theorem Inv.list_inj (I:Inv X pins σ H s)(h:SqL X.K H a xs)(h':SqL X.K H a ys):xs=ys:=by
 obtain⟨its,r,⟨o,n,e,_,_,d⟩,_⟩:=I.list h
 obtain⟨its',j,⟨o',n',i,_,_,d'⟩,_⟩:=I.list h'
 rw[e]at i;cases i
 rw[d]at d'
 injection d' with z _
 have:its=its':=by simpa using congrArg Array.toList z
 subst this
 exact r.inj j
theorem Inv.tuple_inj (I:Inv X pins σ H s)(h:SqT X.K H a xs)(h':SqT X.K H a ys):xs=ys:=by
 obtain⟨its,r,⟨o,e,_,n,d⟩,_⟩:=I.tuple h
 obtain⟨its',j,⟨o',i,_,n',d'⟩,_⟩:=I.tuple h'
 rw[e]at i;cases i
 rw[d]at d'
 injection d' with z _
 have:its=its':=by simpa using congrArg Array.toList z
 subst this
 exact r.inj j
end
noncomputable abbrev Cx.wish (X:Cx)(E:Value->Shared->Prop):Cx:={ X with xe:=E }
noncomputable abbrev Cx.nox (X:Cx):Cx:=X.wish fun _ _=>False
theorem Cx.Ok.wish {X:Cx}(ok:X.Ok)(E:Value->Shared->Prop):(X.wish E).Ok:=
 ⟨ok.mod,ok.kind,ok.glob,ok.blt,ok.above,ok.inj,ok.has,ok.cab,ok.hd,ok.frames,ok.stk,ok.exf,ok.bs,ok.bsz,ok.noex,ok.exfs,ok.funs,ok.frf⟩
theorem Cx.Ok.unwish {X:Cx}{E:Value->Shared->Prop}(ok:(X.wish E).Ok):X.Ok:=
 ⟨ok.mod,ok.kind,ok.glob,ok.blt,ok.above,ok.inj,ok.has,ok.cab,ok.hd,ok.frames,ok.stk,ok.exf,ok.bs,ok.bsz,ok.noex,ok.exfs,ok.funs,ok.frf⟩
section
variable {X:Cx}{pins:List (Addr×Obj)}{σ:St}{H:Hp}{s:Shared}{E:Value->Shared->Prop}
theorem Inv.wish (I:Inv X pins σ H s)(E:Value->Shared->Prop):Inv (X.wish E) pins σ H s:=⟨I.ok.wish E,I.os,I.bare,I.base,I.loc,I.cell,I.free,I.freeC,I.pin,I.hok,I.len⟩
theorem Inv.unwish (I:Inv (X.wish E) pins σ H s):Inv X pins σ H s:=⟨I.ok.unwish,I.os,I.bare,I.base,I.loc,I.cell,I.free,I.freeC,I.pin,I.hok,I.len⟩
theorem SP.unwish {D:Ends}{f:Flow}{s':Shared}(h:SP (X.wish E) pins D f s'):SP X pins D f s':=by
 cases f with
 |next=>obtain⟨i,H',I,q⟩:=h;exact⟨i,H',I.unwish,q⟩
 |brk=>obtain⟨i,H',I,q⟩:=h;exact⟨i,H',I.unwish,q⟩
 |cont=>obtain⟨i,H',I,q⟩:=h;exact⟨i,H',I.unwish,q⟩
 |ret u=>obtain⟨v,i,H',I,r,q⟩:=h;exact⟨v,i,H',I.unwish,r,q⟩
theorem PSs.nox {st:List Stmt}{t:TS}(h:PSs X.nox st t):PSs X st t:=fun pins s σ H D I hw=>
 wpAny_mono (h pins s σ H D (I.wish _) hw) (fun _ _ q=>q.unwish) fun _ _ z=>False.elim z
end
section
variable {X:Cx}{st:Stmt}{rest:List Stmt}{t u:TS}{e:Expr}{te:TE}{pos:Pos}
def xe3:TS:=fun D σ H=>D.nx σ H
def tSeq (t u:TS):TS:=fun D σ H=>t { D with nx:=u D } σ H
theorem pss_nil:PSs X [] xe3:=fun _ _ σ H _ I h=>wpAny_execs_nil ⟨σ,H,I,h⟩
theorem W6 (h1:PS X st t)(h2:PSs X rest u):PSs X (st::rest) (tSeq t u):=by
 intro pins s σ H D I h
 refine wpAny_execs_cons (thn (h1 pins s σ H { D with nx:=u D } I h) fun f s1 q=>?_)
 cases f with
 |next=>
  obtain⟨i,H',j,q⟩:=q
  exact h2 pins s1 i H' D j q
 |ret v=>exact q
 |brk=>exact q
 |cont=>exact q
theorem E7 (h1:PS X st t):PSs X [st] t:=by
 intro pins s σ H D I h
 refine wpAny_execs_cons (thn (h1 pins s σ H D I h) fun f s1 q=>?_)
 cases f with
 |next=>exact wpAny_execs_nil q
 |ret v=>exact q
 |brk=>exact q
 |cont=>exact q
theorem Inv.quiet {pins:List (Addr×Obj)}{σ:St}{H:Hp}{s:Shared}(I:Inv X pins σ H s):interactive X.env=false:=by simp[interactive,I.ok.kind]
def xo0 (te:TE):TS:=fun D σ H=>te σ H fun _ H1=>D.nx σ H1
theorem N9 (j:PE X e te)(hs:swapsWith e none pos.line X.env=pure false:=by rfl):PS X (.Expr e pos) (xo0 te):=by
 intro pins s σ H D I h
 exact wpAny_Expr_any (thn (j pins s σ H _ I h) fun v s1 ⟨x,H1,z,G,i⟩=>⟨σ,H1,z,i⟩) I.quiet hs
def tRet (te:TE):TS:=fun D σ H=>te σ H D.rt
theorem Y9 (z:PE X e te):PS X (.Return (some e) pos) (tRet te):=by
 intro pins s σ H D I h
 exact wpAny_Return_some (thn (z pins s σ H _ I h) fun v s1 ⟨x,H1,G,i,j⟩=>⟨x,σ,H1,G,i,j⟩)
def tIfS (c:TT)(t u:TS):TS:=fun D σ H=>c σ H fun b H1=>if b=true then t D σ H1 else u D σ H1
theorem zj0 {c:Expr}{a b:List Stmt}{tc:TT}(G:PT X c tc)(ha:PSs X a t)(N:PSs X b u):PS X (.If c a b pos) (tIfS tc t u):=by
 intro pins s σ H D I h
 refine wpAny_If (thn (G pins s σ H _ I h) fun d s1 i=>?_)
 obtain⟨H1,z,j⟩:=i
 cases d with
 |true=>exact ha pins s1 σ H1 D z j
 |false=>exact N pins s1 σ H1 D z j
def xp9:TS:=fun _ _ _=>False
theorem ps_never:PS X st xp9:=fun _ _ _ _ _ _ h=>h.elim
end
noncomputable abbrev TG:=V->St->Hp->(St->Hp->Prop)->Prop
noncomputable abbrev TGs:=List V->St->Hp->(St->Hp->Prop)->Prop
def PG (X:Cx)(target:Expr)(t:TG):Prop:=
 ∀(pins:List (Addr×Obj))(s:Shared)(σ:St)(H:Hp)(v:V)(u:Value)(Q:St->Hp->Prop),Inv X pins σ H s->RelV v u->t v σ H Q->
  wpAny (model X.prog X.w) X.A (assign target X.env u) (fun _ s'=>∃ σ' H',Inv X pins σ' H' s'/\Q σ' H') X.xe s
def PGs (X:Cx)(ts:List Expr)(t:TGs):Prop:=
 ∀(pins:List (Addr×Obj))(s:Shared)(σ:St)(H:Hp)(vs:List V)(us:List Value)(Q:St->Hp->Prop),Inv X pins σ H s->Vals vs us->t vs σ H Q->
  wpAny (model X.prog X.w) X.A (assignInOrder ((assignEach ts X.env).map (·.2)) us) (fun _ s'=>∃ σ' H',Inv X pins σ' H' s'/\Q σ' H') X.xe s
noncomputable abbrev TSet:=V->V->V->Hp->(Hp->Prop)->Prop
def PSet (X:Cx)(t:TSet):Prop:=
 ∀(pins:List (Addr×Obj))(s:Shared)(σ:St)(H:Hp)(o i v:V)(ov iv u:Value)(Q:Hp->Prop),Inv X pins σ H s->RelV o ov->RelV i iv->RelV v u->t o i v H Q->
  wpAny (model X.prog X.w) X.A (setItem ov iv u) (fun _ s'=>∃ H',Inv X pins σ H' s'/\Q H') X.xe s
section
variable {X:Cx}{pos:Pos}
def zz7 (i:Nat):TG:=fun v σ H Q=>Q (σ.set i (some v)) H
theorem l8 {i:Nat}{x:Str}(G:X.N.Nodup)(hi:X.N[i]? =some x)(j:Loc X.env.scope x)(z:X.fn x=true\/X.env.scope.names.lookup x=some .local:=by first|exact .inl rfl|exact .inr rfl|assumption):PG X (.Name x pos) (zz7 i):=by
 intro pins s σ H v u Q I r h
 exact wpAny_assign_Name (zw4 I G hi j r (fun s' O=>⟨_,H,O,h⟩) z)
def gNil:TGs:=fun vs σ H Q=>vs=[]/\Q σ H
def xh3 (t:TG)(u:TGs):TGs:=fun vs σ H Q=>∃ v r,vs=v::r/\t v σ H fun σ' H'=>u r σ' H' Q
theorem M1:PGs X [] gNil:=by
 intro pins s σ H vs us Q I r h
 obtain⟨e,h⟩:=h
 subst e
 cases r
 exact assignInOrder_nil ⟨σ,H,I,h⟩
theorem c8 {e:Expr}{es:List Expr}{t:TG}{u:TGs}(h1:PG X e t)(h2:PGs X es u)
  (hs:(assignEach (e::es) X.env).map (·.2)=assign e X.env::(assignEach es X.env).map (·.2):=by rfl):PGs X (e::es) (xh3 t u):=by
 intro pins s σ H vs us Q I r h
 obtain⟨v,O,e1,h⟩:=h
 subst e1
 cases r with
 |cons r z=>
  rw[hs]
  refine assignInOrder_cons (thn (h1 pins s σ H _ _ _ I r h) fun _ s1 i=>?_)
  obtain⟨j,H1,N,G⟩:=i
  exact h2 pins s1 j H1 _ _ Q N z G
def gTup (K:W.Frag)(n:Nat)(t:TGs):TG:=fun v σ H Q=>∃ a xs,v= .ref a/\SqT K H a xs/\xs.length=n/\t xs σ H Q
theorem zy7 {es:List Expr}{k:Nat}{t:TGs}{n:Nat}(N:X.calm=true)(h:PGs X es t)
  (hn:(assignEach es X.env).length=n:=by rfl) (i:(assignEach es X.env).findIdx? (·.1)=none:=by rfl):PG X (.Tuple es k pos) (gTup X.K n t):=by
 intro pins s σ H v u Q I r hw
 obtain⟨a,xs,e1,G,hl,hw⟩:=hw
 subst e1
 cases r
 obtain⟨its,j,ht,R⟩:=I.tuple G
 refine assign_Tuple_tuple (I.ok.hd N) ht (by simp[hn,<-hl,j.length]) i fun h' z=>?_
 have O:Inv X pins σ H { s with heap:=h' }:=I.kept (t':=s.toks) fun b o e=>z b o (Nat.ne_of_lt (Heap.lt_size e)) e
 exact h pins _ σ H xs _ Q O (by simpa using j) hw
def gSub (to ti:TE)(t:TSet):TG:=fun v σ H Q=>to σ H fun o H1=>ti σ H1 fun i H2=>t o i v H2 fun H3=>Q σ H3
theorem zq5 {o i:Expr}{to N:TE}{t:TSet}(Z:PE X o to)(hi:PE X i N)(hs:PSet X t)
  (ha:∀ v,assign (.Subscript o i pos) X.env v=(do
   let z ← holding [v] (eval o X.env)
   let G ← holding [v,z] (eval i X.env)
   standAt pos
   holding [v,z,G] (setItem z G v)
   release [v,z,G] []):=by intro _;rfl):PG X (.Subscript o i pos) (gSub to N t):=by
 intro pins s σ H v u Q I r h
 rw[ha]
 refine wpAny_bind (wpAny_holding (thn (Z pins s σ H _ I h) fun z s1 j=>?_))
 obtain⟨x,H1,I1,O,Y⟩:=j
 refine wpAny_bind (wpAny_holding (thn (hi pins s1 σ H1 _ I1 Y) fun G s2 j=>?_))
 obtain⟨y,H2,I2,r2,U⟩:=j
 refine wpAny_bind (wpAny_standAt (wpAny_bind (wpAny_holding (thn (hs pins s2 σ H2 x y v z G u _ I2 O r2 r U) fun _ s3 j=>?_))))
 obtain⟨H3,I3,R⟩:=j
 exact wpAny_release ⟨σ,H3,I3,R⟩
def tAsg (te:TE)(g:TG):TS:=fun D σ H=>te σ H fun x H1=>g x σ H1 D.nx
theorem zy6 {tg e:Expr}{te:TE}{g:TG}(N:PE X e te)(G:PG X tg g)(hs:swapsWithSole [tg] e pos.line X.env=pure false:=by rfl)(hw:swappedStores [tg] e X.env=pure none:=by rfl)
  (h1:(assignEach [tg] X.env).map (·.2)=[assign tg X.env]:=by rfl):PS X (.Assign [tg] e pos) (tAsg te g):=by
 intro pins s σ H D I h
 refine wpAny_Assign_stores (thn (N pins s σ H _ I h) fun v s1 i=>?_) hs hw
 obtain⟨x,H1,O,j,z⟩:=i
 rw[h1]
 exact thn (G pins s1 σ H1 x v _ O j z) fun _ s2 q=>q
theorem zy5 {i:Nat}{x:Str}{e:Expr}{te:TE}{pos':Pos}(Y:X.N.Nodup)(hi:X.N[i]? =some x)(O:Loc X.env.scope x)(U:PE X e te)(hs:swapsWith e (some (.Name x pos')) pos.line X.env=pure false:=by rfl)(R:X.fn x=true\/X.env.scope.names.lookup x=some .local:=by first|exact .inl rfl|exact .inr rfl|assumption):
  PS X (.Assign [.Name x pos'] e pos) (tAsg te (zz7 i)):=by
 intro pins s σ H D I h
 refine wpAny_Assign_Name (thn (U pins s σ H _ I h) fun v s1 j=>?_) hs
 obtain⟨y,H1,I1,z,G⟩:=j
 exact zw4 I1 Y hi O z (fun s2 Z=>⟨_,H1,Z,G⟩) R
end
section
variable {X:Cx}{pos:Pos}
end
structure It where
 go:Nat->Hp->Prop
 yld:Nat->Hp->V->Hp->Prop
 stop:Nat->Hp->Prop
def FpOk (X:Cx)(pins:List (Addr×Obj))(H:Hp)(b:Addr):Prop:=
 H b=none/\b≠X.env.locals/\b∉X.fs/\(b∈X.ex\/X.s₀.heap.objs.size<=b)/\(∀ x c,X.env.cells.lookup x=some c->c≠b)/\∀ p∈X.pn++pins,p.1≠b
theorem Inv.fpOk {X:Cx}{pins:List (Addr×Obj)}{σ:St}{H H':Hp}{s:Shared}{b:Addr}(I:Inv X pins σ H s)(i:s.heap.objs.size<=b)(hn:H' b=none):FpOk X pins H' b:=by
 refine⟨hn,Nat.ne_of_gt (Nat.lt_of_lt_of_le I.lt i),I.nofs i,.inr (Nat.le_trans I.sz i),fun x c e z=>?_,fun p hp z=>?_⟩
 .obtain⟨v,q⟩:=I.cell x c e
  exact absurd (Nat.lt_of_lt_of_le q.lt (by rw[z];exact i)) (Nat.lt_irrefl _)
 .exact absurd (Nat.lt_of_lt_of_le (Heap.lt_size (I.pin p hp).1) (by rw[z];exact i)) (Nat.lt_irrefl _)
structure Turn (P:Program)(w:World)(K:W.Frag)(tg:Expr)(J:It)(fp:List Addr)(it:Addr)(tn:Nat->Heap->Prop):Prop where
 mem:it∈fp
 obj:∀ i h,tn i h->∀ b∈fp,∃ o,h.get? b=some o/\∀ v,o.data≠ .cell v
 keep:∀ i h h',tn i h->(∀ b∈fp,∀ o,h.get? b=some o->h'.get? b=some o)->tn i h'
 item:∀(X:Cx),X.prog=P->X.w=w->X.K=K->X.calm=true->∀(i:Nat)(pins:List (Addr×Obj))(s:Shared)(σ:St)(H:Hp)(E:Value->Shared->Prop),Inv X pins σ H s->(∀ b∈fp,FpOk X pins H b)->tn i s.heap->J.go i H->
  wpAny (model P w) X.A (pyNext (.ref it)) (fun r s1=>∃ u,r=some u/\
   wpAny (model P w) X.A (letOwnedTupleGo tg (.ref it) u) (fun _ s2=>∃ x H',Inv X pins σ H' s2/\RelV x u/\J.yld i H x H'/\tn (i+1) s2.heap/\∀ b∈fp,H' b=none) E s1) E s
 done:∀(X:Cx),X.prog=P->X.w=w->X.K=K->X.calm=true->∀(i:Nat)(pins:List (Addr×Obj))(s:Shared)(σ:St)(H:Hp)(E:Value->Shared->Prop),Inv X pins σ H s->(∀ b∈fp,FpOk X pins H b)->tn i s.heap->J.stop i H->
  wpAny (model P w) X.A (pyNext (.ref it)) (fun r s1=>r=none/\Inv X pins σ H s1) E s
 self:∀(A:Around)(i:Nat)(s:Shared)(Q:Value->Shared->Prop)(E:Value->Shared->Prop),tn i s.heap->Q (.ref it) s->wpAny (model P w) A (pyIter (.ref it)) Q E s
noncomputable abbrev TI:=St->Hp->(It->Hp->Prop)->Prop
def PIE (X:Cx)(pins:List (Addr×Obj))(σ:St)(tg:Expr)(R:It->Hp->Prop)(itv:Value)(s2:Shared):Prop:=
 ∃(it:Addr)(fp:List Addr)(tn:Nat->Heap->Prop)(J:It)(H':Hp),itv= .ref it/\Inv X pins σ H' s2/\Turn X.prog X.w X.K tg J fp it tn/\tn 0 s2.heap/\(∀ b∈fp,FpOk X pins H' b)/\R J H'
def PI (X:Cx)(tg iter:Expr)(wi:TI):Prop:=
 ∀(pins:List (Addr×Obj))(s:Shared)(σ:St)(H:Hp)(R:It->Hp->Prop),Inv X pins σ H s->wi σ H R->
  wpAny (model X.prog X.w) X.A (eval iter X.env) (fun v s1=>wpAny (model X.prog X.w) X.A (pyIter v) (PIE X pins σ tg R) X.xe s1) X.xe s
theorem ye1 {M:Model}{A:Around}{E:Value->Shared->Prop}{s:Shared}{tg:Expr}{it:Addr}{u:Value}{o:Obj}{n:String}{vs:Array Value}{Q:Unit->Shared->Prop}(j:s.heap.get? it=some o)(z:o.cls= .type n)(hd:o.data= .fields vs)
  (hn:["enumerate","zip","dict_itemiterator","dict_reverseitemiterator","odict_iterator","itertools.zip_longest","itertools.pairwise"].contains n=false) (i:Q () s):wpAny M A (letOwnedTupleGo tg (.ref it) u) Q E s:=by
 unfold letOwnedTupleGo
 cases tg <;> first
  |exact wpAny_pure i
  | (cases u <;> first
    |exact wpAny_pure i
    | (refine wpAny_bind (wpAny_load j ?_)
       rw[z,hd]
       show wpAny M A (if (["enumerate","zip","dict_itemiterator","dict_reverseitemiterator","odict_iterator","itertools.zip_longest","itertools.pairwise"].contains n&&vs[0]? ==some (rawInt _))=true then _ else _) Q E s
       rw[if_neg (by intro h;rw[hn,Bool.false_and]at h;cases h)]
       exact wpAny_pure i))
noncomputable def Itl (K:W.Frag)(a:Addr):It:=
 ⟨fun i H=>∃ xs x,SqL K H a xs/\xs[i]? =some x,fun i H x H'=>H'=H/\∀ xs,SqL K H a xs->xs[i]? =some x,fun i H=>∃ xs,SqL K H a xs/\xs.length<=i⟩
noncomputable def Itt (K:W.Frag)(a:Addr):It:=
 ⟨fun i H=>∃ xs x,SqT K H a xs/\xs[i]? =some x,fun i H x H'=>H'=H/\∀ xs,SqT K H a xs->xs[i]? =some x,fun i H=>∃ xs,SqT K H a xs/\xs.length<=i⟩
noncomputable def Itr (lo:Int)(n:Nat):It:=⟨fun i _=>i<n,fun i H x H'=>H'=H/\x= .int (lo+i),fun i _=>n<=i⟩
theorem yy9 {P:Program}{w:World}{K:W.Frag}{tg:Expr}(a it:Addr):Turn P w K tg (Itl K a) [it] it (fun i h=>h.IsListIter it a i) where
 mem:=by simp
 obj:=fun i h st b j=>by
  have e:b=it:=by simpa using j
  subst e
  obtain⟨o,e,c,d⟩:=st
  exact⟨o,e,fun v z=>by rw[d]at z;cases z⟩
 keep:=fun i h h' st k=>st.at fun o e=>k it (by simp) o e
 item:=by
  intro X Z hw hK hc i pins s σ H E I O st Y
  subst Z hw hK
  obtain⟨xs,x,N,U⟩:=Y
  obtain⟨its,R,p,hz⟩:=I.list N
  obtain⟨u,hu,ru⟩:=R.get U
  obtain⟨f0,f1,f2,f3,f4,f5⟩:=O it (by simp)
  refine wpAny_pyNext_list_item st p.isList (x:=u) (by simpa using hu) fun h' G sb=>?_
  have I1:Inv X pins σ H { s with heap:=h' }:=I.turned (t':=s.toks) (fun b o j e=>(sb.2 b j).trans e) f0 f1 f3 f4 f5
  obtain⟨o,e,c,d⟩:=id G
  exact⟨u,rfl,ye1 (s:={ s with heap:=h' }) e c d (by decide) ⟨x,H,I1,ru,⟨rfl,fun ys hy=>by rw[I.list_inj hy N];exact U⟩,G,fun b j=>(O b j).1⟩⟩
 done:=by
  intro X Z hw hK hc i pins s σ H E I O st Y
  subst Z hw hK
  obtain⟨xs,N,U⟩:=Y
  obtain⟨its,R,p,hz⟩:=I.list N
  obtain⟨f0,f1,f2,f3,f4,f5⟩:=O it (by simp)
  have hl:=R.length
  exact wpAny_pyNext_list_end (I.ok.hd hc) st p.isList (by simp;omega) fun h' eb=>⟨rfl,I.turned (t':=s.toks) (fun b o j e=>eb b o j e) f0 f1 f3 f4 f5⟩
 self:=fun _ _ _ _ _ st h=>wpAny_pyIter_listiter st h
theorem zc6 {P:Program}{w:World}{K:W.Frag}{tg:Expr}(a it:Addr):Turn P w K tg (Itt K a) [it] it (fun i h=>h.IsTupleIter it a i) where
 mem:=by simp
 obj:=fun i h st b j=>by
  have e:b=it:=by simpa using j
  subst e
  obtain⟨o,e,c,d⟩:=st
  exact⟨o,e,fun v z=>by rw[d]at z;cases z⟩
 keep:=fun i h h' st k=>st.at fun o e=>k it (by simp) o e
 item:=by
  intro X Z hw hK hc i pins s σ H E I O st Y
  subst Z hw hK
  obtain⟨xs,x,N,U⟩:=Y
  obtain⟨its,R,p,hz⟩:=I.tuple N
  obtain⟨u,hu,ru⟩:=R.get U
  obtain⟨f0,f1,f2,f3,f4,f5⟩:=O it (by simp)
  refine wpAny_pyNext_tuple_item st (show s.heap.IsTuple a its.toArray from p) (x:=u) (by simpa using hu) fun h' G sb=>?_
  have I1:Inv X pins σ H { s with heap:=h' }:=I.turned (t':=s.toks) (fun b o j e=>(sb.2 b j).trans e) f0 f1 f3 f4 f5
  obtain⟨o,e,c,d⟩:=id G
  exact⟨u,rfl,ye1 (s:={ s with heap:=h' }) e c d (by decide) ⟨x,H,I1,ru,⟨rfl,fun ys hy=>by rw[I.tuple_inj hy N];exact U⟩,G,fun b j=>(O b j).1⟩⟩
 done:=by
  intro X Z hw hK hc i pins s σ H E I O st Y
  subst Z hw hK
  obtain⟨xs,N,U⟩:=Y
  obtain⟨its,R,p,hz⟩:=I.tuple N
  obtain⟨f0,f1,f2,f3,f4,f5⟩:=O it (by simp)
  have hl:=R.length
  exact wpAny_pyNext_tuple_end (I.ok.hd hc) st (show s.heap.IsTuple a its.toArray from p) (by simp;omega) fun h' eb=>⟨rfl,I.turned (t':=s.toks) (fun b o j e=>eb b o j e) f0 f1 f3 f4 f5⟩
 self:=fun _ _ _ _ _ st h=>wpAny_pyIter_tupleiter st h
theorem zc7 {P:Program}{w:World}{K:PySem.W.Frag}{tg:Expr}(it:Addr)(lo:Int)(n:Nat):Turn P w K tg (Itr lo n) [it] it (fun i h=>IsRangeIter h it (lo+(i:Nat)*1) ((n:Int)-(i:Nat)) 1) where
 mem:=by simp
 obj:=fun i h st b j=>by
  have e:b=it:=by simpa using j
  subst e
  exact⟨_,st,fun v z=>by
   have z':Data.fields _=Data.cell v:=z
   cases z'⟩
 keep:=fun i h h' st k=>k it (by simp) _ st
 item:=by
  intro X U hw Y R i pins s σ H E I N st O
  subst U hw Y
  obtain⟨f0,f1,f2,f3,f4,Z⟩:=N it (by simp)
  have W:=Walks.range (prog:=X.prog) (w:=X.w) (I.ok.hd R) it lo 1 n
  refine W.item i s _ _ O st fun v h' tk hv G kk=>?_
  obtain⟨t,rfl⟩:=hv
  have I1:Inv X pins σ H { s with heap:=h',toks:=tk }:=I.turned (fun b o j e=>kk b o (by simpa using j) e) f0 f1 f3 f4 Z
  refine⟨_,rfl,ye1 (s:={ s with heap:=h',toks:=tk }) (n:="range_iterator") G rfl rfl (by decide) ⟨.int (lo+i),H,I1,⟨t,?_⟩,⟨rfl,rfl⟩,G,fun b j=>(N b j).1⟩⟩
  rw[Int.mul_one]
 done:=by
  intro X U hw Y R i pins s σ H E I N st O
  subst U hw Y
  obtain⟨f0,f1,f2,f3,f4,Z⟩:=N it (by simp)
  exact wpAny_pyNext_range_end (I.ok.hd R) st (by have:n<=i:=O;omega) fun h' eb=>⟨rfl,I.turned (t':=s.toks) (fun b o j e=>eb b o j e) f0 f1 f3 f4 Z⟩
 self:=fun _ _ _ _ _ st h=>wpAny_pyIter_rangeiter st h
end
section
section
variable {X:Cx}{tg:Expr}
def xb2 (K:W.Frag)(tl:TE):TI:=fun σ H R=>tl σ H fun x H1=>∃ a,x= .ref a/\(∃ xs,SqL K H1 a xs)/\R (Itl K a) H1
def iTup (K:W.Frag)(tl:TE):TI:=fun σ H R=>tl σ H fun x H1=>∃ a,x= .ref a/\(∃ xs,SqT K H1 a xs)/\R (Itt K a) H1
theorem xx3 {l:Expr}{tl:TE}(hl:PE X l tl):PI X tg l (xb2 X.K tl):=by
 intro pins s σ H R I h
 refine thn (hl pins s σ H _ I h) fun v s1 i=>?_
 obtain⟨x,H1,j,z,G⟩:=i
 obtain⟨a,e,⟨xs,N⟩,q⟩:=G
 subst e
 cases z
 obtain⟨its,U,p,Y⟩:=j.list N
 refine wpAny_pyIter_list p.isList ?_
 refine⟨s1.heap.objs.size,[s1.heap.objs.size],_,_,H1,rfl,j.kept (t':=s1.toks) fun b o e=>Heap.get?_push_of_some _ e,yy9 a _,⟨_,Heap.get?_push_size _ rfl,rfl,rfl⟩,fun b O=>?_,q⟩
 have e:b=s1.heap.objs.size:=by simpa using O
 subst e
 exact j.fpOk (Nat.le_refl _) (j.hok.fresh (Nat.le_refl _))
theorem xn5 {l:Expr}{tl:TE}(hl:PE X l tl):PI X tg l (iTup X.K tl):=by
 intro pins s σ H R I h
 refine thn (hl pins s σ H _ I h) fun v s1 i=>?_
 obtain⟨x,H1,j,z,G⟩:=i
 obtain⟨a,e,⟨xs,N⟩,q⟩:=G
 subst e
 cases z
 obtain⟨its,U,p,Y⟩:=j.tuple N
 refine wpAny_pyIter_tuple (show s1.heap.IsTuple a its.toArray from p) ?_
 refine⟨s1.heap.objs.size,[s1.heap.objs.size],_,_,H1,rfl,j.kept (t':=s1.toks) fun b o e=>Heap.get?_push_of_some _ e,zc6 a _,⟨_,Heap.get?_push_size _ rfl,rfl,rfl⟩,fun b O=>?_,q⟩
 have e:b=s1.heap.objs.size:=by simpa using O
 subst e
 exact j.fpOk (Nat.le_refl _) (j.hok.fresh (Nat.le_refl _))
theorem yk9 {pins:List (Addr×Obj)}{σ:St}{H:Hp}{s:Shared}{R:It->Hp->Prop}{E:Value->Shared->Prop}{lo hi:Int}{t u v:Tok}{tk:Nat}(I:Inv X pins σ H s)(h1:-(2^62)<=lo)(h2:lo<2^62)(G:-(2^62)<=hi)(z:hi<2^62)
  (q:R (Itr lo (hi-lo).toNat) H):wpAny (model X.prog X.w) X.A (pyIter (.ref s.heap.objs.size)) (PIE X pins σ tg R) E { s with heap:=s.heap.push { cls:=.type "range",data:=.fields #[.int lo t,.int hi u,.int 1 v] },toks:=tk }:=by
 refine wpAny_pyIter_range (IsRange.new ..) (small_one h1 h2 G z) ?_
 have i:Inv X pins σ H { s with heap:=s.heap.push { cls:=.type "range",data:=.fields #[.int lo t,.int hi u,.int 1 v] },toks:=tk }:=I.kept fun b o e=>Heap.get?_push_of_some _ e
 refine⟨(s.heap.push { cls:=.type "range",data:=.fields #[.int lo t,.int hi u,.int 1 v] }).objs.size,[(s.heap.push { cls:=.type "range",data:=.fields #[.int lo t,.int hi u,.int 1 v] }).objs.size],_,_,H,rfl,
  i.kept (t':=tk) fun b o e=>Heap.get?_push_of_some _ e,zc7 _ lo (hi-lo).toNat,?_,fun b j=>?_,q⟩
 .have e1:lo+((0:Nat):Int)*1=lo:=by simp
  have e2:(((hi-lo).toNat:Nat):Int)-((0:Nat):Int)=Builtin.Range.rangeSize lo hi 1:=by rw[rangeSize_one];split <;> omega
  show IsRangeIter _ _ (lo+((0:Nat):Int)*1) ((((hi-lo).toNat:Nat):Int)-((0:Nat):Int)) 1
  rw[e1,e2]
  exact Heap.get?_push_size _ rfl
 .have e:b=(s.heap.push { cls:=.type "range",data:=.fields #[.int lo t,.int hi u,.int 1 v] }).objs.size:=by simpa using j
  subst e
  exact i.fpOk (Nat.le_refl _) (i.hok.fresh (Nat.le_refl _))
def xb1 (ta:TA):TI:=fun σ H R=>ta σ H fun vs H1=>∃ j:Int,vs=[.int j]/\ -(2^62)<=j/\j<2^62/\R (Itr 0 j.toNat) H1
theorem yv4 {a:Expr}{ta:TA}{p pos:Pos}(U:Gl X "range")(hm:X.mg "range"=none)(ha:PA X [a] ta)(hs:starEach [a] X.env=[(false,eval a X.env)]:=by rfl):PI X tg (.Call (.Name "range" p) [a] [] pos) (xb1 ta):=by
 intro pins s σ H R I h
 refine Call_ (L9 I U hm boot_range (PyProof.Rows.callWith_type1 (thn (ha pos pins s σ H _ I h) fun us s1 i=>?_) hs rfl))
 obtain⟨vs,H1,Y,N,z⟩:=i
 obtain⟨j,e,z,O,q⟩:=z
 subst e
 cases N with
 |cons r G=>
  cases G
  obtain⟨t,rfl⟩:=r
  exact call_range_1 (yk9 Y (by omega) (by omega) z O (by simpa using q))
def tFor (wi:TI)(g:TG)(tb:TS):TS:=fun D σ H=>wi σ H fun J H1=>∃ W:Nat->Nat->St->Hp->Prop,(∃ m,W 0 m σ H1)/\∀ i m σ H,W i m σ H->
 (J.stop i H/\D.nx σ H)\/(J.go i H/\∃ N:St->Hp->Prop,(∀ σ' H',N σ' H'->∃ m',m'<m/\W (i+1) m' σ' H')/\∀ x H',J.yld i H x H'->g x σ H' fun σ2 H2=>tb { D with nx:=N,ct:=N,bk:=D.nx } σ2 H2)
noncomputable def zq4 (fp:List Addr)(h:Heap):List (Addr×Obj):=fp.filterMap fun b=>(h.get? b).map fun o=>(b,o)
theorem S8 {fp:List Addr}{h:Heap}{b:Addr}{o:Obj}(i:b∈fp)(e:h.get? b=some o):(b,o)∈zq4 fp h:=List.mem_filterMap.mpr ⟨b,i,by rw[e];rfl⟩
theorem yt4 {fp:List Addr}{h:Heap}{p:Addr×Obj}(hp:p∈zq4 fp h):p.1∈fp/\h.get? p.1=some p.2:=by
 obtain⟨b,i,e⟩:=List.mem_filterMap.mp hp
 cases q:h.get? b with
 |none=>rw[q]at e;cases e
 |some o=>
  rw[q]at e
  have j:(b,o)=p:=Option.some.inj e
  subst j
  exact⟨i,q⟩
theorem Inv.pinned {pins:List (Addr×Obj)}{σ:St}{H:Hp}{s:Shared}{fp:List Addr}(I:Inv X pins σ H s)(N:∀ b∈fp,FpOk X pins H b)(G:∀ b∈fp,∃ o,s.heap.get? b=some o/\∀ v,o.data≠ .cell v):Inv X (pins++zq4 fp s.heap) σ H s:=
 I.pins_of fun p hp=>(List.mem_append.mp hp).elim (fun z=>I.pin p (mem_append_right _ z)) fun z=>by
  obtain⟨i,e⟩:=yt4 z
  obtain⟨U,R,O,_⟩:=N p.1 i
  obtain⟨o,j,d⟩:=G p.1 i
  rw[e]at j;cases j
  exact⟨e,U,R,O,d⟩
theorem Inv.unpinned {pins pl:List (Addr×Obj)}{σ:St}{H:Hp}{s:Shared}(I:Inv X (pins++pl) σ H s):Inv X pins σ H s:=I.pins_of fun p hp=>I.pin p (mem_append_right _ (mem_append_left _ hp))
theorem yc3 {iter:Expr}{body:List Stmt}{wi:TI}{g:TG}{tb:TS}{pos:Pos}(hp:PassesOwn (model X.prog X.w) X.A X.env X.xe)(hc:X.calm=true)(hi:PI X tg iter wi)(hg:PG X tg g)(U:PSs X body tb)
  (hs:∀ x,foldedSetIterable iter X.env x=pure x:=by intro _;rfl):PS X (.For tg iter body [] pos) (tFor wi g tb):=by
 intro pins s σ H D I h
 refine wpAny_For (thn (hi pins s σ H _ I h) fun v s1 h1=>thn h1 fun a8 s2 h2=>?_) hs
 obtain⟨it,fp,tn,J,H2,e,I2,T,a5,f2,W,⟨m0,w0⟩,turn⟩:=h2
 subst e
 have O:∀{H':Hp},(∀ b∈fp,H' b=none)->∀ b∈fp,FpOk X pins H' b:=fun hn b U=>⟨hn b U,(f2 b U).2⟩
 refine codeAny_forLoop_any (fun n s'=>∃ i G H',Inv X pins G H' s'/\tn i s'.heap/\(∀ b∈fp,H' b=none)/\W i n G H') ?_ m0 ⟨0,σ,H2,I2,a5,fun b U=>(f2 b U).1,w0⟩
 rintro n s3 ⟨i,z,H3,I3,a2,a3,w3⟩
 rcases turn i n z H3 w3 with⟨stop,qn⟩|⟨go,N,hN,step⟩
 .refine wpAny_passesOwn hp (thn (T.done X rfl rfl rfl hc i pins s3 z H3 X.xe I3 (O a3) a2 stop) fun r s4 ⟨hr,I4⟩=>?_)
  subst hr
  exact wpAny_execs_nil ⟨z,H3,I4,qn⟩
 .refine wpAny_passesOwn hp (thn (T.item X rfl rfl rfl hc i pins s3 z H3 X.xe I3 (O a3) a2 go) fun r s4 ⟨u,hr,h4⟩=>?_)
  subst hr
  refine wpAny_passesOwn hp (thn h4 fun _ s5 R=>?_)
  obtain⟨x,H5,I5,r5,y5,a1,a6⟩:=R
  have a7:=I5.pinned (O a6) (T.obj _ _ a1)
  refine wpAny_passesOwn hp (thn (hg _ s5 z H5 x u _ a7 r5 (step x H5 y5)) fun _ s6 R=>?_)
  obtain⟨a4,H6,I6,q6⟩:=R
  refine wpAny_passesOwn hp (thn (U _ s6 a4 H6 _ I6 q6) fun f s7 q7=>?_)
  have again:∀{j:St}{Z:Hp},Inv X (pins++zq4 fp s5.heap) j Z s7->N j Z->∃ m,m<n/\∃ i G H',Inv X pins G H' s7/\tn i s7.heap/\(∀ b∈fp,H' b=none)/\W i m G H':=fun{j Z} Y n7=>by
   obtain⟨m',hm,w7⟩:=hN j Z n7
   refine⟨m',hm,i+1,j,Z,Y.unpinned,T.keep _ _ _ a1 fun b U o e=>(Y.pin (b,o) (mem_append_right _ (mem_append_right _ (S8 U e)))).1,fun b U=>?_,w7⟩
   obtain⟨o,e,d⟩:=T.obj _ _ a1 b U
   exact(Y.pin (b,o) (mem_append_right _ (mem_append_right _ (S8 U e)))).2.1
  cases f with
  |next=>obtain⟨j,Z,Y,n7⟩:=q7;exact again Y n7
  |cont=>obtain⟨j,Z,Y,n7⟩:=q7;exact again Y n7
  |brk=>obtain⟨j,Z,Y,q7⟩:=q7;exact⟨j,Z,Y.unpinned,q7⟩
  |ret v=>obtain⟨x7,j,Z,Y,r7,q7⟩:=q7;exact⟨x7,j,Z,Y.unpinned,r7,q7⟩
end
end
section
noncomputable abbrev R2:=V->V->Hp->VK->Prop
def OpR (X:Cx)(f:Value->Value->Sem Value)(r:R2):Prop:=
 ∀(pins:List (Addr×Obj))(s:Shared)(σ:St)(H:Hp)(x y:V)(v u:Value)(Q:VK),Inv X pins σ H s->RelV x v->RelV y u->r x y H Q->
  wpAny (model X.prog X.w) X.A (f v u) (EP X pins σ Q) X.xe s
def UnR (X:Cx)(f:Value->Sem Value)(r:V->Hp->VK->Prop):Prop:=
 ∀(pins:List (Addr×Obj))(s:Shared)(σ:St)(H:Hp)(x:V)(v:Value)(Q:VK),Inv X pins σ H s->RelV x v->r x H Q->
  wpAny (model X.prog X.w) X.A (f v) (EP X pins σ Q) X.xe s
def CallR (X:Cx)(f:Value)(r:List V->Hp->VK->Prop):Prop:=
 ∀(pins:List (Addr×Obj))(s:Shared)(σ:St)(H:Hp)(xs:List V)(us:List Value)(Q:VK),Inv X pins σ H s->Vals xs us->r xs H Q->
  wpAny (model X.prog X.w) X.A (call f us) (EP X pins σ Q) X.xe s
def TruR (X:Cx)(r:V->Hp->(Bool->Hp->Prop)->Prop):Prop:=
 ∀(pins:List (Addr×Obj))(s:Shared)(σ:St)(H:Hp)(x:V)(v:Value)(Q:Bool->Hp->Prop),Inv X pins σ H s->RelV x v->r x H Q->
  wpAny (model X.prog X.w) X.A (truthy v) (TP X pins σ Q) X.xe s
def tOp (r:R2)(ta tb:TE):TE:=fun σ H Q=>ta σ H fun x H1=>tb σ H1 fun y H2=>r x y H2 Q
def tUn (r:V->Hp->VK->Prop)(ta:TE):TE:=fun σ H Q=>ta σ H fun x H1=>r x H1 Q
def rI (C:Int->Int->Prop)(g:Int->Int->V):R2:=fun x y H Q=>∃ i j,x= .int i/\y= .int j/\C i j/\Q (g i j) H
def rI0 (g:Int->Int->V):R2:=fun x y H Q=>∃ i j,x= .int i/\y= .int j/\Q (g i j) H
def rU (g:Int->V):V->Hp->VK->Prop:=fun x H Q=>∃ i,x= .int i/\Q (g i) H
section
variable {X:Cx}{a b c:Expr}{ta tb tc:TE}{pos:Pos}
theorem binT (ha:PE X a ta)(Y:PE X b tb){pins:List (Addr×Obj)}{s:Shared}{σ:St}{H:Hp}{R:V->V->Hp->Prop}(I:Inv X pins σ H s)
  (h:ta σ H fun x H1=>tb σ H1 fun y H2=>R x y H2) {Q:Value->Shared->Prop} {f:Value->Value->Sem Value}
  (U:∀ v u s2 x y H2,Inv X pins σ H2 s2->RelV x v->RelV y u->R x y H2->wpAny (model X.prog X.w) X.A (f v u) Q X.xe s2):
  wpAny (model X.prog X.w) X.A (eval a X.env) (fun v z=>wpAny (model X.prog X.w) X.A (eval b X.env) (fun u j=>wpAny (model X.prog X.w) X.A (f v u) Q X.xe j) X.xe z) X.xe s:=by
 refine thn (ha pins s σ H _ I h) fun v s1 i=>?_
 obtain⟨x,H1,I1,G,O⟩:=i
 refine thn (Y pins s1 σ H1 _ I1 O) fun u s2 i=>?_
 obtain⟨y,H2,Z,r2,N⟩:=i
 exact U v u s2 x y H2 Z G r2 N
theorem xw1 {op:Operator}{r:R2}(j:OpR X (binaryOp op) r)(ha:PE X a ta)(z:PE X b tb):PE X (.BinOp a op b pos) (tOp r ta tb):=by
 intro pins s σ H Q I h
 exact wpAny_BinOp (binT ha z I h fun v u s2 x y H2 G rx i q=>j pins s2 σ H2 x y v u Q G rx i q)
theorem xe9 {op:UnaryOp}{r:V->Hp->VK->Prop}(z:UnR X (unaryOp op) r)(ha:PE X a ta):PE X (.UnaryOp op a pos) (tUn r ta):=by
 intro pins s σ H Q I h
 exact UnaryOp_ (thn (ha pins s σ H _ I h) fun v s1 ⟨x,H1,G,i,j⟩=>z pins s1 σ H1 x v Q G i j)
theorem opI {f:Value->Value->Sem Value}{C:Int->Int->Prop}{g:Int->Int->Int}
  (rule:∀(i j:Int)(t u:Tok)(s:Shared)(Q:Value->Shared->Prop)(E:Value->Shared->Prop),C i j->Q (.int (g i j) s.toks) { s with toks:=s.toks+1 }->wpAny (model X.prog X.w) X.A (f (.int i t) (.int j u)) Q E s):
  OpR X f (rI C fun i j=>.int (g i j)):=by
 intro pins s σ H x y v u Q I rx z h
 obtain⟨i,j,rfl,rfl,G,q⟩:=h
 obtain⟨t,rfl⟩:=rx
 obtain⟨t',rfl⟩:=z
 exact rule i j t t' s _ _ G ⟨.int (g i j),H,I.tok _,⟨_,rfl⟩,q⟩
theorem opI0 {f:Value->Value->Sem Value}{g:Int->Int->Int}
  (rule:∀(i j:Int)(t u:Tok)(s:Shared)(Q:Value->Shared->Prop)(E:Value->Shared->Prop),Q (.int (g i j) s.toks) { s with toks:=s.toks+1 }->wpAny (model X.prog X.w) X.A (f (.int i t) (.int j u)) Q E s):
  OpR X f (rI0 fun i j=>.int (g i j)):=by
 intro pins s σ H x y v u Q I rx z h
 obtain⟨i,j,rfl,rfl,q⟩:=h
 obtain⟨t,rfl⟩:=rx
 obtain⟨t',rfl⟩:=z
 exact rule i j t t' s _ _ ⟨.int (g i j),H,I.tok _,⟨_,rfl⟩,q⟩
theorem opB0 {f:Value->Value->Sem Value}{g:Int->Int->Bool}
  (rule:∀(i j:Int)(t u:Tok)(s:Shared)(Q:Value->Shared->Prop)(E:Value->Shared->Prop),Q (.bool (g i j)) s->wpAny (model X.prog X.w) X.A (f (.int i t) (.int j u)) Q E s):
  OpR X f (rI0 fun i j=>.bl (g i j)):=by
 intro pins s σ H x y v u Q I rx z h
 obtain⟨i,j,rfl,rfl,q⟩:=h
 obtain⟨t,rfl⟩:=rx
 obtain⟨t',rfl⟩:=z
 exact rule i j t t' s _ _ ⟨.bl (g i j),H,I,rfl,q⟩
def CDiv (i j:Int):Prop:=0<j/\j<1073741824
def CPow (i j:Int):Prop:=0<=j/\j<=1000000/\i.natAbs<2^64
def CMul (i j:Int):Prop:=(-(2^64)<i/\i<2^64)\/(-(2^64)<j/\j<2^64)
theorem CMul.ok {i j:Int}(h:CMul i j):IntMulOk i j:=by
 rcases h with⟨h1,h2⟩|⟨h1,h2⟩
 .exact .of_left (intBits_le_64 h1 h2)
 .exact .of_right (intBits_le_64 h1 h2)
theorem zc5 (k:Nat):(0:Int)<=2^k:=by
 rw[two_pow_cast]
 exact Int.natCast_nonneg _
theorem zf4:OpR X (binaryOp .Add) (rI0 fun i j=>.int (i+j)):=opI0 fun _ _ _ _ _ _ _ q=>add_int q
theorem yt3:OpR X (binaryOp .Sub) (rI0 fun i j=>.int (i-j)):=opI0 fun _ _ _ _ _ _ _ q=>sub_int q
theorem yc8:OpR X (binaryOp .Mult) (rI CMul fun i j=>.int (i*j)):=opI fun _ _ _ _ _ _ _ z q=>mul_int q z.ok
theorem xu3:OpR X (binaryOp .FloorDiv) (rI CDiv fun i j=>.int (i / j)):=opI fun i j _ _ _ _ _ z q=>by
 have h1:(0:Int)<j:=z.1
 have h2:j<1073741824:=z.2
 exact floordiv_int (by omega) (by rw[Int.fdiv_eq_ediv_of_nonneg i (by omega)];exact q) (.inl (PyProof.noPylong_small (by omega)))
theorem xm9:OpR X (binaryOp .Mod) (rI (fun _ j=>0<j) fun i j=>.int (i % j)):=opI fun i j _ _ _ _ _ z q=>by
 have h1:(0:Int)<j:=z
 exact mod_int' (by omega) (by rw[Int.fmod_eq_emod_of_nonneg i (by omega)];exact q)
theorem xm8:OpR X (binaryOp .Pow) (rI CPow fun i j=>.int (i^j.toNat)):=opI fun _ _ _ _ _ _ _ z q=>pow_int_small z.1 z.2.1 z.2.2 q
theorem xm7:OpR X (binaryOp .LShift) (rI CPow fun i j=>.int (i*2^j.toNat)):=opI fun _ _ _ _ _ _ _ z q=>lshift_int_small z.1 z.2.1 z.2.2 q
theorem xm6:OpR X (binaryOp .RShift) (rI (fun _ j=>0<=j) fun i j=>.int (i / 2^j.toNat)):=opI fun i j _ _ _ _ _ z q=>
 rshift_int z (by rw[Int.fdiv_eq_ediv_of_nonneg i (zc5 _)];exact q)
theorem xk1:OpR X (binaryOp .BitAnd) (rI0 fun i j=>.int (Builtin.bitAnd i j)):=opI0 fun _ _ _ _ _ _ _ q=>and_int q
theorem unI {f:Value->Sem Value}{g:Int->Int}
  (rule:∀(i:Int)(t:Tok)(s:Shared)(Q:Value->Shared->Prop)(E:Value->Shared->Prop),Q (.int (g i) s.toks) { s with toks:=s.toks+1 }->wpAny (model X.prog X.w) X.A (f (.int i t)) Q E s):
  UnR X f (rU fun i=>.int (g i)):=by
 intro pins s σ H x v Q I rx h
 obtain⟨i,rfl,q⟩:=h
 obtain⟨t,rfl⟩:=rx
 exact rule i t s _ _ ⟨.int (g i),H,I.tok _,⟨_,rfl⟩,q⟩
theorem xp2:UnR X (unaryOp .USub) (rU fun i=>.int (-i)):=unI fun _ _ _ _ _ q=>neg_int q
end
noncomputable def scal:V->V->Bool
 | .non,.non=>true| .non,.int _=>true| .int _,.non=>true| .non,.bl _=>true| .bl _,.non=>true| .non,.str _=>true| .str _,.non=>true
 | .int _,.int _=>true| .bl _,.bl _=>true| .str _,.str _=>true| .byt _,.byt _=>true
 | .int _,.str _=>true| .str _,.int _=>true| .bl _,.str _=>true| .str _,.bl _=>true
 |_,_=>false
def rEq:R2:=fun x y H Q=>scal x y=true/\Q (.bl (decide (x=y))) H
def rNe:R2:=fun x y H Q=>scal x y=true/\Q (.bl (!decide (x=y))) H
theorem zh2 {i j:Int}:decide (V.int i=V.int j)=(i==j):=by
 rw[Bool.eq_iff_iff]
 simp
theorem yp9 {i j:Bool}:decide (V.bl i=V.bl j)=(i==j):=by
 rw[Bool.eq_iff_iff]
 simp
theorem zh1 {i j:Str}:decide (V.str i=V.str j)=(i==j):=by
 rw[Bool.eq_iff_iff]
 simp
theorem yp8 {i j:Array UInt8}:decide (V.byt i=V.byt j)=(i.toList==j.toList):=by
 rw[Bool.eq_iff_iff]
 cases i
 cases j
 simp
section
variable {X:Cx}{a b c:Expr}{ta tb tc:TE}{pos:Pos}
theorem j6 {pins:List (Addr×Obj)}{σ:St}{H:Hp}{s:Shared}{Q:VK}{k i:Bool}(I:Inv X pins σ H s)(q:Q (.bl k) H)(e:k=i):EP X pins σ Q (.bool i) s:=by
 subst e
 exact⟨.bl k,H,I,rfl,q⟩
theorem X0:OpR X (compareOp .Eq) rEq:=by
 intro pins s σ H x y v u Q I rx z h
 obtain⟨hs,q⟩:=h
 cases x with
 |non=>
  cases rx
  cases y with
  |non=>cases z;exact PySem.EqNone.eq_none_none (j6 I q (by simp))
  |bl j=>cases z;exact PySem.EqNone.eq_none_bool (j6 I q (by simp))
  |int j=>obtain⟨t',rfl⟩:=z;exact PySem.EqNone.eq_none_int (j6 I q (by simp))
  |str j=>obtain⟨t',rfl⟩:=z;exact PySem.EqNone.eq_none_str (j6 I q (by simp))
  |_=>exact absurd (show false=true from hs) Bool.false_ne_true
 |bl i=>
  cases rx
  cases y with
  |non=>cases z;exact PySem.EqNone.eq_bool_none (j6 I q (by simp))
  |bl j=>cases z;exact eq_bool (j6 I q yp9)
  |str j=>obtain⟨t',rfl⟩:=z;exact PySem.EqMixed.eq_bool_str (j6 I q (by simp))
  |_=>exact absurd (show false=true from hs) Bool.false_ne_true
 |int i=>
  obtain⟨t,rfl⟩:=rx
  cases y with
  |non=>cases z;exact PySem.EqNone.eq_int_none (j6 I q (by simp))
  |int j=>obtain⟨t',rfl⟩:=z;exact eq_int (j6 I q zh2)
  |str j=>obtain⟨t',rfl⟩:=z;exact PySem.EqMixed.eq_int_str (j6 I q (by simp))
  |_=>exact absurd (show false=true from hs) Bool.false_ne_true
 |str i=>
  obtain⟨t,rfl⟩:=rx
  cases y with
  |non=>cases z;exact PySem.EqNone.eq_str_none (j6 I q (by simp))
  |bl j=>cases z;exact PySem.EqMixed.eq_str_bool (j6 I q (by simp))
  |int j=>obtain⟨t',rfl⟩:=z;exact PySem.EqMixed.eq_str_int (j6 I q (by simp))
  |str j=>obtain⟨t',rfl⟩:=z;exact eq_str (j6 I q zh1)
  |_=>exact absurd (show false=true from hs) Bool.false_ne_true
 |byt i=>
  obtain⟨t,rfl⟩:=rx
  cases y with
  |byt j=>obtain⟨t',rfl⟩:=z;exact W.eq_bytes (j6 I q yp8)
  |_=>exact absurd (show false=true from hs) Bool.false_ne_true
 |_=>cases y <;> exact absurd (show false=true from hs) Bool.false_ne_true
theorem yh4:OpR X (compareOp .NotEq) rNe:=by
 intro pins s σ H x y v u Q I rx z h
 obtain⟨hs,q⟩:=h
 cases x with
 |non=>
  cases rx
  cases y with
  |non=>cases z;exact PySem.EqNone.ne_none_none (j6 I q (by simp))
  |bl j=>cases z;exact PySem.EqNone.ne_none_bool (j6 I q (by simp))
  |int j=>obtain⟨t',rfl⟩:=z;exact PySem.EqNone.ne_none_int (j6 I q (by simp))
  |str j=>obtain⟨t',rfl⟩:=z;exact PySem.EqNone.ne_none_str (j6 I q (by simp))
  |_=>exact absurd (show false=true from hs) Bool.false_ne_true
 |bl i=>
  cases rx
  cases y with
  |non=>cases z;exact PySem.EqNone.ne_bool_none (j6 I q (by simp))
  |bl j=>cases z;exact ne_bool (j6 I q (congrArg not yp9))
  |str j=>obtain⟨t',rfl⟩:=z;exact PySem.EqMixed.ne_bool_str (j6 I q (by simp))
  |_=>exact absurd (show false=true from hs) Bool.false_ne_true
 |int i=>
  obtain⟨t,rfl⟩:=rx
  cases y with
  |non=>cases z;exact PySem.EqNone.ne_int_none (j6 I q (by simp))
  |int j=>obtain⟨t',rfl⟩:=z;exact ne_int (j6 I q (congrArg not zh2))
  |str j=>obtain⟨t',rfl⟩:=z;exact PySem.EqMixed.ne_int_str (j6 I q (by simp))
  |_=>exact absurd (show false=true from hs) Bool.false_ne_true
 |str i=>
  obtain⟨t,rfl⟩:=rx
  cases y with
  |non=>cases z;exact PySem.EqNone.ne_str_none (j6 I q (by simp))
  |bl j=>cases z;exact PySem.EqMixed.ne_str_bool (j6 I q (by simp))
  |int j=>obtain⟨t',rfl⟩:=z;exact PySem.EqMixed.ne_str_int (j6 I q (by simp))
  |str j=>obtain⟨t',rfl⟩:=z;exact ne_str (j6 I q (congrArg not zh1))
  |_=>exact absurd (show false=true from hs) Bool.false_ne_true
 |byt i=>
  obtain⟨t,rfl⟩:=rx
  cases y with
  |byt j=>obtain⟨t',rfl⟩:=z;exact W.ne_bytes (j6 I q (congrArg not yp8))
  |_=>exact absurd (show false=true from hs) Bool.false_ne_true
 |_=>cases y <;> exact absurd (show false=true from hs) Bool.false_ne_true
theorem xu2:OpR X (compareOp .Lt) (rI0 fun i j=>.bl (decide (i<j))):=opB0 fun _ _ _ _ _ _ _ q=>lt_int q
theorem yh5:OpR X (compareOp .GtE) (rI0 fun i j=>.bl (decide (j<=i))):=opB0 fun _ _ _ _ _ _ _ q=>ge_int q
theorem D5:OpR X (compareOp .Is) (fun x y H Q=>y= .non/\Q (.bl (decide (x= .non))) H):=by
 intro pins s σ H x y v u Q I rx i h
 obtain⟨rfl,q⟩:=h
 cases i
 refine is_none_gen (j6 I q ?_)
 cases x <;> first
  | (cases rx;rfl)
  | (obtain⟨t,rfl⟩:=rx;rfl)
theorem OpR.or {f:Value->Value->Sem Value}{r j:R2}(h:OpR X f r)(h':OpR X f j):OpR X f (fun x y H Q=>r x y H Q\/j x y H Q):=by
 intro pins s σ H x y v u Q I rx i q
 rcases q with q|q
 .exact h pins s σ H x y v u Q I rx i q
 .exact h' pins s σ H x y v u Q I rx i q
theorem u7 (b:Expr){op:CmpOp}(h:op≠ .In:=by decide)(h2:op≠ .NotIn:=by decide):behindInMarks op b=false:=by
 have e1:(op==CmpOp.In)=false:=by cases op <;> first|rfl|exact absurd rfl h
 have e2:(op==CmpOp.NotIn)=false:=by cases op <;> first|rfl|exact absurd rfl h2
 cases b <;> simp[behindInMarks,e1,e2]
theorem zj2 {op:CmpOp}{r:R2}(j:OpR X (compareOp op) r)(ha:PE X a ta)(z:PE X b tb)(hm:behindInMarks op b=false):PE X (.Compare a [op] [b] pos) (tOp r ta tb):=by
 intro pins s σ H Q I h
 exact wpAny_Compare1 (binT ha z I h fun v u s2 x y H2 G rx i q=>j pins s2 σ H2 x y v u Q G rx i q) hm
def xf9 (t:TE):TT:=fun σ H Q=>t σ H fun x H'=>∃ k,x= .bl k/\Q k H'
theorem zw9 {op:CmpOp}{r:R2}(R:OpR X (compareOp op) r)(ha:PE X a ta)(U:PE X b tb)(hm:behindInMarks op b=false):PT X (.Compare a [op] [b] pos) (xf9 (tOp r ta tb)):=by
 intro pins s σ H Q I h
 refine wpAny_isTrue_Compare1 (thn (ha pins s σ H _ I h) fun v s1 ⟨x,H1,I1,j,O⟩=>thn (U pins s1 σ H1 _ I1 O) fun u s2 ⟨y,H2,Z,r2,N⟩=>
  thn (R pins s2 σ H2 x y v u _ Z j r2 N) fun c s3 ⟨z,H3,Y,i,k,e,G⟩=>?_) hm
 subst e
 cases i
 exact wpAny_truthy_bool ⟨H3,Y,G⟩
def TruV (K:W.Frag)(x:V)(H:Hp)(k:Bool):Prop:=
 match x with
 | .non=>k=false
 | .bl b=>k=b
 | .int i=>k=(i != 0)
 | .str y=>y.length<=sizeLine/\k=((y.length:Int) != 0)
 | .byt y=>y.size<=sizeLine/\k=((y.size:Int) != 0)
 | .ref p=>(∃ xs,SqL K H p xs/\k= !xs.isEmpty)\/(∃ xs,SqT K H p xs/\k= !xs.isEmpty)\/∃ kvs,H p=some (.dK kvs)/\k= !kvs.isEmpty
 |_=>False
theorem yz2 {i:Type}{kvs:List (i×V)}{vs:List (i×Value)}(r:KV kvs vs):(!vs.isEmpty)= !kvs.isEmpty:=by
 cases r <;> rfl
theorem zx5 {xs:List V}{its:List Value}(r:Vals xs its):(!its.toArray.isEmpty)= !xs.isEmpty:=by
 cases r <;> simp
theorem C7:(sizeLine:Nat)<2^63:=by rw[sizeLine_eq];decide
theorem xp7:TruR X (fun x H Q=>∃ k,TruV X.K x H k/\Q k H):=by
 intro pins s σ H x v Q I rx h
 obtain⟨k,e,q⟩:=h
 have hl:=C7
 have hs:sizeLine=16777216:=sizeLine_eq
 cases x with
 |non=>
  cases rx
  have j:k=false:=e
  subst j
  exact truthy_none ⟨H,I,q⟩
 |bl b=>
  cases rx
  have j:k=b:=e
  subst j
  exact wpAny_truthy_bool ⟨H,I,q⟩
 |int i=>
  obtain⟨t,rfl⟩:=rx
  have j:k=(i != 0):=e
  subst j
  exact PySem.P.truthy_int ⟨H,I,q⟩
 |str y=>
  obtain⟨t,rfl⟩:=rx
  obtain⟨O,j⟩:y.length<=sizeLine/\k=((y.length:Int) != 0):=e
  subst j
  exact PySem.P.truthy_str (by omega) ⟨H,I.tok _,q⟩
 |byt y=>
  obtain⟨t,rfl⟩:=rx
  obtain⟨O,j⟩:y.size<=sizeLine/\k=((y.size:Int) != 0):=e
  subst j
  exact W.truthy_bytes (by omega) ⟨H,I.tok _,q⟩
 |ref p=>
  cases rx
  have j:(∃ xs,SqL X.K H p xs/\k= !xs.isEmpty)\/(∃ xs,SqT X.K H p xs/\k= !xs.isEmpty)\/∃ kvs,H p=some (.dK kvs)/\k= !kvs.isEmpty:=e
  rcases j with⟨xs,G,j⟩|⟨xs,G,j⟩|⟨kvs,G,j⟩
  .subst j
   obtain⟨its,r,pl,N⟩:=I.list G
   have z:=r.length
   exact wpAny_truthy_list pl.isList (by simp only[size_toArray];omega) ⟨H,I.tok _,by rw[zx5 r];exact q⟩
  .subst j
   obtain⟨its,r,pl,N⟩:=I.tuple G
   have z:=r.length
   exact truthy_tuple pl (by simp only[size_toArray];omega) ⟨H,I.tok _,by rw[zx5 r];exact q⟩
  .subst j
   obtain⟨N,R,vs,r,m⟩:kvs.length<=sizeLine/\(p==sysModules)=false/\∃ vs,KV kvs vs/\s.heap.DictOf (zi0 X.prog X.w) p vs:=I.hok p _ G
   have z:kvs.length=vs.length:=Paired.length r
   exact wpAny_truthy_dict R m (by omega) ⟨H,I.tok _,by rw[yz2 r];exact q⟩
 |_=>exact(show False from e).elim
theorem yj2 (ha:PE X a ta)(G:∀ i,isTrue a X.env i=(do let v ← i;standAt a.pos;holding [v] (truthy v))):
  PT X a (fun σ H Q=>ta σ H fun x H'=>∃ k,TruV X.K x H' k/\Q k H'):=by
 intro pins s σ H Q I h
 exact isTrue_plain (thn (ha pins s σ H _ I h) fun v s1 ⟨x,H1,N,j,z⟩=>xp7 pins s1 σ H1 x v Q N j z) (G _)
theorem za2:OpR X (binaryOp .Add) (fun x y H Q=>∃ i j,x= .str i/\y= .str j/\i.length+j.length<=sizeLine/\Q (.str (i++j)) H):=by
 intro pins s σ H x y v u Q I rx z h
 obtain⟨i,j,rfl,rfl,G,q⟩:=h
 obtain⟨t,rfl⟩:=rx
 obtain⟨t',rfl⟩:=z
 exact add_str (fun t' tk=>⟨.str (i++j),H,I.tok _,⟨_,rfl⟩,q⟩) G
theorem K5 {x:V}{us:List Value}(r:Vals [x] us):∃ u,us=[u]/\RelV x u:=by
 cases r with
 |cons i r2=>cases r2;exact⟨_,rfl,i⟩
theorem zc4 {x y:V}{us:List Value}(r:Vals [x,y] us):∃ u i,us=[u,i]/\RelV x u/\RelV y i:=by
 cases r with
 |cons G r2=>
  cases r2 with
  |cons z j=>cases j;exact⟨_,_,rfl,G,z⟩
theorem zd5:CallR X (.builtin "abs") (fun xs H Q=>∃ i,xs=[.int i]/\Q (.int (if i<0 then -i else i)) H):=by
 intro pins s σ H xs us Q I r h
 obtain⟨i,rfl,q⟩:=h
 obtain⟨u,rfl,t,rfl⟩:=K5 r
 exact call_abs_int fun u tk=>⟨.int (if i<0 then -i else i),H,I.tok _,⟨_,rfl⟩,q⟩
theorem yo8 (G:X.calm=true):CallR X (.builtin "max") (fun xs H Q=>∃ i j,xs=[.int i,.int j]/\Q (.int (if j>i then j else i)) H):=by
 intro pins s σ H xs us Q I r h
 obtain⟨i,j,rfl,q⟩:=h
 obtain⟨u,N,rfl,⟨t,rfl⟩,⟨t',rfl⟩⟩:=zc4 r
 refine max_two_ints (I.ok.hd G) fun h' tk k=>⟨_,H,I.kept k,?_,q⟩
 by_cases z:j>i
 .rw[if_pos z,if_pos z];exact⟨_,rfl⟩
 .rw[if_neg z,if_neg z];exact⟨_,rfl⟩
theorem yo7 (G:X.calm=true):CallR X (.builtin "min") (fun xs H Q=>∃ i j,xs=[.int i,.int j]/\Q (.int (if j<i then j else i)) H):=by
 intro pins s σ H xs us Q I r h
 obtain⟨i,j,rfl,q⟩:=h
 obtain⟨u,N,rfl,⟨t,rfl⟩,⟨t',rfl⟩⟩:=zc4 r
 refine min_two_ints (I.ok.hd G) fun h' tk k=>⟨_,H,I.kept k,?_,q⟩
 by_cases z:j<i
 .rw[if_pos z,if_pos z];exact⟨_,rfl⟩
 .rw[if_neg z,if_neg z];exact⟨_,rfl⟩
theorem zn8:CallR X (.type "int") (fun xs H Q=>(∃ i,xs=[.int i]/\Q (.int i) H)\/∃ k,xs=[.bl k]/\Q (.int (if k then 1 else 0)) H):=by
 intro pins s σ H xs us Q I r h
 rcases h with⟨i,rfl,q⟩|⟨k,rfl,q⟩
 .obtain⟨u,rfl,t,rfl⟩:=K5 r
  exact call_int_int ⟨.int i,H,I,⟨_,rfl⟩,q⟩
 .obtain⟨u,rfl,r1⟩:=K5 r
  cases r1
  exact call_int_bool ⟨.int (if k then 1 else 0),H,I.tok _,⟨_,rfl⟩,q⟩
end
end
section
structure ObjM (h:Heap)(x dx C:Addr)(mA:Str->Option Value):Prop where
 obj:h.get? x=some (W.instObj C dx)
 ns:h.Ns1 dx mA
 ne:dx≠x
theorem yr5 {h:Heap}{dx:Addr}{mA:Str->Option Value}(n:h.Ns1 dx mA):∃ od,h.get? dx=some od/\∀ name,W.lookIn name od=some (mA name):=by
 obtain⟨o,es,ep,G,hd,I,_,hm⟩:=n
 refine⟨o,G,fun name=>?_⟩
 have e:=hm name
 unfold nsFind findBy at e
 rw[<-Array.find?_toList]at e
 unfold W.lookIn
 rw[hd]
 dsimp only
 split
 .rename_i y q
  rw[q]at e
  exact congrArg some e
 .rename_i q
  rw[q]at e
  have a:es.toList.any (·.refKey)=false:=by
   rw[any_eq_false]
   intro y j
   obtain⟨z,t,i⟩:=I y (Array.mem_toList_iff.mp j)
   simp[DictEntry.refKey,i]
  have N:¬ es.toList.any (·.refKey)=true:=by rw[a];exact Bool.false_ne_true
  rw[if_neg N]
  exact congrArg some e
theorem ObjM.look {h:Heap}{x dx C:Addr}{mA:Str->Option Value}(I:ObjM h x dx C mA):∃ od,W.InstAt h x (W.instObj C dx) C (some od)/\∀ name,W.lookIn name od=some (mA name):=
 let ⟨od,i,hl⟩:=yr5 I.ns
 ⟨od,⟨I.obj,rfl,rfl,i⟩,hl⟩
section
variable {prog:Program}{w:World}{A:Around}{E:Value->Shared->Prop}{s:Shared}{K:W.Frag}{x dx C f:Addr}{mA:Str->Option Value}{name:Str}{v:Value}
end
section
variable {P:Program}{w:World}{H H':Hp}{h h':Heap}{a C dx:Addr}{fs fs':List (Str×V)}
theorem xt9 (hok:HOk P w H h)(e:H a=some (.ins C dx fs)):∃ mA,ObjM h a dx C mA/\(∀ f,RelO (fs.lookup f) (mA f))/\PySem.Within mA (fs.map (·.1))/\fs.length<=1000/\H dx=some (.own a):=by
 obtain⟨d,z,ne,ob,mA,n,r,q⟩:=(show ObjOk P w H h a (.ins C dx fs)from hok a _ e)
 exact⟨mA,⟨ob,n,ne⟩,r,q,z,d⟩
end
structure Cls (K:W.Frag)(C:Addr):Prop where
 pg:W.plainGet K C Str.empty=true
 hd:W.hasDictIn K C=true
 po:W.plainOver K C=true
 sa:W.findIn K (.ref C) "__setattr__"=some (some (.builtin "object.__setattr__"))
theorem Cls.get {K:W.Frag}{C:Addr}(c:Cls K C)(f:Str):W.plainGet K C f=true:=c.pg
structure Con (K:W.Frag)(C:Addr)(f:Str)(v:V)(u:Value):Prop where
 at_:W.findIn K (.ref C) f=some (some u)
 rel:RelV v u
 get:W.specialIn K u "__get__"=some none
 cp:W.copiedNames.contains f=false
structure Meth (K:W.Frag)(C:Addr)(m:Str)(f:Addr):Prop where
 at_:W.findIn K (.ref C) m=some (some (.ref f))
 fn:W.isFn K (.ref f)=true
 kp:W.keepIn K (.ref f)=true
section
variable {X:Cx}{pins:List (Addr×Obj)}{σ:St}{H:Hp}{s:Shared}{a C dx:Addr}{fs:List (Str×V)}{f:Str}{v:V}{A:Around}{E:Value->Shared->Prop}
end
section
variable {X:Cx}{o e value:Expr}{f:Str}{pos pos' tpos:Pos}{ta tv:TE}
end
section
variable {X:Cx}{pins:List (Addr×Obj)}{σ:St}{H:Hp}{s:Shared}{A:Around}{E:Value->Shared->Prop}{Q:Value->Shared->Prop}{c:Value}{b:Bool}
inductive TyOf (K:W.Frag)(H:Hp):V->Value->Prop where
 |non:TyOf K H .non (.type "NoneType")
 |bl (x:Bool):TyOf K H (.bl x) (.type "bool")
 |int (i:Int):TyOf K H (.int i) (.type "int")
 |str (x:Str):TyOf K H (.str x) (.type "str")
 |flt (x:UInt64):TyOf K H (.flt x) (.type "float")
 |lst {a:Addr} {xs:List V} (e:H a=some (.lst xs)):TyOf K H (.ref a) (.type "list")
 |frz {a:Addr} {o:Obj} {xs:List V} (e:H a=some (.frz o (.lst xs))):TyOf K H (.ref a) (.type "list")
 |tup {a:Addr} {xs:List V} (e:H a=some (.tup xs)):TyOf K H (.ref a) (.type "tuple")
 |dK {a:Addr} {kvs:List (Key×V)} (e:H a=some (.dK kvs)):TyOf K H (.ref a) (.type "dict")
 |dT {a:Addr} {kvs:List (List Key×V)} (e:H a=some (.dT kvs)):TyOf K H (.ref a) (.type "dict")
 |ins {a C dx:Addr} {fs:List (Str×V)} (e:H a=some (.ins C dx fs)) (cl:Cls K C) (ha:W.findIn K (.ref C) "__class__"=some (some (.builtin "object.__class__")))
   (hn:W.specialIn K (.builtin "object.__class__") "__get__"=some (some (.builtin "getset_descriptor.__get__"))) (htk:W.takesIn K (.builtin "object.__class__")=some true)
   (hm:W.mroIn K C (.type "object")=some true):TyOf K H (.ref a) (.ref C)
theorem O8 {x:V}{u t:Value}(I:Inv X pins σ H s)(rx:RelV x u)(ty:TyOf X.K H x t)(e:W.kitOne X.K t c=some b)(h:∀ tk,Q (.bool b) { s with toks:=tk }):
  wpAny (model X.prog X.w) A (call (.builtin "isinstance") [u,c]) Q E s:=by
 cases ty with
 |non=>cases (show u=Value.none from rx);exact W.kia_one W.kitx_none I.kIn True.intro e (fun z=>nomatch z) h
 |bl y=>cases (show u=Value.bool y from rx);exact W.kia_one W.kitx_bool I.kIn True.intro e (fun z=>nomatch z) h
 |int i=>obtain⟨t,q⟩:=(show ∃ t,u=Value.int i t from rx);cases q;exact W.kia_one W.kitx_int I.kIn True.intro e (fun z=>nomatch z) h
 |str y=>obtain⟨t,q⟩:=(show ∃ t,u=Value.str y t from rx);cases q;exact W.kia_one W.kitx_str I.kIn True.intro e (fun z=>nomatch z) h
 |flt y=>obtain⟨t,q⟩:=(show ∃ t,u=Value.float y t from rx);cases q;exact W.kia_one W.kitx_float I.kIn True.intro e (fun z=>nomatch z) h
 |@lst a xs ea=>
  cases (show u=Value.ref a from rx)
  obtain⟨_,_,n,_,h1⟩:=(show ObjOk X.prog X.w H s.heap a (.lst xs)from I.hok a _ ea)
  exact W.kia_one W.kitx_list I.kIn ⟨_,h1,rfl⟩ e (fun z=>nomatch z) h
 |@frz a ob xs ea=>
  cases (show u=Value.ref a from rx)
  obtain⟨_,_,_,n,_,h1⟩:=(show ObjOk X.prog X.w H s.heap a (.frz ob (.lst xs))from I.hok a _ ea)
  exact W.kia_one W.kitx_list I.kIn ⟨_,h1,rfl⟩ e (fun z=>nomatch z) h
 |@tup a xs ea=>
  cases (show u=Value.ref a from rx)
  obtain⟨_,_,_,p⟩:=(show ObjOk X.prog X.w H s.heap a (.tup xs)from I.hok a _ ea)
  obtain⟨o,h1,h2,_⟩:=p
  exact W.kia_one W.kitx_tuple I.kIn ⟨o,h1,h2⟩ e (fun z=>nomatch z) h
 |@dK a kvs ea=>
  cases (show u=Value.ref a from rx)
  obtain⟨_,_,vs,_,p⟩:=(show ObjOk X.prog X.w H s.heap a (.dK kvs)from I.hok a _ ea)
  obtain⟨o,es,ep,h1,h2,_⟩:=p
  exact W.kia_one W.kitx_dict I.kIn ⟨o,h1,h2.1⟩ e (fun z=>nomatch z) h
 |@dT a kvs ea=>
  cases (show u=Value.ref a from rx)
  obtain⟨_,_,xs,_,o,es,ep,h1,h2,_⟩:=(show ObjOk X.prog X.w H s.heap a (.dT kvs)from I.hok a _ ea)
  exact W.kia_one W.kitx_dict I.kIn ⟨o,h1,h2.1⟩ e (fun z=>nomatch z) h
 |@ins a C dx fs ea cl ha hn htk hm=>
  cases (show u=Value.ref a from rx)
  obtain⟨mA,O,_⟩:=xt9 I.hok ea
  obtain⟨od,J,_⟩:=O.look
  exact W.kia_one (W.kitx_own (cl.get _) cl.hd ha hn htk hm) I.kIn J e (fun z=>nomatch z) h
end
end
section
structure Room (k:Nat)(A:Around):Prop where
 hd:A.handled=none
 dp:A.depth+3*k+5<recursionLimit
 un:A.units+16*k+200<cLine
theorem Room.mono {j k:Nat}{A:Around}(r:Room k A)(h:j<=k):Room j A:=⟨r.hd,by have:=r.dp;omega,by have:=r.un;omega⟩
theorem Room.deeper {k:Nat}{A:Around}(r:Room (k+1) A)(env:Env):Room k (A.deeper env):=
 ⟨r.hd,by have:=r.dp;show A.depth+1+3*k+5<_;omega,by have:=r.un;show A.units+3+16*k+200<_;omega⟩
theorem Room.in1 {k:Nat}{A:Around}(r:Room (k+1) A):Room k A.in1:=
 ⟨r.hd,by have:=r.dp;show A.depth+3*k+5<_;omega,by have:=r.un;show A.units+1+16*k+200<_;omega⟩
theorem Room.depth {k:Nat}{A:Around}(r:Room k A):A.depth<recursionLimit:=by have:=r.dp;omega
theorem Room.units {k:Nat}{A:Around}(r:Room k A):A.units+64<cLine:=by have:=r.un;omega
def tNil:TA:=fun _ H Q=>Q [] H
def yk4 (ta:TE)(tr:TA):TA:=fun σ H Q=>ta σ H fun x H1=>tr σ H1 fun xs H2=>Q (x::xs) H2
section
variable {X:Cx}{e:Expr}{es:List Expr}{te:TE}{t:TA}{pos:Pos}
theorem pa_nil:PA X [] tNil:=fun _ _ _ _ H Q I h=>Calls.spliced_nil ⟨[],H,I,.nil,h⟩
theorem j9 (ha:PE X e te)(N:PA X es t)(hs:starEach (e::es) X.env=(false,eval e X.env)::starEach es X.env:=by rfl):PA X (e::es) (yk4 te t):=by
 intro pos pins s σ H Q I h
 rw[hs]
 show wpAny _ _ (spliced ((false,eval e X.env)::backTo pos (starEach es X.env))) _ _ s
 refine Calls.spliced_cons (thn (ha pins s σ H _ I h) fun u s1 i=>?_)
 obtain⟨x,H1,R,j,G⟩:=i
 exact thn (N pos pins s1 σ H1 _ R G) fun us s2 ⟨xs,H2,O,r2,z⟩=>⟨x::xs,H2,O,.cons j r2,z⟩
def tTup (t:TA):TE:=fun σ H Q=>t σ H fun xs H1=>xs.length<=sizeLine/\∀ p,H1 p=none->Q (.ref p) (upd H1 p (.tup xs))
def tLst (t:TA):TE:=fun σ H Q=>t σ H fun xs H1=>xs.length<=sizeLine/\∀ p,H1 p=none->Q (.ref p) (upd H1 p (.lst xs))
theorem yv7 {j}(h:PA X es t):PE X (.Tuple es j pos) (tTup t):=by
 intro pins s σ H Q I G
 refine wpAny_Tuple_spliced (thn (h pos pins s σ H _ I G) fun us s1 ⟨xs,H1,i,r,z,q⟩=>⟨by rw[<-r.length];exact z,?_⟩)
 have N:H1 s1.heap.objs.size=none:=i.hok.fresh (Nat.le_refl _)
 refine⟨.ref s1.heap.objs.size,upd H1 s1.heap.objs.size (.tup xs),i.laid (t':=s1.toks) (fun b u e=>Heap.get?_push_of_some _ e) (Nat.le_refl _) ?_,rfl,q _ N⟩
 exact⟨z,us,r,⟨_,Heap.get?_push_size _ rfl,rfl,_,rfl⟩⟩
theorem yc5 (h:PA X es t):PE X (.List es pos) (tLst t):=by
 intro pins s σ H Q I j
 refine wpAny_List_spliced (thn (h pos pins s σ H _ I j) fun us s1 ⟨xs,H1,i,r,z,q⟩=>⟨by rw[<-r.length];exact z,?_⟩)
 have G:H1 s1.heap.objs.size=none:=i.hok.fresh (Nat.le_refl _)
 refine⟨.ref s1.heap.objs.size,upd H1 s1.heap.objs.size (.lst xs),i.laid (t':=s1.toks) (fun b u e=>Heap.get?_push_of_some _ e) (Nat.le_refl _) ?_,rfl,q _ G⟩
 exact⟨z,us,0,r,Heap.get?_push_size _ rfl⟩
end
noncomputable abbrev Sp:=List V->Hp->VK->XK->Prop
noncomputable abbrev CXT:=List Env->Hp->Shared->XK->Value->Shared->Prop
structure Env0 (P:Program)(w:World)(K:W.Frag)(mg:Str->Option Value)(base:Heap)(A:Around)(outer:List Env)(s:Shared)(H:Hp):Prop where
 frames:A.frames=some outer
 mod:Mod K mg base
 bs:∀ b o,base.get? b=some o->s.heap.get? b=some o/\H b=none
 bsz:base.objs.size<=s.heap.objs.size
 funs:s.heap.FunFrames base outer
 frf:∀ b∈frs outer,H b=none
 hok:HOk P w H s.heap
 bare:AllBare s.gens
def CE (outer:List Env)(P:Program)(w:World)(H:Hp)(s:Shared)(Q:VK)(u:Value)(s':Shared):Prop:=
 ∃ v H',s'.os=s.os/\AllBare s'.gens/\Un (frs outer) [] H H' s.heap s'.heap/\HOk P w H' s'.heap/\RelV v u/\Q v H'
def CR (CX:CXT)(outer:List Env)(P:Program)(w:World)(H:Hp)(s:Shared)(Q:VK)(E:XK)(r:Result)(s':Shared):Prop:=
 match r with
 | .ok (.ret u)=>CE outer P w H s Q u s'
 | .ok _=>False
 | .error e=>CX outer H s E e s'
structure FnOk (P:Program)(w:World)(K:W.Frag)(mg:Str->Option Value)(base:Heap)(CX:CXT)(k:Nat)(f:Addr)(fd:FuncData)(ps:List Str)(sp:Sp):Prop where
 len:∀ vs H Q E,sp vs H Q E->vs.length=ps.length
 run:∀(A:Around)(outer:List Env)(s:Shared)(H:Hp)(args:Args)(us:List Value)(vs:List V)(Q:VK)(E:XK),Room k A->Env0 P w K mg base A outer s H->BindsTo s fd args (ps.zip us)->Vals vs us->sp vs H Q E->
  codeAny (model P w) A (.call (.ref f) args) (CR CX outer P w H s Q E) s
theorem FnOk.mono {P:Program}{w:World}{K:W.Frag}{mg:Str->Option Value}{base:Heap}{CX:CXT}{j k:Nat}{f:Addr}{fd:FuncData}{ps:List Str}{sp:Sp}(F:FnOk P w K mg base CX j f fd ps sp)(h:j<=k):
  FnOk P w K mg base CX k f fd ps sp:=⟨F.len,fun A outer s H args us vs Q E i=>F.run A outer s H args us vs Q E (i.mono h)⟩
theorem FnOk.imp {P:Program}{w:World}{K:W.Frag}{mg:Str->Option Value}{base:Heap}{CX:CXT}{k:Nat}{f:Addr}{fd:FuncData}{ps:List Str}{sp i:Sp}(F:FnOk P w K mg base CX k f fd ps sp)
  (h:∀ vs H Q E,i vs H Q E->sp vs H Q E):FnOk P w K mg base CX k f fd ps i:=
 ⟨fun vs H Q E q=>F.len vs H Q E (h _ _ _ _ q),fun A outer s H args us vs Q E z G I j hs=>F.run A outer s H args us vs Q E z G I j (h _ _ _ _ hs)⟩
theorem Env0.in1 {P:Program}{w:World}{K:W.Frag}{mg:Str->Option Value}{base:Heap}{A:Around}{outer:List Env}{s:Shared}{H:Hp}(e:Env0 P w K mg base A outer s H):
  Env0 P w K mg base A.in1 outer s H:=⟨e.frames,e.mod,e.bs,e.bsz,e.funs,e.frf,e.hok,e.bare⟩
section
variable {X:Cx}{pins:List (Addr×Obj)}{σ:St}{H:Hp}{s s':Shared}
theorem Inv.env0 (I:Inv X pins σ H s):Env0 X.prog X.w X.K X.mg X.base X.A X.stack s H:=
 ⟨I.ok.frames,I.ok.mod,I.bs,Nat.le_trans I.ok.bsz I.sz,I.stack,I.stkFree,I.hok,I.bare⟩
theorem Inv.after {Q:VK}{u:Value}(I:Inv X pins σ H s)(h:CE X.stack X.prog X.w H s Q u s'):EP X pins σ Q u s':=by
 obtain⟨v,H',os,bare,un,hok,r,q⟩:=h
 obtain⟨hh,g,d,t,i⟩:=s'
 obtain rfl:i=s.os:=os
 exact⟨v,H',I.call (h':=hh) (g':=g) (d':=d) (t':=t) (ch:=[]) un hok bare (fun b z=>absurd z (by simp)),r,q⟩
end
def zr4 (sp:Sp)(dvs:List V)(E:XK)(t:TA):TE:=fun σ H Q=>t σ H fun vs H1=>sp (vs++dvs) H1 Q E
def Binds (K:W.Frag)(fd:FuncData)(ps:List Str)(ds:List Value):Prop:=
 ∀(s:Shared)(us:List Value),K.In s.heap->(us++ds).length=ps.length->BindsTo s fd ⟨us,[]⟩ (ps.zip (us++ds))
theorem Binds.all {K:W.Frag}{fd:FuncData}{ps:List Str}(h:∀ us:List Value,us.length=ps.length->bindArgs fd ⟨us,[]⟩=pure (ps.zip us)):Binds K fd ps []:=fun s us _ hl=>by
 rw[append_nil]at hl ⊢
 exact .of_eq (h us hl)
def ym4 (CX:CXT)(X:Cx)(E:XK):Prop:=∀(pins:List (Addr×Obj))(σ:St)(H:Hp)(s:Shared)(e:Value)(s':Shared),Inv X pins σ H s->CX X.stack H s E e s'->X.xe e s'
section
variable {X:Cx}{CX:CXT}{k:Nat}{f C:Addr}{fd:FuncData}{ps:List Str}{sp:Sp}{dvs:List V}{ds:List Value}{E:XK}{x m:Str}{p pos apos:Pos}{e o:Expr}{es:List Expr}{ta:TE}{t:TA}
theorem xo9 {pins:List (Addr×Obj)}{σ:St}{H:Hp}{s:Shared}{Q:VK}{us:List Value}{vs:List V}(F:FnOk X.prog X.w X.K X.mg X.base CX k f fd ps sp)(z:Room k X.A)(G:Binds X.K fd ps ds)(hd:Vals dvs ds)(j:ym4 CX X E)
  (I:Inv X pins σ H s) (r:Vals vs us) (h:sp (vs++dvs) H Q E):wpAny (model X.prog X.w) X.A (call (.ref f) us) (EP X pins σ Q) X.xe s:=by
 have r2:Vals (vs++dvs) (us++ds):=r.append hd
 have hl:(us++ds).length=ps.length:=by rw[<-r2.length];exact F.len _ _ _ _ h
 refine wpAny_call (codeAny_mono (F.run X.A X.stack s H ⟨us,[]⟩ (us++ds) (vs++dvs) Q E z I.env0 (G s us I.kIn hl) r2 h) fun r s' i=>?_)
 cases r with
 |error e=>exact j pins σ H s e s' I i
 |ok fl=>
  cases fl with
  |ret u=>exact I.after i
  |next=>exact False.elim i
  |brk=>exact False.elim i
  |cont=>exact False.elim i
theorem u0 (F:FnOk X.prog X.w X.K X.mg X.base CX k f fd ps sp)(N:Room k X.A)(R:Gl X x)(hm:X.mg x=some (.ref f))(O:W.keepIn X.K (.ref f)=true)(Y:Binds X.K fd ps ds)(hd:Vals dvs ds)(G:ym4 CX X E)
  (ha:PA X (e::es) t) (j:(x==("__debug__":Str))=false:=by decide) (U:starEach (e::es) X.env=(false,eval e X.env)::starEach es X.env:=by rfl) (i:(backTo pos (starEach es X.env)).any (·.1)=false:=by rfl):
  PE X (.Call (.Name x p) (e::es) [] pos) (zr4 sp dvs E t):=by
 intro pins s σ H Q I h
 refine wpAny_Call_Name_kw (P1 I R hm ?_ j)
 refine W.callWith_K (h₀:=X.base) I.ok.mod.kin O (thn (ha pos pins s σ H _ I h) fun us s1 ⟨vs,H1,z,r,q⟩=>⟨z.kIn,?_⟩) U i
 exact xo9 F N Y hd G z r q
structure Mk (K:W.Frag)(C f:Addr):Prop where
 makes:W.makesIn K C=true
 init:W.findIn K (.ref C) "__init__"=some (some (.ref f))
 fn:W.isFn K (.ref f)=true
 kp:W.keepIn K (.ref C)=true
end
def PK (X:Cx)(kws:List Keyword)(t:TA):Prop:=
 ∀(pos:Pos)(pins:List (Addr×Obj))(s:Shared)(σ:St)(H:Hp)(Q:List V->Hp->Prop),Inv X pins σ H s->t σ H Q->wpAny (model X.prog X.w) X.A (evalAll ((backToKw pos (keywordEach kws X.env)).map (·.2))) (AP X pins σ Q) X.xe s
section
variable {X:Cx}{CX:CXT}{k:Nat}{f C:Addr}{fd:FuncData}{ps ks:List Str}{sp:Sp}{E:XK}{x m:Str}{p pos apos kpos:Pos}{e o:Expr}{es:List Expr}{kws:List Keyword}{te ta:TE}{t tk:TA}{nm:Option Str}
theorem yc4:PK X [] tNil:=fun _ _ _ _ H Q I h=>wpAny_evalAll_nil ⟨[],H,I,.nil,h⟩
theorem yv2 (ha:PE X e te)(G:PK X kws t):PK X (⟨nm,e,kpos⟩::kws) (yk4 te t):=by
 intro pos pins s σ H Q I h
 show wpAny _ _ (evalAll ((do let v ← eval e X.env;standAt pos;pure v)::(backToKw pos (keywordEach kws X.env)).map (·.2))) _ _ s
 refine wpAny_evalAll_cons (wpAny_bind (thn (ha pins s σ H _ I h) fun u s1 ⟨x,H1,O,i,z⟩=>wpAny_bind (wpAny_standAt (wpAny_pure ?_))))
 exact thn (G pos pins s1 σ H1 _ O z) fun us s2 ⟨xs,H2,N,r2,j⟩=>⟨x::xs,H2,N,.cons i r2,j⟩
structure KBinds (K:W.Frag)(fd:FuncData)(ps ks:List Str)(g:List Value->List Value->List Value)(gV:List V->List V->List V):Prop where
 to:∀(s:Shared)(us ws:List Value),K.In s.heap->(g us ws).length=ps.length->BindsTo s fd ⟨us,ks.zip ws⟩ (ps.zip (g us ws))
 rel:∀{vs:List V}{us:List Value}{zs:List V}{ws:List Value},Vals vs us->Vals zs ws->Vals (gV vs zs) (g us ws)
variable {g:List Value->List Value->List Value}{gV:List V->List V->List V}
end
structure FnScope (N P:List Str)(sc:Scope):Prop where
 kind:sc.kind= .function
 co:sc.isCoroutine=false
 gen:sc.isGenerator=false
 nd:N.Nodup
 pre:N.take P.length=P
 par:∀ x∈P,sc.names.lookup x=some .local\/sc.names.lookup x=some .cell
 nofree:∀ y∈sc.names,y.2≠ .free
theorem zm1 {kindOf:Str->Option NameKind}{x:Str}:∀{binds:List (Str×Value)}{m:Str->Option Value},(∀ v,(x,v)∉binds)->bindL kindOf binds m x=m x
 |[],_,_=>rfl
 | (n,v)::r,m,h=>by
  unfold bindL
  rw[zm1 fun w hw=>h w (mem_cons_of_mem _ hw)]
  split
  .have:x≠n:=by rintro rfl;exact h v mem_cons_self
   simp[this]
  .rfl
theorem zm3 {kindOf:Str->Option NameKind}{x:Str}:∀{binds:List (Str×Value)}{m:Str->Option Value},(∀ v,(x,v)∉binds)->bindC kindOf binds m x=m x
 |[],_,_=>rfl
 | (n,v)::r,m,h=>by
  unfold bindC
  rw[zm3 fun w hw=>h w (mem_cons_of_mem _ hw)]
  split
  .rfl
  .have:x≠n:=by rintro rfl;exact h v mem_cons_self
   simp[this]
theorem zm2 {kindOf:Str->Option NameKind}{x:Str}{v:Value}:∀{P:List Str}{vs:List Value}{i:Nat}{m:Str->Option Value},P.Nodup->P[i]? =some x->vs[i]? =some v->kindOf x=some .local->
  bindL kindOf (P.zip vs) m x=some v
 |[],_,_,_,_,h,_,_=>by simp at h
 |_::_,[],_,_,_,_,h,_=>by simp at h
 |p::P,w::vs,0,m,nd,h1,h2,hk=>by
  simp at h1 h2;subst h1;subst h2
  show bindL kindOf ((p,w)::P.zip vs) m p=_
  unfold bindL
  rw[zm1 fun v j=>(List.nodup_cons.mp nd).1 (of_mem_zip j).1,if_pos hk]
  simp
 |p::P,w::vs,i+1,m,nd,h1,h2,hk=>by
  show bindL kindOf ((p,w)::P.zip vs) m x=_
  unfold bindL
  exact zm2 (i:=i) (List.nodup_cons.mp nd).2 (by simpa using h1) (by simpa using h2) hk
theorem zm4 {kindOf:Str->Option NameKind}{x:Str}{v:Value}:∀{P:List Str}{vs:List Value}{i:Nat}{m:Str->Option Value},P.Nodup->P[i]? =some x->vs[i]? =some v->kindOf x≠some .local->
  bindC kindOf (P.zip vs) m x=some v
 |[],_,_,_,_,h,_,_=>by simp at h
 |_::_,[],_,_,_,_,h,_=>by simp at h
 |p::P,w::vs,0,m,nd,h1,h2,hk=>by
  simp at h1 h2;subst h1;subst h2
  show bindC kindOf ((p,w)::P.zip vs) m p=_
  unfold bindC
  rw[zm3 fun v j=>(List.nodup_cons.mp nd).1 (of_mem_zip j).1,if_neg hk]
  simp
 |p::P,w::vs,i+1,m,nd,h1,h2,hk=>by
  show bindC kindOf ((p,w)::P.zip vs) m x=_
  unfold bindC
  exact zm4 (i:=i) (List.nodup_cons.mp nd).2 (by simpa using h1) (by simpa using h2) hk
noncomputable def start (N:List Str)(vs:List V):St:=vs.map some++List.replicate (N.length-vs.length) none
noncomputable def cxOf (CX:CXT)(P:Program)(w:World)(K:W.Frag)(mg:Str->Option Value)(base:Heap)(N:List Str)(qual:Str)(scope:Scope)(f:Addr)(cd:Value)(A:Around)(outer:List Env)(s:Shared)(H:Hp)(E:XK):Cx where
 prog:=P
 w:=w
 K:=K
 mg:=mg
 base:=base
 A:=A.deeper (envOfC qual scope s.heap.objs.size f cd)
 N:=N
 s₀:=s
 H₀:=H
 env:=envOfC qual scope s.heap.objs.size f cd
 outer:=outer
 stack:=envOfC qual scope s.heap.objs.size f cd::outer
 ex:=[]
 calm:=true
 fn:=fun _=>true
 pn:=[]
 xe:=fun e s'=>wpAny (model P w) (A.deeper (envOfC qual scope s.heap.objs.size f cd)) (leaving (envOfC qual scope s.heap.objs.size f cd) e) (fun _ s''=>CX outer H s E e s'') (fun e' s''=>CX outer H s E e' s'') s'
theorem zd3 {sc:Scope}{n:Nat}{x:Str}(h:sc.names.lookup x=some .cell):∃ c,(cellsFrom n sc.names []).lookup x=some c:=by
 have q:=W.cellsFrom_some sc.names n [] (.inl h)
 exact Option.isSome_iff_exists.mp q
theorem yq8 {CX:CXT}{P:Program}{w:World}{K:W.Frag}{mg:Str->Option Value}{base:Heap}{N ps:List Str}{qual:Str}{scope:Scope}{f:Addr}{R:Value}{A:Around}{outer:List Env}{s s1:Shared}{H:Hp}{E:XK}{us:List Value}{vs:List V}
  (S:FnScope N ps scope) (hd:A.handled=none) (j:Env0 P w K mg base A outer s H) (hl:vs.length=ps.length) (r:Vals vs us)
  (x:InCallC s s.heap.objs.size (bindL (envOfC qual scope s.heap.objs.size f R).kindOf (ps.zip us) fun _=>none) (cellsFrom (s.heap.objs.size+1) scope.names []) (bindC (envOfC qual scope s.heap.objs.size f R).kindOf (ps.zip us) fun _=>none) s1):
  Inv (cxOf CX P w K mg base N qual scope f R A outer s H E) [] (start N vs) H s1:=by
 have a1:ps.length<=N.length:=by have:=congrArg List.length S.pre;rw[length_take]at this;omega
 obtain⟨h1,tk,rfl,Y⟩:=x.done
 have G:∀ b:Addr,b∉(cxOf CX P w K mg base N qual scope f R A outer s H E).ex:=fun b z=>absurd (show b∈([]:List Addr)from z) (by simp)
 refine⟨⟨j.mod,S.kind,rfl,rfl,Nat.le_refl _,fun y z c h1 h2=>?_,fun y I=>?_,fun y c _ h=>?_,fun _=>hd,Around.frames_deeper j.frames,.inr ⟨rfl,rfl⟩,fun b z=>absurd z (G b),j.bs,j.bsz,fun b _ _=>G b,fun b z=>absurd z (G b),j.funs,j.frf⟩,
  rfl,j.bare,Un.kept Y,⟨_,x.toInCall.ns,fun i y v h1 h2 h3=>?_⟩,fun y c h=>⟨_,x.cell y c h⟩,j.hok.fresh (Nat.le_refl _),fun y c h=>?_,fun p hp=>absurd (show p∈([]:List (Addr×Obj))from hp) (by simp),j.hok.kept Y,?_⟩
 .exact name_of_addr x.apart (PySem.mem_of_lookup h1) (PySem.mem_of_lookup h2)
 .have I:scope.names.lookup y=some .cell\/scope.names.lookup y=some .free:=I
  rcases I with I|I
  .exact zd3 I
  .exact absurd rfl (S.nofree _ (PySem.mem_of_lookup I))
 .exact Nat.le_of_lt (x.above y c (PySem.mem_of_lookup h))
 .have hi:i<vs.length:=by
   unfold start at h2
   by_cases hi:i<vs.length
   .exact hi
   .rw[getElem?_append_right (by simpa using hi)]at h2
    rw[getElem?_replicate]at h2
    split at h2 <;> cases h2
  have ha:vs[i]? =some v:=by
   unfold start at h2
   rw[getElem?_append_left (by simpa using hi),getElem?_map]at h2
   cases e:vs[i]? with
   |none=>rw[e]at h2;cases h2
   |some a=>rw[e]at h2;cases h2;rfl
  obtain⟨u,U,Z⟩:=r.get ha
  have hp:ps[i]? =some y:=by
   rw[<-S.pre,getElem?_take_of_lt (by omega)];exact h1
  have O:ps.Nodup:=by rw[<-S.pre];exact S.nd.sublist (take_sublist _ _)
  refine⟨u,Z,?_⟩
  rcases S.par y (mem_of_getElem? hp)with k|k
  .exact .inl ⟨k,zm2 O hp U k⟩
  .obtain⟨c,e⟩:=zd3 (n:=s.heap.objs.size+1) k
   refine .inr ⟨.inl k,c,e,?_⟩
   have q:=x.cell y c e
   rw[zm4 O hp U (by show scope.names.lookup y≠_;rw[k];decide)]at q
   exact q
 .exact j.hok.fresh (Nat.le_of_lt (x.above y c (PySem.mem_of_lookup h)))
 .unfold start
  show _=N.length
  rw[length_append,length_map,length_replicate]
  omega
theorem ye2 {CX:CXT}{P:Program}{w:World}{K:W.Frag}{mg:Str->Option Value}{base:Heap}{k:Nat}{f:Addr}{name qual:Str}{params:Arguments}{body:List Stmt}{scope:Scope}{dV kV doc pm cdv ct oc:Value}{an od:Option Addr}
  {osl:Array (Option Value)} {N ps:List Str} {sp:Sp} (lk:K.lookup f=some ⟨oc,od,.func (W.fnOf name qual params body scope dV kV doc pm an cdv ct),osl⟩) (Z:W.codeIn K cdv qual=true) (S:FnScope N ps scope)
  (len:∀ vs H Q E,sp vs H Q E->vs.length=ps.length)
  (z:∀(A:Around)(outer:List Env)(s:Shared)(H:Hp)(vs:List V)(Q:VK)(E:XK),Room k (A.deeper (envOfC qual scope s.heap.objs.size f cdv))->sp vs H Q E->
   ∃ t,PSs (cxOf CX P w K mg base N qual scope f cdv A outer s H E) body t/\t { nx:=fun _ H'=>Q .non H',rt:=Q } (start N vs) H):
  FnOk P w K mg base CX (k+1) f (W.fnOf name qual params body scope dV kV doc pm an cdv ct) ps sp:=by
 refine⟨len,fun A outer s H args us vs Q E Y O hb r G=>?_⟩
 have hl:=len _ _ _ _ G
 have KX:K.In s.heap:=O.mod.kin.keeps fun b o e=>(O.bs b o e).1
 have U:s.heap.NoLimit:=O.mod.nolimit.keeps fun b o e=>(O.bs b o e).1
 have j:∀ y∈ps.zip us,scope.names.lookup y.1=some .local\/(scope.names.lookup y.1=some .cell/\((cellsFrom (s.heap.objs.size+1) scope.names []).lookup y.1).isSome=true):=fun⟨n,v⟩ hy=>by
  rcases S.par n (of_mem_zip hy).1 with q|q
  .exact .inl q
  .exact .inr ⟨q,W.cellsFrom_some _ _ _ (.inl q)⟩
 refine codeAny_call_function Y.depth (KX _ _ lk) rfl S.co S.gen rfl (W.codeRec_of KX Z) (hb _ _ _ _ ?_)
 refine wpAny_newFunctionEnv_cells S.kind j fun env he s1 x=>?_
 subst he
 refine⟨U.keeps x.toInCall.keep,codeAny_func ?_⟩
 obtain⟨t,ht,hq⟩:=z A outer s H vs Q E (Y.deeper _) G
 have I:Inv (cxOf CX P w K mg base N qual scope f cdv A outer s H E) [] (start N vs) H s1:=yq8 S Y.hd O hl r x
 refine wpAny_mono (ht [] s1 (start N vs) H _ I hq) (fun fl s' hs=>?_) fun e s' hs=>hs
 have fin:∀{i:St}{H':Hp}{v:V}{u:Value},Inv (cxOf CX P w K mg base N qual scope f cdv A outer s H E) [] i H' s'->RelV v u->Q v H'->CE outer P w H s Q u s':=
  fun{i H' v u} J R q=>⟨v,H',J.os,J.bare,J.base,J.hok,R,q⟩
 cases fl with
 |ret u=>
  obtain⟨v,i,H',J,R,q⟩:=hs
  exact fin J R q
 |next=>
  obtain⟨i,H',J,q⟩:=hs
  exact fin (v:=V.non) (u:=Value.none) J rfl q
 |brk=>
  obtain⟨_,_,_,q⟩:=hs
  exact False.elim q
 |cont=>
  obtain⟨_,_,_,q⟩:=hs
  exact False.elim q
end
section
section
variable {X:Cx}{x:Str}{p pos:Pos}{e:Expr}{es:List Expr}{t:TA}{id T:String}{r:List V->Hp->VK->Prop}
def tCB (r:List V->Hp->VK->Prop)(t:TA):TE:=fun σ H Q=>t σ H fun vs H1=>r vs H1 Q
theorem e7 (U:CallR X (.builtin id) r)(O:Gl X x)(hm:X.mg x=none)(N:bootBuiltins x=some (.builtin id))(ha:PA X (e::es) t)(hn:x≠"__name__":=by decide)(j:(x==("__debug__":Str))=false:=by decide)
  (R:starEach (e::es) X.env=(false,eval e X.env)::starEach es X.env:=by rfl) (i:(backTo pos (starEach es X.env)).any (·.1)=false:=by rfl):PE X (.Call (.Name x p) (e::es) [] pos) (tCB r t):=by
 intro pins s σ H Q I h
 refine wpAny_Call_Name_kw (L9 I O hm N ?_ hn j)
 exact PyProof.Rows.callWith_builtin1 (thn (ha pos pins s σ H _ I h) fun us s1 ⟨vs,H1,Y,z,G⟩=>U pins s1 σ H1 vs us Q Y z G) R i
theorem E9 (U:CallR X (.type T) r)(O:Gl X x)(hm:X.mg x=none)(N:bootBuiltins x=some (.type T))(ha:PA X (e::es) t)(hn:x≠"__name__":=by decide)(j:(x==("__debug__":Str))=false:=by decide)
  (R:starEach (e::es) X.env=(false,eval e X.env)::starEach es X.env:=by rfl) (i:(backTo pos (starEach es X.env)).any (·.1)=false:=by rfl):PE X (.Call (.Name x p) (e::es) [] pos) (tCB r t):=by
 intro pins s σ H Q I h
 refine wpAny_Call_Name_kw (L9 I O hm N ?_ hn j)
 exact PyProof.Rows.callWith_type1 (thn (ha pos pins s σ H _ I h) fun us s1 ⟨vs,H1,Y,z,G⟩=>U pins s1 σ H1 vs us Q Y z G) R i
end
end
end L2
namespace HT
open PySem PyProof.Rows
theorem rcLt_int (A:Around)(s:Shared)(a:Int)(t:Tok)(c:Int)(u:Tok)(prog:Program)(w:World)(E:Value->Shared->Prop)(Q:Value->Shared->Prop)(h:Q (.bool (decide (a<c))) s):
  wpAny (model prog w) A (richCompare .Lt (.int a t) (.int c u)) Q E s:=
 (PyProof.Rows.lt_int h:wpAny (model prog w) A (compareOp .Lt (.int a t) (.int c u)) Q E s)
section
open PySem.SeqAt
open PySem.AutoSeq1 (wpAny_loadPart')
open PySem.MeetsSeq PySem.MeetsSeq2 PySem.MeetsSeq3
end
section
variable {prog:Program}{w:World}{A:Around}{E:Value->Shared->Prop}{s:Shared}
noncomputable def sIx (n d:Nat):Option Int->Nat
 |none=>d
 |some v=>if v<0 then (v+(n:Int)).toNat else min v.toNat n
theorem sIx_none (n d:Nat):sIx n d none=d:=rfl
theorem sIx_nat (n d k:Nat):sIx n d (some (k:Int))=min k n:=by
 show (if (k:Int)<0 then ((k:Int)+(n:Int)).toNat else min (k:Int).toNat n)=min k n
 rw[if_neg (by omega),Int.toNat_natCast]
end
end HT
namespace L2
open List
open PySem PySem.Spec PyProof.Rows
section
noncomputable abbrev TO:=St->Hp->(Option Int->Hp->Prop)->Prop
def PO (X:Cx)(e:Option Expr)(t:TO):Prop:=
 ∀(pins:List (Addr×Obj))(s:Shared)(σ:St)(H:Hp)(Q:Option Int->Hp->Prop),Inv X pins σ H s->t σ H Q->
  wpAny (model X.prog X.w) X.A (evalPart e X.env) (fun u s'=>∃ o H',Inv X pins σ H' s'/\IsPart u o/\Q o H') X.xe s
noncomputable def xz0:TO:=fun _ H Q=>Q none H
noncomputable def xe1 (t:TE):TO:=fun σ H Q=>t σ H fun x H1=>∃ i,x= .int i/\Q (some i) H1
section
variable {X:Cx}{e:Expr}{te:TE}{lo hi:Option Expr}{tl th:TO}{pos p2:Pos}
theorem xx1:PO X none xz0:=by
 intro pins s σ H Q I h
 rw[evalPart_none]
 exact wpAny_pure ⟨none,H,I,.none,h⟩
theorem xx0 (h:PE X e te):PO X (some e) (xe1 te):=by
 intro pins s σ H Q I hw
 rw[evalPart_some]
 refine thn (h pins s σ H _ I hw) fun u s1 j=>?_
 obtain⟨x,H1,N,z,G⟩:=j
 obtain⟨i,rfl,q⟩:=G
 obtain⟨t,rfl⟩:=z
 exact⟨some i,H1,N,.int i t,q⟩
def SlR (X:Cx)(r:V->Option Int->Option Int->Hp->VK->Prop):Prop:=
 ∀(pins:List (Addr×Obj))(s:Shared)(σ:St)(H:Hp)(x:V)(v vl vu:Value)(lo hi:Option Int)(sl:Addr)(Q:VK),Inv X pins σ H s->RelV x v->s.heap.IsSliceOf sl vl vu .none->IsPart vl lo->IsPart vu hi->r x lo hi H Q->
  ∃ T id,typeLookup (.type T) "__getitem__"=pure (some (.builtin id))/\s.TypeIs v T/\wpAny (model X.prog X.w) X.A (getItem v (.ref sl)) (EP X pins σ Q) X.xe s
def tSl (r:V->Option Int->Option Int->Hp->VK->Prop)(te:TE)(tl th:TO):TE:=fun σ H Q=>te σ H fun x H1=>tl σ H1 fun l H2=>th σ H2 fun u H3=>r x l u H3 Q
theorem zf1 {r:V->Option Int->Option Int->Hp->VK->Prop}(hr:SlR X r)(he:PE X e te)(hl:PO X lo tl)(hu:PO X hi th):PE X (.Subscript e (.Slice lo hi none p2) pos) (tSl r te tl th):=by
 intro pins s σ H Q I h
 refine Subscript_ (thn (he pins s σ H _ I h) fun v s1 i=>?_)
 obtain⟨x,H1,I1,O,Y⟩:=i
 refine wpAny_Slice (thn (hl pins s1 σ H1 _ I1 Y) fun G s2 ⟨l,H2,I2,pl,U⟩=>thn (hu pins s2 σ H2 _ I2 U) fun z j i=>?_)
 obtain⟨u,N,I3,Z,R⟩:=i
 rw[evalPart_none]
 refine wpAny_pure ?_
 have I4:Inv X pins σ N { j with heap:=j.heap.push { cls:=.type "slice",data:=.fields #[G,z,.none] } }:=I3.kept (t':=j.toks) fun b ob q=>Heap.get?_push_of_some _ q
 obtain⟨T,id,hT,ht,hg⟩:=hr pins { j with heap:=j.heap.push { cls:=.type "slice",data:=.fields #[G,z,.none] } } σ N x v G z l u j.heap.objs.size Q I4 O (Heap.IsSliceOf.new ..) pl Z R
 show wpAny (model X.prog X.w) X.A (subscriptTail e (.Slice lo hi none p2) v (.ref j.heap.objs.size)) (EP X pins σ Q) X.xe { j with heap:=j.heap.push { cls:=.type "slice",data:=.fields #[G,z,.none] } }
 exact tail_any (ops:=[.ref j.heap.objs.size,v]) ht hT hg (by with_unfolding_all rfl)
noncomputable def cutV (xs:List V)(lo hi:Option Int):List V:=(xs.drop (HT.sIx xs.length 0 lo)).take (HT.sIx xs.length xs.length hi-HT.sIx xs.length 0 lo)
theorem zh3 (xs:List V)(lo hi:Option Int):(cutV xs lo hi).length<=xs.length:=by
 unfold cutV
 rw[length_take,length_drop]
 omega
end
end
section
noncomputable def ixN (n:Nat)(i:Int):Option Nat:=if 0<=i then (if i<n then some i.toNat else none)else if -(n:Int)<=i then some (i+n).toNat else none
noncomputable def atI {α:Type}(xs:List α)(i:Int):Option α:=(ixN xs.length i).bind fun j=>xs[j]?
theorem yq4 {n:Nat}{i:Int}{j:Nat}(h:ixN n i=some j):seqIndex? i n=some j/\j<n/\ -(n:Int)<=i/\i<n:=by
 unfold ixN at h
 by_cases z:0<=i
 .rw[if_pos z]at h
  by_cases h1:i<n
  .rw[if_pos h1]at h
   have e:i.toNat=j:=Option.some.inj h
   exact⟨by rw[seqIndex_of z h1,e],by omega,by omega,h1⟩
  .rw[if_neg h1]at h;cases h
 .rw[if_neg z]at h
  by_cases h1:-(n:Int)<=i
  .rw[if_pos h1]at h
   have e:(i+n).toNat=j:=Option.some.inj h
   exact⟨by rw[seqIndex_neg (by omega) h1,e],by omega,h1,by omega⟩
  .rw[if_neg h1]at h;cases h
theorem zh8 {z:Type}{xs:List z}{i:Int}{v:z}(h:atI xs i=some v):∃ j,seqIndex? i xs.length=some j/\xs[j]? =some v/\j<xs.length/\ -(xs.length:Int)<=i/\i<xs.length:=by
 unfold atI at h
 cases e:ixN xs.length i with
 |none=>rw[e]at h;cases h
 |some j=>
  rw[e]at h
  obtain⟨h1,h2,I,G⟩:=yq4 e
  exact⟨j,h1,h,h2,I,G⟩
def A8 (b:Expr):Prop:=∀ o i,subscripted b false o i=operate [o,i] (getItem o i)
def IxR (X:Cx)(r:R2):Prop:=
 ∀(value slice:Expr)(pins:List (Addr×Obj))(s:Shared)(σ:St)(H:Hp)(x y:V)(v u:Value)(Q:VK),Inv X pins σ H s->RelV x v->RelV y u->r x y H Q->
  subscripted slice false v u=operate [v,u] (getItem v u)->wpAny (model X.prog X.w) X.A (subscriptTail value slice v u) (EP X pins σ Q) X.xe s
def MtR (X:Cx)(id:String)(r:V->List V->Hp->VK->Prop):Prop:=
 ∀(pins:List (Addr×Obj))(s:Shared)(σ:St)(H:Hp)(x:V)(xs:List V)(v:Value)(us:List Value)(Q:VK),Inv X pins σ H s->RelV x v->Vals xs us->r x xs H Q->
  wpAny (model X.prog X.w) X.A (call (.builtin id) (v::us)) (EP X pins σ Q) X.xe s
section
variable {X:Cx}{a b:Expr}{ta tb:TE}{pos:Pos}
theorem IxR.or {r z:R2}(h:IxR X r)(h':IxR X z):IxR X (fun x y H Q=>r x y H Q\/z x y H Q):=by
 intro value i pins s σ H x y v u Q I rx j q hs
 rcases q with q|q
 .exact h value i pins s σ H x y v u Q I rx j q hs
 .exact h' value i pins s σ H x y v u Q I rx j q hs
theorem K7 {r:R2}(j:IxR X r)(ha:PE X a ta)(z:PE X b tb)(hs:A8 b):PE X (.Subscript a b pos) (tOp r ta tb):=by
 intro pins s σ H Q I h
 exact Subscript_ (binT ha z I h fun v u s2 x y H2 G rx i q=>j a b pins s2 σ H2 x y v u Q G rx i q (hs _ _))
def rIxL (K:W.Frag):R2:=fun x y H Q=>∃ p xs i v,x= .ref p/\y= .int i/\SqL K H p xs/\atI xs i=some v/\Q v H
def rIxT (K:W.Frag):R2:=fun x y H Q=>∃ p xs i v,x= .ref p/\y= .int i/\SqT K H p xs/\atI xs i=some v/\Q v H
def rIxS:R2:=fun x y H Q=>∃ z i c,x= .str z/\y= .int i/\z.length<=sizeLine/\atI z.cps.toList i=some c/\Q (.str ⟨#[c]⟩) H
theorem V1:IxR X (rIxL X.K):=by
 intro value G pins s σ H x y v u Q I rx U h hs
 obtain⟨p,xs,i,z,rfl,rfl,Y,Z,q⟩:=h
 cases rx
 obtain⟨t,rfl⟩:=U
 obtain⟨its,r,pl,hz⟩:=I.list Y
 obtain⟨j,h1,h2,h3,h4,h5⟩:=zh8 Z
 obtain⟨w,R,N⟩:=r.get h2
 have hl:=r.length
 have hn:=C7
 have fin:EP X pins σ Q w s:=⟨z,H,I,N,q⟩
 by_cases O:0<=i
 .have hj:i.toNat=j:=by
   rw[seqIndex_of O h5]at h1
   exact Option.some.inj h1
  exact item_listR pl.isList O (by omega) (by rw[hj];simpa using R) fin hs
 .have hj:(i+(its.toArray.size:Int)).toNat=j:=by
   rw[seqIndex_neg (by omega) h4]at h1
   rw[size_toArray,<-hl]
   exact Option.some.inj h1
  exact subscriptTail_builtinR (x:=w) pl.isList.typeIs slot_list_getitem.lookup
   (wpAny_getItem_list_neg (Q:=fun r s'=>r=w/\EP X pins σ Q r s') pl.isList (by omega) (by rw[size_toArray] <;> omega) (by omega) (by rw[hj];simpa using R) ⟨rfl,fin⟩) hs
theorem yb4:IxR X (rIxT X.K):=by
 intro value G pins s σ H x y v u Q I rx O h hs
 obtain⟨p,xs,i,z,rfl,rfl,R,U,q⟩:=h
 cases rx
 obtain⟨t,rfl⟩:=O
 obtain⟨its,r,pl,Z⟩:=I.tuple R
 obtain⟨j,h1,h2,h3,h4,h5⟩:=zh8 U
 obtain⟨w,Y,N⟩:=r.get h2
 have hl:=r.length
 have hn:=C7
 have fin:EP X pins σ Q w s:=⟨z,H,I,N,q⟩
 exact subscriptTail_builtinR (x:=w) pl.typeIs slot_tuple_getitem.lookup
  (getItem_tuple (j:=j) (Q:=fun r s'=>r=w/\EP X pins σ Q r s') pl (by omega) (by omega) (by rw[size_toArray,<-hl];exact h1) (by simpa using Y) ⟨rfl,fin⟩) hs
theorem xi8:IxR X rIxS:=by
 intro value G pins s σ H x y v u Q I rx N h hs
 obtain⟨z,i,c,rfl,rfl,Y,O,q⟩:=h
 obtain⟨t,rfl⟩:=rx
 obtain⟨t',rfl⟩:=N
 obtain⟨j,h1,h2,Z,U,R⟩:=zh8 O
 have hl:z.cps.toList.length=z.length:=by simp[Str.length]
 rw[hl]at h1 U R
 have hn:=C7
 exact tail_any (typeIs_str s z t) slot_str_getitem.lookup (getItem_str (c:=c) (by
  have e1:decide (i < -(2^63:Int))=false:=decide_eq_false (by omega)
  have e2:decide (i ≥ 2^63)=false:=decide_eq_false (by omega)
  rw[e1,e2,Bool.or_false]) (by rw[h1];simpa using h2) ⟨.str ⟨#[c]⟩,H,I.tok _,⟨_,rfl⟩,q⟩) hs
theorem za9 (its:List Value)(n j:Nat)(u:Value):Obj.mapSeq (·.setIfInBounds j u) { cls:=.type "list",data:=.seq its.toArray n }={ cls:=.type "list",data:=.seq (its.set j u).toArray n }:=by
 simp[Obj.mapSeq]
theorem Inv.lst {pins:List (Addr×Obj)}{σ:St}{H:Hp}{s:Shared}{p:Addr}{xs:List V}(I:Inv X pins σ H s)(h:H p=some (.lst xs)):
  ∃(its:List Value)(n:Nat),Vals xs its/\s.heap.get? p=some { cls:=.type "list",data:=.seq its.toArray n }/\xs.length<=sizeLine:=by
 obtain⟨z,its,n,r,e⟩:=I.hok p _ h
 exact⟨its,n,r,e,z⟩
theorem Inv.lstUpd {pins:List (Addr×Obj)}{σ:St}{H:Hp}{s:Shared}{p:Addr}{xs ys:List V}{its its':List Value}{n n':Nat}{f:Obj->Obj}(I:Inv X pins σ H s)(h:H p=some (.lst xs))
  (z:s.heap.get? p=some { cls:=.type "list",data:=.seq its.toArray n }) (i:f { cls:=.type "list",data:=.seq its.toArray n }={ cls:=.type "list",data:=.seq its'.toArray n' }) (r:Vals ys its') (j:ys.length<=sizeLine) (t:Nat):
  Inv X pins σ (upd H p (.lst ys)) { s with heap:=s.heap.update p f,toks:=t }:=by
 have e:(s.heap.update p f).get? p=some { cls:=.type "list",data:=.seq its'.toArray n' }:=by
  rw[Heap.get?_update_self f z (by rw[i] <;> rfl),i]
 refine I.write (x:=p) (e:=p) (by rw[h];trivial) (.inl rfl) (fun b u G q=>(Heap.get?_update_other _ _ (Ne.symm G)).trans q) ⟨_,e⟩ ?_
 exact⟨j,its',n',r,e⟩
def xy3:V->V->V->Hp->(Hp->Prop)->Prop:=fun o i v H Q=>∃ p xs k j,o= .ref p/\i= .int k/\H p=some (.lst xs)/\ixN xs.length k=some j/\Q (upd H p (.lst (xs.set j v)))
theorem P6:PSet X xy3:=by
 intro pins s σ H o i v ov iv u Q I Y Z U h
 obtain⟨p,xs,k,j,rfl,rfl,hp,hj,q⟩:=h
 cases Y
 obtain⟨t,rfl⟩:=Z
 obtain⟨its,n,r,z,hz⟩:=I.lst hp
 obtain⟨h1,h2,N,G⟩:=yq4 hj
 have hl:=r.length
 have hn:=C7
 have R:Inv X pins σ (upd H p (.lst (xs.set j v))) { s with heap:=s.heap.update p (Obj.mapSeq (·.setIfInBounds j u)) }:=
  I.lstUpd hp z (za9 its n j u) (r.set U j) (by rw[length_set];exact hz) s.toks
 by_cases O:0<=k
 .have hk:k.toNat=j:=by
   rw[seqIndex_of O G]at h1
   exact Option.some.inj h1
  exact W.ki_setAt z O (by omega) (by rw[size_toArray,<-hl];exact G) (by rw[hk];exact⟨_,R,q⟩)
 .have hk:(k+(its.toArray.size:Int)).toNat=j:=by
   rw[seqIndex_neg (by omega) N]at h1
   rw[size_toArray,<-hl]
   exact Option.some.inj h1
  exact W.ki_setBack z (by omega) (by rw[size_toArray,<-hl];exact N) (by omega) (by rw[hk];exact⟨_,R,q⟩)
theorem zr6 (lo hi:Option Int)(n:Nat):(sliceBounds lo hi none n).1=((HT.sIx n 0 lo:Nat):Int)/\(sliceBounds lo hi none n).2.1=((HT.sIx n n hi:Nat):Int)/\(sliceBounds lo hi none n).2.2=1:=by
 refine⟨?_,?_,rfl⟩
 .cases lo with
  |none=>simp[sliceBounds,HT.sIx]
  |some i=>
   simp only[sliceBounds,HT.sIx,Option.getD_none,show (1:Int)>0 by decide,if_true]
   by_cases h:i<0
   .simp only[h,if_true] <;> omega
   .simp only[h,if_false] <;> omega
 .cases hi with
  |none=>simp[sliceBounds,HT.sIx]
  |some i=>
   simp only[sliceBounds,HT.sIx,Option.getD_none,show (1:Int)>0 by decide,if_true]
   by_cases h:i<0
   .simp only[h,if_true] <;> omega
   .simp only[h,if_false] <;> omega
theorem zw5 (its:List Value)(lo hi:Option Int):slicePick its.toArray lo hi none=((its.drop (HT.sIx its.length 0 lo)).take (HT.sIx its.length its.length hi-HT.sIx its.length 0 lo)).toArray:=by
 obtain⟨h1,h2,i⟩:=zr6 lo hi its.toArray.size
 unfold slicePick
 rw[h1,h2,i]
 simp only[sliceRange_one,pick_run,size_toArray] <;> rfl
def rSlL (K:W.Frag):V->Option Int->Option Int->Hp->VK->Prop:=fun x lo hi H Q=>∃ a xs,x= .ref a/\SqL K H a xs/\∀ p,H p=none->Q (.ref p) (upd H p (.lst (cutV xs lo hi)))
theorem xz3:SlR X (rSlL X.K):=by
 intro pins s σ H x v O N lo hi sl Q I rx hs pl j h
 obtain⟨a,xs,rfl,G,q⟩:=h
 cases rx
 obtain⟨its,r,ht,z⟩:=I.list G
 have i:=r.length
 refine⟨"list",_,slot_list_getitem.lookup,ht.isList.typeIs,?_⟩
 refine wpAny_getItem_list_slice ht.isList hs pl j .none (by simp) ?_ (by rw[size_toArray] <;> omega)
 rw[zw5,<-i]
 refine⟨.ref s.heap.objs.size,_,I.laid (t':=s.toks) (o:=.lst (cutV xs lo hi)) (fun b ob q=>Heap.get?_push_of_some _ q) (Nat.le_refl _) ?_,rfl,q _ (I.hok.fresh (Nat.le_refl _))⟩
 exact⟨Nat.le_trans (zh3 xs lo hi) z,_,0,(r.drop (HT.sIx xs.length 0 lo)).take (HT.sIx xs.length xs.length hi-HT.sIx xs.length 0 lo),Heap.get?_push_size _ rfl⟩
noncomputable def zz8:V->Bool
 | .non=>true
 | .bl _=>true
 | .int _=>true
 | .str _=>true
 |_=>false
noncomputable def eqV:V->V->Bool
 | .non,.non=>true
 | .bl a,.bl b=>a==b
 | .bl a,.int b=>(if a then 1 else 0)==b
 | .int a,.bl b=>a==(if b then 1 else 0)
 | .int a,.int b=>a==b
 | .str a,.str b=>a==b
 |_,_=>false
theorem xg3 {A:Around}{s:Shared}{y x:V}{u v:Value}(i:RelV y u)(rx:RelV x v)(z:zz8 y=true)(j:zz8 x=true):SeqAt.EqAt A s u v (eqV y x):=by
 cases y with
 |non=>
  cases i
  cases x with
  |non=>cases rx;exact SeqAt.EqAt.same _
  |bl b=>cases rx;exact SeqAt.EqAt.none_bool b
  |int b=>obtain⟨t,rfl⟩:=rx;exact SeqAt.EqAt.none_int b t
  |str b=>obtain⟨t,rfl⟩:=rx;exact SeqAt.EqAt.none_str b t
  |_=>exact absurd (show false=true from j) Bool.false_ne_true
 |bl a=>
  cases i
  cases x with
  |non=>cases rx;exact SeqAt.EqAt.bool_none a
  |bl b=>cases rx;exact SeqAt.EqAt.bool_bool a b
  |int b=>obtain⟨t,rfl⟩:=rx;exact SeqAt.EqAt.bool_int a b t
  |str b=>obtain⟨t,rfl⟩:=rx;exact SeqAt.EqAt.bool_str a b t
  |_=>exact absurd (show false=true from j) Bool.false_ne_true
 |int a=>
  obtain⟨t',rfl⟩:=i
  cases x with
  |non=>cases rx;exact SeqAt.EqAt.int_none a t'
  |bl b=>cases rx;exact SeqAt.EqAt.int_bool a t' b
  |int b=>obtain⟨t,rfl⟩:=rx;exact SeqAt.EqAt.int_int a t' b t
  |str b=>obtain⟨t,rfl⟩:=rx;exact SeqAt.EqAt.int_str a t' b t
  |_=>exact absurd (show false=true from j) Bool.false_ne_true
 |str a=>
  obtain⟨t',rfl⟩:=i
  cases x with
  |non=>cases rx;exact SeqAt.EqAt.str_none a t'
  |bl b=>cases rx;exact SeqAt.EqAt.str_bool a t' b
  |int b=>obtain⟨t,rfl⟩:=rx;exact SeqAt.EqAt.str_int a t' b t
  |str b=>obtain⟨t,rfl⟩:=rx;exact SeqAt.EqAt.str_str a t' b t
  |_=>exact absurd (show false=true from j) Bool.false_ne_true
 |_=>exact absurd (show false=true from z) Bool.false_ne_true
noncomputable def eqU (x:V)(u:Value):Bool:=match u with
 | .none=>eqV .non x
 | .bool b=>eqV (.bl b) x
 | .int i _=>eqV (.int i) x
 | .str z _=>eqV (.str z) x
 |_=>false
theorem yb6 {x y:V}{u:Value}(r:RelV y u)(f:zz8 y=true):eqU x u=eqV y x:=by
 cases y with
 |non=>cases r;rfl
 |bl b=>cases r;rfl
 |int i=>obtain⟨t,rfl⟩:=r;rfl
 |str z=>obtain⟨t,rfl⟩:=r;rfl
 |_=>exact absurd (show false=true from f) Bool.false_ne_true
theorem A6 {x:V}:∀{xs:List V}{us:List Value},Vals xs us->xs.all zz8=true->us.any (eqU x)=xs.any fun y=>eqV y x
 |_,_,.nil,_=>rfl
 |y::xs,u::us,.cons r t,f=>by
  rw[all_cons,Bool.and_eq_true]at f
  rw[any_cons,any_cons,yb6 r f.1,A6 t f.2]
theorem O6 {A:Around}{s:Shared}{x:V}{v:Value}(rx:RelV x v)(j:zz8 x=true):∀{xs:List V}{us:List Value},Vals xs us->xs.all zz8=true->∀ u∈us,SeqAt.EqAt A s u v (eqU x u)
 |_,_,.nil,_=>fun u i=>by cases i
 |y::xs,u::us,.cons r t,f=>fun z i=>by
  rw[all_cons,Bool.and_eq_true]at f
  rcases List.mem_cons.mp i with rfl|i
  .rw[yb6 r f.1];exact xg3 r rx f.1 j
  .exact O6 rx j t f.2 z i
noncomputable def inV (x:V)(xs:List V):Bool:=xs.any fun y=>eqV y x
def rIn (K:W.Frag)(neg:Bool):R2:=fun x y H Q=>∃ p xs,y= .ref p/\(SqL K H p xs\/SqT K H p xs)/\zz8 x=true/\xs.all zz8=true/\Q (.bl (if neg then !inV x xs else inV x xs)) H
theorem zq7:OpR X (compareOp .In) (rIn X.K false):=by
 intro pins s σ H x y v u Q I rx z h
 obtain⟨p,xs,rfl,i,j,fs,q⟩:=h
 cases z
 rcases i with i|i
 .obtain⟨its,r,pl,hz⟩:=I.list i
  refine SeqAt.in_listAt (eqU x) pl.isList (fun w hw=>O6 rx j r fs w (by simpa using hw)) ⟨.bl _,H,I,rfl,?_⟩
  rw[show its.toArray.any (eqU x)=its.any (eqU x)by simp,A6 r fs]
  exact q
 .obtain⟨its,r,pl,hz⟩:=I.tuple i
  refine SeqAt.in_tupleAt (eqU x) pl (fun w hw=>O6 rx j r fs w (by simpa using hw)) ⟨.bl _,H,I,rfl,?_⟩
  rw[show its.toArray.any (eqU x)=its.any (eqU x)by simp,A6 r fs]
  exact q
theorem W8:OpR X (compareOp .NotIn) (rIn X.K true):=by
 intro pins s σ H x y v u Q I rx z h
 obtain⟨p,xs,rfl,i,j,fs,q⟩:=h
 cases z
 rcases i with i|i
 .obtain⟨its,r,pl,hz⟩:=I.list i
  refine SeqAt.notIn_listAt (eqU x) pl.isList (fun w hw=>O6 rx j r fs w (by simpa using hw)) ⟨.bl _,H,I,rfl,?_⟩
  rw[show its.toArray.any (eqU x)=its.any (eqU x)by simp,A6 r fs]
  exact q
 .obtain⟨its,r,pl,hz⟩:=I.tuple i
  refine SeqAt.notIn_tupleAt (eqU x) pl (fun w hw=>O6 rx j r fs w (by simpa using hw)) ⟨.bl _,H,I,rfl,?_⟩
  rw[show its.toArray.any (eqU x)=its.any (eqU x)by simp,A6 r fs]
  exact q
theorem K2:CallR X (.builtin "len") (fun xs H Q=>∃ p ys,xs=[.ref p]/\(SqL X.K H p ys\/SqT X.K H p ys)/\Q (.int ys.length) H):=by
 intro pins s σ H xs us Q I r h
 obtain⟨p,ys,rfl,j,q⟩:=h
 obtain⟨u,rfl,rx⟩:=K5 r
 cases rx
 have hn:=C7
 rcases j with j|j
 .obtain⟨its,r',pl,hz⟩:=I.list j
  have i:=r'.length
  exact Calls.call_len_list pl.isList (by simp only[size_toArray] <;> omega) ⟨.int ys.length,H,I.tok _,⟨s.toks+1,by rw[size_toArray,i]⟩,q⟩
 .obtain⟨its,r',pl,hz⟩:=I.tuple j
  have i:=r'.length
  exact len_tuple pl (by simp only[size_toArray] <;> omega) ⟨.int ys.length,H,I.tok _,⟨s.toks+1,by rw[size_toArray,i]⟩,q⟩
theorem zn7:CallR X (.builtin "len") (fun xs H Q=>∃ z,xs=[.str z]/\z.length<=sizeLine/\Q (.int z.length) H):=by
 intro pins s σ H xs us Q I r h
 obtain⟨z,rfl,i,q⟩:=h
 obtain⟨u,rfl,t,rfl⟩:=K5 r
 have hn:=C7
 exact len_str (by omega) ⟨.int z.length,H,I.tok _,⟨_,rfl⟩,q⟩
theorem CallR.or {f:Value}{r j:List V->Hp->VK->Prop}(h:CallR X f r)(h':CallR X f j):CallR X f (fun xs H Q=>r xs H Q\/j xs H Q):=by
 intro pins s σ H xs us Q I i q
 rcases q with q|q
 .exact h pins s σ H xs us Q I i q
 .exact h' pins s σ H xs us Q I i q
theorem zn6:CallR X (.type "list") (fun xs H Q=>∃ p ys,xs=[.ref p]/\(SqL X.K H p ys\/SqT X.K H p ys)/\∀ l,H l=none->Q (.ref l) (upd H l (.lst ys))):=by
 intro pins s σ H xs us Q I r h
 obtain⟨p,ys,rfl,G,q⟩:=h
 obtain⟨u,rfl,rx⟩:=K5 r
 cases rx
 have fin:∀(its:List Value),Vals ys its->ys.length<=sizeLine->∀(h':Heap)(j:Nat),(∀ b o',s.heap.get? b=some o'->h'.get? b=some o')->
   h'.get? s.heap.objs.size=some { cls:=.type "list",dict:=none,data:=.seq its.toArray j,slots:=#[] }->EP X pins σ Q (.ref s.heap.objs.size) { s with heap:=h' }:=fun its i z h' j kp e=>
  ⟨.ref s.heap.objs.size,_,I.laid (t':=s.toks) kp (Nat.le_refl _) (show ObjOk X.prog X.w _ h' _ (.lst ys)from⟨z,its,j,i,e⟩),rfl,q _ (I.hok.fresh (Nat.le_refl _))⟩
 rcases G with G|G
 .obtain⟨its,i,pl,z⟩:=I.list G
  have N:=i.length
  obtain⟨o,O,R,n,hd⟩:=pl.isList
  exact call_list_seq p (.inl rfl) O R hd (fun h' j kp e=>fin its i z h' j kp e) (by simp only[size_toArray] <;> omega)
 .obtain⟨its,i,pl,z⟩:=I.tuple G
  have N:=i.length
  obtain⟨o,O,R,n,hd⟩:=pl
  exact call_list_seq p (.inr rfl) O R hd (fun h' j kp e=>fin its i z h' j kp e) (by simp only[size_toArray] <;> omega)
def tyV (K:W.Frag)(T:String)(x:V)(H:Hp):Prop:=match x with
 | .str _=>T="str"
 | .int _=>T="int"
 | .ref p=>(T="list"/\∃ xs,SqL K H p xs)\/(T="tuple"/\∃ o,K.lookup p=some o/\o.cls= .type "tuple"/\o.dict=none)\/
   (T="dict"/\((∃ kvs,H p=some (.dK kvs))\/∃ kvs,H p=some (.dT kvs)))\/(T="set"/\∃ S n,H p=some (.set S n))
 |_=>False
theorem xp3 {pins:List (Addr×Obj)}{σ:St}{H:Hp}{s:Shared}{T:String}{x:V}{v:Value}(I:Inv X pins σ H s)(r:RelV x v)(ty:tyV X.K T x H):
  s.TypeIs v T/\∀ a,v= .ref a->∃ ob,s.heap.get? a=some ob/\ob.dict=none:=by
 cases x with
 |str z=>
  obtain⟨t,rfl⟩:=r
  cases (show T="str" from ty)
  exact⟨typeIs_str s z t,fun _ e=>nomatch e⟩
 |int i=>
  obtain⟨t,rfl⟩:=r
  cases (show T="int" from ty)
  exact⟨typeIs_int s i t,fun _ e=>nomatch e⟩
 |ref p=>
  cases r
  rcases ty with⟨rfl,xs,G⟩|⟨rfl,o,j,N,hd⟩|⟨rfl,j⟩|⟨rfl,S,n,j⟩
  .obtain⟨its,_,pl,_⟩:=I.list G
   refine⟨pl.isList.typeIs,fun a e=>?_⟩
   cases e
   obtain⟨o,n,e,c,hd,_⟩:=pl
   exact⟨o,e,hd⟩
  .refine⟨⟨o,I.kIn p o j,N⟩,fun a e=>?_⟩
   cases e
   exact⟨o,I.kIn _ o j,hd⟩
  .have z:∃ o,s.heap.get? p=some o/\o.ExactDict:=by
    rcases j with⟨kvs,j⟩|⟨kvs,j⟩
    .obtain⟨_,_,_,_,o,_,_,e,ex,_⟩:=I.hok p _ j
     exact⟨o,e,ex⟩
    .obtain⟨_,_,_,_,o,_,_,e,ex,_⟩:=I.hok p _ j
     exact⟨o,e,ex⟩
   obtain⟨o,e,ex⟩:=z
   refine⟨⟨o,e,ex.1⟩,fun a e2=>?_⟩
   cases e2
   exact⟨o,e,ex.2.1⟩
  .obtain⟨o,_,_,_,e,ex,_⟩:=I.hok p _ j
   refine⟨⟨o,e,ex.1⟩,fun a e2=>?_⟩
   cases e2
   exact⟨o,e,ex.2.1⟩
 |_=>exact False.elim ty
def tBM (K:W.Frag)(T:String)(r:V->List V->Hp->VK->Prop)(to:TE)(t:TA):TE:=fun σ H Q=>to σ H fun x H1=>tyV K T x H1/\t σ H1 fun xs H2=>r x xs H2 Q
variable {o e:Expr}{es:List Expr}{to:TE}{t:TA}{name:Str}{apos cpos:Pos}{T id:String}{r:V->List V->Hp->VK->Prop}
theorem yv9 (pa:PlainAttrs T)(slot:Slot T name id)(O:typeOf (.builtin id)=pure (.type "method_descriptor"))(hm:MtR X id r)(ho:PE X o to)(ha:PA X (e::es) t)
  (z:attributeBase o name X.env (eval o X.env)=eval o X.env:=by rfl)
  (N:((backTo cpos (starEach (e::es) X.env)).all (fun x=>!x.1)&&(backToKw cpos (keywordEach [] X.env)).all (fun x=>x.1.isSome)
   &&decide ((e::es).length+([]:List Keyword).length+(if ([]:List Keyword).isEmpty then 0 else 1)<30))=true:=by rfl)
  (j:(apos.endLine==cpos.line)=true:=by rfl) (hs:starEach (e::es) X.env=(false,eval e X.env)::starEach es X.env:=by rfl) (i:(backTo cpos (starEach es X.env)).any (·.1)=false:=by rfl):
  PE X (.Call (.Attribute o name apos) (e::es) [] cpos) (tBM X.K T r to t):=by
 intro pins s σ H Q I h
 refine wpAny_Call_method_late z N j rfl (thn (ho pins s σ H _ I h) fun v s1 G=>?_)
 obtain⟨x,H1,Y,R,ty,q1⟩:=G
 obtain⟨h1,h2⟩:=xp3 Y R ty
 refine⟨T,id,pa,slot,O,h1,h2,?_⟩
 have U:=ha cpos pins s1 σ H1 _ Y q1
 rw[hs]at U ⊢
 refine Calls.callWith_builtin (by show (false || (backTo cpos (starEach es X.env)).any (·.1))=false;rw[i] <;> rfl) (Calls.evalArgs_plain ?_)
 exact thn U fun us s2 ⟨vs,H2,I2,r2,Z⟩=>hm pins s2 σ H2 x vs v us Q I2 R r2 Z
end
end
section
def MtM (X:Cx)(id:String)(r:V->List V->Hp->VK->Prop):Prop:=
 ∀(pins:List (Addr×Obj))(s:Shared)(σ:St)(H:Hp)(x:V)(xs:List V)(v:Value)(us:List Value)(Q:VK),Inv X pins σ H s->RelV x v->Vals xs us->r x xs H Q->
  wpAny (model X.prog X.w) X.A (call (.builtin id) (v::us)) (EP X pins σ Q) X.xe s
theorem Vals.one:∀{x:V}{us:List Value},Vals [x] us->∃ u,us=[u]/\RelV x u
 |_,_,.cons r .nil=>⟨_,rfl,r⟩
section
variable {X:Cx}{pins:List (Addr×Obj)}{σ:St}{H:Hp}{s:Shared}{l b:Addr}{xs ys zs:List V}
theorem Inv.lset {its its':List Value}{n:Nat}{f:Array Value->Array Value}{t':Nat}(I:Inv X pins σ H s)(O:H l=some (.lst xs))
  (e:s.heap.get? l=some { cls:=.type "list",data:=.seq its.toArray n }) (G:f its.toArray=its'.toArray) (j:Vals ys its') (i:ys.length<=sizeLine):
  Inv X pins σ (upd H l (.lst ys)) { s with heap:=s.heap.update l (Obj.mapSeq f),toks:=t' }:=by
 have q:=PySem.IsL.update e f
 rw[G]at q
 refine I.write (x:=l) (e:=l) (by rw[O];exact trivial) (.inl rfl) (fun b' u N z=>(Heap.get?_update_other s.heap (Obj.mapSeq f) (Ne.symm N)).trans z) ⟨_,q⟩ ?_
 exact⟨i,its',_,j,q⟩
theorem Inv.lnew {its:List Value}{t':Nat}(I:Inv X pins σ H s)(j:Vals ys its)(i:ys.length<=sizeLine):
  Inv X pins σ (upd H s.heap.objs.size (.lst ys)) { s with heap:=s.heap.push { cls:=.type "list",data:=.seq its.toArray },toks:=t' }:=
 I.laid (fun _ _ q=>Heap.get?_push_of_some _ q) (Nat.le_refl _) ⟨i,its,0,j,Heap.get?_push_size _ rfl⟩
theorem Inv.fresh (I:Inv X pins σ H s):H s.heap.objs.size=none:=I.hok.fresh (Nat.le_refl _)
theorem Inv.lstM (I:Inv X pins σ H s)(i:H l=some (.lst xs)):xs.length<=sizeLine/\∃(its:List Value)(n:Nat),Vals xs its/\xs.length=its.length/\s.heap.get? l=some { cls:=.type "list",data:=.seq its.toArray n }:=by
 obtain⟨z,its,n,r,e⟩:=I.hok l _ i
 exact⟨z,its,n,r,r.length,e⟩
end
section
variable {X:Cx}
def zk6:V->List V->Hp->VK->Prop:=fun x vs H Q=>∃ l xs y,x= .ref l/\vs=[y]/\H l=some (.lst xs)/\xs.length<sizeLine/\Q .non (upd H l (.lst (xs++[y])))
theorem T7:MtM X "list.append" zk6:=by
 intro pins s σ H x vs v us Q I rx j h
 obtain⟨l,xs,y,rfl,rfl,i,N,q⟩:=h
 cases rx
 obtain⟨u,rfl,G⟩:=j.one
 obtain⟨z,its,n,r,hl,e⟩:=I.lstM i
 refine call_meets F.slot_list_append ⟨_,e,rfl⟩ F.entry_list_append (F.args_list_append_2 _ _) (PySem.list_append l its.toArray n u (by rw[size_toArray];omega)) ⟨e,?_⟩
 refine⟨.non,_,I.lset (its':=its++[u]) i e (by simp) (r.append (.cons G .nil)) ?_,rfl,q⟩
 rw[length_append,length_singleton]
 omega
end
section
variable {prog:Program}{w:World}{A:Around}{E:Value->Shared->Prop}{s:Shared}
end
section
variable {X:Cx}
end
end
end L2
namespace Att
open PySem PySem.W PySem.Calls PyProof.Rows
theorem C8 {P:Params}{h:Heap}:∀(ns:List Int)(vs:List Value),WellAll P h vs (ns.map WData.int)->IntsAre vs ns:=by
 intro ns
 induction ns with
 |nil=>
  intro vs w
  rw[List.map_nil]at w
  cases w
  exact .nil
 |cons n ns i=>
  intro vs w
  rw[List.map_cons]at w
  cases w with
  |cons a b=>
   cases a
   exact .cons _ _ (i _ b)
theorem yx7 {l:OpenLaw}{n:Nat}(hn:l.most=some n){P:Params}{h:Heap}{args:List WData}{i:List Value}
  (j:l.row.toRowW.claim.pre args=true) (O:WellAll P h i args):
  ∃ a vs ns,i=[Value.ref a]/\args=[WData.list (ns.map WData.int)]/\h.get? a=some { cls:=.type "list",data:=.seq vs.toArray }/\IntsAre vs ns/\ns.length<=n:=by
 have R:WShape.hasAll [] args [.list .int]=true:=(pre_splitW j).1
 have U:l.pre.holds [] { args:=args }=true:=(pre_splitW j).2
 obtain⟨d,r,rfl,h1,h2⟩:=hasAllW_cons R
 obtain rfl:=hasAllW_nil h2
 obtain⟨xs,rfl,h3⟩:=hasW_list h1
 obtain⟨ns,rfl⟩:=items_int h3
 have z:ns.length<=n:=by
  unfold OpenLaw.pre at U
  have N:(WTm.not (.lt (.lit (.int (n:Int))) (.len (.arg 0)))).holds [] { args:=[.list (ns.map .int)] }=true:=by
   have N:=(holds_andW U).1
   rw[hn]at N
   exact N
  have I:=condW_of N (w_not (w_lt w_lit (w_len_list (w_arg rfl))))
  rw[List.length_map]at I
  refine Nat.le_of_not_lt fun q=>?_
  have q':(n:Int)<((ns.length:Nat):Int):=by omega
  first
   | (rw[decide_eq_true q']at I;exact absurd I (by decide))
   | (simp at I;omega)
 cases O with
 |cons Z Y=>
  cases Y
  cases Z with
  |list ho G=>exact⟨_,_,ns,rfl,rfl,ho,C8 ns _ G,z⟩
theorem yv0 (l:OpenLaw)(args:List WData):l.row.toRowW.claim.post args (.bool true) args=true:=
 postW_of (r:=l.row.toRowW) (X:=(true==true))
  (show WShape.has [] (.bool true) .bool=true by first|rfl|decide|simp[WShape.has,WShape.arms,WShape.armsAll])
  (show (WTm.eq .res (.lit (.bool true))).value [] { args:=args,res:=some (.bool true),after:=args }=some (.bool (true==true))from w_eq_bool (w_res rfl) w_lit) rfl
theorem attach_call {l:OpenLaw}{n:Nat}{q:Program}{j:List Str}{XP:(Str->Option Value)->Heap->Prop}{YP:World->Heap->Prop}{d:DefRec}
  (hn:l.most=some n) (a2:d.params.defaults=[])
  (call:∀(w:World)(s₀ i:Shared)(mg mb:Str->Option Value)(R:Addr)(o:Obj)(pm U doc:Value)(a:Addr)(vs:List Value)(ns:List Int),
   Ground q j [] XP w s₀ mg mb i.heap->YP w i.heap->
   i.heap.get? R=some o->o.data= .func (docDef d.name d.params d.body d.scope pm U doc)->i.heap.CodeRec U d.name->mg d.name=some (.ref R)->
   i.heap.get? a=some { cls:=.type "list",data:=.seq vs.toArray }->IntsAre vs ns->ns.length<=n->i.gens=#[]->
   codeAny (model l.prog w) callerA (.call (.ref R) ⟨[.ref a],[]⟩) (fun r s'=>r= .ok (.ret (.bool true))/\OldK i.heap s'.heap/\s'.os=i.os/\AllBare s'.gens) i):
  WalkO q j XP YP l.row.toRowW d [] (fun f vs=>PySem.call f vs):=by
 intro w s₀ i mg mb G Y R o pm U doc dV kV ho hd a3 hD a1 hg args a4 as I a5 a6 Z a7
 obtain rfl:dV= .none:=Dflts.none hD a2
 obtain rfl:kV= .none:=Dflts.noKw hD
 obtain⟨a,vs,ns,rfl,rfl,N,z,O⟩:=yx7 hn I Z
 refine enter_call (codeAny_mono (call w s₀ i mg mb R o pm U doc a vs ns G Y ho (fd_plain hd) a3 a1 N z O hg) fun r s' hq=>?_)
 obtain⟨rfl,h2,h3,h4⟩:=hq
 exact⟨.inl ⟨.bool true,.bool true,[],rfl,fun _=>rfl,.bool true,yv0 l _,fun _=>⟨List.Pairwise.nil,fun _ hm=>(nomatch hm)⟩⟩,h2,h3,h4⟩
section
variable {prog:Program}{w:World}{A:Around}{E:Value->Shared->Prop}{s:Shared}{K:Frag}
end
end Att
namespace L2
open List
open PySem PySem.Spec PyProof.Rows
section
theorem zr0:∀{vs:List Value}{ns:List Int},IntsAre vs ns->Vals (ns.map V.int) vs
 |_,_,.nil=>.nil
 |_,_,.cons n t h=>.cons ⟨t,rfl⟩ (zr0 h)
def Only (H:Hp):Prop:=∀ b,H b=none\/∃ o xs,H b=some (.frz o (.lst xs))
end
section
end
section
noncomputable def j2 (s:Stmt):Arguments:=match s with
 | .FunctionDef _ a _ _ _ _ _ _ _ _=>a
 |_=>{ posonlyargs:=[],args:=[],vararg:=none,kwonlyargs:=[],kw_defaults:=[],kwarg:=none,defaults:=[] }
noncomputable def p0 (s:Stmt):List Stmt:=match s with
 | .FunctionDef _ _ b _ _ _ _ _ _ _=>b
 |_=>[]
noncomputable def y8 (s:Stmt):Scope:=match s with
 | .FunctionDef _ _ _ _ _ _ sc _ _ _=>sc
 |_=>{ kind:=.function,names:=[],isGenerator:=false,isCoroutine:=false }
abbrev CX0:CXT:=fun _ _ _ _ _ _=>False
abbrev E0:XK:=fun _ _ _=>False
theorem j3 {X:Cx}:ym4 CX0 X E0:=fun _ _ _ _ _ _ _ h=>h.elim
structure Fun (K:W.Frag)(x qual:Str)(st:Stmt)(f:Addr)(fd:FuncData):Prop where
 ex:∃(oc:Value)(od:Option Addr)(kV doc pm:Value)(an:Option Addr)(cdv ct:Value)(osl:Array (Option Value)),
  fd=W.fnOf x qual (j2 st) (p0 st) (y8 st) .none kV doc pm an cdv ct/\K.lookup f=some ⟨oc,od,.func fd,osl⟩/\W.codeIn K cdv qual=true
 kp:W.keepIn K (.ref f)=true
section
variable {P:Program}{w:World}{K:W.Frag}{mg:Str->Option Value}{base:Heap}
theorem Fun.ok {x qual:Str}{st:Stmt}{f:Addr}{fd:FuncData}{N ps:List Str}{k:Nat}{sp:Sp}(F:Fun K x qual st f fd)(S:FnScope N ps (y8 st))(len:∀ vs H Q E,sp vs H Q E->vs.length=ps.length)
  (i:∀(cdv:Value)(A:Around)(outer:List Env)(s:Shared)(H:Hp)(vs:List V)(Q:VK)(E:XK),Room k (A.deeper (envOfC qual (y8 st) s.heap.objs.size f cdv))->sp vs H Q E->
   ∃ t,PSs (cxOf CX0 P w K mg base N qual (y8 st) f cdv A outer s H E).nox (p0 st) t/\t { nx:=fun _ H'=>Q .non H',rt:=Q } (start N vs) H):FnOk P w K mg base CX0 (k+1) f fd ps sp:=by
 obtain⟨oc,od,kV,doc,pm,an,cdv,ct,osl,rfl,G,z⟩:=F.ex
 refine ye2 G z S len fun A outer s H vs Q E I j=>?_
 obtain⟨t,h,q⟩:=i cdv A outer s H vs Q E I j
 exact⟨t,h.nox,q⟩
theorem Fun.binds {x qual:Str}{st:Stmt}{f:Addr}{fd:FuncData}{ps:List Str}(F:Fun K x qual st f fd)
  (h:∀(kV doc pm:Value)(an:Option Addr)(cdv ct:Value)(us:List Value),us.length=ps.length->bindArgs (W.fnOf x qual (j2 st) (p0 st) (y8 st) .none kV doc pm an cdv ct) ⟨us,[]⟩=pure (ps.zip us)):Binds K fd ps []:=by
 obtain⟨oc,od,kV,doc,pm,an,cdv,ct,osl,rfl,j,i⟩:=F.ex
 exact .all (h kV doc pm an cdv ct)
theorem Z7 {x qual:Str}{st:Stmt}{f:Addr}{oc:Value}{od an:Option Addr}{osl:Array (Option Value)}{kV doc pm cdv ct:Value}(l:K.lookup f=some ⟨oc,od,.func (W.fnOf x qual (j2 st) (p0 st) (y8 st) .none kV doc pm an cdv ct),osl⟩)
  (c:W.codeIn K cdv qual=true) (k:W.keepIn K (.ref f)=true):Fun K x qual st f (W.fnOf x qual (j2 st) (p0 st) (y8 st) .none kV doc pm an cdv ct):=⟨⟨oc,od,kV,doc,pm,an,cdv,ct,osl,rfl,l,c⟩,k⟩
end
section
variable {X:Cx}
theorem pv (i:Nat){x:Str}{pos:Pos}(G:X.N[i]? =some x:=by rfl)(z:Vis X.env.scope x:=by first|exact Or.inl rfl|exact Or.inr (Or.inl rfl)|exact Or.inr (Or.inr rfl))(hd:(x==("__debug__":Str))=false:=by decide)
  (j:(x==("__classdict__":Str))=false:=by decide):PE X (.Name x pos) (tVar i):=xn8 G z hd j
end
theorem iteF {A B:Prop}(h:B):if false=true then A else B:=by
 rw[if_neg Bool.false_ne_true]
 exact h
theorem iteT {A B:Prop}(h:A):if true=true then A else B:=by
 rw[if_pos rfl]
 exact h
def Same (H H':Hp):Prop:=∀ b o,H b=some o->H' b=some o
theorem Same.refl (H:Hp):Same H H:=fun _ _ h=>h
theorem Same.trans {H H1 H2:Hp}(a:Same H H1)(b:Same H1 H2):Same H H2:=fun c o h=>b c o (a c o h)
theorem Same.free {H H':Hp}(e:Same H H'){l:Addr}(h:H' l=Option.none):H l=Option.none:=by
 cases q:H l with
 |none=>rfl
 |some o=>
  rw[e l o q]at h
  cases h
theorem Same.seq {K:W.Frag}{H H':Hp}{a:Addr}{xs:List V}(e:Same H H')(h:SqL K H a xs):SqL K H' a xs:=by
 rcases h with (h|⟨o,h⟩)|h
 .exact .inl (.inl (e _ _ h))
 .exact .inl (.inr ⟨o,e _ _ h⟩)
 .exact .inr h
end
section
noncomputable def clOf (cells:List (Str×Addr)):List (Str×NameKind)->List (Str×Addr)->List (Str×Addr)
 |[],cs=>cs
 | (n,k)::r,cs=>if k= .free then (match cells.lookup n with |some c=>clOf cells r ((n,c)::cs)|none=>clOf cells r cs)else clOf cells r cs
theorem P3 {env:Env}:∀(names:List (Str×NameKind))(j:List (Str×Addr)),(∀ x∈names,x.2= .free->∃ c,env.cells.lookup x.1=some c)->
  (forIn names j fun x r=>if (x.2==NameKind.free)=true then do let c ← cellOf env x.1;pure (ForInStep.yield ((x.1,c)::r))else pure (ForInStep.yield r):Sem (List (Str×Addr)))=pure (clOf env.cells names j)
 |[],j,_=>rfl
 | (n,k)::r,j,h=>by
  have G:∀ x∈r,x.2= .free->∃ c,env.cells.lookup x.1=some c:=fun x I=>h x (mem_cons_of_mem _ I)
  rw[forIn_cons]
  by_cases z:k= .free
  .subst z
   obtain⟨c,N⟩:=h (n,.free) mem_cons_self rfl
   have i:env.cells.lookup n=some c:=N
   have e:cellOf env n=pure c:=by unfold cellOf;rw[i]
   simp only[beq_self_eq_true,if_true,e,pure_bind]
   rw[P3 r _ G]
   simp only[clOf,if_true,i]
  .have hb:(k==NameKind.free)=false:=by simpa using z
   simp only[hb,Bool.false_eq_true,if_false,pure_bind]
   rw[P3 r j G]
   simp only[clOf,z,if_false]
theorem S3 {env:Env}{scope:Scope}(h:∀ x∈scope.names,x.2= .free->∃ c,env.cells.lookup x.1=some c):closureFor scope env=pure (clOf env.cells scope.names []):=by
 have q:=P3 (env:=env) scope.names [] h
 simp only[closureFor]
 refine Eq.trans ?_ q
 have e:∀(m:Sem (List (Str×Addr))),(m >>= fun i=>pure i)=m:=fun m=>by simp
 first| (rw[e];rfl)|rfl|simp
theorem G3 {cells:List (Str×Addr)}{x:Str}{c:Addr}:∀(names:List (Str×NameKind))(i:List (Str×Addr)),(∀ y d,i.lookup y=some d->cells.lookup y=some d)->(clOf cells names i).lookup x=some c->cells.lookup x=some c
 |[],i,h,e=>h x c e
 | (n,k)::r,i,h,e=>by
  unfold clOf at e
  split at e
  .split at e
   .rename_i d hd
    refine G3 r _ (fun y d' q=>?_) e
    rw[lookup_cons]at q
    split at q
    .rename_i hy
     have:y=n:=by simpa using hy
     subst this
     cases q;exact hd
    .exact h y d' q
   .exact G3 r i h e
  .exact G3 r i h e
theorem N0 {cells:List (Str×Addr)}{x:Str}:∀(names:List (Str×NameKind))(i:List (Str×Addr)),(i.lookup x).isSome=true->((clOf cells names i).lookup x).isSome=true
 |[],i,h=>h
 | (n,k)::r,i,h=>by
  unfold clOf
  split
  .split
   .refine N0 r _ ?_
    rw[lookup_cons];split
    .rfl
    .exact h
   .exact N0 r i h
  .exact N0 r i h
theorem U3 {cells:List (Str×Addr)}{x:Str}{c:Addr}(j:cells.lookup x=some c):∀(names:List (Str×NameKind))(i:List (Str×Addr)),(x,NameKind.free)∈names->((clOf cells names i).lookup x).isSome=true
 |[],i,h=>absurd h (by simp)
 | (n,k)::r,i,h=>by
  unfold clOf
  rcases List.mem_cons.mp h with e|h
  .cases e
   rw[if_pos rfl,j]
   refine N0 r _ ?_
   simp[lookup_cons]
  .split
   .split
    .exact U3 j r _ h
    .exact U3 j r i h
   .exact U3 j r i h
theorem W1 {env:Env}:∀{names:List (Str×NameKind)}{x:Str},names.lookup x=some .free->
  (names.map fun(n,k)=>if (k==NameKind.free&&env.scope.kind== .function&&env.kindOf n==some .cell)then (n,NameKind.cell)else (n,k)).lookup x=some .cell\/
  (names.map fun(n,k)=>if (k==NameKind.free&&env.scope.kind== .function&&env.kindOf n==some .cell)then (n,NameKind.cell)else (n,k)).lookup x=some .free
 |[],_,h=>by simp at h
 | (n,k)::r,x,h=>by
  have i:=@W1 env r x
  show List.lookup x ((if (k==NameKind.free&&env.scope.kind== .function&&env.kindOf n==some .cell)=true then (n,NameKind.cell)else (n,k))::_)=_\/List.lookup x ((if (k==NameKind.free&&env.scope.kind== .function&&env.kindOf n==some .cell)=true then (n,NameKind.cell)else (n,k))::_)=_
  by_cases j:(k==NameKind.free&&env.scope.kind== .function&&env.kindOf n==some .cell)=true
  .rw[if_pos j]
   cases hx:x==n with
   |true=>left;simp only[lookup_cons,hx]
   |false=>simp only[lookup_cons,hx]at h ⊢;exact i h
  .rw[if_neg j]
   cases hx:x==n with
   |true=>right;simp only[lookup_cons,hx]at h ⊢;exact h
   |false=>simp only[lookup_cons,hx]at h ⊢;exact i h
theorem U6 {env:Env}:∀{names:List (Str×NameKind)}{x:Str}{k:NameKind},(∀ y∈names,y.2≠ .cell)->
  (names.map fun(n,k)=>if (k==NameKind.free&&env.scope.kind== .function&&env.kindOf n==some .cell)then (n,NameKind.cell)else (n,k)).lookup x=some k->(k= .cell\/k= .free)->(x,NameKind.free)∈names
 |[],_,_,_,h,_=>by simp at h
 | (n,z)::r,x,k,hc0,h,j=>by
  have I:=@U6 env r x k (fun y N=>hc0 y (mem_cons_of_mem _ N))
  have h:List.lookup x ((if (z==NameKind.free&&env.scope.kind== .function&&env.kindOf n==some .cell)=true then (n,NameKind.cell)else (n,z))::_)=_:=h
  by_cases G:(z==NameKind.free&&env.scope.kind== .function&&env.kindOf n==some .cell)=true
  .rw[if_pos G]at h
   have O:z= .free:=by
    have:=G;simp only[Bool.and_eq_true]at this;simpa using this.1.1
   cases hx:x==n with
   |true=>
    have i:x=n:=by simpa using hx
    subst i;subst O;exact mem_cons_self
   |false=>simp only[lookup_cons,hx]at h;exact mem_cons_of_mem _ (I h j)
  .rw[if_neg G]at h
   cases hx:x==n with
   |true=>
    have i:x=n:=by simpa using hx
    subst i
    simp only[lookup_cons,hx]at h
    have e:z=k:=Option.some.inj h
    subst e
    rcases j with j|j
    .exact absurd j (hc0 _ mem_cons_self)
    .subst j;exact mem_cons_self
   |false=>simp only[lookup_cons,hx]at h;exact mem_cons_of_mem _ (I h j)
end
section
structure Blk (X:Cx)(sc:Scope)(N:List Str)(src:List (Option Nat)):Prop where
 kind:sc.kind= .function
 nocell:∀ y∈sc.names,y.2≠ .cell
 names:∀ y∈sc.names,y.2= .local->sc.names.lookup y.1=some .local
 free:∀ y∈sc.names,y.2= .free->X.env.kindOf y.1=some .cell\/X.env.kindOf y.1=some .free
 fv:∀(j i:Nat),src[j]? =some (some i)->∃ x,N[j]? =some x/\X.N[i]? =some x/\sc.names.lookup x=some .free
 len:src.length=N.length
noncomputable def blk0 (src:List (Option Nat))(σ:St):St:=src.map fun o=>o.bind fun i=>(σ[i]?).join
noncomputable def Y6 (X:Cx)(sc:Scope)(C:Addr)(N:List Str)(fp:List Addr)(s:Shared)(H:Hp):Cx where
 prog:=X.prog
 w:=X.w
 K:=X.K
 mg:=X.mg
 base:=X.base
 A:=X.A
 N:=N
 s₀:=s
 H₀:=H
 env:=compEnvC sc (clOf X.env.cells sc.names []) C X.env
 outer:=X.stack
 stack:=X.stack
 ex:=fp
 fn:=fun _=>false
 calm:=true
 pn:=[]
 xe:=fun _ _=>False
section
variable {X:Cx}{pins:List (Addr×Obj)}{σ:St}{H:Hp}{s:Shared}
theorem Blk.cl {sc:Scope}{N:List Str}{src:List (Option Nat)}(B:Blk X sc N src)(ok:X.Ok):closureFor sc X.env=pure (clOf X.env.cells sc.names []):=
 S3 fun x i j=>ok.has x.1 (B.free x i j)
theorem V0 {sc:Scope}{x:Str}{c:Addr}(h:(clOf X.env.cells sc.names []).lookup x=some c):X.env.cells.lookup x=some c:=
 G3 sc.names [] (fun y d e=>by simp at e) h
theorem zm0 {sc:Scope}{N:List Str}{src:List (Option Nat)}{fp:List Addr}{D C:Addr}{R:Heap}{t:Nat}{m:Str->Option Value}
  (B:Blk X sc N src) (I:Inv X pins σ H s) (hc:X.calm=true) (Y:∀ b∈fp,FpOk X pins H b) (a3:∀ b∈fp,∃ o,s.heap.get? b=some o)
  (U:∀ b o,s.heap.get? b=some o->R.get? b=some o) (Z:s.heap.objs.size<=D) (a7:R.get? D=some { cls:=.type "list",data:=.seq #[] 0 })
  (hn:R.Ns C m) (hC:s.heap.objs.size<=C) (a8:D≠C):
  Inv (Y6 X sc C N fp s H) [] (blk0 src σ) (upd H D (.lst [])) { s with heap:=R,toks:=t }:=by
 have a5:H D=none:=I.hok.fresh Z
 have a6:H C=none:=I.hok.fresh hC
 have new:ObjOk X.prog X.w (upd H D (.lst [])) R D (.lst []):=⟨Nat.zero_le _,[],0,.nil,a7⟩
 have cC:∀ x c,X.env.cells.lookup x=some c->c≠C:=fun x c e z=>by
  obtain⟨v,q⟩:=I.cell x c e
  exact absurd (Nat.lt_of_lt_of_le q.lt (by rw[z];exact hC)) (Nat.lt_irrefl _)
 have cD:∀ x c,X.env.cells.lookup x=some c->c≠D:=fun x c e z=>by
  obtain⟨v,q⟩:=I.cell x c e
  exact absurd (Nat.lt_of_lt_of_le q.lt (by rw[z];exact Z)) (Nat.lt_irrefl _)
 refine⟨⟨I.ok.mod,?_,I.ok.glob,I.ok.blt,hC,fun x y c h1 h2=>?_,fun x G=>?_,fun x c h _=>(by cases h),fun _=>I.ok.hd hc,I.ok.frames,.inl rfl,fun b j=>⟨?_,fun x c e=>?_⟩,I.bs,Nat.le_trans I.ok.bsz I.sz,fun b o e j=>?_,fun b j z=>?_,I.stack,I.stkFree⟩,
  rfl,I.bare,Un.laid U Z a5,⟨m,hn,fun i x v e1 e2 e3=>?_⟩,fun x c e=>?_,?_,fun x c e=>?_,fun p hp=>?_,I.hok.laid U Z new,?_⟩
 .show (relabel sc X.env).kind=_
  exact B.kind
 .exact I.ok.inj x y c (V0 h1) (V0 h2)
 .have hx':(∃ k,(relabel sc X.env).names.lookup x=some k/\(k= .cell\/k= .free)):=by
   rcases G with G|G
   .exact⟨_,G,.inl rfl⟩
   .exact⟨_,G,.inr rfl⟩
  obtain⟨k,e,a2⟩:=hx'
  have hm:=U6 B.nocell e a2
  obtain⟨c,a4⟩:=I.ok.has x (B.free _ hm rfl)
  exact Option.isSome_iff_exists.mp (U3 a4 sc.names [] hm)
 .obtain⟨o,e⟩:=a3 b j
  exact Nat.ne_of_lt (Nat.lt_of_lt_of_le (Heap.lt_size e) hC)
 .exact(Y b j).2.2.2.2.1 x c (V0 e)
 .rcases (Y b j).2.2.2.1 with z|z
  .exact I.ok.noex b o e z
  .exact absurd (Nat.lt_of_lt_of_le (Heap.lt_size e) (Nat.le_trans I.ok.bsz z)) (Nat.lt_irrefl _)
 .rcases List.mem_cons.mp (I.stkSub b z)with z|z
  .exact(Y b j).2.1 z
  .exact(Y b j).2.2.1 z
 .have e2':∃ k,src[i]? =some (some k)/\σ[k]? =some (some v):=by
   unfold blk0 at e2
   rw[getElem?_map]at e2
   cases q:src[i]? with
   |none=>rw[q]at e2;cases e2
   |some o=>
    rw[q]at e2
    cases o with
    |none=>cases e2
    |some k=>
     refine⟨k,rfl,?_⟩
     have e2:(σ[k]?).join=some v:=Option.some.inj e2
     cases qq:σ[k]? with
     |none=>rw[qq]at e2;cases e2
     |some z=>rw[qq]at e2;exact congrArg some e2
  obtain⟨k,ek,ev⟩:=e2'
  obtain⟨x',n1,n2,n3⟩:=B.fv i k ek
  have:x'=x:=by
   have e1:N[i]? =some x:=e1
   rw[n1]at e1;exact Option.some.inj e1
  subst this
  obtain⟨m0,a9,a1⟩:=I.loc
  have O:=B.free (x',.free) (PySem.mem_of_lookup n3) rfl
  obtain⟨u,r,l⟩:=a1 k x' v n2 ev (by rcases O with z|z;exact .inr (.inl z);exact .inr (.inr z))
  refine⟨u,r,.inr ⟨?_,?_⟩⟩
  .exact W1 n3
  .rcases l with⟨l,_⟩|⟨_,c,ec,z⟩
   .rcases O with q|q <;> (rw[q]at l;cases l)
   .obtain⟨c',ec'⟩:=Option.isSome_iff_exists.mp (U3 ec sc.names [] (PySem.mem_of_lookup n3))
    have:=V0 ec'
    rw[ec]at this;cases this
    obtain⟨o,ho,hd⟩:=z
    exact⟨c,ec',o,U c o ho,hd⟩
 .obtain⟨v,o,ho,hd⟩:=I.cell x c (V0 e)
  exact⟨v,o,U c o ho,hd⟩
 .show upd H D _ C=none
  rw[w5 (Ne.symm a8)];exact a6
 .rw[w5 (cD x c (V0 e))];exact I.freeC x c (V0 e)
 .exact absurd (show p∈([]:List (Addr×Obj))++[]from hp) (by simp)
 .show (blk0 src σ).length=N.length
  unfold blk0;rw[length_map];exact B.len
end
end
section
abbrev noE:Value->Shared->Prop:=fun _ _=>False
theorem toE {i:Type}{t:Sem i}{Q j:i->Shared->Prop}{M:Model}{A:Around}{E:Value->Shared->Prop}{s:Shared}(h:wpAny M A t Q noE s)(z:∀ a s,Q a s->j a s):wpAny M A t j E s:=
 wpAny_mono h z fun _ _ x=>x.elim
noncomputable abbrev zn1 (ifs:List Expr)(env:Env):Sem Bool:=forIn ifs true fun c r=>if r=true then do let ok ← isTrue c env (eval c env);pure (ForInStep.yield ok)else pure (ForInStep.yield r)
theorem zn2 {prog:Program}{w:World}{A:Around}{R:Result->Shared->Prop}{s:Shared}{a3 i iter:Expr}{a1:List Expr}{scope:Scope}{pos:Pos}{it acc:Value}{env:Env}(I:Nat->Shared->Prop)
  (turn:∀ n s,I n s->wpAny (model prog w) A (pyNext it) (fun r G=>match r with
   |none=>R (.ok .next) G
   |some v=>wpAny (model prog w) A (letOwnedTupleGo i it v) (fun _ z=>wpAny (model prog w) A (assign i env v) (fun _ U=>
     wpAny (model prog w) A (zn1 a1 env) (fun ok j=>
      if ok=true then wpAny (model prog w) A (eval a3 env) (fun x O=>
       wpAny (model prog w) A (call (.builtin "list.append") [acc,x]) (fun _ N=>∃ m,m<n/\I m N) noE O) noE j
      else ∃ m,m<n/\I m j) noE U) noE z) noE G) noE s)
  (n:Nat) (h:I n s):
  codeAny (model prog w) A (.compLoop (.ListComp a3 [⟨i,iter,a1,0⟩] scope pos) 0 it acc env) R s:=by
 refine codeAny_loop rfl I (fun n s hI=>?_) n h
 show wpAny _ A ((compTurn (.ListComp a3 [⟨i,iter,a1,0⟩] scope pos) 0 it acc env).onRaise (fun x=>do noteFrame x env;theTreesLotGoes x)) _ _ s
 refine wpAny_noted ?_
 rw[compTurn_list]
 refine wpAny_bind (wpAny_standAt (wpAny_bind (toE (turn n s hI) (fun r G Z=>?_))))
 cases r with
 |none=>exact wpAny_pure Z
 |some v=>
  refine wpAny_bind (toE Z fun _ z a2=>?_)
  refine wpAny_bind (toE a2 (fun _ U a6=>wpAny_bind (toE a6 (fun ok j Y=>?_))))
  cases ok with
  |false=>exact wpAny_pure ⟨rfl,Y⟩
  |true=>
   exact wpAny_bind (wpAny_bind (toE Y (fun x O a5=>wpAny_bind (toE a5 (fun _ N a4=>wpAny_pure (wpAny_pure ⟨rfl,a4⟩))))))
def PTs (X:Cx)(ifs:List Expr)(t:TT):Prop:=
 ∀(pins:List (Addr×Obj))(s:Shared)(σ:St)(H:Hp)(Q:Bool->Hp->Prop),Inv X pins σ H s->t σ H Q->wpAny (model X.prog X.w) X.A (zn1 ifs X.env) (TP X pins σ Q) X.xe s
def tYes:TT:=fun _ H Q=>Q true H
theorem xy6 {X:Cx}:PTs X [] tYes:=fun pins s σ H Q I h=>wpAny_pure ⟨H,I,h⟩
theorem xy5 {X:Cx}{c:Expr}{t:TT}(h:PT X c t):PTs X [c] t:=fun pins s σ H Q I q=>wpAny_tests_one (h pins s σ H Q I q)
def zr3 (src:List (Option Nat))(wi:TI)(g:TG)(tc:TT)(te:TE):TE:=fun σ H Q=>wi σ H fun J H1=>∀ D,H1 D=none->∃ W:Nat->Nat->St->Hp->Prop,(∃ m,W 0 m (blk0 src σ) (upd H1 D (.lst [])))/\∀ i m σ' H',W i m σ' H'->
 (J.stop i H'/\Q (.ref D) H')\/(J.go i H'/\∃ N:St->Hp->Prop,(∀ σ2 H2,N σ2 H2->∃ m',m'<m/\W (i+1) m' σ2 H2)/\∀ x H2,J.yld i H' x H2->g x σ' H2 fun σ3 H3=>tc σ3 H3 fun b H4=>
  if b=true then te σ3 H4 fun y H5=>∃ xs,H5 D=some (.lst xs)/\xs.length<sizeLine/\N σ3 (upd H5 D (.lst (xs++[y])))else N σ3 H4)
section
variable {X:Cx}
theorem zx7 {sc:Scope}{N:List Str}{src:List (Option Nat)}{tg ab iter:Expr}{a9:List Expr}{pos:Pos}{g:TG}{tc:TT}{te:TE}(B:Blk X sc N src)(hc:X.calm=true)
  (hg:∀ C fp s H,PG (Y6 X sc C N fp s H) tg g) (ht:∀ C fp s H,PTs (Y6 X sc C N fp s H) a9 tc) (he:∀ C fp s H,PE (Y6 X sc C N fp s H) ab te)
  {pins:List (Addr×Obj)} {σ:St} {H:Hp} {s:Shared} {it:Addr} {fp:List Addr} {tn:Nat->Heap->Prop} {J:It} {Q:VK} {E:Value->Shared->Prop}
  (I:Inv X pins σ H s) (T:Turn X.prog X.w X.K tg J fp it tn) (st:tn 0 s.heap) (hf:∀ b∈fp,FpOk X pins H b)
  (hW:∀ D,H D=none->∃ W:Nat->Nat->St->Hp->Prop,(∃ m,W 0 m (blk0 src σ) (upd H D (.lst [])))/\∀ i m Z H',W i m Z H'->
   (J.stop i H'/\Q (.ref D) H')\/(J.go i H'/\∃ N:St->Hp->Prop,(∀ ac H2,N ac H2->∃ m',m'<m/\W (i+1) m' ac H2)/\∀ x H2,J.yld i H' x H2->g x Z H2 fun U H3=>tc U H3 fun b H4=>
    if b=true then te U H4 fun y H5=>∃ xs,H5 D=some (.lst xs)/\xs.length<sizeLine/\N U (upd H5 D (.lst (xs++[y])))else N U H4))
  {RR:Value->Addr->Result->Shared->Prop}
  (an:∀ D C H' s' m',Inv X pins σ H' s'->s'.heap.Ns C m'->H' C=none->s.heap.objs.size<=C->Q (.ref D) H'->RR (.ref D) C (.ok .next) s'):
  wpAny (model X.prog X.w) X.A (newList []) (fun acc a1=>wpAny (model X.prog X.w) X.A (newFunctionEnv sc X.env.globals (clOf X.env.cells sc.names []) [] X.env.qual none .none (some X.env)) (fun a6 ad=>
   codeAny (model X.prog X.w) X.A (.compStart (.ListComp ab [⟨tg,iter,a9,0⟩] sc pos) 0 (.ref it) acc { a6 with scope:=relabel sc X.env }) (RR acc a6.locals) ad) E a1) E s:=by
 refine wpAny_newObj_type (wpAny_newFunctionEnv B.nocell (by intro y hy;simp at hy) (fun R Y G=>?_) B.kind)
 dsimp only at Y G ⊢
 generalize aa:s.heap.push { cls:=.type "list",dict:=none,data:=.seq ([]:List Value).toArray }=H2 at Y G ⊢
 have hC:H2.objs.size=s.heap.objs.size+1:=by rw[<-aa,Heap.size_push]
 have ai:s.heap.objs.size≠H2.objs.size:=by rw[hC];exact Nat.ne_of_lt (Nat.lt_succ_self _)
 have a5:s.heap.objs.size<=H2.objs.size:=by rw[hC];exact Nat.le_succ _
 have below:∀ b,b<s.heap.objs.size->b≠H2.objs.size:=fun b O=>by rw[hC];exact Nat.ne_of_lt (Nat.lt_succ_of_lt O)
 have old:∀ b o,s.heap.get? b=some o->R.get? b=some o:=fun b o e=>G.extBut b o (below b (Heap.lt_size e)) (Heap.get?_push_of_some _ (aa ▸ Heap.get?_push_of_some _ e))
 have ah:R.get? s.heap.objs.size=some { cls:=.type "list",data:=.seq #[] 0 }:=G.extBut _ _ ai (Heap.get?_push_of_some _ (aa ▸ Heap.get?_push_size _ rfl))
 have ag:∀ b∈fp,∃ o,s.heap.get? b=some o:=fun b O=>by obtain⟨o,e,_⟩:=T.obj _ _ st b O;exact⟨o,e⟩
 have af:tn 0 R:=T.keep _ _ _ st fun b _ o e=>old b o e
 obtain⟨W,⟨m0,w0⟩,turn⟩:=hW s.heap.objs.size I.fresh
 have I1:=zm0 (t:=s.toks+([]:List (Str×Value)).length) B I hc hf ag old (Nat.le_refl _) ah Y a5 ai
 have a3:∀{H':Hp},(∀ b∈fp,H' b=none)->∀ b∈fp,FpOk (Y6 X sc H2.objs.size N fp s H) [] H' b:=fun{H'} hn b O=>by
  obtain⟨f0,f1,f2,f3,f4,f5⟩:=hf b O
  refine⟨hn b O,I1.ok.exf b O |>.1,I1.ok.exfs b O,.inl O,fun x c e=>f4 x c (V0 e),fun p hp=>absurd (show p∈([]:List (Addr×Obj))++[]from hp) (by simp)⟩
 have am:∀ b∈fp,b≠s.heap.objs.size:=fun b O z=>by
  obtain⟨o,e⟩:=ag b O
  exact absurd (Heap.lt_size e) (by rw[z];exact Nat.lt_irrefl _)
 have a4:∀ a1:Shared,a1={ s with heap:=R,toks:=s.toks+([]:List (Str×Value)).length }->
   codeAny (model X.prog X.w) X.A (.compLoop (.ListComp ab [⟨tg,iter,a9,0⟩] sc pos) 0 (.ref it) (.ref s.heap.objs.size) (compEnvC sc (clOf X.env.cells sc.names []) H2.objs.size X.env))
    (RR (.ref s.heap.objs.size) H2.objs.size) a1:=by
  rintro a1 rfl
  refine zn2 (fun n s'=>∃ i Z H',Inv (Y6 X sc H2.objs.size N fp s H) [] Z H' s'/\tn i s'.heap/\(∀ b∈fp,H' b=none)/\W i n Z H') ?_ m0
   ⟨0,_,_,I1,af,fun b O=>by rw[w5 (am b O)];exact(hf b O).1,w0⟩
  rintro n s3 ⟨i,U,H3,I3,ae,aj,w3⟩
  rcases turn i n U H3 w3 with⟨stop,qn⟩|⟨go,N',ao,step⟩
  .refine thn (T.done (Y6 X sc H2.objs.size N fp s H) rfl rfl rfl rfl i [] s3 U H3 noE I3 (a3 aj) ae stop) fun r s4 ⟨hr,I4⟩=>?_
   subst hr
   obtain⟨m4,al,_⟩:=id I4.loc
   refine an _ _ H3 s4 m4 ?_ al I4.free a5 qn
   exact I.call' (ch:=fp) I4.os I4.base I4.hok I4.bare fun b O=>⟨(hf b O).2.2.2.1,(hf b O).2.1,(hf b O).2.2.2.2.1,(hf b O).2.2.2.2.2⟩
  .refine thn (T.item (Y6 X sc H2.objs.size N fp s H) rfl rfl rfl rfl i [] s3 U H3 noE I3 (a3 aj) ae go) fun r s4 ⟨u,hr,h4⟩=>?_
   subst hr
   refine thn h4 fun _ s5 j=>?_
   obtain⟨x,H5,I5,r5,y5,a8,aq⟩:=j
   have ar:=I5.pinned (a3 aq) (T.obj _ _ a8)
   have again:∀{s7:Shared}{a2:St}{H7:Hp},Inv (Y6 X sc H2.objs.size N fp s H) ([]++zq4 fp s5.heap) a2 H7 s7->N' a2 H7->∃ m,m<n/\∃ i Z H',Inv (Y6 X sc H2.objs.size N fp s H) [] Z H' s7/\tn i s7.heap/\(∀ b∈fp,H' b=none)/\W i m Z H':=fun{s7 a2 H7} I7 n7=>by
    obtain⟨m',hm,w7⟩:=ao a2 H7 n7
    refine⟨m',hm,i+1,a2,H7,I7.unpinned,T.keep _ _ _ a8 fun b O o e=>(I7.pin (b,o) (mem_append_right _ (mem_append_right _ (S8 O e)))).1,fun b O=>?_,w7⟩
    obtain⟨o,e,d⟩:=T.obj _ _ a8 b O
    exact(I7.pin (b,o) (mem_append_right _ (mem_append_right _ (S8 O e)))).2.1
   refine thn (hg _ _ _ _ _ s5 U H5 x u _ ar r5 (step x H5 y5)) fun _ s6 j=>?_
   obtain⟨a7,H6,I6,q6⟩:=j
   refine thn (ht _ _ _ _ _ s6 a7 H6 _ I6 q6) fun ok s7 j=>?_
   obtain⟨H7,I7,q7⟩:=j
   cases ok with
   |false=>
    rw[if_neg Bool.false_ne_true]at q7 ⊢
    exact again I7 q7
   |true=>
    rw[if_pos rfl]at q7 ⊢
    refine thn (he _ _ _ _ _ s7 a7 H7 _ I7 q7) fun y s8 j=>?_
    obtain⟨v8,H8,I8,r8,q8⟩:=j
    obtain⟨xs,ap,ak,n8⟩:=q8
    refine thn (T7 _ s8 a7 H8 (.ref s.heap.objs.size) [v8] (.ref s.heap.objs.size) [y] (fun _ H9=>H9=upd H8 s.heap.objs.size (.lst (xs++[v8]))) I8 rfl (.cons r8 .nil) ⟨_,xs,v8,rfl,rfl,ap,ak,rfl⟩) fun _ s9 j=>?_
    obtain⟨v9,H9,I9,r9,q9⟩:=j
    subst q9
    exact again I9 n8
 refine codeAny_compStart_list (a4 _ rfl) (toE (T.self X.A 0 { s with heap:=R,toks:=s.toks+([]:List (Str×Value)).length } (fun v s'=>v= .ref it/\s'={ s with heap:=R,toks:=s.toks+([]:List (Str×Value)).length }) noE af ⟨rfl,rfl⟩) fun v s' j=>?_)
 obtain⟨e1,e2⟩:=j
 subst e1;subst e2
 exact a4 _ rfl
theorem Inv.letGo {pins:List (Addr×Obj)}{σ:St}{H:Hp}{s N:Shared}{C:Addr}{h':Heap}(I:Inv X pins σ H s)(i:∃ j H0,Inv X pins j H0 N)(G:N.heap.objs.size<=C)(hn:H C=none)(hs:Heap.SameBut C s.heap h'):Inv X pins σ H { s with heap:=h' }:=by
 obtain⟨j,H0,i⟩:=i
 refine I.turned (t':=s.toks) (it:=C) (fun b o O e=>(hs.2 b O).trans e) hn (Nat.ne_of_gt (Nat.lt_of_lt_of_le i.lt G)) (.inr (Nat.le_trans i.sz G)) (fun x c e z=>?_) fun p hp z=>?_
 .obtain⟨v,q⟩:=i.cell x c e
  exact absurd (Nat.lt_of_lt_of_le q.lt (by rw[z];exact G)) (Nat.lt_irrefl _)
 .exact absurd (Nat.lt_of_lt_of_le (Heap.lt_size (i.pin p hp).1) (by rw[z];exact G)) (Nat.lt_irrefl _)
theorem yv8 {sc:Scope}{N:List Str}{src:List (Option Nat)}{tg O iter:Expr}{i:List Expr}{pos:Pos}{Y:TI}{g:TG}{tc:TT}{te:TE}(B:Blk X sc N src)(hc:X.calm=true)
  (hi:PI X tg iter Y) (hg:∀ C fp s H,PG (Y6 X sc C N fp s H) tg g) (ht:∀ C fp s H,PTs (Y6 X sc C N fp s H) i tc) (he:∀ C fp s H,PE (Y6 X sc C N fp s H) O te)
  (hs:∀ x,foldedSetIterable iter X.env x=pure x:=by intro _;rfl):
  PE X (.ListComp O [⟨tg,iter,i,0⟩] sc pos) (zr3 src Y g tc te):=by
 intro pins s σ H Q I h
 rw[eval_ListComp]
 refine wpAny_comprehension_free (use:=none) rfl hs (B.cl I.ok) B.kind B.names (wpAny_mono (hi pins s σ H _ I h) (fun xv a1 z=>wpAny_mono z (fun a2 Z j=>?_) fun _ _ e=>e) fun _ _ e=>e)
 obtain⟨it,fp,tn,J,H2,rfl,I2,T,R,f2,hW⟩:=j
 refine zx7 (RR:=fun acc C=>compPost (model X.prog X.w) X.A X.xe none (EP X pins σ Q) acc C) (Q:=Q) B hc hg ht he I2 T R f2 hW ?_
 intro D C H' s' m' I' hn hC U q
 exact⟨m',hn,fun a3 G=>⟨.ref D,H',I'.letGo ⟨_,_,I2⟩ U hC G,rfl,q⟩⟩
theorem zk9 {i:Nat}{y:Str}{U:Pos}{sc:Scope}{N:List Str}{src:List (Option Nat)}{tg G iter:Expr}{j:List Expr}{pos O:Pos}{wi:TI}{g:TG}{tc:TT}{te:TE}(hN:X.N.Nodup)(a6:X.N[i]? =some y)(hx:Loc X.env.scope y)
  (B:Blk X sc N src) (hc:X.calm=true)
  (hi:PI X tg iter wi) (hg:∀ C fp s H,PG (Y6 X sc C N fp s H) tg g) (ht:∀ C fp s H,PTs (Y6 X sc C N fp s H) j tc) (he:∀ C fp s H,PE (Y6 X sc C N fp s H) G te)
  (a4:swapsWith (.ListComp G [⟨tg,iter,j,0⟩] sc pos) (some (.Name y U)) O.line X.env=pure true:=by rfl)
  (hs:∀ x,foldedSetIterable iter X.env x=pure x:=by intro _;rfl) (hf:X.fn y=true\/X.env.scope.names.lookup y=some .local:=by first|exact .inl rfl|exact .inr rfl|assumption):
  PS X (.Assign [.Name y U] (.ListComp G [⟨tg,iter,j,0⟩] sc pos) O) (tAsg (zr3 src wi g tc te) (zz7 i)):=by
 intro pins s σ H Dn I h
 rw[exec_Assign_Name_used _ _ _ _ a4]
 refine wpAny_bind (wpAny_standAt (wpAny_bind ?_))
 show wpAny _ _ (do let _ ← comprehension (.ListComp G [⟨tg,iter,j,0⟩] sc pos) sc X.env _ (newList []) false (eval iter X.env) (some (assign (.Name y U) X.env))) _ _ s
 refine wpAny_bind (wpAny_mono (wpAny_comprehension_free (use:=some (assign (.Name y U) X.env)) (Q:=fun _ s'=>SP X pins Dn .next s') rfl hs (B.cl I.ok) B.kind B.names
  (wpAny_mono (hi pins s σ H _ I h) (fun xv aa Z=>wpAny_mono Z (fun ac a9 Y=>?_) fun _ _ e=>e) fun _ _ e=>e)) (fun _ s' hq=>wpAny_pure (wpAny_pure hq)) fun _ _ e=>e)
 obtain⟨it,fp,tn,J,H2,rfl,I2,T,a3,f2,hW⟩:=Y
 refine zx7 (RR:=fun acc C=>compPost (model X.prog X.w) X.A X.xe (some (assign (.Name y U) X.env)) (fun _ s'=>SP X pins Dn .next s') acc C) (Q:=fun x H1=>zz7 i x σ H1 Dn.nx) B hc hg ht he I2 T a3 f2 hW ?_
 intro D C H' s' m' I' hn hC R q
 show wpAny _ _ (assign (.Name y U) X.env (.ref D)) _ _ _
 refine wpAny_assign_Name (zr5 I' hN a6 hx (v:=.ref D) rfl (fun ab a8 a2=>?_) hf)
 obtain⟨a,a5,ha⟩:=a2
 have a7:C≠a:=fun z=>by
  rcases ha with ha|ha
  .have:=I2.lt;rw[<-ha,<-z]at this
   exact absurd (Nat.lt_of_lt_of_le this R) (Nat.lt_irrefl _)
  .obtain⟨v,qv⟩:=I2.cell y a ha
   exact absurd (Nat.lt_of_lt_of_le qv.lt (by rw[<-z];exact R)) (Nat.lt_irrefl _)
 exact⟨m',hn.sameBut a5 a7,fun ad a1=>⟨_,H',a8.letGo ⟨_,_,I2⟩ R hC a1,q⟩⟩
end
end
section
section
variable {X:Cx}{pins:List (Addr×Obj)}{σ:St}{H:Hp}{s:Shared}{h':Heap}
theorem Inv.turnedL {t':Nat}{fp:List Addr}(I:Inv X pins σ H s)(k:∀ b o,b∉fp->s.heap.get? b=some o->h'.get? b=some o)(j:∀ b∈fp,FpOk X pins H b):Inv X pins σ H { s with heap:=h',toks:=t' }:=by
 have G:∀ b u,H b=some u->b∉fp:=fun b u e z=>by rw[(j b z).1]at e;cases e
 refine I.step (g':=s.gens) (d':=s.drawn) (ch:=fp) (fun b N=>⟨(j b N).2.2.2.1,(j b N).2.1,(j b N).2.2.2.2.1,(j b N).2.2.2.2.2⟩) (fun b o _ _ i e _=>k b o i e) (fun b o _ _ i e _=>⟨o.slots,k b o i e⟩) (fun _ _ _ _ n=>n)
  (fun b o i e=>⟨o,k b o i e⟩) (fun _ _ e=>e) (fun _ _ _ e=>e) (fun b ps e=>⟨#[],by rw[e];simp⟩) (fun m hm=>?_) (fun b u e=>?_) I.bare
 .obtain⟨o,es,ep,ho,r⟩:=hm
  exact⟨o,es,ep,k _ o (fun z=>(j _ z).2.1 rfl) ho,r⟩
 .refine(I.hok b u e).stay (fun c v i q=>k c v ?_ q) (fun _ q=>q) fun _ _ q=>q
  rcases i with z|z
  .rw[z];exact G b u e
  .exact G c _ z
theorem Inv.turnedN {t':Nat}{fp:List Addr}{T:Addr}{o:HO}(I:Inv X pins σ H s)(k:∀ b o,b∉fp->s.heap.get? b=some o->h'.get? b=some o)(G:∀ b∈fp,FpOk X pins H b)(O:s.heap.objs.size<=T)
  (new:ObjOk X.prog X.w (upd H T o) h' T o):Inv X pins σ (upd H T o) { s with heap:=h',toks:=t' }:=by
 have hn:H T=none:=I.hok.fresh O
 have ne:∀ b u,s.heap.get? b=some u->b≠T:=fun b u e z=>absurd (Nat.lt_of_lt_of_le (Heap.lt_size e) (by rw[z];exact O)) (Nat.lt_irrefl _)
 have N:∀ b u,H b=some u->b∉fp:=fun b u e z=>by rw[(G b z).1]at e;cases e
 refine I.step (g':=s.gens) (d':=s.drawn) (ch:=fp) (fun b j=>⟨(G b j).2.2.2.1,(G b j).2.1,(G b j).2.2.2.2.1,(G b j).2.2.2.2.2⟩) (fun b o _ _ i e _=>k b o i e) (fun b o _ _ i e _=>⟨o.slots,k b o i e⟩) (fun b o _ e n=>by rw[w5 (ne b o e)];exact n)
  (fun b o i e=>⟨o,k b o i e⟩) (fun b xs e=>by rw[w5 (m6 e hn)];exact e) (fun b _ _ e=>by rw[w5 (m6 e hn)];exact e) (fun b ps e=>⟨#[],by rw[w5 (m6 e hn),e];simp⟩) (fun m hm=>?_) (fun b u e=>?_) I.bare
 .obtain⟨o,es,ep,ho,r⟩:=hm
  exact⟨o,es,ep,k _ o (fun z=>(G _ z).2.1 rfl) ho,r⟩
 .by_cases j:b=T
  .subst j;rw[w4]at e;cases e;exact new
  .rw[w5 j]at e
   refine(I.hok b u e).stay (fun c v i q=>k c v ?_ q) (fun c q=>by rw[w5 (m6 q hn)];exact q) fun c xs q=>by rw[w5 (m6 q hn)];exact q
   rcases i with z|z
   .rw[z];exact N b u e
   .exact N c _ z
end
structure Zip2 (z TI TO i1 i2:Addr):Prop where
 TIz:TI≠z
 TOz:TO≠z
 i1z:i1≠z
 i2z:i2≠z
 TITO:TI≠TO
 TIi1:TI≠i1
 TIi2:TI≠i2
 TOi1:TO≠i1
 TOi2:TO≠i2
 i12:i1≠i2
section
variable {X:Cx}
end
end
section
structure Zip3 (z TI TO i1 i2 i3:Addr):Prop where
 TIz:TI≠z
 TOz:TO≠z
 i1z:i1≠z
 i2z:i2≠z
 i3z:i3≠z
 TITO:TI≠TO
 TIi1:TI≠i1
 TIi2:TI≠i2
 TIi3:TI≠i3
 TOi1:TO≠i1
 TOi2:TO≠i2
 TOi3:TO≠i3
 i12:i1≠i2
 i13:i1≠i3
 i23:i2≠i3
structure Apart3 (z TO i1 i2 i3 l:Addr):Prop where
 lz:l≠z
 lTO:l≠TO
 l1:l≠i1
 l2:l≠i2
 l3:l≠i3
section
variable {prog:Program}{w:World}{A:Around}{E:Value->Shared->Prop}{s:Shared}
end
section
variable {X:Cx}
end
noncomputable def Ite (K:W.Frag)(l:Addr):It:=
 ⟨fun i H=>∃ xs x,SqL K H l xs/\xs[i]? =some x,
  fun i H v H'=>∃ t x,v= .ref t/\H t=none/\H'=upd H t (.tup [.int i,x])/\(∀ xs,SqL K H l xs->xs[i]? =some x),
  fun i H=>∃ xs,SqL K H l xs/\xs.length<=i⟩
theorem zr1 {P:Program}{w:World}{K:W.Frag}{es:List Expr}{tk:Nat}{tp:Pos}(e it l:Addr)(a6:e≠it):
  Turn P w K (.Tuple es tk tp) (Ite K l) [e,it] e (fun i h=>(∃ old,IsEnum h e it (i:Nat) old)/\h.IsListIter it l i) where
 mem:=by simp
 obj:=fun i h st b hb=>by
  obtain⟨⟨old,z⟩,⟨o1,e1,_,d1⟩⟩:=st
  simp only[mem_cons,not_mem_nil,or_false]at hb
  rcases hb with rfl|rfl
  .exact⟨_,z,fun v q=>by cases q⟩
  .exact⟨_,e1,fun v q=>by rw[d1]at q;cases q⟩
 keep:=fun i h h' st k=>by
  obtain⟨⟨old,z⟩,h1⟩:=st
  exact⟨⟨old,k e (by simp) _ z⟩,h1.at fun o q=>k it (by simp) o q⟩
 item:=by
  intro X hP hw hK G i pins s σ H E I hf st hg
  subst hP hw hK
  obtain⟨xs,x,N,hx⟩:=hg
  obtain⟨Y,O,p1,_⟩:=I.list N
  obtain⟨u1,a9,a8⟩:=O.get hx
  obtain⟨⟨old,z⟩,h1⟩:=st
  refine wpAny_pyNext_enum_item z h1 p1.isList (x:=u1) (by simpa using a9) a6 fun h' a1 a2 a3 a4 hk=>?_
  refine⟨_,rfl,?_⟩
  refine wpAny_letOwnedTupleGo_enum a1 fun U a7 j=>?_
  have a5:e<s.heap.objs.size:=Heap.lt_size z
  have kk:∀ c o,c∉[e,it]->s.heap.get? c=some o->U.get? c=some o:=fun c o G q=>by
   simp only[mem_cons,not_mem_nil,or_false,not_or]at G
   exact j.extBut _ _ G.1 (hk c o G.1 G.2 q)
  have hT:U.get? s.heap.objs.size=some { cls:=.type "tuple",data:=.seq #[.int i s.toks,u1] }:=j.extBut _ _ (Nat.ne_of_gt a5) a3
  have I2:Inv X pins σ (upd H s.heap.objs.size (.tup [.int i,x])) { s with heap:=U,toks:=s.toks+1 }:=
   I.turnedN (T:=s.heap.objs.size) (o:=.tup [.int i,x]) kk hf (Nat.le_refl _) ⟨by show 2<=sizeLine;decide,[.int i s.toks,u1],.cons ⟨_,rfl⟩ (.cons a8 .nil),⟨_,hT,rfl,_,rfl⟩⟩
  refine⟨.ref s.heap.objs.size,_,I2,rfl,⟨_,x,rfl,I.fresh,rfl,fun zs Z=>by rw[I.list_inj Z N];exact hx⟩,
   ⟨⟨_,a7⟩,a2.extBut j.extBut a6.symm⟩,fun c R=>?_⟩
  have aa:c<s.heap.objs.size:=by
   obtain⟨o1,e1,_⟩:=h1
   simp only[mem_cons,not_mem_nil,or_false]at R
   rcases R with rfl|rfl
   .exact a5
   .exact Heap.lt_size e1
  rw[w5 (Nat.ne_of_lt aa)]
  exact(hf c R).1
 done:=by
  intro X hP hw hK G i pins s σ H E I hf st hg
  subst hP hw hK
  obtain⟨xs,N,hl⟩:=hg
  obtain⟨Y,O,p1,_⟩:=I.list N
  obtain⟨⟨old,z⟩,h1⟩:=st
  have ab:=O.length
  refine wpAny_pyNext_enum_end (I.ok.hd G) z h1 p1.isList (by simp;omega) fun h' hk=>⟨rfl,?_⟩
  exact I.turnedL (t':=s.toks) (fun c o G q=>by
   simp only[mem_cons,not_mem_nil,or_false,not_or]at G
   exact hk c o G.2 q) hf
 self:=fun A i s Q E st h=>by
  obtain⟨⟨old,z⟩,h1⟩:=st
  have hT:s.TypeIs (.ref e) "enumerate":=⟨_,z,rfl⟩
  refine wpAny_pyIter_slot hT F.slot_enumerate_iter (wpAny_call_entry F.slot_enumerate_iter hT F.entry_enumerate_iter ?_ (F.args_enumerate_iter_1 _))
  show wpAny _ _ (ret (.ref e)) _ _ s
  exact wpAny_pure ⟨_,rfl,"enumerate",_,hT,F.slot_enumerate_next.lookup,h⟩
section
variable {X:Cx}
def xb3 (K:W.Frag)(ta:TA):TI:=fun σ H R=>ta σ H fun vs H1=>∃ a xs,vs=[.ref a]/\SqL K H1 a xs/\R (Ite K a) H1
theorem xx4 {a:Expr}{ta:TA}{p pos:Pos}{es:List Expr}{tk:Nat}{tp:Pos}(hg:Gl X "enumerate")(hm:X.mg "enumerate"=none)(ha:PA X [a] ta)(hs:starEach [a] X.env=[(false,eval a X.env)]:=by rfl):
  PI X (.Tuple es tk tp) (.Call (.Name "enumerate" p) [a] [] pos) (xb3 X.K ta):=by
 intro pins s σ H R I h
 refine Call_ (L9 I hg hm boot_enumerate (PyProof.Rows.callWith_type1 (thn (ha pos pins s σ H _ I h) fun us s1 i=>?_) hs rfl))
 obtain⟨vs,H1,G,r1,N⟩:=i
 obtain⟨l,xs,e,N,q⟩:=N
 subst e
 cases r1 with
 |cons r rr=>
  cases rr
  cases r
  obtain⟨U,Z,p1,_⟩:=G.list N
  refine call_enumerate_list p1.isList fun h' O j a1 hk=>?_
  have I2:Inv X pins σ H1 { s1 with heap:=h',toks:=s1.toks }:=G.kept hk
  have hT:({ s1 with heap:=h' }:Shared).TypeIs (.ref (s1.heap.objs.size+1)) "enumerate":=⟨_,O,rfl⟩
  refine(zr1 (P:=X.prog) (w:=X.w) (K:=X.K) (es:=es) (tk:=tk) (tp:=tp) (s1.heap.objs.size+1) s1.heap.objs.size l (Nat.ne_of_gt (Nat.lt_succ_self _))).self X.A 0 { s1 with heap:=h' } _ _ ⟨⟨_,O⟩,j⟩ ?_
  refine⟨_,[s1.heap.objs.size+1,s1.heap.objs.size],_,_,H1,rfl,I2,zr1 _ _ l (Nat.ne_of_gt (Nat.lt_succ_self _)),⟨⟨_,O⟩,j⟩,fun b Y=>?_,q⟩
  have z:s1.heap.objs.size<=b:=by
   simp only[mem_cons,not_mem_nil,or_false]at Y
   rcases Y with rfl|rfl
   .exact Nat.le_succ _
   .exact Nat.le_refl _
  exact G.fpOk z (G.hok.fresh z)
end
end
section
def XAt (a C:Addr)(h:Heap):Prop:=∃ o vs,h.get? a=some o/\o.cls= .ref C/\o.data= .fields vs
noncomputable def yk0 (K:W.Frag)(C:Addr):Option Str:=match K.lookup C with
 |some ⟨_,_,.cls cd,_⟩=>some cd.name
 |_=>none
inductive D where
 |non|bl (b:Bool)|int (i:Int)|str (x:Str)|lst (ds:List D)|tup (ds:List D)|exc (c:Str)
 |ptr (a:Addr)|obj (c:Str) (ns:List Str) (ds:List D)
mutual
inductive Rep (K:W.Frag)(F:Hp):V->D->Prop
 |non:Rep K F .non .non
 |bl (b:Bool):Rep K F (.bl b) (.bl b)
 |int (i:Int):Rep K F (.int i) (.int i)
 |str (x:Str):Rep K F (.str x) (.str x)
 |lst {a:Addr} {xs:List V} {ds:List D}:SqL K F a xs->Reps K F xs ds->Rep K F (.ref a) (.lst ds)
 |tup {a:Addr} {xs:List V} {ds:List D}:SqT K F a xs->Reps K F xs ds->Rep K F (.ref a) (.tup ds)
 |exc {a C:Addr} {c:Str}:(W.nsIn K mainGlobals c=some (some (.ref C))/\yk0 K C=some c)->F a=some (.ext (XAt a C))->Rep K F (.ref a) (.exc c)
 |ptr (a:Addr):Rep K F (.ref a) (.ptr a)
 |obj {a dx C:Addr} {c:Str} {ns:List Str} {xs:List V} {ds:List D}:W.nsIn K mainGlobals c=some (some (.ref C))->ns.length=xs.length->F a=some (.ins C dx (ns.zip xs))->F dx=some (.own a)->Reps K F xs ds->Rep K F (.ref a) (.obj c ns ds)
inductive Reps (K:W.Frag)(F:Hp):List V->List D->Prop
 |nil:Reps K F [] []
 |cons {v:V} {d:D} {vs:List V} {ds:List D}:Rep K F v d->Reps K F vs ds->Reps K F (v::vs) (d::ds)
end
theorem Same.seqT {K:W.Frag}{H H':Hp}{a:Addr}{xs:List V}(e:Same H H')(h:SqT K H a xs):SqT K H' a xs:=by
 rcases h with (h|⟨o,h⟩)|h
 .exact .inl (.inl (e _ _ h))
 .exact .inl (.inr ⟨o,e _ _ h⟩)
 .exact .inr h
section
variable {K:W.Frag}{F F':Hp}
mutual
theorem Rep.mono (e:Same F F'):∀{v:V}{d:D},Rep K F v d->Rep K F' v d
 |_,_,.non=>.non
 |_,_,.bl b=>.bl b
 |_,_,.int i=>.int i
 |_,_,.str x=>.str x
 |_,_,.lst h r=>.lst (e.seq h) (Reps.mono e r)
 |_,_,.tup h r=>.tup (e.seqT h) (Reps.mono e r)
 |_,_,.exc h r=>.exc h (e _ _ r)
 |_,_,.ptr a=>.ptr a
 |_,_,.obj c l h h2 r=>.obj c l (e _ _ h) (e _ _ h2) (Reps.mono e r)
theorem Reps.mono (e:Same F F'):∀{vs:List V}{ds:List D},Reps K F vs ds->Reps K F' vs ds
 |_,_,.nil=>.nil
 |_,_,.cons h r=>.cons (Rep.mono e h) (Reps.mono e r)
end
theorem Reps.length:∀{vs:List V}{ds:List D},Reps K F vs ds->vs.length=ds.length
 |_,_,.nil=>rfl
 |_,_,.cons _ r=>congrArg (·+1) (Reps.length r)
theorem Reps.get:∀{vs:List V}{ds:List D}{i:Nat}{d:D},Reps K F vs ds->ds[i]? =some d->∃ v,vs[i]? =some v/\Rep K F v d
 |_,_,_,_,.nil,e=>by simp at e
 |_,_,0,_,.cons h _,e=>by simp at e;subst e;exact⟨_,rfl,h⟩
 |_,_,i+1,d,.cons _ r,e=>by
  obtain⟨v,h1,h2⟩:=Reps.get (i:=i) (d:=d) r (by simpa using e)
  exact⟨v,by simpa using h1,h2⟩
theorem Reps.get':∀{vs:List V}{ds:List D}{i:Nat}{v:V},Reps K F vs ds->vs[i]? =some v->∃ d,ds[i]? =some d/\Rep K F v d
 |_,_,_,_,.nil,e=>by simp at e
 |_,_,0,_,.cons h _,e=>by simp at e;subst e;exact⟨_,rfl,h⟩
 |_,_,i+1,d,.cons _ r,e=>by
  obtain⟨v,h1,h2⟩:=Reps.get' (i:=i) (v:=d) r (by simpa using e)
  exact⟨v,by simpa using h1,h2⟩
theorem Reps.append:∀{vs ws:List V}{ds es:List D},Reps K F vs ds->Reps K F ws es->Reps K F (vs++ws) (ds++es)
 |_,_,_,_,.nil,s=>s
 |_,_,_,_,.cons h r,s=>.cons h (Reps.append r s)
theorem Reps.take:∀{vs:List V}{ds:List D}(n:Nat),Reps K F vs ds->Reps K F (vs.take n) (ds.take n)
 |_,_,0,_=>.nil
 |_,_,_+1,.nil=>.nil
 |_,_,n+1,.cons h r=>.cons h (Reps.take n r)
theorem Reps.drop:∀{vs:List V}{ds:List D}(n:Nat),Reps K F vs ds->Reps K F (vs.drop n) (ds.drop n)
 |_,_,0,r=>r
 |_,_,_+1,.nil=>.nil
 |_,_,n+1,.cons _ r=>Reps.drop n r
theorem Reps.set {v:V}{d:D}(h:Rep K F v d):∀{vs:List V}{ds:List D}(i:Nat),Reps K F vs ds->Reps K F (vs.set i v) (ds.set i d)
 |_,_,_,.nil=>.nil
 |_,_,0,.cons _ r=>.cons h r
 |_,_,i+1,.cons q r=>.cons q (Reps.set h i r)
end
structure Ext (F H F' H':Hp):Prop where
 ff:Same F F'
 hh:Same H H'
 fh:Same F' H'
 new:∀ b,F b=none->F' b≠none->H b=none
 nf:∀ b o u,F' b=some (.frz o u)->F b=some (.frz o u)
theorem Ext.refl {F H:Hp}(h:Same F H):Ext F H F H:=⟨Same.refl _,Same.refl _,h,fun b e n=>absurd e n,fun _ _ _ z=>z⟩
theorem Ext.trans {F H F1 H1 F2 H2:Hp}(a:Ext F H F1 H1)(b:Ext F1 H1 F2 H2):Ext F H F2 H2:=
 ⟨a.ff.trans b.ff,a.hh.trans b.hh,b.fh,fun c e n=>by
  by_cases h:F1 c=none
  .exact a.hh.free (b.new c h n)
  .exact a.new c e h,fun c o u z=>a.nf c o u (b.nf c o u z)⟩
theorem Same.put {F H:Hp}{p:Addr}{o:HO}(h:Same F H)(hp:F p=none):Same F (upd H p o):=fun b u e=>by
 rw[w5 (m6 e hp)];exact h b u e
theorem Same.put2 {F H:Hp}{p:Addr}{o:HO}(h:Same F H):Same (upd F p o) (upd H p o):=fun b u e=>by
 by_cases i:b=p
 .subst i;rw[w4]at e ⊢;exact e
 .rw[w5 i]at e ⊢;exact h b u e
theorem Ext.laid {F H:Hp}{p:Addr}{o:HO}(h:Same F H)(hp:H p=none)(j:∀ a u,o≠ .frz a u:=by intro _ _ z;cases z):Ext F H (upd F p o) (upd H p o):=
 ⟨(Same.refl F).put (h.free hp),(Same.refl H).put hp,h.put2,fun b e n=>by
  by_cases i:b=p
  .subst i;exact hp
  .rw[w5 i]at n;exact absurd e n,fun b a u z=>by
  by_cases i:b=p
  .subst i;rw[w4]at z;exact absurd (Option.some.inj z) (j a u)
  .rw[w5 i]at z;exact z⟩
theorem Ext.own {F H:Hp}{p:Addr}{o:HO}(h:Same F H)(hp:H p=none):Ext F H F (upd H p o):=
 ⟨Same.refl F,(Same.refl H).put hp,h.put (h.free hp),fun b e n=>absurd e n,fun _ _ _ z=>z⟩
theorem Ext.freeze {F H F' H':Hp}{p:Addr}{o:HO}(a:Ext F H F' H')(j:F' p=none)(hp:H p=none)(I:H' p=some o)(G:∀ a u,o≠ .frz a u:=by intro _ _ z;cases z):Ext F H (upd F' p o) H':=
 ⟨a.ff.put (a.ff.free j),a.hh,fun b u e=>by
   by_cases i:b=p
   .subst i;rw[w4]at e;cases e;exact I
   .rw[w5 i]at e;exact a.fh b u e,fun b e n=>by
   by_cases i:b=p
   .subst i;exact hp
   .rw[w5 i]at n;exact a.new b e n,fun b c u z=>by
   by_cases i:b=p
   .subst i;rw[w4]at z;exact absurd (Option.some.inj z) (G c u)
   .rw[w5 i]at z;exact a.nf b c u z⟩
inductive S where
 |sh (d:D)|own (ds:List D)|ob (p:Addr) (ds:List D)
noncomputable abbrev Ro:=List (Option S)
structure Rl (K:W.Frag)(F0 H0 F H:Hp)(σ:St)(ρ:Ro):Prop where
 ext:Ext F0 H0 F H
 len:σ.length=ρ.length
 sh:∀(i:Nat) d,ρ[i]? =some (some (.sh d))->∃ v,σ[i]? =some (some v)/\Rep K F v d
 own:∀(i:Nat) ds,ρ[i]? =some (some (.own ds))->∃ p xs,σ[i]? =some (some (.ref p))/\F p=none/\H p=some (.lst xs)/\Reps K F xs ds/\H0 p=none
 inj:∀(i j:Nat) p ds es,i≠j->ρ[i]? =some (some (.own ds))->ρ[j]? =some (some (.own es))->σ[i]? =some (some (.ref p))->σ[j]? =some (some (.ref p))->False
 ob:∀(i:Nat) p ds,ρ[i]? =some (some (.ob p ds))->σ[i]? =some (some (.ref p))/\F p=none/\H0 p=none/\∃ xs,H p=some (.lst xs)/\Reps K F xs ds
 obn:∀(i j:Nat) p ds es,ρ[i]? =some (some (.ob p ds))->ρ[j]? =some (some (.own es))->σ[j]? =some (some (.ref p))->False
 ob1:∀(i j:Nat) p q ds es,ρ[i]? =some (some (.ob p ds))->ρ[j]? =some (some (.ob q es))->i=j
noncomputable def nob:Option S->Prop
 |some (.ob _ _)=>False
 |_=>True
theorem Y7 {ρ:Ro}{i j:Nat}{x:Option S}{p:Addr}{ds:List D}(e:(ρ.set i x)[j]? =some (some (.ob p ds)))(I:nob x:=by exact True.intro):i≠j/\ρ[j]? =some (some (.ob p ds)):=by
 by_cases G:i=j
 .subst G
  rcases Nat.lt_or_ge i ρ.length with z|z
  .rw[getElem?_set_self z]at e;cases e;exact I.elim
  .rw[getElem?_eq_none (by simpa using z)]at e;cases e
 .rw[getElem?_set_ne G]at e;exact⟨G,e⟩
section
variable {K:W.Frag}{F0 H0 F H F' H':Hp}{σ:St}{ρ:Ro}
theorem Rl.fh (r:Rl K F0 H0 F H σ ρ):Same F H:=r.ext.fh
theorem Rl.go (r:Rl K F0 H0 F H σ ρ)(e:Ext F H F' H'):Rl K F0 H0 F' H' σ ρ where
 ext:=r.ext.trans e
 len:=r.len
 sh:=fun i d h=>let ⟨v,a,b⟩:=r.sh i d h;⟨v,a,b.mono e.ff⟩
 own:=fun i ds h=>by
  obtain⟨p,xs,a,b,c,d,z⟩:=r.own i ds h
  refine⟨p,xs,a,?_,e.hh _ _ c,d.mono e.ff,z⟩
  cases q:F' p with
  |none=>rfl
  |some o=>have:=e.new p b (by rw[q];simp);rw[this]at c;cases c
 inj:=r.inj
 ob:=fun i p ds h=>by
  obtain⟨a,b,c,xs,d,z⟩:=r.ob i p ds h
  refine⟨a,?_,c,xs,e.hh _ _ d,z.mono e.ff⟩
  cases q:F' p with
  |none=>rfl
  |some o=>have:=e.new p b (by rw[q];simp);rw[this]at d;cases d
 obn:=r.obn
 ob1:=r.ob1
theorem Rl.set (r:Rl K F0 H0 F H σ ρ){i:Nat}{v:V}{d:D}(h:Rep K F v d):Rl K F0 H0 F H (σ.set i (some v)) (ρ.set i (some (.sh d))) where
 ext:=r.ext
 len:=by simp[r.len]
 sh:=fun j d' e=>by
  by_cases G:i=j
  .subst G
   have hl:i<ρ.length:=by
    rcases Nat.lt_or_ge i ρ.length with z|z
    .exact z
    .rw[getElem?_eq_none (by simpa using z)]at e;cases e
   rw[getElem?_set_self hl]at e
   cases e
   exact⟨v,by rw[getElem?_set_self (by rw[r.len];exact hl)],h⟩
  .rw[getElem?_set_ne G]at e ⊢
   exact r.sh j d' e
 own:=fun j ds e=>by
  by_cases G:i=j
  .subst G
   have hl:i<ρ.length:=by
    rcases Nat.lt_or_ge i ρ.length with z|z
    .exact z
    .rw[getElem?_eq_none (by simpa using z)]at e;cases e
   rw[getElem?_set_self hl]at e
   cases e
  .rw[getElem?_set_ne G]at e ⊢
   exact r.own j ds e
 inj:=fun j k p ds es N e1 e2 e3 O=>by
  have R:i≠j:=fun z=>by
   subst z
   have hl:i<ρ.length:=by
    rcases Nat.lt_or_ge i ρ.length with z|z
    .exact z
    .rw[getElem?_eq_none (by simpa using z)]at e1;cases e1
   rw[getElem?_set_self hl]at e1;cases e1
  have I:i≠k:=fun z=>by
   subst z
   have hl:i<ρ.length:=by
    rcases Nat.lt_or_ge i ρ.length with z|z
    .exact z
    .rw[getElem?_eq_none (by simpa using z)]at e2;cases e2
   rw[getElem?_set_self hl]at e2;cases e2
  rw[getElem?_set_ne R]at e1 e3
  rw[getElem?_set_ne I]at e2 O
  exact r.inj j k p ds es N e1 e2 e3 O
 ob:=fun j p ds e=>by
  obtain⟨n,e⟩:=Y7 e
  rw[getElem?_set_ne n];exact r.ob j p ds e
 obn:=fun j k p ds es e1 e2 e3=>by
  obtain⟨n,e1⟩:=Y7 e1
  have I:i≠k:=fun z=>by
   subst z
   have hl:i<ρ.length:=by
    rcases Nat.lt_or_ge i ρ.length with z|z
    .exact z
    .rw[getElem?_eq_none (by simpa using z)]at e2;cases e2
   rw[getElem?_set_self hl]at e2;cases e2
  rw[getElem?_set_ne I]at e2 e3
  exact r.obn j k p ds es e1 e2 e3
 ob1:=fun j k p q ds es e1 e2=>r.ob1 j k p q ds es (Y7 e1).2 (Y7 e2).2
theorem Rl.setOwn (r:Rl K F0 H0 F H σ ρ){i:Nat}{p:Addr}{xs:List V}{ds:List D}(Z:F p=none)(Y:H p=some (.lst xs))(h:Reps K F xs ds)(h0:H0 p=none)
  (fr:∀(j:Nat) es,i≠j->ρ[j]? =some (some (.own es))->σ[j]? =some (some (.ref p))->False) (fo:∀(j:Nat) q es,ρ[j]? =some (some (.ob q es))->q≠p):Rl K F0 H0 F H (σ.set i (some (.ref p))) (ρ.set i (some (.own ds))) where
 ext:=r.ext
 len:=by simp[r.len]
 sh:=fun j d' e=>by
  by_cases R:i=j
  .subst R
   have hl:i<ρ.length:=by
    rcases Nat.lt_or_ge i ρ.length with z|z
    .exact z
    .rw[getElem?_eq_none (by simpa using z)]at e;cases e
   rw[getElem?_set_self hl]at e
   cases e
  .rw[getElem?_set_ne R]at e ⊢
   exact r.sh j d' e
 own:=fun j es e=>by
  by_cases R:i=j
  .subst R
   have hl:i<ρ.length:=by
    rcases Nat.lt_or_ge i ρ.length with z|z
    .exact z
    .rw[getElem?_eq_none (by simpa using z)]at e;cases e
   rw[getElem?_set_self hl]at e
   cases e
   exact⟨p,xs,by rw[getElem?_set_self (by rw[r.len];exact hl)],Z,Y,h,h0⟩
  .rw[getElem?_set_ne R]at e ⊢
   exact r.own j es e
 inj:=fun j k q es G N e1 e2 e3 I=>by
  by_cases U:i=j
  .subst U
   rw[getElem?_set_ne N]at e2 I
   have hl:i<σ.length:=by
    rcases Nat.lt_or_ge i σ.length with z|z
    .exact z
    .rw[getElem?_eq_none (by simpa using z)]at e3;cases e3
   rw[getElem?_set_self hl]at e3
   cases e3
   exact fr k G N e2 I
  .rw[getElem?_set_ne U]at e1 e3
   by_cases O:i=k
   .subst O
    have hl:i<σ.length:=by
     rcases Nat.lt_or_ge i σ.length with z|z
     .exact z
     .rw[getElem?_eq_none (by simpa using z)]at I;cases I
    rw[getElem?_set_self hl]at I
    cases I
    exact fr j es U e1 e3
   .rw[getElem?_set_ne O]at e2 I
    exact r.inj j k q es G N e1 e2 e3 I
 ob:=fun j q es e=>by
  obtain⟨n,e⟩:=Y7 e
  rw[getElem?_set_ne n];exact r.ob j q es e
 obn:=fun j k q es G e1 e2 e3=>by
  obtain⟨n,e1⟩:=Y7 e1
  by_cases O:i=k
  .subst O
   have hl:i<σ.length:=by
    rcases Nat.lt_or_ge i σ.length with z|z
    .exact z
    .rw[getElem?_eq_none (by simpa using z)]at e3;cases e3
   rw[getElem?_set_self hl]at e3
   cases e3
   exact fo j p es e1 rfl
  .rw[getElem?_set_ne O]at e2 e3
   exact r.obn j k q es G e1 e2 e3
 ob1:=fun j k p q ds es e1 e2=>r.ob1 j k p q ds es (Y7 e1).2 (Y7 e2).2
theorem Rl.write (r:Rl K F0 H0 F H σ ρ){i:Nat}{p:Addr}{ys:List V}{ds es:List D}(h:ρ[i]? =some (some (.own ds)))(hp:σ[i]? =some (some (.ref p)))(hy:Reps K F ys es):
  Rl K F0 H0 F (upd H p (.lst ys)) σ (ρ.set i (some (.own es))):=by
 obtain⟨p',a1,a,b,c,d,z⟩:=r.own i ds h
 rw[hp]at a;cases a
 have hl:i<ρ.length:=(List.getElem?_eq_some_iff.mp h).1
 refine⟨⟨r.ext.ff,r.ext.hh.put z,r.ext.fh.put b,r.ext.new,r.ext.nf⟩,by simp[r.len],fun j d' q=>?_,fun j fs q=>?_,fun j k q fs fs' N e1 e2 e3 e4=>?_,fun j q fs e1=>?_,fun j k q fs fs' e1 e2 e3=>?_,fun j k q q' es U e1 e2=>r.ob1 j k q q' es U (Y7 e1).2 (Y7 e2).2⟩
 .by_cases hj:i=j
  .subst hj
   rw[getElem?_set_self hl]at q
   cases q
  .rw[getElem?_set_ne hj]at q
   exact r.sh j d' q
 .by_cases hj:i=j
  .subst hj
   rw[getElem?_set_self hl]at q
   cases q
   exact⟨p,ys,hp,b,w4,hy,z⟩
  .rw[getElem?_set_ne hj]at q
   obtain⟨p2,I,Z,b2,c2,d2,z2⟩:=r.own j fs q
   have G:p2≠p:=fun w=>r.inj i j p ds fs hj h q hp (by rw[<-w];exact Z)
   exact⟨p2,I,Z,b2,by rw[w5 G];exact c2,d2,z2⟩
 .have back:∀(m:Nat) R,(ρ.set i (some (S.own es)))[m]? =some (some (.own R))->∃ O,ρ[m]? =some (some (.own O)):=fun m R e=>by
   by_cases hm:i=m
   .subst hm;exact⟨ds,h⟩
   .rw[getElem?_set_ne hm]at e;exact⟨R,e⟩
  obtain⟨g1,e1⟩:=back j fs e1
  obtain⟨g2,e2⟩:=back k fs' e2
  exact r.inj j k q g1 g2 N e1 e2 e3 e4
 .obtain⟨n,e1⟩:=Y7 e1
  obtain⟨o1,o2,o3,zs,o4,o5⟩:=r.ob j q fs e1
  have G:q≠p:=fun w=>r.obn j i q fs ds e1 h (by rw[w];exact hp)
  exact⟨o1,o2,o3,zs,by rw[w5 G];exact o4,o5⟩
 .obtain⟨n,e1⟩:=Y7 e1
  by_cases Y:i=k
  .subst Y;exact r.obn j i q fs ds e1 h e3
  .rw[getElem?_set_ne Y]at e2
   exact r.obn j k q fs fs' e1 e2 e3
theorem Rl.writeB (r:Rl K F0 H0 F H σ ρ){i:Nat}{p:Addr}{ys:List V}{ds es:List D}(h:ρ[i]? =some (some (.ob p ds)))(hy:Reps K F ys es):
  Rl K F0 H0 F (upd H p (.lst ys)) σ (ρ.set i (some (.ob p es))):=by
 obtain⟨a,b,z,Z,c,d⟩:=r.ob i p ds h
 have hl:i<ρ.length:=(List.getElem?_eq_some_iff.mp h).1
 have back:∀(j:Nat) q fs,(ρ.set i (some (S.ob p es)))[j]? =some (some (.ob q fs))->j=i/\q=p/\fs=es:=fun j q fs e=>by
  by_cases G:i=j
  .subst G;rw[getElem?_set_self hl]at e;cases e;exact⟨rfl,rfl,rfl⟩
  .rw[getElem?_set_ne G]at e;exact absurd (r.ob1 i j p q ds fs h e) G
 have other:∀(j:Nat) fs,(ρ.set i (some (S.ob p es)))[j]? =some (some (.own fs))->i≠j/\ρ[j]? =some (some (.own fs)):=fun j fs e=>by
  by_cases G:i=j
  .subst G;rw[getElem?_set_self hl]at e;cases e
  .rw[getElem?_set_ne G]at e;exact⟨G,e⟩
 refine⟨⟨r.ext.ff,r.ext.hh.put z,r.ext.fh.put b,r.ext.new,r.ext.nf⟩,by simp[r.len],fun j d' q=>?_,fun j fs q=>?_,fun j k q fs fs' R e1 e2 e3 I=>r.inj j k q fs fs' R (other j fs e1).2 (other k fs' e2).2 e3 I,fun j q fs e1=>?_,fun j k q fs fs' e1 e2 e3=>?_,fun j k q q' fs fs' e1 e2=>?_⟩
 .by_cases G:i=j
  .subst G;rw[getElem?_set_self hl]at q;cases q
  .rw[getElem?_set_ne G]at q;exact r.sh j d' q
 .obtain⟨n,e⟩:=other j fs q
  obtain⟨p2,N,U,b2,c2,d2,Y⟩:=r.own j fs e
  have O:p2≠p:=fun w=>r.obn i j p ds fs h e (by rw[<-w];exact U)
  exact⟨p2,N,U,b2,by rw[w5 O];exact c2,d2,Y⟩
 .obtain⟨e2,e3,I⟩:=back j q fs e1
  subst e2 e3 I
  exact⟨a,b,z,ys,w4,hy⟩
 .obtain⟨I,e5,_⟩:=back j q fs e1
  subst I e5
  exact r.obn j k q ds fs' h (other k fs' e2).2 e3
 .rw[(back j q fs e1).1,(back k q' fs' e2).1]
end
theorem Rep.n' {K:W.Frag}{F:Hp}{x:V}(r:Rep K F x .non):x= .non:=by cases r;rfl
theorem Rep.b' {K:W.Frag}{F:Hp}{x:V}{i:Bool}(r:Rep K F x (.bl i)):x= .bl i:=by cases r;rfl
theorem Rep.i' {K:W.Frag}{F:Hp}{x:V}{i:Int}(r:Rep K F x (.int i)):x= .int i:=by cases r;rfl
theorem Rep.s' {K:W.Frag}{F:Hp}{x:V}{i:Str}(r:Rep K F x (.str i)):x= .str i:=by cases r;rfl
theorem Rep.l' {K:W.Frag}{F:Hp}{x:V}{ds:List D}(r:Rep K F x (.lst ds)):∃ a xs,x= .ref a/\SqL K F a xs/\Reps K F xs ds:=by cases r with |lst s r=>exact⟨_,_,rfl,s,r⟩
theorem Rep.t' {K:W.Frag}{F:Hp}{x:V}{ds:List D}(r:Rep K F x (.tup ds)):∃ a xs,x= .ref a/\SqT K F a xs/\Reps K F xs ds:=by cases r with |tup s r=>exact⟨_,_,rfl,s,r⟩
end
section
noncomputable abbrev ME:=Ro->Option D
noncomputable abbrev ML:=Ro->Option (List D)
noncomputable abbrev MB:=Ro->Option Bool
def TD (K:W.Frag)(m:ME):TE:=fun σ H Q=>∃ F0 H0 F ρ d,Rl K F0 H0 F H σ ρ/\m ρ=some d/\∀ v F' H',Ext F H F' H'->Rep K F' v d->Q v H'
def TF (K:W.Frag)(m:ML):TE:=fun σ H Q=>∃ F0 H0 F ρ ds,Rl K F0 H0 F H σ ρ/\m ρ=some ds/\∀ p xs F' H',Ext F H F' H'->H p=none->F' p=none->H' p=some (.lst xs)->Reps K F' xs ds->Q (.ref p) H'
def TB (K:W.Frag)(m:ML):TE:=fun σ H Q=>∃ F0 H0 F ρ ds,Rl K F0 H0 F H σ ρ/\m ρ=some ds/\∀ p xs F' H',Ext F H F' H'->SqL K H' p xs->Reps K F' xs ds->Q (.ref p) H'
def TC (K:W.Frag)(c:MB):TT:=fun σ H Q=>∃ F0 H0 F ρ b,Rl K F0 H0 F H σ ρ/\c ρ=some b/\∀ F' H',Ext F H F' H'->Q b H'
def TAs (K:W.Frag)(m:ML):TA:=fun σ H Q=>∃ F0 H0 F ρ ds,Rl K F0 H0 F H σ ρ/\m ρ=some ds/\∀ vs F' H',Ext F H F' H'->Reps K F' vs ds->Q vs H'
def PD (X:Cx)(e:Expr)(m:ME):Prop:=PE X e (TD X.K m)
def PF (X:Cx)(e:Expr)(m:ML):Prop:=PE X e (TF X.K m)
def PB (X:Cx)(e:Expr)(m:ML):Prop:=PE X e (TB X.K m)
def PC' (X:Cx)(e:Expr)(c:MB):Prop:=PT X e (TC X.K c)
def PCw (X:Cx)(e:Expr)(c:MB):Prop:=PW X e (TC X.K c)
def PAs (X:Cx)(es:List Expr)(m:ML):Prop:=PA X es (TAs X.K m)
section
variable {X:Cx}{a b c e:Expr}{ma mb:ME}{pos:Pos}
theorem PE.imp {t t':TE}(h:PE X e t)(i:∀ σ H Q,t' σ H Q->t σ H Q):PE X e t':=fun pins s σ H Q I q=>h pins s σ H Q I (i σ H Q q)
theorem PT.imp {t t':TT}(h:PT X e t)(i:∀ σ H Q,t' σ H Q->t σ H Q):PT X e t':=fun pins s σ H Q I q=>h pins s σ H Q I (i σ H Q q)
theorem PW.imp {t t':TT}(h:PW X e t)(i:∀ σ H Q,t' σ H Q->t σ H Q):PW X e t':=fun w pins s σ H Q I q=>h w pins s σ H Q I (i σ H Q q)
theorem PA.imp {es:List Expr}{t t':TA}(h:PA X es t)(i:∀ σ H Q,t' σ H Q->t σ H Q):PA X es t':=fun pos pins s σ H Q I q=>h pos pins s σ H Q I (i σ H Q q)
noncomputable def mvar (i:Nat):ME:=fun ρ=>match ρ[i]? with |some (some (.sh d))=>some d|_=>none
noncomputable def bvar (i:Nat):ML:=fun ρ=>match ρ[i]? with |some (some (.sh (.lst ds)))=>some ds|some (some (.own ds))=>some ds|some (some (.ob _ ds))=>some ds|_=>none
noncomputable def mc (d:D):ME:=fun _=>some d
theorem z6 (i:Nat){x:Str}{pos:Pos}(h:PE X (.Name x pos) (tVar i)):PD X (.Name x pos) (mvar i):=h.imp fun σ H Q j=>by
 obtain⟨F0,H0,F,ρ,d,r,e,q⟩:=j
 unfold mvar at e
 split at e
 .rename_i h'
  cases e
  obtain⟨v,e1,e2⟩:=r.sh i _ h'
  exact⟨v,e1,q v F H (.refl r.fh) e2⟩
 .cases e
theorem m8 (i:Nat){x:Str}{pos:Pos}(h:PE X (.Name x pos) (tVar i)):PB X (.Name x pos) (bvar i):=h.imp fun σ H Q j=>by
 obtain⟨F0,H0,F,ρ,d,r,e,q⟩:=j
 unfold bvar at e
 split at e
 .rename_i ds h'
  cases e
  obtain⟨v,e1,e2⟩:=r.sh i _ h'
  cases e2 with
  |lst s G=>exact⟨_,e1,q _ _ F H (.refl r.fh) (r.fh.seq s) G⟩
 .rename_i ds h'
  cases e
  obtain⟨p,xs,e1,e2,e3,z,_⟩:=r.own i _ h'
  exact⟨_,e1,q _ _ F H (.refl r.fh) (SqL.of e3) z⟩
 .rename_i p ds h'
  cases e
  obtain⟨e1,e2,_,xs,e3,z⟩:=r.ob i p _ h'
  exact⟨_,e1,q _ _ F H (.refl r.fh) (SqL.of e3) z⟩
 .cases e
theorem y7 {i:Int}{j pos}:PD X (.Constant (.int i) j pos) (mc (.int i)):=pe_int.imp fun σ H Q z=>by
 obtain⟨F0,H0,F,ρ,d,r,e,q⟩:=z
 cases e;exact q _ F H (.refl r.fh) (.int i)
theorem X9 {b:Bool}{j pos}:PD X (.Constant (.bool b) j pos) (mc (.bl b)):=pe_bl.imp fun σ H Q i=>by
 obtain⟨F0,H0,F,ρ,d,r,e,q⟩:=i
 cases e;exact q _ F H (.refl r.fh) (.bl b)
theorem L6 {j pos}:PD X (.Constant .none j pos) (mc .non):=pe_non.imp fun σ H Q i=>by
 obtain⟨F0,H0,F,ρ,d,r,e,q⟩:=i
 cases e;exact q _ F H (.refl r.fh) .non
theorem g3 {x:Str}{j pos}:PD X (.Constant (.str x) j pos) (mc (.str x)):=pe_str.imp fun σ H Q i=>by
 obtain⟨F0,H0,F,ρ,d,r,e,q⟩:=i
 cases e;exact q _ F H (.refl r.fh) (.str x)
noncomputable def mlst (m:ML):ME:=fun ρ=>(m ρ).map .lst
noncomputable def Z1 (m:ME):ML:=fun ρ=>match m ρ with |some (.lst ds)=>some ds|_=>none
theorem E8 {m:ML}(h:PF X e m):PD X e (mlst m):=h.imp fun σ H Q i=>by
 obtain⟨F0,H0,F,ρ,d,r,e,q⟩:=i
 unfold mlst at e
 cases hm:m ρ with
 |none=>rw[hm]at e;cases e
 |some ds=>
  rw[hm]at e;cases e
  refine⟨F0,H0,F,ρ,ds,r,hm,fun p xs F' H' x hp j G z=>?_⟩
  exact q _ (upd F' p (.lst xs)) H' (x.freeze j hp G) (.lst (SqL.of w4) (z.mono ((Same.refl F').put j)))
theorem yi7 (h:PD X e ma):PB X e (Z1 ma):=h.imp fun σ H Q i=>by
 obtain⟨F0,H0,F,ρ,d,r,e,q⟩:=i
 unfold Z1 at e
 split at e
 .rename_i ds hm
  cases e
  refine⟨F0,H0,F,ρ,_,r,hm,fun v F' H' x j=>?_⟩
  cases j with
  |lst s z=>exact q _ _ F' H' x (x.fh.seq s) z
 .cases e
theorem K6 {m:ML}(h:PF X e m):PB X e m:=h.imp fun σ H Q ⟨F0,H0,F,ρ,d,r,e,q⟩=>
 ⟨F0,H0,F,ρ,d,r,e,fun p xs F' H' x hp z j i=>q p xs F' H' x (SqL.of j) i⟩
@[irreducible] noncomputable def m2 (f:D->D->Option D)(x y:ME):ME:=fun ρ=>(x ρ).bind fun d=>(y ρ).bind fun e=>f d e
def OpD (K:W.Frag)(r:R2)(f:D->D->Option D):Prop:=∀(F H:Hp)(x y:V)(d e g:D)(Q:VK),Same F H->Rep K F x d->Rep K F y e->f d e=some g->(∀ v F' H',Ext F H F' H'->Rep K F' v g->Q v H')->r x y H Q
theorem xu9 {f:D->D->Option D}{ρ:Ro}{g:D}(h:m2 f ma mb ρ=some g):∃ d e,ma ρ=some d/\mb ρ=some e/\f d e=some g:=by
 unfold m2 at h
 cases h1:ma ρ with
 |none=>rw[h1]at h;cases h
 |some d=>
  cases h2:mb ρ with
  |none=>rw[h1,h2]at h;cases h
  |some e=>rw[h1,h2]at h;exact⟨d,e,rfl,rfl,h⟩
theorem op_d {r:R2}{f:D->D->Option D}(O:OpD X.K r f){σ:St}{H:Hp}{Q:VK}(h:TD X.K (m2 f ma mb) σ H Q):tOp r (TD X.K ma) (TD X.K mb) σ H Q:=by
 obtain⟨F0,H0,F,ρ,g,z,e,q⟩:=h
 obtain⟨d,G,h1,h2,R⟩:=xu9 e
 refine⟨F0,H0,F,ρ,d,z,h1,fun x F1 H1 j N=>⟨F0,H0,F1,ρ,G,z.go j,h2,fun y F2 H2 i r2=>?_⟩⟩
 exact O F2 H2 x y d G g Q i.fh (N.mono i.ff) r2 R fun v F' H' I=>q v F' H' ((j.trans i).trans I)
theorem zz2 {op:Operator}{r:R2}{f:D->D->Option D}(i:OpR X (binaryOp op) r)(j:OpD X.K r f)(ha:PD X a ma)(z:PD X b mb):PD X (.BinOp a op b pos) (m2 f ma mb):=(xw1 i ha z).imp fun _ _ _ h=>op_d j h
theorem X8 {op:CmpOp}{r:R2}{f:D->D->Option D}(i:OpR X (compareOp op) r)(j:OpD X.K r f)(ha:PD X a ma)(z:PD X b mb)(hm:behindInMarks op b=false):PD X (.Compare a [op] [b] pos) (m2 f ma mb):=(zj2 i ha z hm).imp fun _ _ _ h=>op_d j h
noncomputable def v0 (m:ME):MB:=fun ρ=>match m ρ with |some (.bl b)=>some b|_=>none
theorem j0 {op:CmpOp}{r:R2}{f:D->D->Option D}(z:OpR X (compareOp op) r)(G:OpD X.K r f)(ha:PD X a ma)(I:PD X b mb)(hm:behindInMarks op b=false):PC' X (.Compare a [op] [b] pos) (v0 (m2 f ma mb)):=(zw9 z ha I hm).imp fun σ H Q i=>by
 obtain⟨F0,H0,F,ρ,g,j,e,q⟩:=i
 unfold v0 at e
 split at e
 .rename_i k hk
  cases e
  refine op_d G ⟨F0,H0,F,ρ,.bl g,j,hk,fun v F' H' x r=>?_⟩
  cases r
  exact⟨_,rfl,q F' H' x⟩
 .cases e
noncomputable def int2 (g:Int->Int->Option D):D->D->Option D
 | .int i,.int j=>g i j
 |_,_=>none
theorem ze6 {g:Int->Int->Option D}{d e w:D}(h:int2 g d e=some w):∃ i j,d= .int i/\e= .int j/\g i j=some w:=by
 cases d with
 |int i=>
  cases e with
  |int j=>exact⟨i,j,rfl,rfl,h⟩
  |_=>cases h
 |_=>cases h
theorem zv8 {K:W.Frag}{g:Int->Int->V}{g':Int->Int->D}(G:∀ F i j,Rep K F (g i j) (g' i j)):OpD K (rI0 g) (int2 fun i j=>some (g' i j)):=by
 intro F H x y d e w Q s z r2 h q
 obtain⟨i,j,rfl,rfl,h'⟩:=ze6 h
 clear h
 cases h'
 exact⟨i,j,z.i',r2.i',q _ F H (.refl s) (G F i j)⟩
theorem zx0 {K:W.Frag}{C:Int->Int->Prop}{ok:Int->Int->Bool}{g:Int->Int->V}{g':Int->Int->D}(N:∀ i j,ok i j=true->C i j)(I:∀ F i j,Rep K F (g i j) (g' i j)):
  OpD K (rI C g) (int2 fun i j=>if ok i j=true then some (g' i j)else none):=by
 intro F H x y d e w Q s G r2 h q
 obtain⟨i,j,rfl,rfl,h'⟩:=ze6 h
 clear h
 by_cases z:ok i j=true
 .rw[if_pos z]at h'
  cases h'
  exact⟨i,j,G.i',r2.i',N i j z,q _ F H (.refl s) (I F i j)⟩
 .rw[if_neg z]at h'
  cases h'
noncomputable def subD:D->D->Option D:=int2 fun i j=>some (.int (i-j))
noncomputable def R1 (i j:Int):Bool:=(decide (-(2^64)<i)&&decide (i<2^64)) || (decide (-(2^64)<j)&&decide (j<2^64))
noncomputable def mulD:D->D->Option D:=int2 fun i j=>if R1 i j=true then some (.int (i*j))else none
noncomputable def zo6 (_ j:Int):Bool:=decide (0<j)&&decide (j<1073741824)
noncomputable def zi9:D->D->Option D:=int2 fun i j=>if zo6 i j=true then some (.int (i / j))else none
noncomputable def zz5 (_ j:Int):Bool:=decide (0<j)
noncomputable def modD:D->D->Option D:=int2 fun i j=>if zz5 i j=true then some (.int (i % j))else none
noncomputable def M0 (i j:Int):Bool:=decide (0<=j)&&decide (j<=1000000)&&decide (i.natAbs<2^64)
noncomputable def powD:D->D->Option D:=int2 fun i j=>if M0 i j=true then some (.int (i^j.toNat))else none
noncomputable def shlD:D->D->Option D:=int2 fun i j=>if M0 i j=true then some (.int (i*2^j.toNat))else none
noncomputable def xz4 (_ j:Int):Bool:=decide (0<=j)
noncomputable def shrD:D->D->Option D:=int2 fun i j=>if xz4 i j=true then some (.int (i / 2^j.toNat))else none
noncomputable def andD:D->D->Option D:=int2 fun i j=>some (.int (Builtin.bitAnd i j))
noncomputable def ltD:D->D->Option D:=int2 fun i j=>some (.bl (decide (i<j)))
noncomputable def leD:D->D->Option D:=int2 fun i j=>some (.bl (decide (i<=j)))
noncomputable def gtD:D->D->Option D:=int2 fun i j=>some (.bl (decide (j<i)))
noncomputable def geD:D->D->Option D:=int2 fun i j=>some (.bl (decide (j<=i)))
theorem zj6 {K:W.Frag}:OpD K (rI0 fun i j=>.int (i-j)) subD:=zv8 fun F i j=>.int _
theorem yt1 {K:W.Frag}:OpD K (rI CMul fun i j=>.int (i*j)) mulD:=zx0 (fun i j h=>by
 unfold R1 at h
 simp only[Bool.or_eq_true,Bool.and_eq_true,decide_eq_true_eq]at h
 exact h) fun F i j=>.int _
theorem yh2 {K:W.Frag}:OpD K (rI CDiv fun i j=>.int (i / j)) zi9:=zx0 (fun i j h=>by
 unfold zo6 at h
 simp only[Bool.and_eq_true,decide_eq_true_eq]at h
 exact h) fun F i j=>.int _
theorem xv7 {K:W.Frag}:OpD K (rI (fun _ j=>0<j) fun i j=>.int (i % j)) modD:=zx0 (fun i j h=>of_decide_eq_true h) fun F i j=>.int _
theorem xv6 {K:W.Frag}:OpD K (rI CPow fun i j=>.int (i^j.toNat)) powD:=zx0 (fun i j h=>by
 unfold M0 at h
 simp only[Bool.and_eq_true,decide_eq_true_eq]at h
 exact⟨h.1.1,h.1.2,h.2⟩) fun F i j=>.int _
theorem xv5 {K:W.Frag}:OpD K (rI CPow fun i j=>.int (i*2^j.toNat)) shlD:=zx0 (fun i j h=>by
 unfold M0 at h
 simp only[Bool.and_eq_true,decide_eq_true_eq]at h
 exact⟨h.1.1,h.1.2,h.2⟩) fun F i j=>.int _
theorem xv4 {K:W.Frag}:OpD K (rI (fun _ j=>0<=j) fun i j=>.int (i / 2^j.toNat)) shrD:=zx0 (fun i j h=>of_decide_eq_true h) fun F i j=>.int _
theorem xu1 {K:W.Frag}:OpD K (rI0 fun i j=>.int (Builtin.bitAnd i j)) andD:=zv8 fun F i j=>.int _
theorem yt2 {K:W.Frag}:OpD K (rI0 fun i j=>.bl (decide (i<j))) ltD:=zv8 fun F i j=>.bl _
theorem zf3 {K:W.Frag}:OpD K (rI0 fun i j=>.bl (decide (j<=i))) geD:=zv8 fun F i j=>.bl _
noncomputable def eqS:D->D->Option Bool
 | .non,.non=>some true| .non,.int _=>some false| .int _,.non=>some false| .non,.bl _=>some false| .bl _,.non=>some false| .non,.str _=>some false| .str _,.non=>some false
 | .int i,.int j=>some (i==j)| .bl i,.bl j=>some (i==j)| .str i,.str j=>some (i==j)
 | .int _,.str _=>some false| .str _,.int _=>some false| .bl _,.str _=>some false| .str _,.bl _=>some false
 |_,_=>none
noncomputable def eqSD (d e:D):Option D:=(eqS d e).map .bl
noncomputable def neSD (d e:D):Option D:=(eqS d e).map fun b=>.bl (!b)
noncomputable def scV:D->V
 | .bl b=>.bl b| .int i=>.int i| .str x=>.str x|_=>.non
theorem yp4 {d e:D}{k:Bool}(h:eqS d e=some k):scal (scV d) (scV e)=true/\decide (scV d=scV e)=k:=by
 cases d with
 |non=>cases e <;> cases h <;> exact⟨rfl,rfl⟩
 |bl i=>
  cases e <;> cases h
  .exact⟨rfl,rfl⟩
  .exact⟨rfl,yp9⟩
  .exact⟨rfl,rfl⟩
 |int i=>
  cases e <;> cases h
  .exact⟨rfl,rfl⟩
  .exact⟨rfl,zh2⟩
  .exact⟨rfl,rfl⟩
 |str i=>
  cases e <;> cases h
  .exact⟨rfl,rfl⟩
  .exact⟨rfl,rfl⟩
  .exact⟨rfl,rfl⟩
  .exact⟨rfl,zh1⟩
 |_=>cases h
theorem yz4 {d e:D}{k:Bool}(h:eqS d e=some k){K:W.Frag}{F:Hp}{x:V}(r:Rep K F x d):x=scV d:=by
 cases d with
 |non=>exact r.n'
 |bl i=>exact r.b'
 |int i=>exact r.i'
 |str i=>exact r.s'
 |_=>cases h
theorem zh0 (d e:D)(k:Bool)(h:eqS d e=some k):∃ j,eqS e d=some j:=by
 cases d with
 |non=>cases e <;> cases h <;> exact⟨_,rfl⟩
 |bl i=>cases e <;> cases h <;> exact⟨_,rfl⟩
 |int i=>cases e <;> cases h <;> exact⟨_,rfl⟩
 |str i=>cases e <;> cases h <;> exact⟨_,rfl⟩
 |_=>cases h
theorem k7 {K:W.Frag}:OpD K rEq eqSD:=by
 intro F H x y d e w Q s j r2 h q
 unfold eqSD at h
 cases hk:eqS d e with
 |none=>rw[hk]at h;cases h
 |some k=>
  rw[hk]at h
  cases h
  obtain⟨z,i⟩:=zh0 d e k hk
  obtain⟨h1,h2⟩:=yp4 hk
  rw[yz4 hk j,yz4 i r2]
  refine⟨h1,?_⟩
  rw[h2]
  exact q _ F H (.refl s) (.bl _)
theorem zv9 {K:W.Frag}:OpD K rNe neSD:=by
 intro F H x y d e w Q s j r2 h q
 unfold neSD at h
 cases hk:eqS d e with
 |none=>rw[hk]at h;cases h
 |some k=>
  rw[hk]at h
  cases h
  obtain⟨z,i⟩:=zh0 d e k hk
  obtain⟨h1,h2⟩:=yp4 hk
  rw[yz4 hk j,yz4 i r2]
  refine⟨h1,?_⟩
  rw[h2]
  exact q _ F H (.refl s) (.bl _)
noncomputable def m1 (f:D->Option D)(x:ME):ME:=fun ρ=>(x ρ).bind f
noncomputable def negD:D->Option D
 | .int i=>some (.int (-i))
 |_=>none
theorem yr1 {f:D->Option D}{ρ:Ro}{g:D}(h:m1 f ma ρ=some g):∃ d,ma ρ=some d/\f d=some g:=by
 unfold m1 at h
 cases h1:ma ρ with
 |none=>rw[h1]at h;cases h
 |some d=>rw[h1]at h;exact⟨d,rfl,h⟩
theorem D3 (ha:PD X a ma):PD X (.UnaryOp .USub a pos) (m1 negD ma):=(xe9 xp2 ha).imp fun σ H Q i=>by
 obtain⟨F0,H0,F,ρ,g,z,e,q⟩:=i
 obtain⟨d,h1,h2⟩:=yr1 e
 refine⟨F0,H0,F,ρ,d,z,h1,fun x F1 H1 j G=>?_⟩
 cases G <;> first| (cases h2;done)|skip
 cases h2
 exact⟨_,rfl,q _ F1 H1 j (.int _)⟩
noncomputable def notD:D->Option D
 | .bl b=>some (.bl (!b))
 |_=>none
theorem yu3 (ha:PD X a ma):PD X (.UnaryOp .Not a pos) (m1 notD ma):=(xm0 ha).imp fun σ H Q i=>by
 obtain⟨F0,H0,F,ρ,g,z,e,q⟩:=i
 obtain⟨d,h1,h2⟩:=yr1 e
 refine⟨F0,H0,F,ρ,d,z,h1,fun x F1 H1 j G=>?_⟩
 cases G <;> first| (cases h2;done)|skip
 cases h2
 exact⟨_,rfl,q _ F1 H1 j (.bl _)⟩
noncomputable def mand (x y:ME):ME:=fun ρ=>match x ρ with |some (.bl true)=>y ρ|some (.bl false)=>some (.bl false)|_=>none
noncomputable def mor (x y:ME):ME:=fun ρ=>match x ρ with |some (.bl true)=>some (.bl true)|some (.bl false)=>y ρ|_=>none
theorem R4 {op}(h:PD X a ma):PD X (.BoolOp op [a] pos) ma:=xn9 h
theorem U8 {rest:List Expr}(ha:PD X a ma)(N:PD X (.BoolOp .And (b::rest) pos) mb):PD X (.BoolOp .And (a::b::rest) pos) (mand ma mb):=(xm1 ha N).imp fun σ H Q i=>by
 obtain⟨F0,H0,F,ρ,g,z,e,q⟩:=i
 unfold mand at e
 split at e
 .rename_i h1
  refine⟨F0,H0,F,ρ,_,z,h1,fun x F1 H1 j G=>?_⟩
  cases G
  refine⟨true,rfl,?_⟩
  refine iteT ?_
  exact⟨F0,H0,F1,ρ,g,z.go j,e,fun y F2 H2 I r2=>q y F2 H2 (j.trans I) r2⟩
 .rename_i h1
  cases e
  refine⟨F0,H0,F,ρ,_,z,h1,fun x F1 H1 j G=>?_⟩
  cases G
  refine⟨false,rfl,?_⟩
  refine iteF ?_
  exact q _ F1 H1 j (.bl _)
 .cases e
theorem xd1 {rest:List Expr}(ha:PD X a ma)(N:PD X (.BoolOp .Or (b::rest) pos) mb):PD X (.BoolOp .Or (a::b::rest) pos) (mor ma mb):=(xd0 ha N).imp fun σ H Q i=>by
 obtain⟨F0,H0,F,ρ,g,z,e,q⟩:=i
 unfold mor at e
 split at e
 .rename_i h1
  cases e
  refine⟨F0,H0,F,ρ,_,z,h1,fun x F1 H1 j G=>?_⟩
  cases G
  refine⟨true,rfl,?_⟩
  refine iteT ?_
  exact q _ F1 H1 j (.bl _)
 .rename_i h1
  refine⟨F0,H0,F,ρ,_,z,h1,fun x F1 H1 j G=>?_⟩
  cases G
  refine⟨false,rfl,?_⟩
  refine iteF ?_
  exact⟨F0,H0,F1,ρ,g,z.go j,e,fun y F2 H2 I r2=>q y F2 H2 (j.trans I) r2⟩
 .cases e
noncomputable def truD:D->Option Bool
 | .non=>some false
 | .bl b=>some b
 | .int i=>some (i != 0)
 | .str y=>if y.length<=sizeLine then some ((y.length:Int) != 0)else none
 | .lst ds=>some (!ds.isEmpty)
 | .tup ds=>some (!ds.isEmpty)
 | .exc _=>none
 | .ptr _=>none
 | .obj _ _ _=>none
noncomputable def mtru (m:ME):MB:=fun ρ=>(m ρ).bind truD
theorem K0 {K:W.Frag}{F:Hp}{vs:List V}{ds:List D}(h:Reps K F vs ds):(!ds.isEmpty)= !vs.isEmpty:=by cases h <;> rfl
theorem g4 (ha:PD X a ma)(O:∀ i,isTrue a X.env i=(do let v ← i;standAt a.pos;holding [v] (truthy v)):=by intro _;rfl):PC' X a (mtru ma):=(yj2 ha O).imp fun σ H Q j=>by
 obtain⟨F0,H0,F,ρ,b,I,e,q⟩:=j
 unfold mtru at e
 cases h1:ma ρ with
 |none=>rw[h1]at e;cases e
 |some d=>
  rw[h1]at e
  refine⟨F0,H0,F,ρ,d,I,h1,fun x F1 H1 z N=>⟨b,?_,q F1 H1 z⟩⟩
  cases N with
  |non=>cases e;rfl
  |bl=>cases e;rfl
  |int=>cases e;rfl
  |str x=>
   have e:(if x.length<=sizeLine then some ((x.length:Int) != 0)else none)=some b:=e
   split at e
   .rename_i hz
    cases e
    exact⟨hz,rfl⟩
   .cases e
  |lst s G=>cases e;exact .inl ⟨_,z.fh.seq s,K0 G⟩
  |tup s G=>cases e;exact .inr (.inl ⟨_,z.fh.seqT s,K0 G⟩)
  |exc=>cases e
  |ptr=>cases e
  |obj=>cases e
variable {ca cb:MB}
noncomputable def cand (x y:MB):MB:=fun ρ=>match x ρ with |some true=>y ρ|some false=>some false|none=>none
noncomputable def cor (x y:MB):MB:=fun ρ=>match x ρ with |some true=>some true|some false=>y ρ|none=>none
noncomputable def cnot (x:MB):MB:=fun ρ=>(x ρ).map (!·)
theorem pc_w (h:PCw X a ca):PC' X a ca:=h.pt
theorem zk7 (h:PC' X a ca):PCw X (.BoolOp .And [a] pos) ca:=yw2 h
theorem yw3 (h:PC' X a ca):PCw X (.BoolOp .Or [a] pos) ca:=yc0 h
theorem zj5 {rest:List Expr}(ha:PC' X a ca)(I:PCw X (.BoolOp .And (b::rest) pos) cb):PCw X (.BoolOp .And (a::b::rest) pos) (cand ca cb):=(yc1 ha I).imp fun σ H Q i=>by
 obtain⟨F0,H0,F,ρ,g,z,e,q⟩:=i
 unfold cand at e
 split at e
 .rename_i h1
  refine⟨F0,H0,F,ρ,_,z,h1,fun F1 H1 j=>?_⟩
  refine iteT ?_
  exact⟨F0,H0,F1,ρ,g,z.go j,e,fun F2 H2 G=>q F2 H2 (j.trans G)⟩
 .rename_i h1
  cases e
  refine⟨F0,H0,F,ρ,_,z,h1,fun F1 H1 j=>?_⟩
  refine iteF ?_
  exact q F1 H1 j
 .cases e
theorem yu7 {rest:List Expr}(ha:PC' X a ca)(I:PCw X (.BoolOp .Or (b::rest) pos) cb):PCw X (.BoolOp .Or (a::b::rest) pos) (cor ca cb):=(xn3 ha I).imp fun σ H Q i=>by
 obtain⟨F0,H0,F,ρ,g,z,e,q⟩:=i
 unfold cor at e
 split at e
 .rename_i h1
  cases e
  refine⟨F0,H0,F,ρ,_,z,h1,fun F1 H1 j=>?_⟩
  refine iteT ?_
  exact q F1 H1 j
 .rename_i h1
  refine⟨F0,H0,F,ρ,_,z,h1,fun F1 H1 j=>?_⟩
  refine iteF ?_
  exact⟨F0,H0,F1,ρ,g,z.go j,e,fun F2 H2 G=>q F2 H2 (j.trans G)⟩
 .cases e
theorem U9 (ha:PC' X a ca):PC' X (.UnaryOp .Not a pos) (cnot ca):=(xn4 ha).imp fun σ H Q i=>by
 obtain⟨F0,H0,F,ρ,g,z,e,q⟩:=i
 unfold cnot at e
 cases h1:ca ρ with
 |none=>rw[h1]at e;cases e
 |some k=>
  rw[h1]at e;cases e
  exact⟨F0,H0,F,ρ,k,z,h1,fun F1 H1 j=>q F1 H1 j⟩
noncomputable def mite (c:MB)(x y:ME):ME:=fun ρ=>match c ρ with |some true=>x ρ|some false=>y ρ|none=>none
theorem yc7 (I:PC' X c ca)(ha:PD X a ma)(N:PD X b mb):PD X (.IfExp c a b pos) (mite ca ma mb):=(yi4 I ha N).imp fun σ H Q j=>by
 obtain⟨F0,H0,F,ρ,g,z,e,q⟩:=j
 unfold mite at e
 split at e
 .rename_i h1
  refine⟨F0,H0,F,ρ,_,z,h1,fun F1 H1 i=>?_⟩
  refine iteT ?_
  exact⟨F0,H0,F1,ρ,g,z.go i,e,fun v F2 H2 G=>q v F2 H2 (i.trans G)⟩
 .rename_i h1
  refine⟨F0,H0,F,ρ,_,z,h1,fun F1 H1 i=>?_⟩
  refine iteF ?_
  exact⟨F0,H0,F1,ρ,g,z.go i,e,fun v F2 H2 G=>q v F2 H2 (i.trans G)⟩
 .cases e
noncomputable def anil:ML:=fun _=>some []
@[irreducible] noncomputable def z5 (x:ME)(r:ML):ML:=fun ρ=>(x ρ).bind fun d=>(r ρ).bind fun ds=>some (d::ds)
theorem zw0 {r:ML}{ρ:Ro}{i:List D}(h:z5 ma r ρ=some i):∃ d ds,ma ρ=some d/\r ρ=some ds/\i=d::ds:=by
 unfold z5 at h
 cases h1:ma ρ with
 |none=>rw[h1]at h;cases h
 |some d=>
  cases h2:r ρ with
  |none=>rw[h1,h2]at h;cases h
  |some ds=>rw[h1,h2]at h;cases h;exact⟨d,ds,rfl,rfl,rfl⟩
theorem z9:PAs X [] anil:=pa_nil.imp fun σ H Q i=>by
 obtain⟨F0,H0,F,ρ,g,j,e,q⟩:=i
 cases e;exact q [] F H (.refl j.fh) .nil
theorem z0 {es:List Expr}{m:ML}(ha:PD X a ma)(N:PAs X es m)(hs:starEach (a::es) X.env=(false,eval a X.env)::starEach es X.env:=by rfl):PAs X (a::es) (z5 ma m):=(j9 ha N hs).imp fun σ H Q i=>by
 obtain⟨F0,H0,F,ρ,g,G,e,q⟩:=i
 obtain⟨d,ds,h1,h2,rfl⟩:=zw0 e
 refine⟨F0,H0,F,ρ,d,G,h1,fun x F1 H1 z I=>⟨F0,H0,F1,ρ,ds,G.go z,h2,fun xs F2 H2 j r2=>?_⟩⟩
 exact q _ F2 H2 (z.trans j) (.cons (I.mono j.ff) r2)
@[irreducible] noncomputable def l6 (m:ML):ML:=fun ρ=>match m ρ with |some ds=>if ds.length<=sizeLine then some ds else none|none=>none
theorem zy2 {m:ML}{ρ:Ro}{i:List D}(h:l6 m ρ=some i):m ρ=some i/\i.length<=sizeLine:=by
 unfold l6 at h
 cases h1:m ρ with
 |none=>rw[h1]at h;cases h
 |some ds=>
  rw[h1]at h
  have h:(if ds.length<=sizeLine then some ds else none)=some i:=h
  split at h
  .rename_i hz;cases h;exact⟨rfl,hz⟩
  .cases h
theorem Z4 {es:List Expr}{m:ML}(h:PAs X es m):PF X (.List es pos) (l6 m):=(yc5 h).imp fun σ H Q i=>by
 obtain⟨F0,H0,F,ρ,g,G,e,q⟩:=i
 obtain⟨h1,h2⟩:=zy2 e
 refine⟨F0,H0,F,ρ,g,G,h1,fun vs F1 H1 j z=>⟨by rw[z.length];exact h2,fun p hp=>?_⟩⟩
 exact q p vs F1 _ (j.trans (Ext.own j.fh hp)) (j.hh.free hp) (j.fh.free hp) w4 z
noncomputable def mtup (m:ML):ME:=fun ρ=>(l6 m ρ).map .tup
theorem zy9 {es:List Expr}{m:ML}{k:Nat}(h:PAs X es m):PD X (.Tuple es k pos) (mtup m):=(yv7 h).imp fun σ H Q i=>by
 obtain⟨F0,H0,F,ρ,g,G,e,q⟩:=i
 unfold mtup at e
 cases h1:l6 m ρ with
 |none=>rw[h1]at e;cases e
 |some ds=>
  rw[h1]at e;cases e
  obtain⟨h1,h2⟩:=zy2 h1
  refine⟨F0,H0,F,ρ,ds,G,h1,fun vs F1 H1 j z=>⟨by rw[z.length];exact h2,fun p hp=>?_⟩⟩
  exact q _ _ _ (j.trans (Ext.laid j.fh hp)) (.tup (SqT.of w4) (z.mono ((Same.refl F1).put (j.fh.free hp))))
noncomputable def mlen (m:ML):ME:=fun ρ=>(m ρ).map fun ds=>.int ds.length
@[irreducible] noncomputable def mix (m:ML)(i:ME):ME:=fun ρ=>(m ρ).bind fun ds=>(i ρ).bind fun| .int k=>atI ds k|_=>none
theorem G6 {K:W.Frag}{F:Hp}{vs:List V}{ds:List D}{k:Int}{d:D}(r:Reps K F vs ds)(h:atI ds k=some d):∃ v,atI vs k=some v/\Rep K F v d:=by
 unfold atI at h ⊢
 rw[r.length]
 cases q:ixN ds.length k with
 |none=>rw[q]at h;cases h
 |some j=>
  rw[q]at h
  exact r.get h
theorem U1 {G:ML}(ha:PB X a G)(R:PD X b mb)(hs:A8 b:=by exact fun _ _=>rfl):PD X (.Subscript a b pos) (mix G mb):=(K7 V1 ha R hs).imp fun σ H Q j=>by
 obtain⟨F0,H0,F,ρ,g,N,e,q⟩:=j
 unfold mix at e
 cases h1:G ρ with
 |none=>rw[h1]at e;cases e
 |some ds=>
  cases h2:mb ρ with
  |none=>rw[h1,h2]at e;cases e
  |some i=>
   rw[h1,h2]at e
   refine⟨F0,H0,F,ρ,ds,N,h1,fun p xs F1 H1 I s1 O=>⟨F0,H0,F1,ρ,i,N.go I,h2,fun y F2 H2 z r2=>?_⟩⟩
   cases r2 <;> first| (cases e;done)|skip
   rename_i k
   obtain⟨v,Y,U⟩:=G6 (O.mono z.ff) (show atI ds k=some g from e)
   exact⟨p,xs,k,v,rfl,rfl,z.hh.seq s1,Y,q v F2 H2 (I.trans z) U⟩
theorem ye7 {K:W.Frag}{F:Hp}{vs:List V}{ds:List D}(r:Reps K F vs ds)(lo hi:Option Int):Reps K F (cutV vs lo hi) ((ds.drop (HT.sIx ds.length 0 lo)).take (HT.sIx ds.length ds.length hi-HT.sIx ds.length 0 lo)):=by
 unfold cutV
 rw[r.length]
 exact(r.drop _).take _
noncomputable def cutL (ds:List D)(lo hi:Option Int):List D:=(ds.drop (HT.sIx ds.length 0 lo)).take (HT.sIx ds.length ds.length hi-HT.sIx ds.length 0 lo)
noncomputable abbrev MO:=Ro->Option (Option Int)
noncomputable def W3:MO:=fun _=>some none
noncomputable def j4 (m:ME):MO:=fun ρ=>(m ρ).bind fun| .int i=>some (some i)|_=>none
noncomputable def TOs (K:W.Frag)(m:MO):TO:=fun σ H Q=>∃ F0 H0 F ρ i,Rl K F0 H0 F H σ ρ/\m ρ=some i/\∀ F' H',Ext F H F' H'->Q i H'
def POs (X:Cx)(e:Option Expr)(m:MO):Prop:=PO X e (TOs X.K m)
theorem PO.imp {e:Option Expr}{t t':TO}(h:PO X e t)(i:∀ σ H Q,t' σ H Q->t σ H Q):PO X e t':=fun pins s σ H Q I q=>h pins s σ H Q I (i σ H Q q)
theorem S7:POs X none W3:=PO.imp xx1 fun σ H Q j=>by obtain⟨F0,H0,F,ρ,i,z,e,q⟩:=j;cases e;exact q F H (.refl z.fh)
theorem X3 (h:PD X a ma):POs X (some a) (j4 ma):=PO.imp (xx0 h) fun σ H Q j=>by
 obtain⟨F0,H0,F,ρ,i,G,e,q⟩:=j
 unfold j4 at e
 cases h1:ma ρ with
 |none=>rw[h1]at e;cases e
 |some d=>
  rw[h1]at e
  refine⟨F0,H0,F,ρ,d,G,h1,fun v F1 H1 z I=>?_⟩
  cases I <;> first| (cases e;done)|skip
  cases e
  exact⟨_,rfl,q F1 H1 z⟩
@[irreducible] noncomputable def mcut (m:ML)(lo hi:MO):ML:=fun ρ=>(m ρ).bind fun ds=>(lo ρ).bind fun l=>(hi ρ).bind fun h=>some (cutL ds l h)
theorem xn7 {N:ML}{lo hi:Option Expr}{l h:MO}(ha:PB X a N)(hl:POs X lo l)(hh:POs X hi h)(Z:PE X e (tSl (rSlL X.K) (TB X.K N) (TOs X.K l) (TOs X.K h))):PF X e (mcut N l h):=Z.imp fun σ H Q G=>by
 obtain⟨F0,H0,F,ρ,g,R,e,q⟩:=G
 unfold mcut at e
 cases h1:N ρ with
 |none=>rw[h1]at e;cases e
 |some ds=>
  cases h2:l ρ with
  |none=>rw[h1,h2]at e;cases e
  |some i=>
   cases h3:h ρ with
   |none=>rw[h1,h2,h3]at e;cases e
   |some j=>
    rw[h1,h2,h3]at e;cases e
    refine⟨F0,H0,F,ρ,ds,R,h1,fun p xs F1 H1 O s1 Y=>⟨F0,H0,F1,ρ,i,R.go O,h2,fun F2 H2 I=>⟨F0,H0,F2,ρ,j,(R.go O).go I,h3,fun F3 H3 z=>?_⟩⟩⟩
    refine⟨p,xs,rfl,z.hh.seq (I.hh.seq s1),fun w hw=>?_⟩
    have U:=(O.trans I).trans z
    exact q w _ F3 _ (U.trans (Ext.own z.fh hw)) (U.hh.free hw) (z.fh.free hw) w4 (ye7 (Y.mono (I.ff.trans z.ff)) i j)
end
end
section
theorem zo1 (l:Addr)(j:Array Value)(n:Nat)(b:Addr)(i:Array Value)(I:Nat)(dd G:Option Addr)(sl z:Array (Option Value))(N:j.size+i.size<=sizeLine):
  Meets (Builtin.«list.__add__» ⟨[.ref l,.ref b],[]⟩) (fun _ R s=>s.heap.get? l=some { cls:=.type "list",dict:=dd,data:=.seq j n,slots:=sl }/\s.heap.get? b=some { cls:=.type "list",dict:=G,data:=.seq i I,slots:=z }/\R (.ok (.ret (Value.ref s.heap.objs.size))) { s with heap:=s.heap.push { cls:=Value.type "list",data:=Data.seq (j++i) },toks:=s.toks }):=
 .of_wp fun prog w A R s h=>by obtain⟨hp,g,d,tk,os⟩:=s;obtain⟨hl,O,h⟩:=h;have f1:=AutoSeq1.idx_int;have f2:=AutoSeq1.sub_tuple_tuple;have Z:=AutoSeq1.sub_list_list;have Y:=AutoSeq1.sub_tuple_list;have U:=AutoSeq1.sub_list_tuple;wp_walk using AutoSeq1.wpAny_loadPart' hl,AutoSeq1.wpAny_loadPart' O;exact⟨_,rfl,h⟩
section
variable {X:Cx}{a b c e:Expr}{ma mb:ME}{pos:Pos}
def xn2 (K:W.Frag):R2:=fun x y H Q=>∃ l b xs zs,x= .ref l/\y= .ref b/\SqL K H l xs/\SqL K H b zs/\xs.length+zs.length<=sizeLine/\∀ p,H p=none->Q (.ref p) (upd H p (.lst (xs++zs)))
theorem D6:OpR X (binaryOp .Add) (xn2 X.K):=by
 intro pins s σ H x y v u Q I rx U h
 obtain⟨l,b,xs,zs,rfl,rfl,Z,hB,hz,q⟩:=h
 cases rx
 cases U
 obtain⟨its,r,⟨⟨cl,dd,dt,sl⟩,n,e,R,hd,hs⟩,z⟩:=I.list Z
 obtain⟨i,r2,⟨⟨a3,a2,a1,O⟩,Y,e2,N,G,j⟩,z2⟩:=I.list hB
 simp only at R hd hs N G j
 subst R hd hs N G j
 have l1:=r.length
 have l2:=r2.length
 refine concat_meets (T:="list") ⟨_,e,rfl⟩ ⟨_,e2,rfl⟩ PySem.noFill_list_add PySem.seq_list_add F.slot_list_add F.entry_list_add (F.args_list_add_2 _ _) (zo1 l its.toArray n b i.toArray Y none none sl O (by rw[size_toArray,size_toArray];omega)) ⟨e,e2,?_⟩
 have ea:its.toArray++i.toArray=(its++i).toArray:=by simp
 rw[ea]
 exact⟨.ref _,_,I.lnew (t':=s.toks) (r.append r2) (by rw[length_append];omega),rfl,q _ I.fresh⟩
@[irreducible] noncomputable def mcat (x y:ML):ML:=fun ρ=>(x ρ).bind fun ds=>(y ρ).bind fun es=>if ds.length+es.length<=sizeLine then some (ds++es)else none
theorem ys7 {x y:ML}{ρ:Ro}{i:List D}(h:mcat x y ρ=some i):∃ ds es,x ρ=some ds/\y ρ=some es/\ds.length+es.length<=sizeLine/\i=ds++es:=by
 unfold mcat at h
 cases h1:x ρ with
 |none=>rw[h1]at h;cases h
 |some ds=>
  cases h2:y ρ with
  |none=>rw[h1,h2]at h;cases h
  |some es=>
   rw[h1,h2]at h
   have h:(if ds.length+es.length<=sizeLine then some (ds++es)else none)=some i:=h
   split at h
   .rename_i hz;cases h;exact⟨ds,es,rfl,rfl,hz,rfl⟩
   .cases h
theorem yv5 {x y:ML}(ha:PB X a x)(R:PB X b y):PF X (.BinOp a .Add b pos) (mcat x y):=(xw1 D6 ha R).imp fun σ H Q j=>by
 obtain⟨F0,H0,F,ρ,g,I,e,q⟩:=j
 obtain⟨ds,es,h1,h2,O,rfl⟩:=ys7 e
 refine⟨F0,H0,F,ρ,ds,I,h1,fun p xs F1 H1 G s1 N=>⟨F0,H0,F1,ρ,es,I.go G,h2,fun p2 ys F2 H2 i s2 r2=>?_⟩⟩
 refine⟨p,p2,xs,ys,rfl,rfl,i.hh.seq s1,s2,by rw[N.length,r2.length];exact O,fun w hw=>?_⟩
 have z:=G.trans i
 exact q w _ F2 _ (z.trans (Ext.own i.fh hw)) (z.hh.free hw) (i.fh.free hw) w4 ((N.mono i.ff).append r2)
noncomputable def addD:D->D->Option D
 | .int i,.int j=>some (.int (i+j))
 | .lst ds,.lst es=>if ds.length+es.length<=sizeLine then some (.lst (ds++es))else none
 |_,_=>none
theorem zu0 {K:W.Frag}:OpD K (fun x y H Q=>(rI0 fun i j=>V.int (i+j)) x y H Q\/xn2 K x y H Q) addD:=by
 intro F H x y d e w Q s N r2 h q
 cases d with
 |int i=>
  cases e with
  |int j=>
   cases h
   exact .inl ⟨_,_,N.i',r2.i',q _ F H (.refl s) (.int _)⟩
  |_=>cases h
 |lst G=>
  cases e with
  |lst z=>
   obtain⟨p1,R,e1,s1,t1⟩:=N.l'
   obtain⟨p2,O,e2,s2,t2⟩:=r2.l'
   have h:(if G.length+z.length<=sizeLine then some (D.lst (G++z))else none)=some w:=h
   by_cases I:G.length+z.length<=sizeLine
   .rw[if_pos I]at h
    cases h
    refine .inr ⟨_,_,_,_,e1,e2,s.seq s1,s.seq s2,by rw[t1.length,t2.length];exact I,fun p hp=>?_⟩
    exact q _ _ _ (Ext.laid s hp) (.lst (SqL.of w4) ((t1.append t2).mono ((Same.refl F).put (s.free hp))))
   .rw[if_neg I]at h;cases h
  |_=>cases h
 |_=>cases h
theorem e8 (ha:PD X a ma)(i:PD X b mb):PD X (.BinOp a .Add b pos) (m2 addD ma mb):=zz2 (OpR.or zf4 D6) zu0 ha i
theorem W7 (ha:PD X a ma)(i:PD X b mb):PD X (.BinOp a .Sub b pos) (m2 subD ma mb):=zz2 yt3 zj6 ha i
theorem O1 (ha:PD X a ma)(i:PD X b mb):PD X (.BinOp a .Mult b pos) (m2 mulD ma mb):=zz2 yc8 yt1 ha i
theorem zj4 (ha:PD X a ma)(i:PD X b mb):PD X (.BinOp a .FloorDiv b pos) (m2 zi9 ma mb):=zz2 xu3 yh2 ha i
theorem R5 (ha:PD X a ma)(i:PD X b mb):PD X (.BinOp a .Mod b pos) (m2 modD ma mb):=zz2 xm9 xv7 ha i
theorem D1 (ha:PD X a ma)(i:PD X b mb):PD X (.BinOp a .Pow b pos) (m2 powD ma mb):=zz2 xm8 xv6 ha i
theorem xm3 (ha:PD X a ma)(i:PD X b mb):PD X (.BinOp a .LShift b pos) (m2 shlD ma mb):=zz2 xm7 xv5 ha i
theorem xm2 (ha:PD X a ma)(i:PD X b mb):PD X (.BinOp a .RShift b pos) (m2 shrD ma mb):=zz2 xm6 xv4 ha i
theorem xv0 (ha:PD X a ma)(i:PD X b mb):PD X (.BinOp a .BitAnd b pos) (m2 andD ma mb):=zz2 xk1 xu1 ha i
@[irreducible] noncomputable def i5 (f:List D->Option D)(m:ML):ME:=fun ρ=>(m ρ).bind f
def zg2 (K:W.Frag)(r:List V->Hp->VK->Prop)(f:List D->Option D):Prop:=∀(F H:Hp)(vs:List V)(ds:List D)(g:D)(Q:VK),Same F H->Reps K F vs ds->f ds=some g->(∀ v F' H',Ext F H F' H'->Rep K F' v g->Q v H')->r vs H Q
theorem zx9 {r:List V->Hp->VK->Prop}{f:List D->Option D}{m:ML}(I:zg2 X.K r f){σ:St}{H:Hp}{Q:VK}(h:TD X.K (i5 f m) σ H Q):tCB r (TAs X.K m) σ H Q:=by
 obtain⟨F0,H0,F,ρ,g,z,e,q⟩:=h
 unfold i5 at e
 cases h1:m ρ with
 |none=>rw[h1]at e;cases e
 |some ds=>
  rw[h1]at e
  exact⟨F0,H0,F,ρ,ds,z,h1,fun vs F1 H1 i G=>I F1 H1 vs ds g Q i.fh G e fun v F' H' j=>q v F' H' (i.trans j)⟩
noncomputable def lenF:List D->Option D
 |[.lst ds]=>some (.int ds.length)
 |[.tup ds]=>some (.int ds.length)
 |[.str x]=>if x.length<=sizeLine then some (.int x.length)else none
 |_=>none
theorem yo4 {K:W.Frag}:zg2 K (fun xs H Q=>(∃ p ys,xs=[.ref p]/\(SqL K H p ys\/SqT K H p ys)/\Q (.int ys.length) H)\/(∃ z,xs=[.str z]/\z.length<=sizeLine/\Q (.int z.length) H)) lenF:=by
 intro F H vs ds g Q s r h q
 cases r with
 |nil=>cases h
 |cons r i=>
  cases i with
  |cons _ _=>revert h;unfold lenF;intro h;split at h <;> simp_all
  |nil=>
   cases r with
   |lst s1 t1=>cases h;exact .inl ⟨_,_,rfl,.inl (s.seq s1),by rw[t1.length];exact q _ F H (.refl s) (.int _)⟩
   |tup s1 t1=>cases h;exact .inl ⟨_,_,rfl,.inr (s.seqT s1),by rw[t1.length];exact q _ F H (.refl s) (.int _)⟩
   |str x=>
    have h:(if x.length<=sizeLine then some (D.int x.length)else none)=some g:=h
    split at h
    .rename_i hz;cases h;exact .inr ⟨_,rfl,hz,q _ F H (.refl s) (.int _)⟩
    .cases h
   |_=>cases h
theorem O2 {e:Expr}{p:Pos}{m:ML}(j:Gl X "len")(hm:X.mg "len"=none)(ha:PAs X [e] m)(z:starEach [e] X.env=(false,eval e X.env)::starEach [] X.env:=by rfl)(i:(backTo pos (starEach [] X.env)).any (·.1)=false:=by rfl):PD X (.Call (.Name "len" p) [e] [] pos) (i5 lenF m):=
 (e7 (CallR.or K2 zn7) j hm PySem.boot_len ha (by decide) (by decide) z i).imp fun _ _ _ h=>zx9 yo4 h
theorem Z0 {e:Expr}{p:Pos}{m:ML}(N:Gl X "len")(hm:X.mg "len"=none)(ha:PB X e m)(hs:starEach (e::[]) X.env=(false,eval e X.env)::starEach [] X.env:=by rfl)(O:starEach [e] X.env=(false,eval e X.env)::starEach [] X.env:=by rfl)(j:(backTo pos (starEach [] X.env)).any (·.1)=false:=by rfl):PD X (.Call (.Name "len" p) [e] [] pos) (mlen m):=
 (e7 K2 N hm PySem.boot_len (j9 ha pa_nil hs) (by decide) (by decide) O j).imp fun σ H Q i=>by
  obtain⟨F0,H0,F,ρ,g,G,e,q⟩:=i
  unfold mlen at e
  cases h1:m ρ with
  |none=>rw[h1]at e;cases e
  |some ds=>
   rw[h1]at e;cases e
   refine⟨F0,H0,F,ρ,ds,G,h1,fun p xs F1 H1 z s1 I=>⟨p,xs,rfl,.inl s1,?_⟩⟩
   rw[I.length]
   exact q _ F1 H1 z (.int _)
noncomputable def absF:List D->Option D
 |[.int i]=>some (.int (if i<0 then -i else i))
 |_=>none
theorem zn5 {K:W.Frag}:zg2 K (fun xs H Q=>∃ i,xs=[.int i]/\Q (.int (if i<0 then -i else i)) H) absF:=by
 intro F H vs ds g Q s r h q
 cases r with
 |nil=>cases h
 |cons r j=>
  cases j with
  |cons _ _=>revert h;unfold absF;intro h;split at h <;> simp_all
  |nil=>
   cases r with
   |int i=>cases h;exact⟨_,rfl,q _ F H (.refl s) (.int _)⟩
   |_=>cases h
theorem xm5 {e:Expr}{p:Pos}{m:ML}(j:Gl X "abs")(hm:X.mg "abs"=none)(ha:PAs X [e] m)(z:starEach [e] X.env=(false,eval e X.env)::starEach [] X.env:=by rfl)(i:(backTo pos (starEach [] X.env)).any (·.1)=false:=by rfl):PD X (.Call (.Name "abs" p) [e] [] pos) (i5 absF m):=
 (e7 zd5 j hm PyProof.Rows.boot_abs ha (by decide) (by decide) z i).imp fun _ _ _ h=>zx9 zn5 h
noncomputable def two2 (k:Int->Int->Int):List D->Option D
 |[.int i,.int j]=>some (.int (k i j))
 |_=>none
theorem yk3 {k:Int->Int->Int}{ds:List D}{g:D}(h:two2 k ds=some g):∃ i j,ds=[.int i,.int j]/\g= .int (k i j):=by
 cases ds with
 |nil=>cases h
 |cons d ds=>
  cases ds with
  |nil=>cases d <;> cases h
  |cons e ds=>
   cases ds with
   |cons f ds=>cases d <;> first| (cases h;done)| (cases e <;> cases h)
   |nil=>
    cases d with
    |int i=>
     cases e with
     |int j=>cases h;exact⟨i,j,rfl,rfl⟩
     |_=>cases h
    |_=>cases h
theorem zn3 {K:W.Frag}{k:Int->Int->Int}:zg2 K (fun xs H Q=>∃ i j,xs=[.int i,.int j]/\Q (.int (k i j)) H) (two2 k):=by
 intro F H vs ds g Q s r h q
 obtain⟨i,j,rfl,rfl⟩:=yk3 h
 cases r with
 |cons r z=>
  cases z with
  |cons r2 z=>
   cases z
   rw[r.i',r2.i']
   exact⟨_,_,rfl,q _ F H (.refl s) (.int _)⟩
noncomputable def za8:List D->Option D:=two2 fun i j=>if j>i then j else i
noncomputable def za7:List D->Option D:=two2 fun i j=>if j<i then j else i
theorem yu4 {x y:Expr}{p:Pos}{m:ML}(N:X.calm=true)(G:Gl X "max")(hm:X.mg "max"=none)(ha:PAs X [x,y] m)(I:starEach [x,y] X.env=(false,eval x X.env)::starEach [y] X.env:=by rfl)(z:(backTo pos (starEach [y] X.env)).any (·.1)=false:=by rfl):PD X (.Call (.Name "max" p) [x,y] [] pos) (i5 za8 m):=
 (e7 (yo8 N) G hm PyProof.Rows.boot_max ha (by decide) (by decide) I z).imp fun _ _ _ h=>zx9 (zn3 (k:=fun i j=>if j>i then j else i)) h
theorem xw7 {x y:Expr}{p:Pos}{m:ML}(N:X.calm=true)(G:Gl X "min")(hm:X.mg "min"=none)(ha:PAs X [x,y] m)(I:starEach [x,y] X.env=(false,eval x X.env)::starEach [y] X.env:=by rfl)(z:(backTo pos (starEach [y] X.env)).any (·.1)=false:=by rfl):PD X (.Call (.Name "min" p) [x,y] [] pos) (i5 za7 m):=
 (e7 (yo7 N) G hm PyProof.Rows.boot_min ha (by decide) (by decide) I z).imp fun _ _ _ h=>zx9 (zn3 (k:=fun i j=>if j<i then j else i)) h
noncomputable def intF:List D->Option D
 |[.int i]=>some (.int i)
 |[.bl k]=>some (.int (if k then 1 else 0))
 |_=>none
theorem zn4 {K:W.Frag}:zg2 K (fun xs H Q=>(∃ i,xs=[.int i]/\Q (.int i) H)\/∃ k,xs=[.bl k]/\Q (.int (if k then 1 else 0)) H) intF:=by
 intro F H vs ds g Q s r h q
 cases r with
 |nil=>cases h
 |cons r j=>
  cases j with
  |cons _ _=>revert h;unfold intF;intro h;split at h <;> simp_all
  |nil=>
   cases r with
   |int i=>cases h;exact .inl ⟨_,rfl,q _ F H (.refl s) (.int _)⟩
   |bl i=>cases h;exact .inr ⟨_,rfl,q _ F H (.refl s) (.int _)⟩
   |_=>cases h
theorem zv4 {e:Expr}{p:Pos}{m:ML}(z:Gl X "int")(hm:X.mg "int"=none)(ha:PAs X [e] m)(j:bootBuiltins "int"=some (.type "int"))(G:starEach [e] X.env=(false,eval e X.env)::starEach [] X.env:=by rfl)(i:(backTo pos (starEach [] X.env)).any (·.1)=false:=by rfl):PD X (.Call (.Name "int" p) [e] [] pos) (i5 intF m):=
 (E9 zn8 z hm j ha (by decide) (by decide) G i).imp fun _ _ _ h=>zx9 zn4 h
theorem xx7 {e:Expr}{p:Pos}{m:ML}(O:Gl X "list")(hm:X.mg "list"=none)(ha:PB X e m)(N:bootBuiltins "list"=some (.type "list"))(hs:starEach (e::[]) X.env=(false,eval e X.env)::starEach [] X.env:=by rfl)(z:(backTo pos (starEach [] X.env)).any (·.1)=false:=by rfl):PF X (.Call (.Name "list" p) [e] [] pos) m:=
 (E9 zn6 O hm N (j9 ha pa_nil hs) (by decide) (by decide) hs z).imp fun σ H Q i=>by
  obtain⟨F0,H0,F,ρ,ds,G,e,q⟩:=i
  refine⟨F0,H0,F,ρ,ds,G,e,fun p xs F1 H1 j s1 I=>⟨p,xs,rfl,.inl s1,fun w hw=>?_⟩⟩
  exact q w _ F1 _ (j.trans (Ext.own j.fh hw)) (j.hh.free hw) (j.fh.free hw) w4 I
end
end
section
inductive Out where
 |nx (ρ:Ro)|bk (ρ:Ro)|ct (ρ:Ro)|rt (d:D)|rf (ds:List D)|rp (d:D) (ds:List D)|rg (d:D) (p:Addr) (r:List D)|rgf (ds:List D) (p:Addr) (r:List D)
noncomputable abbrev MS:=Ro->Option Out
noncomputable def okO (K:W.Frag)(F0 H0 Fb:Hp)(Dn:Ends):Out->Prop
 | .nx ρ=>∀ F H σ,Rl K F0 H0 F H σ ρ->Same Fb F->Dn.nx σ H
 | .bk ρ=>∀ F H σ,Rl K F0 H0 F H σ ρ->Same Fb F->Dn.bk σ H
 | .ct ρ=>∀ F H σ,Rl K F0 H0 F H σ ρ->Same Fb F->Dn.ct σ H
 | .rt d=>∀ v F H,Ext F0 H0 F H->Rep K F v d->Dn.rt v H
 | .rf ds=>∀ p xs F H,Ext F0 H0 F H->H0 p=none->F p=none->H p=some (.lst xs)->Reps K F xs ds->Dn.rt (.ref p) H
 | .rp d ds=>∀ t v p xs F H,Ext F0 H0 F H->H0 t=none->H0 p=none->t≠p->F t=none->F p=none->H t=some (.tup [v,.ref p])->H p=some (.lst xs)->Rep K F v d->Reps K F xs ds->Dn.rt (.ref t) H
 | .rg d p r=>∀ v F H xs,Ext F0 H0 F H->Rep K F v d->F p=none->H p=some (.lst xs)->Reps K F xs r->Dn.rt v H
 | .rgf ds p r=>∀ q ys F H xs,Ext F0 H0 F H->H0 q=none->F q=none->q≠p->H q=some (.lst ys)->Reps K F ys ds->F p=none->H p=some (.lst xs)->Reps K F xs r->Dn.rt (.ref q) H
def TSd (K:W.Frag)(m:MS):TS:=fun Dn σ H=>∃ F0 H0 F ρ o,Rl K F0 H0 F H σ ρ/\m ρ=some o/\okO K F0 H0 F Dn o
theorem okO.mono {K:W.Frag}{F0 H0 z j:Hp}{G:Ends}(s:Same z j):∀{o:Out},okO K F0 H0 z G o->okO K F0 H0 j G o
 | .nx _,h=>fun F H σ i q=>h F H σ i (s.trans q)
 | .bk _,h=>fun F H σ i q=>h F H σ i (s.trans q)
 | .ct _,h=>fun F H σ i q=>h F H σ i (s.trans q)
 | .rt _,h=>h
 | .rf _,h=>h
 | .rp _ _,h=>h
 | .rg _ _ _,h=>h
 | .rgf _ _ _,h=>h
def PSd (X:Cx)(st:Stmt)(m:MS):Prop:=PS X st (TSd X.K m)
def PSsd (X:Cx)(st:List Stmt)(m:MS):Prop:=PSs X st (TSd X.K m)
section
variable {X:Cx}{a b c e:Expr}{ma mb:ME}{pos:Pos}{st:Stmt}{rest:List Stmt}{m1 m2':MS}
theorem PS.imp {t t':TS}(h:PS X st t)(i:∀ D σ H,t' D σ H->t D σ H):PS X st t':=fun pins s σ H D I q=>h pins s σ H D I (i D σ H q)
theorem PSs.imp {sts:List Stmt}{t t':TS}(h:PSs X sts t)(i:∀ D σ H,t' D σ H->t D σ H):PSs X sts t':=fun pins s σ H D I q=>h pins s σ H D I (i D σ H q)
noncomputable def n9:MS:=fun ρ=>some (.nx ρ)
noncomputable def mseq (x y:MS):MS:=fun ρ=>match x ρ with |some (.nx ρ')=>y ρ'|o=>o
theorem w9:PSsd X [] n9:=pss_nil.imp fun D σ H i=>by obtain⟨F0,H0,F,ρ,o,j,e,ok⟩:=i;cases e;exact ok F H σ j (Same.refl _)
theorem x8 (h1:PSd X st m1)(h2:PSsd X rest m2'):PSsd X (st::rest) (mseq m1 m2'):=(W6 h1 h2).imp fun D σ H z=>by
 obtain⟨F0,H0,F,ρ,o,i,e,ok⟩:=z
 unfold mseq at e
 cases h:m1 ρ with
 |none=>rw[h]at e;cases e
 |some o1=>
  rw[h]at e
  cases o1 with
  |nx j=>exact⟨F0,H0,F,ρ,_,i,h,fun F' H' I G N=>⟨F0,H0,F',j,o,G,e,ok.mono N⟩⟩
  |bk j=>cases e;exact⟨F0,H0,F,ρ,_,i,h,ok⟩
  |ct j=>cases e;exact⟨F0,H0,F,ρ,_,i,h,ok⟩
  |rt d=>cases e;exact⟨F0,H0,F,ρ,_,i,h,ok⟩
  |rf d=>cases e;exact⟨F0,H0,F,ρ,_,i,h,ok⟩
  |rp d ds=>cases e;exact⟨F0,H0,F,ρ,_,i,h,ok⟩
  |rg d p r=>cases e;exact⟨F0,H0,F,ρ,_,i,h,ok⟩
  |rgf d p r=>cases e;exact⟨F0,H0,F,ρ,_,i,h,ok⟩
theorem y9 (h1:PSd X st m1):PSsd X [st] m1:=E7 h1
noncomputable def mif (c:MB)(x y:MS):MS:=fun ρ=>match c ρ with |some true=>x ρ|some false=>y ρ|none=>none
theorem r6 {ca:MB}{x y:List Stmt}{mx G:MS}(O:PC' X c ca)(N:PSsd X x mx)(I:PSsd X y G):PSd X (.If c x y pos) (mif ca mx G):=(zj0 O N I).imp fun D σ H j=>by
 obtain⟨F0,H0,F,ρ,o,z,e,ok⟩:=j
 unfold mif at e
 split at e
 .rename_i h1
  refine⟨F0,H0,F,ρ,_,z,h1,fun F1 H1 i=>iteT ⟨F0,H0,F1,ρ,o,z.go i,e,ok.mono i.ff⟩⟩
 .rename_i h1
  refine⟨F0,H0,F,ρ,_,z,h1,fun F1 H1 i=>iteF ⟨F0,H0,F1,ρ,o,z.go i,e,ok.mono i.ff⟩⟩
 .cases e
noncomputable def zx4:MS:=fun _=>none
theorem O0:PSd X st zx4:=ps_never.imp fun D σ H i=>by obtain⟨F0,H0,F,ρ,o,j,e,ok⟩:=i;cases e
noncomputable def mset (i:Nat)(x:ME):MS:=fun ρ=>(x ρ).map fun d=>.nx (ρ.set i (some (.sh d)))
noncomputable def C0 (i:Nat)(x:ML):MS:=fun ρ=>(x ρ).map fun ds=>.nx (ρ.set i (some (.own ds)))
theorem xf0 {t:TE}{i:Nat}(h:PS X st (tAsg t (zz7 i)))(ht:∀ σ H Q,TD X.K ma σ H Q->t σ H Q):PSd X st (mset i ma):=h.imp fun D σ H j=>by
 obtain⟨F0,H0,F,ρ,o,G,e,ok⟩:=j
 unfold mset at e
 cases h1:ma ρ with
 |none=>rw[h1]at e;cases e
 |some d=>
  rw[h1]at e;cases e
  exact ht _ _ _ ⟨F0,H0,F,ρ,d,G,h1,fun v F1 H1 z I=>ok F1 H1 _ ((G.go z).set I) z.ff⟩
theorem xb7 {t:TE}{i:Nat}{mf:ML}(h:PS X st (tAsg t (zz7 i)))(ht:∀ σ H Q,TF X.K mf σ H Q->t σ H Q):PSd X st (C0 i mf):=h.imp fun D σ H I=>by
 obtain⟨F0,H0,F,ρ,o,G,e,ok⟩:=I
 unfold C0 at e
 cases h1:mf ρ with
 |none=>rw[h1]at e;cases e
 |some ds=>
  rw[h1]at e;cases e
  refine ht _ _ _ ⟨F0,H0,F,ρ,ds,G,h1,fun p xs F1 H1 N hp U R O=>ok F1 H1 _ ?_ N.ff⟩
  refine(G.go N).setOwn U R O (G.ext.hh.free hp) (fun j es Y e1 e2=>?_) fun j q es e1 z=>?_
  .obtain⟨q,ys,a1,a2,a3,_⟩:=G.own j es e1
   rw[a1]at e2;cases e2
   rw[hp]at a3;cases a3
  .obtain⟨_,_,_,ys,a3,_⟩:=G.ob j q es e1
   rw[z,hp]at a3;cases a3
theorem j1 {i:Nat}{x:Str}{pos':Pos}(I:X.N.Nodup)(hi:X.N[i]? =some x)(j:Loc X.env.scope x)(G:PD X e ma)(hs:swapsWith e (some (.Name x pos')) pos.line X.env=pure false:=by rfl)(z:X.fn x=true\/X.env.scope.names.lookup x=some .local:=by first|exact .inl rfl|exact .inr rfl|assumption):
  PSd X (.Assign [.Name x pos'] e pos) (mset i ma):=xf0 (zy5 I hi j G hs z) fun _ _ _ h=>h
theorem P9 {i:Nat}{x:Str}{pos':Pos}{mf:ML}(I:X.N.Nodup)(hi:X.N[i]? =some x)(j:Loc X.env.scope x)(G:PF X e mf)(hs:swapsWith e (some (.Name x pos')) pos.line X.env=pure false:=by rfl)(z:X.fn x=true\/X.env.scope.names.lookup x=some .local:=by first|exact .inl rfl|exact .inr rfl|assumption):
  PSd X (.Assign [.Name x pos'] e pos) (C0 i mf):=xb7 (zy5 I hi j G hs z) fun _ _ _ h=>h
noncomputable def P0 (x:ME):MS:=fun ρ=>(x ρ).map fun _=>.nx ρ
theorem zv2 (G:PD X e ma)(hs:swapsWith e none pos.line X.env=pure false:=by rfl):PSd X (.Expr e pos) (P0 ma):=(N9 G hs).imp fun D σ H i=>by
 obtain⟨F0,H0,F,ρ,o,z,e,ok⟩:=i
 unfold P0 at e
 cases h1:ma ρ with
 |none=>rw[h1]at e;cases e
 |some d=>
  rw[h1]at e;cases e
  exact⟨F0,H0,F,ρ,d,z,h1,fun v F1 H1 j I=>ok F1 H1 _ (z.go j) j.ff⟩
noncomputable def mret (x:ME):MS:=fun ρ=>(x ρ).map .rt
noncomputable def za5 (x:ML):MS:=fun ρ=>(x ρ).map .rf
noncomputable def yt9 (i:Nat):MS:=fun ρ=>match ρ[i]? with |some (some (.own ds))=>some (.rf ds)|some (some (.sh d))=>some (.rt d)|_=>none
theorem u8 (I:PD X e ma):PSd X (.Return (some e) pos) (mret ma):=(Y9 I).imp fun D σ H i=>by
 obtain⟨F0,H0,F,ρ,o,j,e,ok⟩:=i
 unfold mret at e
 cases h1:ma ρ with
 |none=>rw[h1]at e;cases e
 |some d=>
  rw[h1]at e;cases e
  exact⟨F0,H0,F,ρ,d,j,h1,fun v F1 H1 z G=>ok v F1 H1 (j.ext.trans z) G⟩
theorem zf0 {mf:ML}(I:PF X e mf):PSd X (.Return (some e) pos) (za5 mf):=(Y9 I).imp fun D σ H i=>by
 obtain⟨F0,H0,F,ρ,o,j,e,ok⟩:=i
 unfold za5 at e
 cases h1:mf ρ with
 |none=>rw[h1]at e;cases e
 |some ds=>
  rw[h1]at e;cases e
  exact⟨F0,H0,F,ρ,ds,j,h1,fun p xs F1 H1 z hp O N G=>ok p xs F1 H1 (j.ext.trans z) (j.ext.hh.free hp) O N G⟩
theorem zg9 (i:Nat){x:Str}{pos':Pos}(h:PE X (.Name x pos') (tVar i)):PSd X (.Return (some (.Name x pos')) pos) (yt9 i):=(Y9 h).imp fun D σ H j=>by
 obtain⟨F0,H0,F,ρ,o,z,e,ok⟩:=j
 unfold yt9 at e
 split at e
 .rename_i ds h1
  cases e
  obtain⟨p,xs,e1,e2,e3,I,G⟩:=z.own i _ h1
  exact⟨_,e1,ok p xs F H z.ext G e2 e3 I⟩
 .rename_i d h1
  cases e
  obtain⟨v,e1,e2⟩:=z.sh i _ h1
  exact⟨_,e1,ok v F H z.ext e2⟩
 .cases e
noncomputable def mapp (i:Nat)(x:ME):MS:=fun ρ=>match ρ[i]? with |some (some (.own ds))=>(x ρ).bind fun d=>if ds.length<sizeLine then some (.nx (ρ.set i (some (.own (ds++[d])))))else none|_=>none
theorem N8 {i:Nat}{x:Str}{e:Expr}{G apos cpos:Pos}(Z:PE X (.Name x G) (tVar i))(he:PD X e ma)
  (U:∀ t,PA X [e] t->PE X (.Call (.Attribute (.Name x G) "append" apos) [e] [] cpos) (tBM X.K "list" zk6 (tVar i) t)) (Y:PAs X [e] (z5 ma anil)) (hs:swapsWith (.Call (.Attribute (.Name x G) "append" apos) [e] [] cpos) none pos.line X.env=pure false:=by rfl):
  PSd X (.Expr (.Call (.Attribute (.Name x G) "append" apos) [e] [] cpos) pos) (mapp i ma):=(N9 (U _ Y) hs).imp fun D σ H j=>by
 obtain⟨F0,H0,F,ρ,o,I,e,ok⟩:=j
 unfold mapp at e
 split at e
 .rename_i ds h1
  obtain⟨p,xs,e1,e2,e3,N,e5⟩:=I.own i _ h1
  cases h2:ma ρ with
  |none=>rw[h2]at e;cases e
  |some d=>
   rw[h2]at e
   have e:(if ds.length<sizeLine then some (Out.nx (ρ.set i (some (.own (ds++[d])))))else none)=some o:=e
   split at e
   .rename_i hz
    cases e
    refine⟨_,e1,.inl ⟨rfl,_,SqL.of e3⟩,F0,H0,F,ρ,[d],I,by unfold z5 anil;rw[h2];rfl,fun vs F1 H1 z R=>?_⟩
    cases R with
    |cons r O=>
     cases O
     have hp:H1 p=some (.lst xs):=z.hh _ _ e3
     exact⟨p,xs,_,rfl,rfl,hp,by rw[N.length];exact hz,ok F1 _ σ ((I.go z).write h1 e1 ((N.mono z.ff).append (.cons r .nil))) z.ff⟩
   .cases e
 .cases e
noncomputable def zp2 (i:Nat)(ix v:ME):MS:=fun ρ=>(v ρ).bind fun d=>match ρ[i]? with
 |some (some (.own ds))=>(ix ρ).bind (fun x=>match x with | .int k=>(ixN ds.length k).map fun j=>.nx (ρ.set i (some (.own (ds.set j d))))|_=>none)
 |some (some (.ob p ds))=>(ix ρ).bind (fun x=>match x with | .int k=>(ixN ds.length k).map fun j=>.nx (ρ.set i (some (.ob p (ds.set j d))))|_=>none)
 |_=>none
theorem zq2 {i:Nat}(hE:PS X st (tAsg (TD X.K mb) (gSub (tVar i) (TD X.K ma) xy3))):PSd X st (zp2 i ma mb):=hE.imp fun D σ H R=>by
 obtain⟨F0,H0,F,ρ,o,O,e,ok⟩:=R
 unfold zp2 at e
 cases h1:mb ρ with
 |none=>rw[h1]at e;cases e
 |some d=>
  rw[h1]at e
  refine⟨F0,H0,F,ρ,d,O,h1,fun y F1 H1 I Z=>?_⟩
  dsimp only[Option.bind]at e
  split at e
  .rename_i ds h2
   obtain⟨p,xs,e1,e2,e3,U,e5⟩:=(O.go I).own i _ h2
   cases h3:ma ρ with
   |none=>rw[h3]at e;cases e
   |some Y=>
    rw[h3]at e
    refine⟨_,e1,F0,H0,F1,ρ,Y,O.go I,h3,fun z F2 H2 G r2=>?_⟩
    cases r2 <;> first| (cases e;done)|skip
    rename_i k
    have e:(ixN ds.length k).map (fun j=>Out.nx (ρ.set i (some (.own (ds.set j d)))))=some o:=e
    cases h4:ixN ds.length k with
    |none=>rw[h4]at e;cases e
    |some j=>
     rw[h4]at e;cases e
     have N:=(O.go I).go G
     refine⟨p,xs,k,j,rfl,rfl,G.hh _ _ e3,by rw[U.length];exact h4,ok F2 _ σ (N.write h2 e1 (Reps.set (Z.mono G.ff) j (U.mono G.ff))) (I.ff.trans G.ff)⟩
  .rename_i p ds h2
   obtain⟨e1,e2,e5,xs,e3,U⟩:=(O.go I).ob i p _ h2
   cases h3:ma ρ with
   |none=>rw[h3]at e;cases e
   |some Y=>
    rw[h3]at e
    refine⟨_,e1,F0,H0,F1,ρ,Y,O.go I,h3,fun z F2 H2 G r2=>?_⟩
    cases r2 <;> first| (cases e;done)|skip
    rename_i k
    have e:(ixN ds.length k).map (fun j=>Out.nx (ρ.set i (some (.ob p (ds.set j d)))))=some o:=e
    cases h4:ixN ds.length k with
    |none=>rw[h4]at e;cases e
    |some j=>
     rw[h4]at e;cases e
     have N:=(O.go I).go G
     refine⟨p,xs,k,j,rfl,rfl,G.hh _ _ e3,by rw[U.length];exact h4,ok F2 _ σ (N.writeB h2 (Reps.set (Z.mono G.ff) j (U.mono G.ff))) (I.ff.trans G.ff)⟩
  .cases e
inductive Tg where
 |nm (i:Nat)|tp (is:List Nat)|nt (i:Nat) (is:List Nat)
noncomputable def E2:List Nat->List D->Ro->Option Ro
 |[],[],ρ=>some ρ
 |i::is,d::ds,ρ=>E2 is ds (ρ.set i (some (.sh d)))
 |_,_,_=>none
noncomputable def tgD:Tg->D->Ro->Option Ro
 | .nm i,d,ρ=>some (ρ.set i (some (.sh d)))
 | .tp is,.tup ds,ρ=>E2 is ds ρ
 | .nt i is,.tup [d,.tup ds],ρ=>E2 is ds (ρ.set i (some (.sh d)))
 |_,_,_=>none
def TGd (K:W.Frag)(g:Tg):TG:=fun v σ H Q=>∃ F0 H0 F ρ d ρ',Rl K F0 H0 F H σ ρ/\Rep K F v d/\tgD g d ρ=some ρ'/\∀ F' H' σ',Rl K F0 H0 F' H' σ' ρ'->Ext F H F' H'->Q σ' H'
def PGd (X:Cx)(tg:Expr)(g:Tg):Prop:=PG X tg (TGd X.K g)
theorem PG.imp {tg:Expr}{t t':TG}(h:PG X tg t)(i:∀ v σ H Q,t' v σ H Q->t v σ H Q):PG X tg t':=fun pins s σ H v u Q I r q=>h pins s σ H v u Q I r (i v σ H Q q)
theorem f7 {i:Nat}{x:Str}{pos:Pos}(h:PG X (.Name x pos) (zz7 i)):PGd X (.Name x pos) (.nm i):=PG.imp h fun v σ H Q j=>by
 obtain⟨F0,H0,F,ρ,d,ρ',z,r,e,q⟩:=j
 cases e;exact q F H _ (z.set r) (.refl z.fh)
noncomputable def gAll:List Nat->TGs
 |[]=>gNil
 |i::is=>xh3 (zz7 i) (gAll is)
theorem yp1 {K:W.Frag}{F0 H0 F H:Hp}{Q:St->Hp->Prop}:∀(is:List Nat)(vs:List V)(ds:List D)(σ:St)(ρ ρ':Ro),Rl K F0 H0 F H σ ρ->Reps K F vs ds->E2 is ds ρ=some ρ'->(∀ j,Rl K F0 H0 F H j ρ'->Q j H)->gAll is vs σ H Q
 |[],_,[],σ,ρ,ρ',rl,r,e,q=>by cases r;cases e;exact⟨rfl,q σ rl⟩
 |[],_,_::_,_,_,_,_,_,e,_=>by cases e
 |_::_,_,[],_,_,_,_,_,e,_=>by cases e
 |i::is,_,d::ds,σ,ρ,ρ',rl,r,e,q=>by
  cases r with
  |cons r z=>exact⟨_,_,rfl,yp1 is _ ds _ _ ρ' (rl.set r) z e q⟩
theorem zy3:∀(is:List Nat)(ds:List D)(ρ ρ':Ro),E2 is ds ρ=some ρ'->ds.length=is.length
 |[],[],_,_,_=>rfl
 |[],_::_,_,_,e=>by cases e
 |_::_,[],_,_,e=>by cases e
 |_::is,_::ds,ρ,ρ',e=>congrArg (·+1) (zy3 is ds _ ρ' e)
theorem M2 {es:List Expr}{k n:Nat}{is:List Nat}{pos:Pos}(h:PG X (.Tuple es k pos) (gTup X.K n (gAll is)))(hn:is.length=n:=by rfl):PGd X (.Tuple es k pos) (.tp is):=PG.imp h fun v σ H Q i=>by
 obtain⟨F0,H0,F,ρ,d,ρ',G,r,e,q⟩:=i
 cases r with
 |tup s t=>exact⟨_,_,rfl,G.fh.seqT s,by rw[t.length,zy3 _ _ _ _ e,hn],yp1 is _ _ σ ρ ρ' G t e fun j z=>q F H j z (.refl G.fh)⟩
 |_=>cases e
noncomputable def masg (g:Tg)(x:ME):MS:=fun ρ=>(x ρ).bind fun d=>(tgD g d ρ).map .nx
theorem xy9 {g:Tg}(h:PS X st (tAsg (TD X.K ma) (TGd X.K g))):PSd X st (masg g ma):=h.imp fun D σ H i=>by
 obtain⟨F0,H0,F,ρ,o,I,e,ok⟩:=i
 unfold masg at e
 cases h1:ma ρ with
 |none=>rw[h1]at e;cases e
 |some d=>
  rw[h1]at e
  have e:(tgD g d ρ).map Out.nx=some o:=e
  cases h2:tgD g d ρ with
  |none=>rw[h2]at e;cases e
  |some ρ'=>
   rw[h2]at e;cases e
   exact⟨F0,H0,F,ρ,d,I,h1,fun v F1 H1 G O=>⟨F0,H0,F1,ρ,d,ρ',I.go G,O,h2,fun F' H' j z N=>ok F' H' j z (G.ff.trans N.ff)⟩⟩
structure ItD (K:W.Frag)(F:Hp)(J:It)(its:List D):Prop where
 go:∀(i:Nat) F1 H1,Same F F1->Same F1 H1->i<its.length->J.go i H1
 yld:∀(i:Nat) F1 H1 x H2 d,Same F F1->Same F1 H1->its[i]? =some d->J.yld i H1 x H2->∃ F2,Ext F1 H1 F2 H2/\Rep K F2 x d
 stop:∀ F1 H1,Same F F1->Same F1 H1->J.stop its.length H1
def TId (K:W.Frag)(mi:ML):TI:=fun σ H R=>∃ F0 H0 F ρ its,Rl K F0 H0 F H σ ρ/\mi ρ=some its/\∀ J F' H',Ext F H F' H'->ItD K F' J its->R J H'
def PId (X:Cx)(tg iter:Expr)(mi:ML):Prop:=PI X tg iter (TId X.K mi)
theorem PI.imp {tg it:Expr}{t t':TI}(h:PI X tg it t)(i:∀ σ H R,t' σ H R->t σ H R):PI X tg it t':=fun pins s σ H R I q=>h pins s σ H R I (i σ H R q)
theorem yf7 {K:W.Frag}{F:Hp}{p:Addr}{xs:List V}{ds:List D}(s:SqL K F p xs)(r:Reps K F xs ds):ItD K F (Itl K p) ds where
 go:=fun i F1 H1 a b hi=>by
  obtain⟨v,e,_⟩:=r.get (getElem?_eq_getElem hi)
  exact⟨xs,v,b.seq (a.seq s),e⟩
 yld:=fun i F1 H1 x H2 d a b e y=>by
  obtain⟨rfl,y⟩:=y
  obtain⟨v,e1,e2⟩:=r.get e
  have:=y xs (b.seq (a.seq s))
  rw[e1]at this;cases this
  exact⟨F1,.refl b,e2.mono a⟩
 stop:=fun F1 H1 a b=>⟨xs,b.seq (a.seq s),by rw[r.length];exact Nat.le_refl _⟩
theorem zv3 {tg:Expr}(hd:PD X e ma):PId X tg e (Z1 ma):=PI.imp (xx3 hd) fun σ H R i=>by
 obtain⟨F0,H0,F,ρ,its,z,e,q⟩:=i
 unfold Z1 at e
 split at e
 .rename_i ds h1
  cases e
  refine⟨F0,H0,F,ρ,_,z,h1,fun v F1 H1 j G=>?_⟩
  cases G with
  |lst s t=>exact⟨_,rfl,⟨_,j.fh.seq s⟩,q _ F1 H1 j (yf7 s t)⟩
 .cases e
noncomputable def U7 (lo:Int)(n:Nat):List D:=(List.range n).map fun(i:Nat)=>D.int (lo+(i:Int))
theorem P8 (lo:Int)(n:Nat):(U7 lo n).length=n:=by unfold U7;simp
theorem yq6 {K:W.Frag}{F:Hp}{lo:Int}{n:Nat}:ItD K F (Itr lo n) (U7 lo n) where
 go:=fun i F1 H1 a b hi=>by rw[P8]at hi;exact hi
 yld:=fun i F1 H1 x H2 d a b e y=>by
  obtain⟨rfl,rfl⟩:=y
  unfold U7 at e
  rw[getElem?_map]at e
  have hi:i<n:=by
   rcases Nat.lt_or_ge i n with h|h
   .exact h
   .rw[getElem?_eq_none (by simpa using h)]at e;cases e
  rw[getElem?_range hi]at e
  cases e
  exact⟨F1,.refl b,.int _⟩
 stop:=fun F1 H1 a b=>by rw[P8];exact Nat.le_refl n
noncomputable def okR (j:Int):Bool:=decide (-(2^62)<=j)&&decide (j<2^62)
noncomputable def rng1:List D->Option (List D)
 |[.int j]=>if okR j=true then some (U7 0 j.toNat)else none
 |_=>none
@[irreducible] noncomputable def i7 (f:List D->Option (List D))(m:ML):ML:=fun ρ=>(m ρ).bind f
theorem M5 {f:List D->Option (List D)}{m:ML}{ρ:Ro}{i:List D}(h:i7 f m ρ=some i):∃ ds,m ρ=some ds/\f ds=some i:=by
 unfold i7 at h
 cases h1:m ρ with
 |none=>rw[h1]at h;cases h
 |some ds=>rw[h1]at h;exact⟨ds,rfl,h⟩
theorem Z3 {tg a:Expr}{m:ML}{p pos:Pos}(O:Gl X "range")(hm:X.mg "range"=none)(ha:PAs X [a] m)(hs:starEach [a] X.env=[(false,eval a X.env)]:=by rfl):PId X tg (.Call (.Name "range" p) [a] [] pos) (i7 rng1 m):=PI.imp (yv4 O hm ha hs) fun σ H R i=>by
 obtain⟨F0,H0,F,ρ,its,I,e,q⟩:=i
 obtain⟨ds,h1,h2⟩:=M5 e
 refine⟨F0,H0,F,ρ,ds,I,h1,fun vs F1 H1 z N=>?_⟩
 unfold rng1 at h2
 split at h2
 .rename_i j
  split at h2
  .rename_i hk
   cases h2
   unfold okR at hk
   simp only[Bool.and_eq_true,decide_eq_true_eq]at hk
   cases N with
   |cons r G=>
    cases G;cases r
    exact⟨j,rfl,hk.1,hk.2,q _ F1 H1 z yq6⟩
  .cases h2
 .cases h2
noncomputable def zz9:Nat->List D->List D
 |_,[]=>[]
 |i,d::ds=>.tup [.int i,d]::zz9 (i+1) ds
theorem S1:∀ i ds,(zz9 i ds).length=ds.length
 |_,[]=>rfl
 |i,_::ds=>by simp[zz9,S1 (i+1) ds]
theorem zo7:∀(k:Nat) ds (i:Nat) d,ds[i]? =some d->(zz9 k ds)[i]? =some (.tup [.int ((k+i:Nat):Int),d])
 |_,[],_,_,h=>by simp at h
 |k,_::ds,0,d,h=>by simp at h;subst h;rfl
 |k,_::ds,i+1,d,h=>by
  have:=zo7 (k+1) ds i d (by simpa using h)
  have e:k+1+i=k+(i+1):=by omega
  rw[e]at this
  simpa[zz9]using this
noncomputable def P2:List D->Option (List D)
 |[.lst ds]=>some (zz9 0 ds)
 |_=>none
theorem yf8 {K:W.Frag}{F:Hp}{p:Addr}{xs:List V}{ds:List D}(s:SqL K F p xs)(r:Reps K F xs ds):ItD K F (Ite K p) (zz9 0 ds) where
 go:=fun i F1 H1 a b hi=>by
  rw[S1]at hi
  obtain⟨v,e,_⟩:=r.get (getElem?_eq_getElem hi)
  exact⟨xs,v,b.seq (a.seq s),e⟩
 yld:=fun i F1 H1 x H2 d a b e y=>by
  obtain⟨t,u,rfl,ht,rfl,j⟩:=y
  have j:=j xs (b.seq (a.seq s))
  obtain⟨I,e1,z⟩:=r.get' j
  rw[zo7 0 ds i I e1,Nat.zero_add]at e
  cases e
  refine⟨upd F1 t (.tup [.int i,u]),Ext.laid b ht,.tup (SqT.of w4) ?_⟩
  have G:Same F (upd F1 t (.tup [.int i,u])):=a.trans ((Same.refl F1).put (b.free ht))
  exact .cons (.int _) (.cons (z.mono G) .nil)
 stop:=fun F1 H1 a b=>⟨xs,b.seq (a.seq s),by rw[r.length,S1];exact Nat.le_refl _⟩
theorem J4 {es:List Expr}{tk:Nat}{tp:Pos}{a:Expr}{m:ML}{p pos:Pos}(N:Gl X "enumerate")(hm:X.mg "enumerate"=none)(ha:PAs X [a] m)(hs:starEach [a] X.env=[(false,eval a X.env)]:=by rfl):PId X (.Tuple es tk tp) (.Call (.Name "enumerate" p) [a] [] pos) (i7 P2 m):=PI.imp (xx4 N hm ha hs) fun σ H R i=>by
 obtain⟨F0,H0,F,ρ,its,G,e,q⟩:=i
 obtain⟨ds,h1,h2⟩:=M5 e
 refine⟨F0,H0,F,ρ,ds,G,h1,fun vs F1 H1 j I=>?_⟩
 unfold P2 at h2
 split at h2
 .cases h2
  cases I with
  |cons r z=>
   cases z
   cases r with
   |lst s t=>exact⟨_,_,rfl,j.fh.seq s,q _ F1 H1 j (yf8 s t)⟩
 .cases h2
end
end
section
noncomputable def forD (g:Tg)(body:MS):List D->MS
 |[],ρ=>some (.nx ρ)
 |d::ds,ρ=>match tgD g d ρ with
  |some ρ1=>match body ρ1 with
   |some (.nx ρ2)=>forD g body ds ρ2
   |some (.ct ρ2)=>forD g body ds ρ2
   |some (.bk ρ2)=>some (.nx ρ2)
   |o=>o
  |none=>none
noncomputable def mfor (mi:ML)(g:Tg)(body:MS):MS:=fun ρ=>(mi ρ).bind fun its=>forD g body its ρ
theorem W9 {j:Type}{xs:List j}{i:Nat}{d:j}(h:xs[i]? =some d):xs.drop i=d::xs.drop (i+1):=by
 obtain⟨hl,e⟩:=List.getElem?_eq_some_iff.mp h
 rw[drop_eq_getElem_cons hl,e]
section
variable {X:Cx}{a b c e:Expr}{ma mb:ME}{pos:Pos}{st:Stmt}{rest:List Stmt}
theorem T6 {tg iter:Expr}{body:List Stmt}{mi:ML}{g:Tg}{mb:MS}(hp:PassesOwn (model X.prog X.w) X.A X.env X.xe)(hc:X.calm=true)(hi:PId X tg iter mi)(hg:PGd X tg g)(hb:PSsd X body mb)
  (hs:∀ x,foldedSetIterable iter X.env x=pure x:=by intro _;rfl):PSd X (.For tg iter body [] pos) (mfor mi g mb):=(yc3 hp hc hi hg hb hs).imp fun Dn σ H a1=>by
 obtain⟨F0,H0,F,ρ,o,rl,e,ok⟩:=a1
 unfold mfor at e
 cases h1:mi ρ with
 |none=>rw[h1]at e;cases e
 |some its=>
  rw[h1]at e
  have e:forD g mb its ρ=some o:=e
  refine⟨F0,H0,F,ρ,its,rl,h1,fun J F1 H1 x1 I=>?_⟩
  refine⟨fun i m O H'=>∃ F' ρ',Rl X.K F0 H0 F' H' O ρ'/\Same F1 F'/\i<=its.length/\m=its.length-i/\forD g mb (its.drop i) ρ'=some o,⟨_,F1,ρ,rl.go x1,Same.refl _,Nat.zero_le _,rfl,e⟩,?_⟩
  rintro i m O H' ⟨F',ρ',G,Z,a5,rfl,j⟩
  by_cases U:i<its.length
  .right
   have hd:=getElem?_eq_getElem U
   refine⟨I.go i F' H' Z G.fh U,fun Y H2=>∃ F2 ρ2,Rl X.K F0 H0 F2 H2 Y ρ2/\Same F1 F2/\forD g mb (its.drop (i+1)) ρ2=some o,?_,fun x H2 y=>?_⟩
   .rintro Y H2 ⟨F2,ρ2,rl2,sf2,e2⟩
    exact⟨its.length-(i+1),by omega,F2,ρ2,rl2,sf2,U,rfl,e2⟩
   .obtain⟨F2,x2,r2⟩:=I.yld i F' H' x H2 _ Z G.fh hd y
    rw[W9 hd]at j
    unfold forD at j
    cases h2:tgD g its[i] ρ' with
    |none=>simp only[h2]at j;cases j
    |some R=>
     simp only[h2]at j
     refine⟨F0,H0,F2,ρ',_,R,G.go x2,r2,h2,fun F3 H3 a4 a3 x3=>?_⟩
     have s3:Same F1 F3:=(Z.trans x2.ff).trans x3.ff
     cases h3:mb R with
     |none=>simp only[h3]at j;cases j
     |some o1=>
      simp only[h3]at j
      refine⟨F0,H0,F3,R,o1,a3,h3,?_⟩
      cases o1 with
      |nx ρ2=>exact fun F4 H4 N z s4=>⟨F4,ρ2,z,s3.trans s4,j⟩
      |ct ρ2=>exact fun F4 H4 N z s4=>⟨F4,ρ2,z,s3.trans s4,j⟩
      |bk ρ2=>
       cases j
       exact fun F4 H4 N z s4=>ok F4 H4 N z ((x1.ff.trans s3).trans s4)
      |rt d=>cases j;exact ok
      |rf d=>cases j;exact ok
      |rp d ds=>cases j;exact ok
      |rg d p r=>cases j;exact ok
      |rgf d p r=>cases j;exact ok
  .left
   have a2:i=its.length:=by omega
   subst a2
   rw[drop_length]at j
   have j:some (Out.nx ρ')=some o:=j
   cases j
   exact⟨I.stop F' H' Z G.fh,ok F' H' O G (x1.ff.trans Z)⟩
end
end
section
noncomputable def Y2 (src:List (Option Nat))(ρ:Ro):Ro:=src.map fun o=>o.bind fun i=>match ρ[i]? with |some (some (.sh d))=>some (.sh d)|_=>none
noncomputable def V8 (g:Tg)(c:MB)(elt:ME):List D->Ro->List D->Option (List D)
 |[],_,acc=>some acc
 |d::ds,ρ,acc=>match tgD g d ρ with
  |some ρ1=>match c ρ1 with
   |some true=>match elt ρ1 with
    |some x=>if acc.length<sizeLine then V8 g c elt ds ρ1 (acc++[x])else none
    |none=>none
   |some false=>V8 g c elt ds ρ1 acc
   |none=>none
  |none=>none
@[irreducible] noncomputable def W0 (src:List (Option Nat))(mi:ML)(g:Tg)(c:MB)(elt:ME):ML:=fun ρ=>(mi ρ).bind fun its=>V8 g c elt its (Y2 src ρ) []
def NoOwn (ρ:Ro):Prop:=∀(i:Nat) ds,ρ[i]? ≠some (some (.own ds))/\∀ p,ρ[i]? ≠some (some (.ob p ds))
theorem NoOwn.set {ρ:Ro}(h:NoOwn ρ)(i:Nat)(d:D):NoOwn (ρ.set i (some (.sh d))):=fun j ds=>⟨fun e=>by
 by_cases G:i=j
 .subst G
  have hl:i<ρ.length:=by
   rcases Nat.lt_or_ge i ρ.length with z|z
   .exact z
   .rw[getElem?_eq_none (by simpa using z)]at e;cases e
  rw[getElem?_set_self hl]at e;cases e
 .rw[getElem?_set_ne G]at e;exact(h j ds).1 e,fun p e=>(h j ds).2 p (Y7 e).2⟩
theorem NoOwn.all:∀(is:List Nat)(ds:List D){ρ ρ':Ro},NoOwn ρ->E2 is ds ρ=some ρ'->NoOwn ρ'
 |[],[],ρ,ρ',h,e=>by cases e;exact h
 |[],_::_,_,_,_,e=>by cases e
 |_::_,[],_,_,_,e=>by cases e
 |i::is,d::ds,ρ,ρ',h,e=>NoOwn.all is ds (h.set i d) e
theorem NoOwn.tg {g:Tg}{d:D}{ρ ρ':Ro}(h:NoOwn ρ)(e:tgD g d ρ=some ρ'):NoOwn ρ':=by
 cases g with
 |nm i=>cases e;exact h.set i d
 |tp is=>cases d <;> first| (cases e;done)|exact NoOwn.all is _ h e
 |nt i is=>
  cases d with
  |tup ds=>
   match ds,e with
   |[d,.tup ds],e=>exact NoOwn.all is _ (h.set i d) e
  |_=>cases e
theorem Rl.blk {K:W.Frag}{F0 H0 F H:Hp}{σ:St}{ρ:Ro}(r:Rl K F0 H0 F H σ ρ)(src:List (Option Nat)):Rl K F H F H (blk0 src σ) (Y2 src ρ)/\NoOwn (Y2 src ρ):=by
 have I:∀(i:Nat) x,(Y2 src ρ)[i]? =some (some x)->∃ d,x=S.sh d:=fun i x e=>by
  unfold Y2 at e
  rw[getElem?_map]at e
  cases h:src[i]? with
  |none=>rw[h]at e;cases e
  |some o=>
   rw[h]at e
   cases o with
   |none=>cases e
   |some k=>
    simp only[Option.map_some,Option.bind_some]at e
    split at e
    .cases e;exact⟨_,rfl⟩
    .cases e
 have G:NoOwn (Y2 src ρ):=fun i ds=>⟨fun e=>(by obtain⟨d,z⟩:=I i _ e;cases z),fun p e=>(by obtain⟨d,z⟩:=I i _ e;cases z)⟩
 refine⟨⟨.refl r.fh,by unfold blk0 Y2;simp,fun i d e=>?_,fun i ds e=>absurd e (G i ds).1,fun i j p ds es _ e=>absurd e (G i ds).1,fun i p ds e=>absurd e ((G i ds).2 p),fun i j p ds es e=>absurd e ((G i ds).2 p),fun i j p q ds es e=>absurd e ((G i ds).2 p)⟩,G⟩
 unfold Y2 at e
 unfold blk0
 rw[getElem?_map]at e ⊢
 cases h:src[i]? with
 |none=>rw[h]at e;cases e
 |some o=>
  rw[h]at e
  cases o with
  |none=>cases e
  |some k=>
   simp only[Option.map_some,Option.bind_some]at e ⊢
   split at e
   .rename_i d' h'
    cases e
    obtain⟨v,e1,e2⟩:=r.sh k _ h'
    exact⟨v,by rw[e1];rfl,e2⟩
   .cases e
theorem Rl.other {K:W.Frag}{F0 H0 F H:Hp}{σ:St}{ρ:Ro}(r:Rl K F0 H0 F H σ ρ)(j:NoOwn ρ){p:Addr}{o:HO}(G:H0 p=none)(z:F p=none):Rl K F0 H0 F (upd H p o) σ ρ:=
 ⟨⟨r.ext.ff,r.ext.hh.put G,r.ext.fh.put z,r.ext.new,r.ext.nf⟩,r.len,r.sh,fun i ds e=>absurd e (j i ds).1,r.inj,fun i p ds e=>absurd e ((j i ds).2 p),r.obn,r.ob1⟩
theorem Rl.rebase {K:W.Frag}{F1 F H:Hp}{σ:St}{ρ:Ro}{p:Addr}{xs ys:List V}(r:Rl K F1 (upd F1 p (.lst xs)) F H σ ρ)(G:F p=none)(I:F1 p=none):Rl K F1 (upd F1 p (.lst ys)) F (upd H p (.lst ys)) σ ρ:=by
 have ne:∀ q,upd F1 p (.lst xs) q=none->q≠p:=fun q z w=>by rw[w,w4]at z;cases z
 refine⟨⟨r.ext.ff,fun b u e=>?_,r.fh.put G,fun b e n=>?_,r.ext.nf⟩,r.len,r.sh,fun i ds e=>?_,r.inj,fun i q ds e=>?_,r.obn,r.ob1⟩
 .by_cases hb:b=p
  .subst hb;rw[w4]at e ⊢;exact e
  .rw[w5 hb]at e ⊢
   exact r.ext.hh b u (by rw[w5 hb];exact e)
 .have hb:b≠p:=fun w=>by rw[w,G]at n;exact n rfl
  rw[w5 hb];exact e
 .obtain⟨q,zs,a,b,c,d,z⟩:=r.own i ds e
  have j:=ne q z
  rw[w5 j]at z
  exact⟨q,zs,a,b,by rw[w5 j];exact c,d,by rw[w5 j];exact z⟩
 .obtain⟨a,b,z,zs,c,d⟩:=r.ob i q ds e
  have j:=ne q z
  rw[w5 j]at z
  exact⟨a,b,by rw[w5 j];exact z,zs,by rw[w5 j];exact c,d⟩
theorem Ext.acc {F H F' H':Hp}{p:Addr}{o:HO}(x:Ext F H F' H')(hp:H p=none)(i:F' p=none):Ext F H F' (upd H' p o):=⟨x.ff,x.hh.put hp,x.fh.put i,x.new,x.nf⟩
theorem Ext.stay {F' H' z I:Hp}{p:Addr}{o:HO}(G:Ext F' H' z I)(j:F' p=none)(i:H' p=some o):z p=none:=by
 cases qq:z p with
 |none=>rfl
 |some u=>have:=G.new p j (by rw[qq];simp);rw[this]at i;cases i
theorem Rl.noB {K:W.Frag}{F H:Hp}{σ:St}{ρ:Ro}{p:Addr}(r:Rl K F H F H σ ρ)(j:NoOwn ρ)(hp:H p=none):Rl K F (upd F p (.lst [])) F (upd H p (.lst [])) σ ρ:=
 ⟨⟨Same.refl F,r.fh.put2,r.fh.put (r.fh.free hp),fun b e n=>absurd e n,fun _ _ _ z=>z⟩,r.len,r.sh,fun i ds e=>absurd e (j i ds).1,r.inj,fun i p ds e=>absurd e ((j i ds).2 p),r.obn,r.ob1⟩
theorem zx8 {g:Tg}{c:MB}{j:ME}{d:D}{ds acc out:List D}{ρ:Ro}(h:V8 g c j (d::ds) ρ acc=some out):∃ i,tgD g d ρ=some i/\((c i=some false/\V8 g c j ds i acc=some out)\/∃ x,c i=some true/\j i=some x/\acc.length<sizeLine/\V8 g c j ds i (acc++[x])=some out):=by
 rw[V8]at h
 cases h2:tgD g d ρ with
 |none=>rw[h2]at h;cases h
 |some i=>
  rw[h2]at h
  simp only at h
  refine⟨i,rfl,?_⟩
  cases h3:c i with
  |none=>rw[h3]at h;cases h
  |some k=>
   rw[h3]at h
   cases k with
   |false=>exact .inl ⟨rfl,h⟩
   |true=>
    simp only at h
    cases h4:j i with
    |none=>rw[h4]at h;cases h
    |some x=>
     rw[h4]at h
     simp only at h
     by_cases z:acc.length<sizeLine
     .rw[if_pos z]at h;exact .inr ⟨x,rfl,rfl,z,h⟩
     .rw[if_neg z]at h;cases h
theorem yo1 {K:PySem.W.Frag}{src:List (Option Nat)}{g:Tg}{c:MB}{a5:ME}{its out:List D}{F1 H1:Hp}{σ:St}{a6:Ro}{p:Addr}{J:It}{Q:VK}(f1:Same F1 H1)(hp:H1 p=none)(rb:Rl K F1 (upd F1 p (.lst [])) F1 (upd H1 p (.lst [])) (blk0 src σ) a6)(I:ItD K F1 J its)(e:V8 g c a5 its a6 []=some out)
  (q:∀ xs F' H',Ext F1 H1 F' H'->F' p=none->H' p=some (.lst xs)->Reps K F' xs out->Q (.ref p) H'):
  ∃ W:Nat->Nat->St->Hp->Prop,(∃ m,W 0 m (blk0 src σ) (upd H1 p (.lst [])))/\∀ i m R H',W i m R H'->
   (J.stop i H'/\Q (.ref p) H')\/(J.go i H'/\∃ N:St->Hp->Prop,(∀ O H2,N O H2->∃ m',m'<m/\W (i+1) m' O H2)/\∀ x H2,J.yld i H' x H2->TGd K g x R H2 fun G H3=>TC K c G H3 fun b H4=>
    if b=true then TD K a5 G H4 fun y H5=>∃ xs,H5 p=some (.lst xs)/\xs.length<sizeLine/\N G (upd H5 p (.lst (xs++[y])))else N G H4):=by
 have a7:F1 p=none:=f1.free hp
 refine⟨fun i m R H'=>∃ F' ρ' acc xs,Rl K F1 (upd F1 p (.lst xs)) F' H' R ρ'/\Ext F1 H1 F' H'/\H' p=some (.lst xs)/\F' p=none/\Reps K F' xs acc/\i<=its.length/\m=its.length-i/\V8 g c a5 (its.drop i) ρ' acc=some out,
  ⟨_,F1,a6,[],[],rb,(Ext.refl f1).acc hp a7,w4,a7,.nil,Nat.zero_le _,rfl,e⟩,?_⟩
 clear rb e
 rintro i m R H' ⟨F',ρ',acc,xs,a4,xe,a1,a8,ra,ab,rfl,e'⟩
 by_cases Z:i<its.length
 .right
  have hd:=getElem?_eq_getElem Z
  refine⟨I.go i F' H' xe.ff a4.fh Z,fun O H2=>∃ F2 ρ2 j U,Rl K F1 (upd F1 p (.lst U)) F2 H2 O ρ2/\Ext F1 H1 F2 H2/\H2 p=some (.lst U)/\F2 p=none/\Reps K F2 U j/\V8 g c a5 (its.drop (i+1)) ρ2 j=some out,?_,fun x H2 y=>?_⟩
  .rintro O H2 ⟨F2,ρ2,j,U,b1,b2,b3,b4,b5,b6⟩
   exact⟨its.length-(i+1),Nat.sub_lt_sub_left Z (Nat.lt_succ_self i),F2,ρ2,j,U,b1,b2,b3,b4,b5,Z,rfl,b6⟩
  .obtain⟨F2,x2,r2⟩:=I.yld i F' H' x H2 _ xe.ff a4.fh hd y
   rw[W9 hd]at e'
   obtain⟨z,h2,e3⟩:=zx8 e'
   clear e' I q y hd
   refine⟨F1,_,F2,ρ',_,z,a4.go x2,r2,h2,fun F3 H3 G Y x3=>?_⟩
   have a9:=x2.trans x3
   rcases e3 with⟨h3,e4⟩|⟨d,h3,h4,hz,e4⟩
   .refine⟨F1,_,F3,z,false,Y,h3,fun F4 H4 x4=>?_⟩
    have a3:=a9.trans x4
    exact iteF ⟨F4,z,acc,xs,Y.go x4,xe.trans a3,a3.hh _ _ a1,a3.stay a8 a1,ra.mono a3.ff,e4⟩
   .refine⟨F1,_,F3,z,true,Y,h3,fun F4 H4 x4=>iteT ⟨F1,_,F4,z,d,Y.go x4,h4,fun v F5 H5 x5 r5=>?_⟩⟩
    have a2:=(a9.trans x4).trans x5
    have pn:=a2.stay a8 a1
    exact⟨xs,a2.hh _ _ a1,by rw[ra.length];exact hz,F5,z,acc++[d],xs++[v],((Y.go x4).go x5).rebase pn a7,(xe.trans a2).acc hp pn,w4,pn,(ra.mono a2.ff).append (.cons r5 .nil),e4⟩
 .left
  have aa:i=its.length:=Nat.le_antisymm ab (Nat.le_of_not_lt Z)
  subst aa
  rw[drop_length]at e'
  have e':some acc=some out:=e'
  cases e'
  exact⟨I.stop F' H' xe.ff a4.fh,q xs F' H' xe a8 a1 ra⟩
section
variable {X:Cx}{a b c e:Expr}{ma mb:ME}{pos:Pos}{st:Stmt}{rest:List Stmt}
def PTsd (X:Cx)(ifs:List Expr)(c:MB):Prop:=PTs X ifs (TC X.K c)
noncomputable def cyes:MB:=fun _=>some true
theorem J2:PTsd X [] cyes:=fun pins s σ H Q I i=>by
 obtain⟨F0,H0,F,ρ,b,j,e,q⟩:=i
 cases e
 exact xy6 pins s σ H Q I (q F H (.refl j.fh))
theorem yj1 {ca:MB}(h:PC' X c ca):PTsd X [c] ca:=xy5 h
theorem yo0 {K:W.Frag}{src:List (Option Nat)}{z:ML}{g:Tg}{c:MB}{i:ME}{σ:St}{H:Hp}{Q:VK}(h:TF K (W0 src z g c i) σ H Q):zr3 src (TId K z) (TGd K g) (TC K c) (TD K i) σ H Q:=by
 obtain⟨F0,H0,F,ρ,out,O,e,q⟩:=h
 unfold W0 at e
 cases h1:z ρ with
 |none=>rw[h1]at e;cases e
 |some its=>
  rw[h1]at e
  refine⟨F0,H0,F,ρ,its,O,h1,fun J F1 H1 j I p hp=>?_⟩
  obtain⟨rb,U⟩:=(O.go j).blk src
  exact yo1 j.fh hp (rb.noB U hp) I e fun xs F' H' xe N G R=>q p xs F' H' (j.trans xe) (j.hh.free hp) N G R
theorem xx8 {sc:Scope}{N:List Str}{src:List (Option Nat)}{tg j iter:Expr}{i:List Expr}{G:ML}{g:Tg}{cc:MB}{z:ME}(B:Blk X sc N src)(R:X.calm=true)
  (hi:PId X tg iter G) (I:∀ C fp s H,PGd (Y6 X sc C N fp s H) tg g) (ht:∀ C fp s H,PTsd (Y6 X sc C N fp s H) i cc) (O:∀ C fp s H,PD (Y6 X sc C N fp s H) j z)
  (hs:∀ x,foldedSetIterable iter X.env x=pure x:=by intro _;rfl):
  PF X (.ListComp j [⟨tg,iter,i,0⟩] sc pos) (W0 src G g cc z):=(yv8 (g:=TGd X.K g) (tc:=TC X.K cc) (te:=TD X.K z) B R hi (fun C fp s H=>I C fp s H) (fun C fp s H=>ht C fp s H) (fun C fp s H=>O C fp s H) hs).imp fun _ _ _ h=>yo0 h
theorem xn6 {mf:ML}{σ:St}{H:Hp}{Q:VK}(h:TD X.K (mlst mf) σ H Q):TF X.K mf σ H Q:=by
 obtain⟨F0,H0,F,ρ,d,r,e,q⟩:=h
 unfold mlst at e
 cases hm:mf ρ with
 |none=>rw[hm]at e;cases e
 |some ds=>
  rw[hm]at e;cases e
  refine⟨F0,H0,F,ρ,ds,r,hm,fun p xs F' H' x hp i z j=>?_⟩
  exact q _ (upd F' p (.lst xs)) H' (x.freeze i hp z) (.lst (SqL.of w4) (j.mono ((Same.refl F').put i)))
theorem zq3 {i:Nat}{src:List (Option Nat)}{j:ML}{g:Tg}{cc:MB}{z:ME}(h:PS X st (tAsg (zr3 src (TId X.K j) (TGd X.K g) (TC X.K cc) (TD X.K z)) (zz7 i))):PSd X st (mset i (mlst (W0 src j g cc z))):=xf0 h fun _ _ _ q=>yo0 (xn6 q)
inductive Rt where
 |sh (d:D)|fr (ds:List D)|pr (d:D) (ds:List D)
noncomputable abbrev MF:=List D->Option Rt
noncomputable def okT (K:W.Frag)(F H:Hp)(Q:VK):Rt->Prop
 | .sh d=>∀ v F' H',Ext F H F' H'->Rep K F' v d->Q v H'
 | .fr ds=>∀ p xs F' H',Ext F H F' H'->H p=none->F' p=none->H' p=some (.lst xs)->Reps K F' xs ds->Q (.ref p) H'
 | .pr d ds=>∀ t v p xs F' H',Ext F H F' H'->H t=none->H p=none->t≠p->F' t=none->F' p=none->H' t=some (.tup [v,.ref p])->H' p=some (.lst xs)->Rep K F' v d->Reps K F' xs ds->Q (.ref t) H'
def spR (K:W.Frag)(n:Nat)(m:MF):Sp:=fun vs H Q _=>vs.length=n/\∃ F ds r,Same F H/\Reps K F vs ds/\m ds=some r/\okT K F H Q r
noncomputable def v7 (n:Nat)(ds:List D):Ro:=ds.map (fun d=>some (.sh d))++List.replicate (n-ds.length) none
noncomputable def runB (n:Nat)(m:MS):MF:=fun ds=>match m (v7 n ds)with
 |some (.nx _)=>some (.sh .non)
 |some (.rt d)=>some (.sh d)
 |some (.rf es)=>some (.fr es)
 |some (.rp d es)=>some (.pr d es)
 |_=>none
theorem S6 {K:W.Frag}{F H:Hp}{N:List Str}{vs:List V}{ds:List D}(s:Same F H)(r:Reps K F vs ds):Rl K F H F H (start N vs) (v7 N.length ds):=by
 have get:∀(i:Nat) x,(v7 N.length ds)[i]? =some (some x)->∃ d,x=S.sh d/\ds[i]? =some d:=fun i x e=>by
  unfold v7 at e
  by_cases hi:i<ds.length
  .rw[getElem?_append_left (by simpa using hi),getElem?_map]at e
   cases q:ds[i]? with
   |none=>rw[q]at e;cases e
   |some d=>rw[q]at e;cases e;exact⟨d,rfl,rfl⟩
  .rw[getElem?_append_right (by simpa using hi),getElem?_replicate]at e
   split at e <;> cases e
 refine⟨.refl s,?_,fun i d e=>?_,fun i ds e=>?_,fun i j p ds es _ e=>?_,fun i p ds e=>?_,fun i j p ds es e=>?_,fun i j p q ds es e=>?_⟩
 .unfold start v7;simp[r.length]
 .obtain⟨d',e1,e2⟩:=get i _ e
  cases e1
  obtain⟨v,e3,z⟩:=r.get e2
  have hl:i<vs.length:=(List.getElem?_eq_some_iff.mp e3).1
  refine⟨v,?_,z⟩
  unfold start
  rw[getElem?_append_left (by simpa using hl),getElem?_map,e3];rfl
 .obtain⟨d',e1,_⟩:=get i _ e
  cases e1
 .obtain⟨d',e1,_⟩:=get i _ e
  cases e1
 .obtain⟨d',e1,_⟩:=get i _ e
  cases e1
 .obtain⟨d',e1,_⟩:=get i _ e
  cases e1
 .obtain⟨d',e1,_⟩:=get i _ e
  cases e1
theorem Fun.okD {P:Program}{w:World}{K:W.Frag}{mg:Str->Option Value}{base:Heap}{x qual:Str}{st:Stmt}{f:Addr}{fd:FuncData}{N ps:List Str}{k:Nat}{m:MS}(U:Fun K x qual st f fd)(R:FnScope N ps (y8 st))
  (i:∀(cdv:Value)(A:Around)(outer:List Env)(s:Shared)(H:Hp)(E:XK),Room k (A.deeper (envOfC qual (y8 st) s.heap.objs.size f cdv))->PSsd (cxOf CX0 P w K mg base N qual (y8 st) f cdv A outer s H E).nox (p0 st) m):
  FnOk P w K mg base CX0 (k+1) f fd ps (spR K ps.length (runB N.length m)):=by
 refine U.ok R (fun vs H Q E h=>h.1) fun cdv A outer s H vs Q E O h=>?_
 obtain⟨hl,F,ds,r,z,G,e,ok⟩:=h
 unfold runB at e
 cases h1:m (v7 N.length ds)with
 |none=>rw[h1]at e;cases e
 |some o=>
  rw[h1]at e
  refine⟨_,i cdv A outer s H E O,F,H,F,v7 N.length ds,o,S6 z G,h1,?_⟩
  cases o with
  |nx ρ=>cases e;exact fun F' H' j I _=>ok .non F' H' I.ext .non
  |rt d=>cases e;exact ok
  |rf es=>cases e;exact ok
  |rp d es=>cases e;exact ok
  |rg d p r=>cases e
  |rgf d p r=>cases e
  |bk ρ=>cases e
  |ct ρ=>cases e
@[irreducible] noncomputable def l7 (f:MF)(m:ML):ME:=fun ρ=>(m ρ).bind fun ds=>match f ds with |some (.sh d)=>some d|some (.fr es)=>some (.lst es)|some (.pr d es)=>some (.tup [d,.lst es])|none=>none
@[irreducible] noncomputable def O7 (f:MF)(m:ML):ML:=fun ρ=>(m ρ).bind fun ds=>match f ds with |some (.fr es)=>some es|_=>none
variable {E:XK}{es:List Expr}{mf:MF}{m:ML}
theorem g9 {n:Nat}(h:∀ t,PA X es t->PE X e (zr4 (spR X.K n mf) [] E t))(hl:es.length=n)(ha:PAs X es m)(hm:∀ ρ ds,m ρ=some ds->ds.length=es.length):PD X e (l7 mf m):=(h _ ha).imp fun σ H Q G=>by
 obtain⟨F0,H0,F,ρ,d,rl,e,q⟩:=G
 unfold l7 at e
 cases h1:m ρ with
 |none=>rw[h1]at e;cases e
 |some ds=>
  rw[h1]at e
  refine⟨F0,H0,F,ρ,ds,rl,h1,fun vs F1 H1 j O=>?_⟩
  dsimp only[Option.bind]at e
  show spR X.K n mf (vs++[]) H1 Q E
  rw[append_nil]
  refine⟨by rw[O.length,hm ρ ds h1,hl],F1,ds,?_⟩
  split at e
  .rename_i d' h2
   cases e
   exact⟨_,j.fh,O,h2,fun v F2 H2 z r2=>q v F2 H2 (j.trans z) r2⟩
  .rename_i es' h2
   cases e
   exact⟨_,j.fh,O,h2,fun p xs F2 H2 z hp hF hH r2=>q _ (upd F2 p (.lst xs)) H2 (j.trans (z.freeze hF hp hH)) (.lst (SqL.of w4) (r2.mono ((Same.refl F2).put hF)))⟩
  .rename_i d' es' h2
   cases e
   refine⟨_,j.fh,O,h2,fun t v p xs F2 H2 z ht hp I Y N R U rv rs=>?_⟩
   have x3:=z.freeze N hp U
   have i:upd F2 p (.lst xs) t=none:=by rw[w5 I];exact Y
   have s2:Same F2 (upd F2 p (.lst xs)):=(Same.refl F2).put N
   have Z:Same (upd F2 p (.lst xs)) (upd (upd F2 p (.lst xs)) t (.tup [v,.ref p])):=(Same.refl _).put i
   exact q _ (upd (upd F2 p (.lst xs)) t (.tup [v,.ref p])) H2 (j.trans (x3.freeze i ht R)) (.tup (SqT.of w4) (.cons (rv.mono (s2.trans Z)) (.cons (.lst (SqL.of (by rw[w5 (Ne.symm I)];exact w4)) (rs.mono (s2.trans Z))) .nil)))
  .cases e
theorem zj1 {n:Nat}(h:∀ t,PA X es t->PE X e (zr4 (spR X.K n mf) [] E t))(hl:es.length=n)(ha:PAs X es m)(hm:∀ ρ ds,m ρ=some ds->ds.length=es.length):PF X e (O7 mf m):=(h _ ha).imp fun σ H Q i=>by
 obtain⟨F0,H0,F,ρ,d,I,e,q⟩:=i
 unfold O7 at e
 cases h1:m ρ with
 |none=>rw[h1]at e;cases e
 |some ds=>
  rw[h1]at e
  refine⟨F0,H0,F,ρ,ds,I,h1,fun vs F1 H1 j z=>?_⟩
  dsimp only[Option.bind]at e
  show spR X.K n mf (vs++[]) H1 Q E
  rw[append_nil]
  refine⟨by rw[z.length,hm ρ ds h1,hl],F1,ds,?_⟩
  split at e
  .rename_i es' h2
   cases e
   exact⟨_,j.fh,z,h2,fun p xs F2 H2 G hp O N r2=>q p xs F2 H2 (j.trans G) (j.hh.free hp) O N r2⟩
  .cases e
theorem w8 (ρ:Ro)(ds:List D)(h:anil ρ=some ds):ds.length=0:=by cases h;rfl
theorem z8 {x:ME}{r:ML}{n:Nat}(i:∀ ρ ds,r ρ=some ds->ds.length=n)(ρ:Ro)(ds:List D)(h:z5 x r ρ=some ds):ds.length=n+1:=by
 obtain⟨d,es,_,h2,rfl⟩:=zw0 h
 rw[length_cons,i ρ es h2]
end
end
section
section
variable {X:Cx}{a b c e:Expr}{ma mb:ME}{pos:Pos}
noncomputable def bl2 (g:Bool->Bool->Bool):D->D->Option D
 | .bl i,.bl j=>some (.bl (g i j))
 |_,_=>none
theorem zq0 {K:W.Frag}{F:Hp}:∀ ns:List Int,Reps K F (ns.map V.int) (ns.map D.int)
 |[]=>.nil
 |n::ns=>.cons (.int n) (zq0 ns)
end
end
section
noncomputable def xg6 (fsc:Scope)(fN:List Str)(sc:Scope)(N:List Str)(src:List (Option Nat)):Bool:=
 (sc.kind== .function)&&sc.names.all (fun y=>y.2 != .cell)&&sc.names.all (fun y=>y.2 != .local || sc.names.lookup y.1==some .local)
  &&sc.names.all (fun y=>y.2 != .free || (fsc.names.lookup y.1==some .cell || fsc.names.lookup y.1==some .free))&&(src.length==N.length)
  &&(List.range src.length).all fun j=>match src[j]? with
   |some (some i)=>match N[j]? with
    |some x=>fN[i]? ==some x&&sc.names.lookup x==some .free
    |none=>false
   |_=>true
theorem K4 {X:Cx}{sc:Scope}{N:List Str}{src:List (Option Nat)}(G:Scope)(R:List Str)(h1:X.env.scope=G)(h2:X.N=R)(h:xg6 G R sc N src=true):Blk X sc N src:=by
 unfold xg6 at h
 simp only[Bool.and_eq_true,all_eq_true,beq_iff_eq,Bool.or_eq_true,bne_iff_ne,ne_eq]at h
 obtain⟨⟨⟨⟨⟨a1,a2⟩,a3⟩,Z⟩,Y⟩,U⟩:=h
 refine⟨a1,a2,fun y I O=>?_,fun y I O=>?_,fun j i e=>?_,Y⟩
 .rcases a3 y I with z|z
  .exact absurd O z
  .exact z
 .have k:∀ x,X.env.kindOf x=G.names.lookup x:=fun x=>by rw[<-h1];rfl
  rw[k]
  rcases Z y I with z|z
  .exact absurd O z
  .exact z
 .have hj:j<src.length:=(List.getElem?_eq_some_iff.mp e).1
  have:=U j (List.mem_range.mpr hj)
  rw[e]at this
  simp only at this
  cases hx:N[j]? with
  |none=>rw[hx]at this;cases this
  |some x=>
   rw[hx]at this
   simp only[Bool.and_eq_true,beq_iff_eq]at this
   exact⟨x,rfl,by rw[h2];exact this.1,this.2⟩
end
section
theorem xx5 {X:Cx}{a:Expr}{i:ML}{lo hi:Option Expr}{l h:MO}{p2 pos:Pos}(ha:PB X a i)(hl:POs X lo l)(hh:POs X hi h):PF X (.Subscript a (.Slice lo hi none p2) pos) (mcut i l h):=xn7 ha hl hh (zf1 xz3 ha hl hh)
end
section
noncomputable def zipE (f:D->D->Option Bool):List D->List D->Option Bool
 |d::ds,e::es=>(f d e).bind fun a=>(zipE f ds es).bind fun b=>some (a&&b)
 |_,_=>some true
noncomputable def eqF:Nat->D->D->Option Bool
 |0,_,_=>none
 |n+1,.lst ds,.lst es=>if ds.length=es.length then zipE (eqF n) ds es else some false
 |n+1,.tup ds,.tup es=>(zipE (eqF n) ds es).map fun b=>b&&ds.length==es.length
 |_+1,d,e=>eqS d e
theorem zw3 {f:D->D->Option Bool}:∀{ds es:List D}{k:Bool},zipE f ds es=some k->∃ g:Nat->Bool,(∀ j d e,ds[j]? =some d->es[j]? =some e->f d e=some (g j))/\k=(List.range (min ds.length es.length)).all g
 |[],es,k,h=>by
  have h:some true=some k:=by simpa[zipE]using h
  cases h
  exact⟨fun _=>true,by simp,by simp⟩
 |_::_,[],k,h=>by
  have h:some true=some k:=by simpa[zipE]using h
  cases h
  exact⟨fun _=>true,by simp,by simp⟩
 |d::ds,e::es,k,h=>by
  unfold zipE at h
  cases h1:f d e with
  |none=>rw[h1]at h;cases h
  |some a=>
   rw[h1]at h
   cases h2:zipE f ds es with
   |none=>rw[h2]at h;cases h
   |some b=>
    rw[h2]at h
    have h:some (a&&b)=some k:=h
    cases h
    obtain⟨g,z,i⟩:=zw3 h2
    refine⟨fun j=>match j with |0=>a|j+1=>g j,?_,?_⟩
    .intro j d' e' hd he
     cases j with
     |zero=>simp at hd he;subst hd he;exact h1
     |succ j=>exact z j d' e' (by simpa using hd) (by simpa using he)
    .rw[i,length_cons,length_cons,Nat.add_min_add_right,range_succ_eq_map,all_cons,all_map]
     rfl
section
variable {X:Cx}{pins:List (Addr×Obj)}{σ:St}{H:Hp}{s:Shared}
theorem Inv.xat (I:Inv X pins σ H s){a C:Addr}(h:H a=some (.ext (XAt a C))):XAt a C s.heap:=(show ObjOk X.prog X.w H s.heap a (.ext (XAt a C))from I.hok a _ h).1
theorem G7 {f:D->D->Option Bool}(i:∀{v:V}{d e:D}{k:Bool},Rep X.K H v d->Rep X.K H v e->f d e=some k->k=true):∀{vs:List V}{ds es:List D}{k:Bool},Reps X.K H vs ds->Reps X.K H vs es->zipE f ds es=some k->k=true
 |_,_,_,_,.nil,.nil,h=>by simp[zipE]at h;exact h
 |_::_,d::ds,e::es,k,.cons r1 s1,.cons r2 s2,h=>by
  unfold zipE at h
  cases h1:f d e with
  |none=>rw[h1]at h;cases h
  |some a=>
   rw[h1]at h
   cases h2:zipE f ds es with
   |none=>rw[h2]at h;cases h
   |some b=>
    rw[h2]at h
    have h:some (a&&b)=some k:=h
    cases h
    rw[i r1 r2 h1,G7 i s1 s2 h2];rfl
theorem Rep.eqT (I:Inv X pins σ H s):∀(n:Nat){v:V}{d e:D}{k:Bool},Rep X.K H v d->Rep X.K H v e->eqF n d e=some k->k=true
 |0,_,_,_,_,_,_,h=>by simp[eqF]at h
 |n+1,v,d,e,k,r1,r2,h=>by
  cases r1 with
  |non=>cases r2;exact(Option.some.inj (show some true=some k from h)).symm
  |bl b=>cases r2;exact(Option.some.inj (show some (b==b)=some k from h)).symm.trans (beq_self_eq_true b)
  |int b=>cases r2;exact(Option.some.inj (show some (b==b)=some k from h)).symm.trans (beq_self_eq_true b)
  |str b=>cases r2;exact(Option.some.inj (show some (b==b)=some k from h)).symm.trans (beq_self_eq_true b)
  |lst G z=>
   cases r2 with
   |lst j i=>
    have e:=I.list_inj G j
    subst e
    simp only[eqF]at h
    split at h
    .exact G7 (fun a b c=>Rep.eqT I n a b c) z i h
    .rename_i hl;exact absurd (z.length.symm.trans i.length) hl
   |_=>cases h
  |tup G z=>
   cases r2 with
   |tup j i=>
    have e:=I.tuple_inj G j
    subst e
    simp only[eqF]at h
    cases hz:zipE (eqF n) _ _ with
    |none=>rw[hz]at h;cases h
    |some N=>
     rw[hz]at h
     have h:=Option.some.inj h
     rw[<-h,G7 (fun a b c=>Rep.eqT I n a b c) z i hz,z.length.symm.trans i.length]
     simp
   |_=>cases h
  |_=>cases h
open PySem.SeqAt in
theorem xg1 {K:W.Frag}{H:Hp}{A:Around}{s:Shared}{x y:V}{v u:Value}{d e:D}{k:Bool}(I:Rep K H x d)(r2:Rep K H y e)(z:RelV x v)(j:RelV y u)(h:eqS d e=some k):EqAt A s v u k/\RcAt A s v u k/\RcNeAt A s v u (!k):=by
 obtain⟨O,G⟩:=zh0 d e k h
 rw[yz4 h I]at z
 rw[yz4 G r2]at j
 clear I r2 G
 cases d with
 |non=>
  cases z
  cases e with
  |non=>cases j;cases h;exact⟨EqAt.same _,.none_none,.none_none⟩
  |bl b=>cases j;cases h;exact⟨.none_bool _,.none_bool _,.none_bool _⟩
  |int b=>obtain⟨t,rfl⟩:=j;cases h;exact⟨.none_int _ _,.none_int _ _,.none_int _ _⟩
  |str b=>obtain⟨t,rfl⟩:=j;cases h;exact⟨.none_str _ _,.none_str _ _,.none_str _ _⟩
  |_=>cases h
 |bl i=>
  cases z
  cases e with
  |non=>cases j;cases h;exact⟨.bool_none _,.bool_none _,.bool_none _⟩
  |bl b=>cases j;cases h;exact⟨.bool_bool _ _,.bool_bool _ _,.bool_bool _ _⟩
  |str b=>obtain⟨t,rfl⟩:=j;cases h;exact⟨.bool_str _ _ _,.bool_str _ _ _,.bool_str _ _ _⟩
  |_=>cases h
 |int i=>
  obtain⟨N,rfl⟩:=z
  cases e with
  |non=>cases j;cases h;exact⟨.int_none _ _,.int_none _ _,.int_none _ _⟩
  |int b=>obtain⟨t,rfl⟩:=j;cases h;exact⟨.int_int _ _ _ _,.int_int _ _ _ _,.int_int _ _ _ _⟩
  |str b=>obtain⟨t,rfl⟩:=j;cases h;exact⟨.int_str _ _ _ _,.int_str _ _ _ _,.int_str _ _ _ _⟩
  |_=>cases h
 |str i=>
  obtain⟨N,rfl⟩:=z
  cases e with
  |non=>cases j;cases h;exact⟨.str_none _ _,.str_none _ _,.str_none _ _⟩
  |bl b=>cases j;cases h;exact⟨.str_bool _ _ _,.str_bool _ _ _,.str_bool _ _ _⟩
  |int b=>obtain⟨t,rfl⟩:=j;cases h;exact⟨.str_int _ _ _ _,.str_int _ _ _ _,.str_int _ _ _ _⟩
  |str b=>obtain⟨t,rfl⟩:=j;cases h;exact⟨.str_str _ _ _ _,.str_str _ _ _ _,.str_str _ _ _ _⟩
  |_=>cases h
 |_=>cases h
theorem xs6 {n:Nat}{d e:D}{k:Bool}(h:eqF (n+1) d e=some k):eqS d e=some k\/(∃ ds es,d= .lst ds/\e= .lst es/\(if ds.length=es.length then zipE (eqF n) ds es else some false)=some k)\/∃ ds es i,d= .tup ds/\e= .tup es/\zipE (eqF n) ds es=some i/\(i&&ds.length==es.length)=k:=by
 cases d with
 |lst ds=>
  cases e with
  |lst es=>exact .inr (.inl ⟨ds,es,rfl,rfl,h⟩)
  |_=>exact .inl h
 |tup ds=>
  cases e with
  |tup es=>
   have h:((zipE (eqF n) ds es).map fun b=>b&&ds.length==es.length)=some k:=h
   cases hz:zipE (eqF n) ds es with
   |none=>rw[hz]at h;cases h
   |some i=>rw[hz]at h;exact .inr (.inr ⟨ds,es,i,rfl,rfl,hz,Option.some.inj h⟩)
  |_=>exact .inl h
 |_=>exact .inl h
theorem ze5 {K:W.Frag}{H:Hp}{A:Around}{s:Shared}{n:Nat}{xs ys:List V}{ds es:List D}{its i:List Value}{g:Nat->Bool}(ih:∀{x y:V}{v u:Value}{d e:D}{k:Bool},Rep K H x d->Rep K H y e->RelV x v->RelV y u->eqF n d e=some k->PySem.SeqAt.EqAt A s v u k)(rs:Reps K H xs ds)(G:Reps K H ys es)(vr:Vals xs its)(z:Vals ys i)
  (g1:∀(j:Nat) d e,ds[j]? =some d->es[j]? =some e->eqF n d e=some (g j)) (j:Nat) (h1:j<its.toArray.size) (h2:j<i.toArray.size):PySem.SeqAt.EqAt A s its.toArray[j] i.toArray[j] (g j):=by
 have z1:its.length=ds.length:=by rw[<-vr.length,rs.length]
 have z2:i.length=es.length:=by rw[<-z.length,G.length]
 simp only[size_toArray]at h1 h2
 obtain⟨d',O⟩:∃ d',ds[j]? =some d':=⟨_,getElem?_eq_getElem (z1 ▸ h1)⟩
 obtain⟨e',N⟩:∃ e',es[j]? =some e':=⟨_,getElem?_eq_getElem (z2 ▸ h2)⟩
 obtain⟨v',Z,R⟩:=rs.get O
 obtain⟨u',a1,U⟩:=G.get N
 obtain⟨p,hp,rp⟩:=vr.get Z
 obtain⟨p2,I,Y⟩:=z.get a1
 have e1:its.toArray[j]=p:=by
  rw[getElem?_eq_getElem h1]at hp
  simpa using hp
 have e2:i.toArray[j]=p2:=by
  rw[getElem?_eq_getElem h2]at I
  simpa using I
 rw[e1,e2]
 exact ih R U rp Y (g1 j d' e' O N)
open PySem.SeqAt in
theorem yp3 (I:Inv X pins σ H s):∀(n:Nat){A:Around}{x y:V}{v u:Value}{d e:D}{k:Bool},A.units+n<cLine->Rep X.K H x d->Rep X.K H y e->RelV x v->RelV y u->eqF n d e=some k->EqAt A s v u k/\RcAt A s v u k/\RcNeAt A s v u (!k)
 |0,A,x,y,v,u,d,e,k,hu,r1,r2,q1,q2,h=>by simp[eqF]at h
 |n+1,A,x,y,v,u,d,e,k,hu,r1,r2,q1,q2,h=>by
  have G:A.units<cLine:=by omega
  have a1:A.in1.units+n<cLine:=by show A.units+1+n<cLine;omega
  rcases xs6 h with h1|⟨ds,es,rfl,rfl,h1⟩|⟨ds,es,kk,rfl,rfl,hz,hk⟩
  .exact xg1 r1 r2 q1 q2 h1
  .obtain⟨a,xs,rfl,sq,rs⟩:=r1.l'
   obtain⟨b,ys,rfl,O,z⟩:=r2.l'
   cases q1;cases q2
   obtain⟨its,vr,⟨o,m,ho,hc,_,hd⟩,_⟩:=I.list sq
   obtain⟨i,N,⟨o2,m2,R,Y,_,U⟩,_⟩:=I.list O
   have L1:s.heap.IsList a its.toArray:=⟨o,ho,hc,m,hd⟩
   have L2:s.heap.IsList b i.toArray:=⟨o2,R,Y,m2,U⟩
   clear ho hc hd R Y U
   have z1:its.length=ds.length:=by rw[<-vr.length,rs.length]
   have z2:i.length=es.length:=by rw[<-N.length,z.length]
   have j:RcAt A s (.ref a) (.ref b) k/\RcNeAt A s (.ref a) (.ref b) (!k):=by
    by_cases hl:ds.length=es.length
    .rw[if_pos hl]at h1
     obtain⟨g,g1,g2⟩:=zw3 h1
     have he:=ze5 (fun a b c d e=>(yp3 I n a1 a b c d e).1) rs z vr N g1
     have hz:its.toArray.size=i.toArray.size:=by simp only[size_toArray];rw[z1,z2,hl]
     have hk:k=(List.range its.toArray.size).all g:=by
      rw[g2];simp only[size_toArray];rw[z1,hl,Nat.min_self]
     rw[hk]
     exact⟨.lists L1 L2 hz G he,.lists L1 L2 hz G he⟩
    .rw[if_neg hl]at h1
     cases h1
     have hz:(its.toArray.size != i.toArray.size)=true:=by simp only[size_toArray];rw[z1,z2];exact bne_iff_ne.mpr hl
     exact⟨.lists_lengths L1 L2 hz G,.lists_lengths L1 L2 hz G⟩
   refine⟨?_,j⟩
   by_cases Z:a=b
   .subst Z
    rw[Rep.eqT I (n+1) (.lst sq rs) (.lst O z) h]
    exact EqAt.same _
   .exact .of_refs Z j.1
  .obtain⟨a,xs,rfl,sq,rs⟩:=r1.t'
   obtain⟨b,ys,rfl,O,z⟩:=r2.t'
   cases q1;cases q2
   obtain⟨its,vr,⟨o,ho,hc,m,hd⟩,_⟩:=I.tuple sq
   obtain⟨i,N,⟨o2,R,Y,m2,U⟩,_⟩:=I.tuple O
   have L1:s.heap.IsTuple a its.toArray:=⟨o,ho,hc,m,hd⟩
   have L2:s.heap.IsTuple b i.toArray:=⟨o2,R,Y,m2,U⟩
   clear ho hc hd R Y U
   have z1:its.length=ds.length:=by rw[<-vr.length,rs.length]
   have z2:i.length=es.length:=by rw[<-N.length,z.length]
   have j:RcAt A s (.ref a) (.ref b) k/\RcNeAt A s (.ref a) (.ref b) (!k):=by
    obtain⟨g,g1,g2⟩:=zw3 hz
    have he:=ze5 (fun a b c d e=>(yp3 I n a1 a b c d e).1) rs z vr N g1
    have hk:k=((List.range (min its.toArray.size i.toArray.size)).all g&&its.toArray.size==i.toArray.size):=by
     rw[<-hk,g2];simp only[size_toArray];rw[z1,z2]
    rw[hk]
    exact⟨.tuples L1 L2 G he,.tuples L1 L2 G he⟩
   refine⟨?_,j⟩
   by_cases Z:a=b
   .subst Z
    rw[Rep.eqT I (n+1) (.tup sq rs) (.tup O z) h]
    exact EqAt.same _
   .exact .of_refs Z j.1
end
end
section
section
variable {X:Cx}{a b c e:Expr}{ma mb:ME}{la lb:ML}{pos:Pos}
def rEqF (K:W.Frag)(neg:Bool):R2:=fun x y H Q=>∃ d e k,Rep K H x d/\Rep K H y e/\eqF 8 d e=some k/\Q (.bl (if neg then !k else k)) H
theorem xk0 (z:X.A.units+64<cLine):OpR X (compareOp .Eq) (rEqF X.K false):=by
 intro pins s σ H x y v u Q I rx i h
 obtain⟨d,e,k,j,r2,h,q⟩:=h
 exact(yp3 I 8 (by omega) j r2 rx i h).2.1 X.prog X.w _ _ ⟨.bl k,H,I,rfl,q⟩
theorem L7 (z:X.A.units+64<cLine):OpR X (compareOp .NotEq) (rEqF X.K true):=by
 intro pins s σ H x y v u Q I rx i h
 obtain⟨d,e,k,j,r2,h,q⟩:=h
 exact(yp3 I 8 (by omega) j r2 rx i h).2.2 X.prog X.w _ _ ⟨.bl (!k),H,I,rfl,q⟩
noncomputable def eqFD (neg:Bool)(d e:D):Option D:=(eqF 8 d e).map fun k=>.bl (if neg then !k else k)
theorem D4 {K:W.Frag}{i:Bool}:OpD K (rEqF K i) (eqFD i):=by
 intro F H x y d e w Q s j r2 h q
 unfold eqFD at h
 cases hk:eqF 8 d e with
 |none=>rw[hk]at h;cases h
 |some k=>
  rw[hk]at h;cases h
  exact⟨d,e,k,j.mono s,r2.mono s,hk,q _ F H (.refl s) (.bl _)⟩
@[irreducible] noncomputable def meqB (neg:Bool)(x y:ML):ME:=fun ρ=>(x ρ).bind fun ds=>(y ρ).bind fun es=>eqFD neg (.lst ds) (.lst es)
theorem xg2 {i:Bool}{σ:St}{H:Hp}{Q:VK}(h:TD X.K (meqB i la lb) σ H Q):tOp (rEqF X.K i) (TB X.K la) (TB X.K lb) σ H Q:=by
 obtain⟨F0,H0,F,ρ,g,G,e,q⟩:=h
 unfold meqB at e
 cases h1:la ρ with
 |none=>rw[h1]at e;cases e
 |some ds=>
  cases h2:lb ρ with
  |none=>rw[h1,h2]at e;cases e
  |some es=>
   rw[h1,h2]at e
   have e:eqFD i (.lst ds) (.lst es)=some g:=e
   refine⟨F0,H0,F,ρ,ds,G,h1,fun p xs F1 H1 z s1 N=>⟨F0,H0,F1,ρ,es,G.go z,h2,fun p2 I F2 H2 j s2 r2=>?_⟩⟩
   unfold eqFD at e
   cases hk:eqF 8 (.lst ds) (.lst es)with
   |none=>rw[hk]at e;cases e
   |some k=>
    rw[hk]at e;cases e
    exact⟨_,_,k,.lst (j.hh.seq s1) (N.mono (j.ff.trans j.fh)),.lst s2 (r2.mono j.fh),hk,q _ F2 H2 (z.trans j) (.bl _)⟩
theorem xm4 {op:CmpOp}{i:Bool}(j:OpR X (compareOp op) (rEqF X.K i))(ha:PB X a la)(z:PB X b lb)(hm:behindInMarks op b=false):PD X (.Compare a [op] [b] pos) (meqB i la lb):=(zj2 j ha z hm).imp fun _ _ _ h=>xg2 h
theorem yu8 {op:CmpOp}{i:Bool}(G:OpR X (compareOp op) (rEqF X.K i))(ha:PB X a la)(I:PB X b lb)(hm:behindInMarks op b=false):PC' X (.Compare a [op] [b] pos) (v0 (meqB i la lb)):=(zw9 G ha I hm).imp fun σ H Q j=>by
 obtain⟨F0,H0,F,ρ,g,z,e,q⟩:=j
 unfold v0 at e
 split at e
 .rename_i k hk
  cases e
  refine xg2 ⟨F0,H0,F,ρ,.bl g,z,hk,fun v F' H' x r=>?_⟩
  cases r
  exact⟨_,rfl,q F' H' x⟩
 .cases e
noncomputable def tyD:D->String
 | .non=>"NoneType"| .bl _=>"bool"| .int _=>"int"| .str _=>"str"| .lst _=>"list"| .tup _=>"tuple"| .exc _=>"?"| .ptr _=>"?"| .obj _ _ _=>"?"
noncomputable def kitB (t c:String):Option Bool:=if t="?" then none else if (Value.type t==Value.type c)=true then some true else if W.kitMeta c=true then (fastBuiltinMro t).map (·.contains (Value.type c))else none
theorem xi2 {K:W.Frag}{t c:String}{k:Bool}(h:kitB t c=some k):t≠"?"/\W.kitOne K (.type t) (.type c)=some k:=by
 unfold kitB at h
 split at h
 .cases h
 .rename_i z;exact⟨z,h⟩
theorem xt8 {pins:List (Addr×Obj)}{σ:St}{H:Hp}{s:Shared}{A:Around}{E:Value->Shared->Prop}{Q:Value->Shared->Prop}{c:Value}{k:Bool}{x:V}{d:D}{u:Value}(I:Inv X pins σ H s)(rx:RelV x u)(r:Rep X.K H x d)
  (e:tyD d≠"?"/\W.kitOne X.K (.type (tyD d)) c=some k) (h:∀ tk,Q (.bool k) { s with toks:=tk }):wpAny (model X.prog X.w) A (call (.builtin "isinstance") [u,c]) Q E s:=by
 obtain⟨G,e⟩:=e
 cases r with
 |exc _ _=>exact absurd rfl G
 |ptr _=>exact absurd rfl G
 |obj _ _ _ _ _=>exact absurd rfl G
 |non=>exact O8 I rx .non e h
 |bl y=>exact O8 I rx (.bl y) e h
 |int i=>exact O8 I rx (.int i) e h
 |str y=>exact O8 I rx (.str y) e h
 |lst j U=>
  cases rx
  obtain⟨its,R,⟨o,m,N,O,_,hd⟩,_⟩:=I.list j
  exact W.kia_one W.kitx_list I.kIn ⟨_,N,O⟩ e (fun z=>nomatch z) h
 |tup j U=>
  cases rx
  obtain⟨its,R,⟨o,N,O,m,hd⟩,_⟩:=I.tuple j
  exact W.kia_one W.kitx_tuple I.kIn ⟨_,N,O⟩ e (fun z=>nomatch z) h
def rIsi (K:W.Frag)(c:String):List V->Hp->VK->Prop:=fun vs H Q=>∃ x d k,vs=[x,.ty c]/\Rep K H x d/\kitB (tyD d) c=some k/\Q (.bl k) H
theorem ye9 {c:String}:CallR X (.builtin "isinstance") (rIsi X.K c):=by
 intro pins s σ H xs us Q I r h
 obtain⟨x,d,k,rfl,j,e,q⟩:=h
 obtain⟨u,w,rfl,rx,i⟩:=zc4 r
 cases i
 exact xt8 I rx j (xi2 e) fun tk=>⟨.bl k,H,I.tok _,rfl,q⟩
@[irreducible] noncomputable def misi (c:String)(m:ME):ME:=fun ρ=>(m ρ).bind fun d=>(kitB (tyD d) c).map .bl
theorem j8 {c:Str}{C:String}{p p2:Pos}(Y:Gl X "isinstance")(hm:X.mg "isinstance"=none)(I:Gl X c)(G:X.mg c=none)(U:bootBuiltins c=some (.type C))(ha:PD X a ma)
  (hn:c≠"__name__":=by decide) (hd:(c==("__debug__":Str))=false:=by decide)
  (hs:starEach (a::[.Name c p2]) X.env=(false,eval a X.env)::starEach [.Name c p2] X.env:=by rfl) (j:starEach [.Name c p2] X.env=(false,eval (.Name c p2) X.env)::starEach [] X.env:=by rfl)
  (z:(backTo pos (starEach [.Name c p2] X.env)).any (·.1)=false:=by rfl):PD X (.Call (.Name "isinstance" p) [a,.Name c p2] [] pos) (misi C ma):=
 (e7 (ye9 (c:=C)) Y hm PyProof.Rows.boot_isinstance (j9 ha (j9 (yu0 (v:=.ty C) I G U rfl hn hd) pa_nil j) hs) (by decide) (by decide) hs z).imp fun σ H Q i=>by
  obtain⟨F0,H0,F,ρ,g,O,e,q⟩:=i
  unfold misi at e
  cases h1:ma ρ with
  |none=>rw[h1]at e;cases e
  |some d=>
   rw[h1]at e
   have e:(kitB (tyD d) C).map D.bl=some g:=e
   cases h2:kitB (tyD d) C with
   |none=>rw[h2]at e;cases e
   |some k=>
    rw[h2]at e;cases e
    exact⟨F0,H0,F,ρ,d,O,h1,fun v F1 H1 N R=>⟨v,d,k,rfl,R.mono N.fh,h2,q _ F1 H1 N (.bl _)⟩⟩
end
end
section
section
variable {X:Cx}{a b c e k:Expr}{te:TE}{ma mb:ME}{la lb:ML}{pos p2:Pos}{st:Stmt}
end
end
section
section
variable {X:Cx}{a b c e:Expr}{ma mb:ME}{la lb:ML}{pos:Pos}{st:Stmt}
end
end
section
section
variable {K:W.Frag}{F0 H0 F H:Hp}{σ:St}{ρ:Ro}
end
noncomputable def isSc:D->Bool
 | .lst _=>false
 | .tup _=>false
 | .exc _=>false
 | .ptr _=>false
 | .obj _ _ _=>false
 |_=>true
theorem xo4 {K:W.Frag}{F G:Hp}{v:V}{d:D}(h:isSc d=true)(r:Rep K F v d):Rep K G v d:=by
 cases r with
 |non=>exact .non
 |bl b=>exact .bl b
 |int i=>exact .int i
 |str x=>exact .str x
 |lst _ _=>cases h
 |tup _ _=>cases h
 |exc _ _=>cases h
 |ptr _=>cases h
 |obj _ _ _ _ _=>cases h
end
section
section
variable {X:Cx}{a b c e:Expr}{ma mb mz:ME}{la lb:ML}{pos:Pos}
noncomputable def flV:D->Option V
 | .non=>some .non| .bl b=>some (.bl b)| .int i=>some (.int i)| .str x=>some (.str x)
 |_=>none
noncomputable def flVs:List D->Option (List V)
 |[]=>some []
 |d::r=>match flV d with |some v=>(match flVs r with |some vs=>some (v::vs)|none=>none)|none=>none
theorem zi8 {K:W.Frag}{F:Hp}{v u:V}{d:D}(r:Rep K F v d)(h:flV d=some u):v=u/\zz8 u=true:=by
 cases r <;> cases h <;> exact⟨rfl,rfl⟩
theorem B6 {K:W.Frag}{F:Hp}:∀{vs us:List V}{ds:List D},Reps K F vs ds->flVs ds=some us->vs=us/\us.all zz8=true
 |_,_,_,.nil,h=>by cases h;exact⟨rfl,rfl⟩
 |_,_,_,.cons (d:=d) (ds:=ds) r t,h=>by
  unfold flVs at h
  cases h1:flV d with
  |none=>rw[h1]at h;cases h
  |some u=>
   cases h2:flVs ds with
   |none=>rw[h1,h2]at h;cases h
   |some us=>
    rw[h1,h2]at h;cases h
    obtain⟨G,z⟩:=zi8 r h1
    obtain⟨j,i⟩:=B6 t h2
    subst G j
    exact⟨rfl,by rw[all_cons,z,i];rfl⟩
noncomputable def inDs (neg:Bool)(d:D)(ds:List D):Option D:=match flV d,flVs ds with
 |some v,some vs=>some (.bl (if neg then !inV v vs else inV v vs))
 |_,_=>none
noncomputable def inD (neg:Bool):D->D->Option D
 |d,.lst ds=>inDs neg d ds
 |d,.tup ds=>inDs neg d ds
 |_,_=>none
theorem zo4 {i:Bool}{d w:D}{ds:List D}(h:inDs i d ds=some w):∃ v vs,flV d=some v/\flVs ds=some vs/\w= .bl (if i then !inV v vs else inV v vs):=by
 unfold inDs at h
 split at h
 .rename_i v vs h1 h2;cases h;exact⟨v,vs,h1,h2,rfl⟩
 .cases h
theorem zx1 {K:W.Frag}{i:Bool}:OpD K (rIn K i) (inD i):=by
 intro F H x y d e w Q s R r2 h q
 cases r2 with
 |lst j z=>
  obtain⟨v,vs,h1,h2,rfl⟩:=zo4 (show inDs i d _=some w from h)
  obtain⟨O,N⟩:=zi8 R h1
  obtain⟨I,G⟩:=B6 z h2
  subst O I
  exact⟨_,_,rfl,.inl (s.seq j),N,G,q _ F H (.refl s) (.bl _)⟩
 |tup j z=>
  obtain⟨v,vs,h1,h2,rfl⟩:=zo4 (show inDs i d _=some w from h)
  obtain⟨O,N⟩:=zi8 R h1
  obtain⟨I,G⟩:=B6 z h2
  subst O I
  exact⟨_,_,rfl,.inr (s.seqT j),N,G,q _ F H (.refl s) (.bl _)⟩
 |_=>cases d <;> cases h
noncomputable def isND (neg:Bool):D->D->Option D
 | .non,.non=>some (.bl (!neg))
 |_,.non=>some (.bl neg)
 |_,_=>none
theorem Q5 {K:W.Frag}:OpD K (fun x y H Q=>y= .non/\Q (.bl (decide (x= .non))) H) (isND false):=by
 intro F H x y d e w Q s i r2 h q
 cases r2 with
 |non=>cases i <;> cases h <;> exact⟨rfl,q _ F H (.refl s) (.bl _)⟩
 |_=>cases d <;> cases h
noncomputable def M9:D->D->Option D
 | .str x,.str y=>if x.length+y.length<=sizeLine then some (.str (x++y))else none
 |_,_=>none
theorem yh3 {K:W.Frag}:OpD K (fun x y H Q=>∃ i j,x= .str i/\y= .str j/\i.length+j.length<=sizeLine/\Q (.str (i++j)) H) M9:=by
 intro F H x y d e w Q s G r2 h q
 cases d with
 |str x=>
  cases e with
  |str y=>
   have h:(if x.length+y.length<=sizeLine then some (D.str (x++y))else none)=some w:=h
   by_cases z:x.length+y.length<=sizeLine
   .rw[if_pos z]at h;cases h;exact⟨x,y,G.s',r2.s',z,q _ F H (.refl s) (.str _)⟩
   .rw[if_neg z]at h;cases h
  |_=>cases h
 |_=>cases h
theorem zv5 (ha:PD X a ma)(i:PD X b mb):PD X (.BinOp a .Add b pos) (m2 M9 ma mb):=zz2 za2 yh3 ha i
noncomputable def minI:List Int->Int
 |[]=>0
 |a::r=>r.foldl (fun x y=>if y<x then y else x) a
theorem zi7:∀(r:List Int)(a:Int),(r.foldl (fun x y=>if y<x then y else x) a∈a::r)/\∀ y∈a::r,r.foldl (fun x y=>if y<x then y else x) a<=y
 |[],a=>⟨by simp,fun y i=>by simp at i;subst i;exact Int.le_refl _⟩
 |b::r,a=>by
  obtain⟨h1,h2⟩:=zi7 r (if b<a then b else a)
  rw[foldl_cons]
  refine⟨?_,fun y i=>?_⟩
  .rcases List.mem_cons.mp h1 with h|h
   .rw[h];split <;> simp
   .exact mem_cons_of_mem _ (mem_cons_of_mem _ h)
  .have h0:=h2 _ mem_cons_self
   rcases List.mem_cons.mp i with h|h
   .subst h;refine Int.le_trans h0 ?_;split <;> omega
   .rcases List.mem_cons.mp h with h|h
    .subst h;refine Int.le_trans h0 ?_;split <;> omega
    .exact h2 y (mem_cons_of_mem _ h)
theorem yg5 {ns:List Int}(h:ns≠[]):minI ns∈ns:=by
 cases ns with
 |nil=>exact absurd rfl h
 |cons a r=>exact(zi7 r a).1
theorem xu8 {ns:List Int}{y:Int}(h:y∈ns):minI ns<=y:=by
 cases ns with
 |nil=>cases h
 |cons a r=>exact(zi7 r a).2 y h
theorem P5:∀{ns:List Int}{its:List Value},Vals (ns.map V.int) its->∃ xs:List (Int×Tok),its.toArray=intItems xs.toArray/\xs.map (·.1)=ns
 |[],_,.nil=>⟨[],by unfold intItems;simp,rfl⟩
 |n::ns,_,.cons r t=>by
  obtain⟨k,rfl⟩:=r
  obtain⟨xs,h1,h2⟩:=P5 t
  refine⟨(n,k)::xs,?_,by rw[map_cons,h2]⟩
  have:=congrArg Array.toList h1
  unfold intItems at this ⊢
  simp at this ⊢
  exact this
theorem zp0 (xs:List (Int×Tok)){i:Nat}(h:i<xs.length):numAt xs.toArray i=(xs[i]).1:=by
 unfold numAt
 simp[h]
def xe6 (K:W.Frag):List V->Hp->VK->Prop:=fun vs H Q=>∃ p ns,vs=[.ref p]/\SqL K H p (ns.map V.int)/\ns≠[]/\Q (.int (minI ns)) H
theorem yo5 (hc:X.calm=true):CallR X (.builtin "min") (xe6 X.K):=by
 intro pins s σ H xs us Q I r h
 obtain⟨p,ns,rfl,Z,N,q⟩:=h
 obtain⟨u,rfl,rx⟩:=K5 r
 cases rx
 obtain⟨its,Y,pl,hz⟩:=I.list Z
 obtain⟨z,h1,h2⟩:=P5 Y
 have hp:=pl.isList
 rw[h1]at hp
 have O:0<z.length:=by
  cases z with
  |nil=>simp at h2;exact absurd h2.symm (by simpa using N)
  |cons _ _=>simp
 refine min_intList (I.ok.hd hc) hp (by simpa using O) fun v h' tk e k=>?_
 obtain⟨U,R⟩:=argBest_lt (numAt z.toArray) (z.toArray.size-1)
 rw[size_toArray]at U R e
 generalize hi:argBest (fun i j=>decide (numAt z.toArray i<numAt z.toArray j)) (z.length-1)=i at U R e
 have G:i<z.length:=by omega
 have hv:v=Value.int (z[i]).1 (z[i]).2:=by
  unfold intItems at e
  simp[G]at e
  exact e.symm
 have hm:(z[i]).1=minI ns:=by
  have m1:(z[i]).1∈ns:=by rw[<-h2];exact mem_map_of_mem (getElem_mem G)
  refine Int.le_antisymm ?_ (xu8 m1)
  have m2:=yg5 N
  rw[<-h2]at m2
  obtain⟨t,ht,e2⟩:=List.mem_map.mp m2
  obtain⟨j,hj,e3⟩:=getElem_of_mem ht
  have:=R j (by omega)
  rw[zp0 z hj,zp0 z G,e3,e2,h2]at this
  exact this
 subst hv
 exact⟨.int (minI ns),H,I.kept k,⟨_,by rw[hm]⟩,q⟩
noncomputable def zt4:List D->Option (List Int)
 |[]=>some []
 | .int i::r=>match zt4 r with |some ns=>some (i::ns)|none=>none
 |_=>none
theorem zx6 {K:W.Frag}{F:Hp}:∀{vs:List V}{ds:List D}{ns:List Int},Reps K F vs ds->zt4 ds=some ns->vs=ns.map V.int
 |_,_,_,.nil,h=>by cases h;rfl
 |_,_,_,.cons (d:=d) (ds:=ds) r t,h=>by
  cases r with
  |int i=>
   unfold zt4 at h
   cases h1:zt4 ds with
   |none=>simp only[h1]at h;cases h
   |some ns=>simp only[h1]at h;cases h;rw[zx6 t h1];rfl
  |_=>cases h
theorem zo3:∀ ns:List Int,zt4 (ns.map D.int)=some ns
 |[]=>rfl
 |n::ns=>by show (match zt4 (ns.map D.int)with |some ns=>some (n::ns)|none=>none)=_;rw[zo3 ns]
@[irreducible] noncomputable def zu7 (m:ML):ME:=fun ρ=>match m ρ with |some ds=>(match zt4 ds with |some (n::ns)=>some (.int (minI (n::ns)))|_=>none)|none=>none
theorem xw6 {p:Pos}{m:ML}(R:X.calm=true)(N:Gl X "min")(hm:X.mg "min"=none)(ha:PB X e m)(hs:starEach (e::[]) X.env=(false,eval e X.env)::starEach [] X.env:=by rfl)(O:starEach [e] X.env=(false,eval e X.env)::starEach [] X.env:=by rfl)(j:(backTo pos (starEach [] X.env)).any (·.1)=false:=by rfl):PD X (.Call (.Name "min" p) [e] [] pos) (zu7 m):=
 (e7 (yo5 R) N hm PyProof.Rows.boot_min (j9 ha pa_nil hs) (by decide) (by decide) O j).imp fun σ H Q i=>by
  obtain⟨F0,H0,F,ρ,g,G,e,q⟩:=i
  unfold zu7 at e
  cases h1:m ρ with
  |none=>rw[h1]at e;cases e
  |some ds=>
   rw[h1]at e
   cases h2:zt4 ds with
   |none=>simp only[h2]at e;cases e
   |some ns=>
    cases ns with
    |nil=>simp only[h2]at e;cases e
    |cons n ns=>
     simp only[h2]at e;cases e
     refine⟨F0,H0,F,ρ,ds,G,h1,fun p xs F1 H1 z s1 I=>⟨p,n::ns,rfl,?_,by simp,q _ F1 H1 z (.int _)⟩⟩
     rw[<-zx6 I h2];exact s1
noncomputable def xp8:List (Str×Str)->List DictEntry->Prop
 |[],[]=>True
 | (k,v)::r,e::es=>(∃ t,e.key= .str k t)/\(∃ t,e.val= .str v t)/\xp8 r es
 |_,_=>False
structure KTab (w:World)(K:W.Frag)(a:Addr)(tab:List (Str×Str)):Prop where
 ns:(a==sysModules)=false
 nd:(tab.map (·.1)).Nodup
 obj:∃ es ep,K.lookup a=some ⟨.type "dict",none,.dict es ep,#[]⟩/\xp8 tab es.toList/\∀ e∈es.toList,∀ k t,e.key= .str k t->e.hash=hashStr w k
end
end
section
section
variable {prog:Program}{w:World}{A:Around}{E:Value->Shared->Prop}{s:Shared}
structure ApT (z TO i1 i2 l:Addr):Prop where
 lz:l≠z
 lTO:l≠TO
 l1:l≠i1
 l2:l≠i2
end
end
section
section
variable {prog:Program}{w:World}{A:Around}{E:Value->Shared->Prop}{s:Shared}
end
section
variable {X:Cx}
end
end
section
section
variable {X:Cx}{a b c e:Expr}{ma mb:ME}{la lb:ML}{pos:Pos}
@[irreducible] noncomputable def yh8 (x:ME)(i:Nat):MS:=fun ρ=>match x ρ,ρ[i]? with |some d,some (some (.own ds))=>some (.rp d ds)|_,_=>none
theorem yj9 {i:Nat}{x:Str}{G tp:Pos}{I:Nat}(he:PD X e ma)(Z:PE X (.Name x G) (tVar i))(hs:starEach (e::[.Name x G]) X.env=(false,eval e X.env)::starEach [.Name x G] X.env:=by rfl)(R:starEach [.Name x G] X.env=(false,eval (.Name x G) X.env)::starEach [] X.env:=by rfl):
  PSd X (.Return (some (.Tuple [e,.Name x G] I tp)) pos) (yh8 ma i):=(Y9 (yv7 (j9 he (j9 Z pa_nil R) hs))).imp fun D σ H N=>by
 obtain⟨F0,H0,F,ρ,o,U,e,ok⟩:=N
 unfold yh8 at e
 split at e
 .rename_i d ds h1 h2
  cases e
  refine⟨F0,H0,F,ρ,d,U,h1,fun v F1 H1 I Y=>?_⟩
  have j:=U.go I
  obtain⟨p,xs,e1,e2,e3,e4,e5⟩:=j.own i ds h2
  refine⟨_,e1,⟨by show 2<=sizeLine;rw[sizeLine_eq];decide,fun t ht=>?_⟩⟩
  have O:t≠p:=fun z=>by rw[z,e3]at ht;cases ht
  exact ok t v p xs F1 _ (j.ext.trans (Ext.own I.fh ht)) (j.ext.hh.free ht) e5 O (I.fh.free ht) e2 w4 (by rw[w5 (Ne.symm O)];exact e3) Y e4
 .cases e
end
section
variable {K:W.Frag}{F0 H0 F H H':Hp}{σ:St}{ρ:Ro}
theorem Rl.away (r:Rl K F0 H0 F H σ ρ){p:Addr}(keep:∀ b o,H b=some o->b≠p->H' b=some o)(I:F p=none)(N:H0 p=none)(i:∀(j:Nat) ds,ρ[j]? =some (some (.own ds))->σ[j]? ≠some (some (.ref p)))(G:∀(j:Nat) q ds,ρ[j]? =some (some (.ob q ds))->q≠p):Rl K F0 H0 F H' σ ρ where
 ext:=⟨r.ext.ff,fun b o e=>keep b o (r.ext.hh b o e) (fun z=>by rw[z,N]at e;cases e),fun b o e=>keep b o (r.ext.fh b o e) (fun z=>by rw[z,I]at e;cases e),r.ext.new,r.ext.nf⟩
 len:=r.len
 sh:=r.sh
 own:=fun j ds h=>by
  obtain⟨q,xs,a,b,c,d,z⟩:=r.own j ds h
  exact⟨q,xs,a,b,keep _ _ c (fun w=>i j ds h (by rw[a,w])),d,z⟩
 inj:=r.inj
 ob:=fun j q ds h=>by
  obtain⟨a,b,c,xs,d,z⟩:=r.ob j q ds h
  exact⟨a,b,c,xs,keep _ _ d (G j q ds h),z⟩
 obn:=r.obn
 ob1:=r.ob1
theorem Rl.dropped (r:Rl K F0 H0 F H σ ρ)(i:Nat)(v:V):Rl K F0 H0 F H (σ.set i (some v)) (ρ.set i none):=by
 have back:∀(j:Nat) x,(ρ.set i none)[j]? =some (some x)->i≠j/\ρ[j]? =some (some x):=fun j x e=>by
  by_cases N:i=j
  .subst N
   rcases Nat.lt_or_ge i ρ.length with z|z
   .rw[getElem?_set_self z]at e;cases e
   .rw[getElem?_eq_none (by simpa using z)]at e;cases e
  .rw[getElem?_set_ne N]at e;exact⟨N,e⟩
 refine⟨r.ext,by simp[r.len],fun j d e=>?_,fun j ds e=>?_,fun j k p ds es I e1 e2 e3 O=>?_,fun j p ds e=>?_,fun j k p ds es e1 e2 e3=>?_,fun j k p q ds es e1 e2=>r.ob1 j k p q ds es (back j _ e1).2 (back k _ e2).2⟩
 .obtain⟨n,e⟩:=back j _ e
  rw[getElem?_set_ne n];exact r.sh j d e
 .obtain⟨n,e⟩:=back j _ e
  rw[getElem?_set_ne n];exact r.own j ds e
 .obtain⟨n1,e1⟩:=back j _ e1
  obtain⟨G,e2⟩:=back k _ e2
  rw[getElem?_set_ne n1]at e3
  rw[getElem?_set_ne G]at O
  exact r.inj j k p ds es I e1 e2 e3 O
 .obtain⟨n,e⟩:=back j _ e
  rw[getElem?_set_ne n];exact r.ob j p ds e
 .obtain⟨n1,e1⟩:=back j _ e1
  obtain⟨G,e2⟩:=back k _ e2
  rw[getElem?_set_ne G]at e3
  exact r.obn j k p ds es e1 e2 e3
end
@[irreducible] noncomputable def zp4 (i:Nat)(f:MF)(m:ML)(c:MB)(mx:MS)(y:D):MS:=fun ρ=>match m ρ with
 |some ds=>(match f ds with
  |some (.pr d es)=>(match c (ρ.set i (some (.sh (.tup [d,.lst es]))))with
   |some true=>(match mx (ρ.set i (some (.sh (.tup [d,.lst es]))))with |some (.rt g)=>some (.rt g)|_=>none)
   |some false=>if es.length<sizeLine/\i<ρ.length then some (.nx (ρ.set i none))else none
   |none=>none)
  |_=>none)
 |none=>none
section
variable {X:Cx}{a b c e3:Expr}{ma mb:ME}{la lb:ML}{pos:Pos}{E:XK}{es:List Expr}{mf:MF}{m:ML}{rb:List Stmt}{mx:MS}{cc:MB}{y:D}
theorem za0 {i n:Nat}{x:Str}{G I:Expr}{py apos cpos p1 p2 p3:Pos}(hN:X.N.Nodup)(hi:X.N[i]? =some x)(hx:Loc X.env.scope x)
  (h:∀ t,PA X es t->PE X G (zr4 (spR X.K n mf) [] E t)) (hl:es.length=n) (ha:PAs X es m) (hm:∀ ρ ds,m ρ=some ds->ds.length=es.length)
  (hc:PC' X c cc) (hr:PSsd X rb mx)
  (hE:∀ t,PA X [e3] t->PE X (.Call (.Attribute I "append" apos) [e3] [] cpos) (tBM X.K "list" zk6 (tOp (rIxT X.K) (tVar i) (tC (.int 1))) t)) (hA:PAs X [e3] (z5 (mc y) anil))
  (hs:swapsWith G (some (.Name x py)) p1.line X.env=pure false:=by rfl) (hf:X.fn x=true\/X.env.scope.names.lookup x=some .local:=by first|exact .inl rfl|exact .inr rfl|assumption)
  (af:swapsWith (.Call (.Attribute I "append" apos) [e3] [] cpos) none p3.line X.env=pure false:=by rfl):
  PSsd X [.Assign [.Name x py] G p1,.If c rb [] p2,.Expr (.Call (.Attribute I "append" apos) [e3] [] cpos) p3] (zp4 i mf m cc mx y):=
 (W6 (zy5 hN hi hx (h _ ha) hs hf) (W6 (zj0 hc hr pss_nil) (E7 (N9 (hE _ hA) af)))).imp fun Dn σ H a6=>by
  obtain⟨F0,H0,F,ρ,o,Y,e,ok⟩:=a6
  unfold zp4 at e
  cases h1:m ρ with
  |none=>simp only[h1]at e;cases e
  |some ds=>
   simp only[h1]at e
   cases h2:mf ds with
   |none=>simp only[h2]at e;cases e
   |some r=>
    cases r with
    |sh d=>simp only[h2]at e;cases e
    |fr d=>simp only[h2]at e;cases e
    |pr d gs=>
     simp only[h2]at e
     refine⟨F0,H0,F,ρ,ds,Y,h1,fun vs F1 H1 R r1=>?_⟩
     show spR X.K n mf (vs++[]) H1 _ E
     rw[append_nil]
     refine⟨by rw[r1.length,hm ρ ds h1,hl],F1,ds,_,R.fh,r1,h2,fun t v p xs F2 H2 x2 ht hp a9 ag Z ab ac rv rs=>?_⟩
     have ad:=(Y.go R).go x2
     have O:upd F2 p (.lst xs) t=none:=by rw[w5 a9];exact ag
     have s2:Same F2 (upd F2 p (.lst xs)):=(Same.refl F2).put Z
     have s3:Same (upd F2 p (.lst xs)) (upd (upd F2 p (.lst xs)) t (.tup [v,.ref p])):=(Same.refl _).put O
     have xx:Ext F1 H1 (upd (upd F2 p (.lst xs)) t (.tup [v,.ref p])) H2:=(x2.freeze Z hp ac).freeze O ht ab
     have rep:Rep X.K (upd (upd F2 p (.lst xs)) t (.tup [v,.ref p])) (.ref t) (.tup [d,.lst gs]):=
      .tup (SqT.of w4) (.cons (rv.mono (s2.trans s3)) (.cons (.lst (SqL.of (by rw[w5 (Ne.symm a9)];exact w4)) (rs.mono (s2.trans s3))) .nil))
     have U:=((Y.go R).go xx).set (i:=i) rep
     show tSeq _ _ _ (σ.set i (some (.ref t))) H2
     cases h3:cc (ρ.set i (some (.sh (.tup [d,.lst gs]))))with
     |none=>simp only[h3]at e;cases e
     |some k=>
      simp only[h3]at e
      refine⟨F0,H0,_,_,k,U,h3,fun F3 H3 x3=>?_⟩
      cases k with
      |true=>
       refine iteT ?_
       cases h4:mx (ρ.set i (some (.sh (.tup [d,.lst gs]))))with
       |none=>simp only[h4]at e;cases e
       |some w=>
        cases w with
        |rt g=>
         simp only[h4]at e
         cases e
         exact⟨F0,H0,F3,_,_,U.go x3,h4,ok⟩
        |nx _=>simp only[h4]at e;cases e
        |bk _=>simp only[h4]at e;cases e
        |ct _=>simp only[h4]at e;cases e
        |rf _=>simp only[h4]at e;cases e
        |rp _ _=>simp only[h4]at e;cases e
        |rg _ _ _=>simp only[h4]at e;cases e
        |rgf _ _ _=>simp only[h4]at e;cases e
      |false=>
       refine iteF ?_
       have e:(if gs.length<sizeLine/\i<ρ.length then some (Out.nx (ρ.set i none))else none)=some o:=e
       split at e
       .rename_i hz
        cases e
        have ae:H3 t=some (.tup [v,.ref p]):=x3.hh _ _ ab
        have a7:H3 p=some (.lst xs):=x3.hh _ _ ac
        have aa:(σ.set i (some (V.ref t)))[i]? =some (some (.ref t)):=getElem?_set_self (by rw[Y.len];exact hz.2)
        refine⟨_,aa,t,[v,.ref p],1,.ref p,rfl,rfl,SqT.of ae,rfl,.inl ⟨rfl,xs,SqL.of a7⟩,F0,H0,F3,_,[y],U.go x3,(by unfold z5 anil mc;rfl),fun vs F4 H4 x4 r4=>?_⟩
        cases r4 with
        |cons ry rr=>
         cases rr
         refine⟨p,xs,_,rfl,rfl,x4.hh _ _ a7,by rw[rs.length];exact hz.1,?_⟩
         refine ok F2 _ _ ((ad.away (p:=p) (fun b o hb a8=>?_) Z ?_ ?_ ?_).dropped i (.ref t)) (R.ff.trans x2.ff)
         .rw[w5 a8];exact x4.hh _ _ (x3.hh _ _ hb)
         .exact(Y.go R).ext.hh.free hp
         .intro j gs' hj hσ
          obtain⟨q,zs,a1,a2,a3,a4,a5⟩:=(Y.go R).own j gs' hj
          rw[hσ]at a1;cases a1
          rw[hp]at a3;cases a3
         .intro j q gs' hj z
          obtain⟨_,_,_,ys,a3,_⟩:=(Y.go R).ob j q gs' hj
          rw[z,hp]at a3;cases a3
       .cases e
end
end
section
noncomputable abbrev MEm:=Ro->Option (D×Ro)
noncomputable abbrev MLm:=Ro->Option (List D×Ro)
def TDm (K:W.Frag)(m:MEm):TE:=fun σ H Q=>∃ F0 H0 F ρ d ρ',Rl K F0 H0 F H σ ρ/\m ρ=some (d,ρ')/\∀ v F' H',Rl K F0 H0 F' H' σ ρ'->Same F F'->Rep K F' v d->Q v H'
def TAm (K:W.Frag)(m:MLm):TA:=fun σ H Q=>∃ F0 H0 F ρ ds ρ',Rl K F0 H0 F H σ ρ/\m ρ=some (ds,ρ')/\∀ vs F' H',Rl K F0 H0 F' H' σ ρ'->Same F F'->Reps K F' vs ds->Q vs H'
def PDm (X:Cx)(e:Expr)(m:MEm):Prop:=PE X e (TDm X.K m)
def PAm (X:Cx)(es:List Expr)(m:MLm):Prop:=PA X es (TAm X.K m)
section
variable {X:Cx}{a b c e:Expr}{ma mb:ME}{na nb:MEm}{pos:Pos}{es:List Expr}
@[irreducible] noncomputable def mpu (m:ME):MEm:=fun ρ=>match m ρ with |some d=>some (d,ρ)|none=>none
@[irreducible] noncomputable def apu (m:ML):MLm:=fun ρ=>match m ρ with |some d=>some (d,ρ)|none=>none
theorem k8 (h:PD X e ma):PDm X e (mpu ma):=h.imp fun σ H Q i=>by
 obtain⟨F0,H0,F,ρ,d,ρ',j,e,q⟩:=i
 unfold mpu at e
 split at e
 .rename_i d' hm;cases e;exact⟨F0,H0,F,ρ,d,j,hm,fun v F' H' x r=>q v F' H' (j.go x) x.ff r⟩
 .cases e
theorem n5 {m:ML}(h:PAs X es m):PAm X es (apu m):=h.imp fun σ H Q i=>by
 obtain⟨F0,H0,F,ρ,d,ρ',j,e,q⟩:=i
 unfold apu at e
 split at e
 .rename_i d' hm;cases e;exact⟨F0,H0,F,ρ,d,j,hm,fun v F' H' x r=>q v F' H' (j.go x) x.ff r⟩
 .cases e
@[irreducible] noncomputable def m2m (f:D->D->Option D)(x y:MEm):MEm:=fun ρ=>match x ρ with
 |some (d,ρ1)=>(match y ρ1 with |some (e,ρ2)=>(match f d e with |some g=>some (g,ρ2)|none=>none)|none=>none)
 |none=>none
theorem yt0 {r:R2}{f:D->D->Option D}(O:OpD X.K r f){σ:St}{H:Hp}{Q:VK}(h:TDm X.K (m2m f na nb) σ H Q):tOp r (TDm X.K na) (TDm X.K nb) σ H Q:=by
 obtain⟨F0,H0,F,ρ,g,ρ',G,e,q⟩:=h
 unfold m2m at e
 split at e
 .rename_i d ρ1 h1
  split at e
  .rename_i d2 ρ2 h2
   split at e
   .rename_i g' h3
    cases e
    refine⟨F0,H0,F,ρ,d,ρ1,G,h1,fun x F1 H1 j s1 N=>⟨F0,H0,F1,ρ1,d2,ρ',j,h2,fun y F2 H2 i s2 r2=>?_⟩⟩
    exact O F2 H2 x y d d2 g Q i.fh (N.mono s2) r2 h3 fun v F' H' z I=>q v F' H' (i.go z) (s1.trans (s2.trans z.ff)) I
   .cases e
  .cases e
 .cases e
theorem zy8 {op:Operator}{r:R2}{f:D->D->Option D}(i:OpR X (binaryOp op) r)(j:OpD X.K r f)(ha:PDm X a na)(z:PDm X b nb):PDm X (.BinOp a op b pos) (m2m f na nb):=(xw1 i ha z).imp fun _ _ _ h=>yt0 j h
theorem xw4 {op:CmpOp}{r:R2}{f:D->D->Option D}(i:OpR X (compareOp op) r)(j:OpD X.K r f)(ha:PDm X a na)(z:PDm X b nb)(hm:behindInMarks op b=false):PDm X (.Compare a [op] [b] pos) (m2m f na nb):=(zj2 i ha z hm).imp fun _ _ _ h=>yt0 j h
noncomputable def ixLD:D->D->Option D
 | .lst ds,.int k=>atI ds k
 |_,_=>none
theorem xv9 {K:W.Frag}:OpD K (rIxL K) ixLD:=by
 intro F H x y d e w Q s z r2 h q
 cases d with
 |lst ds=>
  cases e with
  |int k=>
   obtain⟨a,xs,e1,i,j⟩:=z.l'
   obtain⟨v,I,G⟩:=G6 j (show atI _ k=some w from h)
   exact⟨_,_,k,v,e1,r2.i',s.seq i,I,q v F H (.refl s) G⟩
  |_=>cases h
 |_=>cases h
theorem D0 (ha:PDm X a na)(i:PDm X b nb)(hs:A8 b:=by exact fun _ _=>rfl):PDm X (.Subscript a b pos) (m2m ixLD na nb):=(K7 V1 ha i hs).imp fun σ H Q h=>yt0 xv9 h
@[irreducible] noncomputable def Y1 (x:MEm)(r:MLm):MLm:=fun ρ=>match x ρ with |some (d,ρ1)=>(match r ρ1 with |some (ds,ρ2)=>some (d::ds,ρ2)|none=>none)|none=>none
theorem c9 {m:MLm}(ha:PDm X a na)(N:PAm X es m)(hs:starEach (a::es) X.env=(false,eval a X.env)::starEach es X.env:=by rfl):PAm X (a::es) (Y1 na m):=(j9 ha N hs).imp fun σ H Q i=>by
 obtain⟨F0,H0,F,ρ,g,ρ',G,e,q⟩:=i
 unfold Y1 at e
 split at e
 .rename_i d ρ1 h1
  split at e
  .rename_i ds ρ2 h2
   cases e
   refine⟨F0,H0,F,ρ,d,ρ1,G,h1,fun x F1 H1 z s1 I=>⟨F0,H0,F1,ρ1,ds,ρ',z,h2,fun xs F2 H2 j s2 r2=>?_⟩⟩
   exact q _ F2 H2 j (s1.trans s2) (.cons (I.mono s2) r2)
  .cases e
 .cases e
@[irreducible] noncomputable def zp7 (m:MLm):MEm:=fun ρ=>match m ρ with |some (ds,ρ1)=>if ds.length<=sizeLine then some (.lst ds,ρ1)else none|none=>none
theorem zj3 {m:MLm}(h:PAm X es m):PDm X (.List es pos) (zp7 m):=(yc5 h).imp fun σ H Q j=>by
 obtain⟨F0,H0,F,ρ,g,ρ',G,e,q⟩:=j
 unfold zp7 at e
 split at e
 .rename_i ds ρ1 h1
  split at e
  .rename_i hz
   cases e
   refine⟨F0,H0,F,ρ,ds,ρ',G,h1,fun vs F1 H1 i s1 z=>⟨by rw[z.length];exact hz,fun p hp=>?_⟩⟩
   have x:=Ext.laid (o:=.lst vs) i.fh hp
   exact q _ _ _ (i.go x) (s1.trans x.ff) (.lst (SqL.of w4) (z.mono x.ff))
  .cases e
 .cases e
@[irreducible] noncomputable def K3 (f:List D->Option D)(m:MLm):MEm:=fun ρ=>match m ρ with |some (ds,ρ1)=>(match f ds with |some d=>some (d,ρ1)|none=>none)|none=>none
theorem yo3 {r:List V->Hp->VK->Prop}{f:List D->Option D}{m:MLm}(I:zg2 X.K r f){σ:St}{H:Hp}{Q:VK}(h:TDm X.K (K3 f m) σ H Q):tCB r (TAm X.K m) σ H Q:=by
 obtain⟨F0,H0,F,ρ,g,ρ',z,e,q⟩:=h
 unfold K3 at e
 split at e
 .rename_i ds ρ1 h1
  split at e
  .rename_i d h2
   cases e
   exact⟨F0,H0,F,ρ,ds,ρ',z,h1,fun vs F1 H1 i s1 G=>I F1 H1 vs ds g Q i.fh G h2 fun v F' H' j r2=>q v F' H' (i.go j) (s1.trans j.ff) r2⟩
  .cases e
 .cases e
theorem xw5 {p:Pos}{m:MLm}(j:Gl X "abs")(hm:X.mg "abs"=none)(ha:PAm X [e] m)(z:starEach [e] X.env=(false,eval e X.env)::starEach [] X.env:=by rfl)(i:(backTo pos (starEach [] X.env)).any (·.1)=false:=by rfl):PDm X (.Call (.Name "abs" p) [e] [] pos) (K3 absF m):=
 (e7 zd5 j hm PyProof.Rows.boot_abs ha (by decide) (by decide) z i).imp fun _ _ _ h=>yo3 zn5 h
theorem yi6 {p:Pos}{m:MLm}(z:Gl X "int")(hm:X.mg "int"=none)(ha:PAm X [e] m)(j:bootBuiltins "int"=some (.type "int"))(G:starEach [e] X.env=(false,eval e X.env)::starEach [] X.env:=by rfl)(i:(backTo pos (starEach [] X.env)).any (·.1)=false:=by rfl):PDm X (.Call (.Name "int" p) [e] [] pos) (K3 intF m):=
 (E9 zn8 z hm j ha (by decide) (by decide) G i).imp fun _ _ _ h=>yo3 zn4 h
variable {st:Stmt}
@[irreducible] noncomputable def V3 (i:Nat)(x:MEm):MS:=fun ρ=>match x ρ with |some (d,ρ1)=>some (.nx (ρ1.set i (some (.sh d))))|none=>none
theorem d7 {i:Nat}{x:Str}{pos':Pos}(Y:X.N.Nodup)(hi:X.N[i]? =some x)(O:Loc X.env.scope x)(U:PDm X e na)(hs:swapsWith e (some (.Name x pos')) pos.line X.env=pure false:=by rfl)(R:X.fn x=true\/X.env.scope.names.lookup x=some .local:=by first|exact .inl rfl|exact .inr rfl|assumption):
  PSd X (.Assign [.Name x pos'] e pos) (V3 i na):=(zy5 Y hi O U hs R).imp fun D σ H j=>by
 obtain⟨F0,H0,F,ρ,o,G,e,ok⟩:=j
 unfold V3 at e
 split at e
 .rename_i d ρ1 h1
  cases e
  exact⟨F0,H0,F,ρ,d,ρ1,G,h1,fun v F1 H1 z s1 I=>ok F1 H1 _ (z.set I) s1⟩
 .cases e
@[irreducible] noncomputable def zz3 (i:Nat)(x:MEm):MS:=fun ρ=>match x ρ with
 |some (d,ρ1)=>(match ρ1[i]? with |some (some (.ob p r))=>some (.rg d p r)|_=>none)
 |none=>none
theorem zv1 (i:Nat)(N:PDm X e na):PSd X (.Return (some e) pos) (zz3 i na):=(Y9 N).imp fun D σ H z=>by
 obtain⟨F0,H0,F,ρ,o,G,e,ok⟩:=z
 unfold zz3 at e
 split at e
 .rename_i d ρ1 h1
  split at e
  .rename_i p r h2
   cases e
   refine⟨F0,H0,F,ρ,d,ρ1,G,h1,fun v F1 H1 j s1 I=>?_⟩
   obtain⟨o1,o2,O,xs,o4,o5⟩:=j.ob i p r h2
   exact ok v F1 H1 xs j.ext I o2 o4 o5
  .cases e
 .cases e
@[irreducible] noncomputable def zf7 (i j:Nat):MS:=fun ρ=>match ρ[i]?,ρ[j]? with
 |some (some (.ob p r)),some (some (.own ds))=>some (.rgf ds p r)
 |_,_=>none
theorem yw9 (i j:Nat){x:Str}{pos':Pos}(h:PE X (.Name x pos') (tVar j)):PSd X (.Return (some (.Name x pos')) pos) (zf7 i j):=(Y9 h).imp fun D σ H G=>by
 obtain⟨F0,H0,F,ρ,o,I,e,ok⟩:=G
 unfold zf7 at e
 split at e
 .rename_i p r ds h1 h2
  cases e
  obtain⟨o1,o2,o3,xs,o4,o5⟩:=I.ob i p r h1
  obtain⟨q,ys,O,Z,Y,U,R⟩:=I.own j ds h2
  have N:q≠p:=fun z=>I.obn i j p r ds h1 h2 (by rw[<-z];exact O)
  exact⟨_,O,ok q ys F H xs I.ext R Z N Y U o2 o4 o5⟩
 .cases e
end
noncomputable abbrev MG:=Addr->List D->List D->Option (Rt×List D)
noncomputable def del (H:Hp)(p:Addr):Hp:=fun b=>if b=p then none else H b
theorem zd1 {H:Hp}{p:Addr}:del H p p=none:=by unfold del;rw[if_pos rfl]
theorem R9 {H:Hp}{p b:Addr}(h:b≠p):del H p b=H b:=by unfold del;rw[if_neg h]
noncomputable def okG (K:W.Frag)(F H:Hp)(p:Addr)(Q:VK)(r':List D):Rt->Prop
 | .sh d=>∀ v F' H' xs,Ext F (del H p) F' H'->Rep K F' v d->F' p=none->H' p=some (.lst xs)->Reps K F' xs r'->Q v H'
 | .fr ds=>∀ q ys F' H' xs,Ext F (del H p) F' H'->H q=none->F' q=none->H' q=some (.lst ys)->Reps K F' ys ds->F' p=none->H' p=some (.lst xs)->Reps K F' xs r'->Q (.ref q) H'
 | .pr _ _=>False
def spG (K:W.Frag)(n:Nat)(m:MG):Sp:=fun vs H Q _=>vs.length=n/\∃ p ws F r0 ds r r1 xs,vs= .ref p::ws/\H p=some (.lst xs)/\F p=none/\Same F H/\Reps K F xs r0/\Reps K F ws ds/\m p r0 ds=some (r,r1)/\okG K F H p Q r1 r
noncomputable def W4 (n:Nat)(p:Addr)(r:List D)(ds:List D):Ro:=some (.ob p r)::v7 (n-1) ds
noncomputable def runG (n:Nat)(m:MS):MG:=fun p r ds=>match m (W4 n p r ds)with
 |some (.rg d q r')=>if q=p then some (.sh d,r')else none
 |some (.rgf es q r')=>if q=p then some (.fr es,r')else none
 |_=>none
theorem yw1 {K:W.Frag}{F H:Hp}{N:List Str}{p:Addr}{xs ws:List V}{r ds:List D}(hn:0<N.length)(s:Same F H)(U:F p=none)(R:H p=some (.lst xs))(O:Reps K F xs r)(I:Reps K F ws ds):Rl K F (del H p) F H (start N (.ref p::ws)) (W4 N.length p r ds):=by
 have Y:start N (.ref p::ws)=some (.ref p)::start N.tail ws:=by
  unfold start
  rw[map_cons,cons_append,length_cons,length_tail]
  congr 2
  congr 1
  omega
 have e1:W4 N.length p r ds=some (.ob p r)::v7 N.tail.length ds:=by unfold W4;rw[length_tail]
 have base:=S6 (N:=N.tail) s I
 have only:∀(j:Nat) x,(v7 N.tail.length ds)[j]? =some (some x)->∃ d,x=S.sh d:=fun j x e=>by
  unfold v7 at e
  by_cases hi:j<ds.length
  .rw[getElem?_append_left (by simpa using hi),getElem?_map]at e
   cases q:ds[j]? with
   |none=>rw[q]at e;cases e
   |some d=>rw[q]at e;cases e;exact⟨d,rfl⟩
  .rw[getElem?_append_right (by simpa using hi),getElem?_replicate]at e
   split at e <;> cases e
 rw[Y,e1]
 refine⟨⟨Same.refl F,fun b o e=>?_,s,fun b e n=>absurd e n,fun _ _ _ z=>z⟩,by rw[length_cons,length_cons,base.len],fun i d e=>?_,fun i es e=>?_,fun i j q es G _ e=>?_,fun i q es e=>?_,fun i j q es G e e2=>?_,fun i j q Z es G e e2=>?_⟩
 .by_cases hb:b=p
  .subst hb;rw[zd1]at e;cases e
  .rw[R9 hb]at e;exact e
 .cases i with
  |zero=>cases e
  |succ i=>exact base.sh i d e
 .cases i with
  |zero=>cases e
  |succ i=>obtain⟨d,z⟩:=only i _ e;cases z
 .cases i with
  |zero=>cases e
  |succ i=>obtain⟨d,z⟩:=only i _ e;cases z
 .cases i with
  |zero=>cases e;exact⟨rfl,U,zd1,xs,R,O⟩
  |succ i=>obtain⟨d,z⟩:=only i _ e;cases z
 .cases j with
  |zero=>cases e2
  |succ j=>obtain⟨d,z⟩:=only j _ e2;cases z
 .cases i with
  |zero=>
   cases j with
   |zero=>rfl
   |succ j=>obtain⟨d,z⟩:=only j _ e2;cases z
  |succ i=>obtain⟨d,z⟩:=only i _ e;cases z
theorem Fun.okGl {P:Program}{w:World}{K:W.Frag}{mg:Str->Option Value}{base:Heap}{x qual:Str}{st:Stmt}{f:Addr}{fd:FuncData}{N ps:List Str}{k:Nat}{m:MS}(Fn:Fun K x qual st f fd)(Sc:FnScope N ps (y8 st))(hn:0<N.length)
  (z:∀(cdv:Value)(A:Around)(outer:List Env)(s:Shared)(H:Hp)(E:XK),Room k (A.deeper (envOfC qual (y8 st) s.heap.objs.size f cdv))->PSsd (cxOf CX0 P w K mg base N qual (y8 st) f cdv A outer s H E).nox (p0 st) m):
  FnOk P w K mg base CX0 (k+1) f fd ps (spG K ps.length (runG N.length m)):=by
 refine Fn.ok Sc (fun vs H Q E h=>h.1) fun cdv A outer s H vs Q E hr h=>?_
 obtain⟨hl,p,ws,F,r0,ds,r,Y,xs,rfl,hH,hF,sf,rx,rs,e,ok⟩:=h
 unfold runG at e
 cases h1:m (W4 N.length p r0 ds)with
 |none=>rw[h1]at e;cases e
 |some o=>
  rw[h1]at e
  refine⟨_,z cdv A outer s H E hr,F,del H p,F,W4 N.length p r0 ds,o,yw1 hn sf hF hH rx rs,h1,?_⟩
  cases o with
  |rg d q I=>
   have e:(if q=p then some (Rt.sh d,I)else none)=some (r,Y):=e
   by_cases j:q=p
   .rw[if_pos j]at e
    cases e
    subst j
    exact fun v F' H' i x rv U h1 G=>ok v F' H' i x rv U h1 G
   .rw[if_neg j]at e;cases e
  |rgf es q I=>
   have e:(if q=p then some (Rt.fr es,I)else none)=some (r,Y):=e
   by_cases j:q=p
   .rw[if_pos j]at e
    cases e
    subst j
    exact fun q' ys F' H' i x Z f0 R O rq U h1 G=>ok q' ys F' H' i x (by rw[R9 R]at Z;exact Z) f0 O rq U h1 G
   .rw[if_neg j]at e;cases e
  |nx _=>cases e
  |bk _=>cases e
  |ct _=>cases e
  |rt _=>cases e
  |rf _=>cases e
  |rp _ _=>cases e
end
section
section
variable {K:W.Frag}{F0 H0 F H F' H':Hp}{σ:St}{ρ:Ro}
theorem Ext.lent (a:Ext F0 H0 F H){p:Addr}(G:H0 p=none)(x:Ext F (del H p) F' H'):Ext F0 H0 F' H':=
 ⟨a.ff.trans x.ff,fun b o e=>by
  have i:b≠p:=fun z=>by rw[z,G]at e;cases e
  exact x.hh b o (by rw[R9 i];exact a.hh b o e),x.fh,fun b e n=>by
  by_cases j:F b=none
  .by_cases i:b=p
   .rw[i];exact G
   .have:=x.new b j n
    rw[R9 i]at this
    exact a.hh.free this
  .exact a.new b e j,fun b o u z=>a.nf b o u (x.nf b o u z)⟩
theorem Rl.lent (r:Rl K F0 H0 F H σ ρ){i:Nat}{p:Addr}{xs:List V}{r0 U:List D}(h:ρ[i]? =some (some (.own r0)))(hp:σ[i]? =some (some (.ref p)))(x:Ext F (del H p) F' H')(hF:F' p=none)(hH:H' p=some (.lst xs))(hr:Reps K F' xs U):Rl K F0 H0 F' H' σ (ρ.set i (some (.own U))):=by
 obtain⟨p',a4,a,b,c,d,z⟩:=r.own i r0 h
 rw[hp]at a;cases a
 have hl:i<ρ.length:=(List.getElem?_eq_some_iff.mp h).1
 have I:∀ q,q≠p->F q=none->(∃ o,H q=some o)->F' q=none:=fun q Y f R=>by
  obtain⟨o,Z⟩:=R
  cases w:F' q with
  |none=>rfl
  |some u=>have:=x.new q f (by rw[w];simp);rw[R9 Y,Z]at this;cases this
 have G:∀ q o,q≠p->H q=some o->H' q=some o:=fun q o Y Z=>x.hh q o (by rw[R9 Y];exact Z)
 have back:∀(j:Nat) fs,(ρ.set i (some (S.own U)))[j]? =some (some (.own fs))->(j=i/\fs=U)\/(i≠j/\ρ[j]? =some (some (.own fs))):=fun j fs e=>by
  by_cases O:i=j
  .subst O;rw[getElem?_set_self hl]at e;cases e;exact .inl ⟨rfl,rfl⟩
  .rw[getElem?_set_ne O]at e;exact .inr ⟨O,e⟩
 refine⟨r.ext.lent z x,by simp[r.len],fun j d' q=>?_,fun j fs q=>?_,fun j k q fs fs' a1 e1 e2 e3 e4=>?_,fun j q fs e1=>?_,fun j k q fs fs' e1 e2 e3=>?_,fun j k q q' es a3 e1 e2=>r.ob1 j k q q' es a3 (Y7 e1).2 (Y7 e2).2⟩
 .by_cases O:i=j
  .subst O;rw[getElem?_set_self hl]at q;cases q
  .rw[getElem?_set_ne O]at q
   obtain⟨v,v1,v2⟩:=r.sh j d' q
   exact⟨v,v1,v2.mono x.ff⟩
 .rcases back j fs q with⟨rfl,rfl⟩|⟨n,e⟩
  .exact⟨p,xs,hp,hF,hH,hr,z⟩
  .obtain⟨p2,xs2,a2,b2,c2,d2,z2⟩:=r.own j fs e
   have N:p2≠p:=fun w=>r.inj i j p r0 fs n h e hp (by rw[<-w];exact a2)
   exact⟨p2,xs2,a2,I p2 N b2 ⟨_,c2⟩,G _ _ N c2,d2.mono x.ff,z2⟩
 .have b1:∃ g,ρ[j]? =some (some (.own g)):=by
   rcases back j fs e1 with⟨rfl,_⟩|⟨_,w⟩
   .exact⟨_,h⟩
   .exact⟨_,w⟩
  have b2:∃ g,ρ[k]? =some (some (.own g)):=by
   rcases back k fs' e2 with⟨rfl,_⟩|⟨_,w⟩
   .exact⟨_,h⟩
   .exact⟨_,w⟩
  obtain⟨g1,w1⟩:=b1
  obtain⟨g2,w2⟩:=b2
  exact r.inj j k q g1 g2 a1 w1 w2 e3 e4
 .obtain⟨n,e1⟩:=Y7 e1
  obtain⟨o1,o2,o3,zs,o4,o5⟩:=r.ob j q fs e1
  have N:q≠p:=fun w=>r.obn j i q fs r0 e1 h (by rw[w];exact hp)
  exact⟨o1,I q N o2 ⟨_,o4⟩,o3,zs,G _ _ N o4,o5.mono x.ff⟩
 .obtain⟨n,e5⟩:=Y7 e1
  rcases back k fs' e2 with⟨e6,_⟩|⟨_,w⟩
  .rw[e6]at e3;exact r.obn j i q fs r0 e5 h e3
  .exact r.obn j k q fs fs' e5 w e3
theorem Rl.lentB (r:Rl K F0 H0 F H σ ρ){i:Nat}{p:Addr}{xs:List V}{r0 O:List D}(h:ρ[i]? =some (some (.ob p r0)))(x:Ext F (del H p) F' H')(hF:F' p=none)(hH:H' p=some (.lst xs))(hr:Reps K F' xs O):Rl K F0 H0 F' H' σ (ρ.set i (some (.ob p O))):=by
 obtain⟨a,b,z,a3,c,d⟩:=r.ob i p r0 h
 have hl:i<ρ.length:=(List.getElem?_eq_some_iff.mp h).1
 have N:∀ q,q≠p->F q=none->(∃ o,H q=some o)->F' q=none:=fun q hq f U=>by
  obtain⟨o,ho⟩:=U
  cases w:F' q with
  |none=>rfl
  |some u=>have:=x.new q f (by rw[w];simp);rw[R9 hq,ho]at this;cases this
 have I:∀ q o,q≠p->H q=some o->H' q=some o:=fun q o hq ho=>x.hh q o (by rw[R9 hq];exact ho)
 have back:∀(j:Nat) q fs,(ρ.set i (some (S.ob p O)))[j]? =some (some (.ob q fs))->j=i/\q=p/\fs=O:=fun j q fs e=>by
  by_cases G:i=j
  .subst G;rw[getElem?_set_self hl]at e;cases e;exact⟨rfl,rfl,rfl⟩
  .rw[getElem?_set_ne G]at e;exact absurd (r.ob1 i j p q r0 fs h e) G
 have other:∀(j:Nat) fs,(ρ.set i (some (S.ob p O)))[j]? =some (some (.own fs))->i≠j/\ρ[j]? =some (some (.own fs)):=fun j fs e=>by
  by_cases G:i=j
  .subst G;rw[getElem?_set_self hl]at e;cases e
  .rw[getElem?_set_ne G]at e;exact⟨G,e⟩
 refine⟨r.ext.lent z x,by simp[r.len],fun j d' q=>?_,fun j fs q=>?_,fun j k q fs fs' a1 e1 e2 e3 Y=>r.inj j k q fs fs' a1 (other j fs e1).2 (other k fs' e2).2 e3 Y,fun j q fs e1=>?_,fun j k q fs fs' e1 e2 e3=>?_,fun j k q q' fs fs' e1 e2=>?_⟩
 .by_cases G:i=j
  .subst G;rw[getElem?_set_self hl]at q;cases q
  .rw[getElem?_set_ne G]at q
   obtain⟨v,v1,v2⟩:=r.sh j d' q
   exact⟨v,v1,v2.mono x.ff⟩
 .obtain⟨n,e⟩:=other j fs q
  obtain⟨p2,Z,a2,b2,c2,d2,z2⟩:=r.own j fs e
  have R:p2≠p:=fun w=>r.obn i j p r0 fs h e (by rw[<-w];exact a2)
  exact⟨p2,Z,a2,N p2 R b2 ⟨_,c2⟩,I _ _ R c2,d2.mono x.ff,z2⟩
 .obtain⟨e2,e3,Y⟩:=back j q fs e1
  subst e2 e3 Y
  exact⟨a,hF,z,xs,hH,hr⟩
 .obtain⟨Y,e5,_⟩:=back j q fs e1
  subst Y e5
  exact r.obn j k q r0 fs' h (other k fs' e2).2 e3
 .rw[(back j q fs e1).1,(back k q' fs' e2).1]
end
open Classical in
noncomputable def anyP {α:Type}(f:Addr->Option α):Option α:=if h:∃ x,∀ p,f p=some x then some (Classical.choose h)else none
theorem ym0 {i:Type}{f:Addr->Option i}{x:i}(h:anyP f=some x):∀ p,f p=some x:=by
 unfold anyP at h
 split at h
 .rename_i hx
  cases h
  exact Classical.choose_spec hx
 .cases h
theorem xr8 {i:Type}{f:Addr->Option i}{x:i}(h:∀ p,f p=some x):anyP f=some x:=by
 unfold anyP
 have j:∃ x,∀ p,f p=some x:=⟨x,h⟩
 rw[dif_pos j]
 have:=Classical.choose_spec j 0
 rw[h 0]at this
 exact this.symm
noncomputable def rtD:Rt->Option D
 | .sh d=>some d
 | .fr es=>some (.lst es)
 | .pr _ _=>none
@[irreducible] noncomputable def l0 (f:MG)(i:Nat)(m:MLm):MEm:=fun ρ=>match ρ[i]? with
 |some (some (.own _))=>(match m ρ with
  |some (ds,ρ1)=>(match ρ1[i]? with
   |some (some (.own r0))=>(match anyP (fun p=>f p r0 ds)with
    |some (t,r1)=>(match rtD t with |some d=>some (d,ρ1.set i (some (.own r1)))|none=>none)
    |none=>none)
   |_=>none)
  |none=>none)
 |some (some (.ob _ _))=>(match m ρ with
  |some (ds,ρ1)=>(match ρ1[i]? with
   |some (some (.ob p r0))=>(match f p r0 ds with
    |some (t,r1)=>(match rtD t with |some d=>some (d,ρ1.set i (some (.ob p r1)))|none=>none)
    |none=>none)
   |_=>none)
  |none=>none)
 |_=>none
theorem g5 {m:ML}{n:Nat}(h:∀ ρ ds,m ρ=some ds->ds.length=n)(ρ:Ro)(ds:List D)(ρ':Ro)(e:apu m ρ=some (ds,ρ')):ds.length=n:=by
 unfold apu at e
 split at e
 .rename_i d hm;cases e;exact h ρ _ hm
 .cases e
section
variable {X:Cx}{e:Expr}{pos:Pos}{es:List Expr}{E:XK}{mf:MG}{m:MLm}
theorem n6 {n i:Nat}{x:Str}{px:Pos}(h:∀ t,PA X (.Name x px::es) t->PE X e (zr4 (spG X.K n mf) [] E t))(hl:es.length+1=n)(hv:PE X (.Name x px) (tVar i))(ha:PAm X es m)(hm:∀ ρ ds ρ',m ρ=some (ds,ρ')->ds.length=es.length)
  (hs:starEach (.Name x px::es) X.env=(false,eval (.Name x px) X.env)::starEach es X.env:=by rfl):PDm X e (l0 mf i m):=(h _ (j9 hv ha hs)).imp fun σ H Q a6=>by
 obtain⟨F0,H0,F,ρ,d,ρ',rl,e,q⟩:=a6
 unfold l0 at e
 split at e
 .rename_i r00 h0
  obtain⟨p,xs,R,a2,a3,a4,a5⟩:=rl.own i r00 h0
  split at e
  .rename_i ds ρ1 h1
   split at e
   .rename_i r0 h2
    split at e
    .rename_i t r1 h3
     split at e
     .rename_i d' h4
      cases e
      have h3:=ym0 h3
      refine⟨_,R,F0,H0,F,ρ,ds,ρ1,rl,h1,fun vs F1 H1 j s1 rv=>?_⟩
      obtain⟨p',ys,b1,b2,b3,b4,b5⟩:=j.own i r0 h2
      rw[R]at b1;cases b1
      show spG X.K n mf ((.ref p::vs)++[]) H1 Q E
      rw[append_nil]
      refine⟨by rw[length_cons,rv.length,hm ρ ds ρ1 h1,hl],p,vs,F1,r0,ds,t,r1,ys,rfl,b3,b2,j.fh,b4,rv,h3 p,?_⟩
      cases t with
      |sh g=>
       cases h4
       exact fun v F' H' zs x rg O N I=>q v F' H' (j.lent h2 R x O N I) (s1.trans x.ff) rg
      |fr gs=>
       cases h4
       intro w zs F' H' us x hw fw Y U O N I
       have G:w≠p:=fun z=>by rw[z,b3]at hw;cases hw
       have a7:=j.lent h2 R x O N I
       have fz:Ext F' H' (upd F' w (.lst zs)) H'->True:=fun _=>True.intro
       have Z:Ext F1 (del H1 p) (upd F' w (.lst zs)) H':=x.freeze fw (by rw[R9 G];exact hw) Y
       have s2:Same F' (upd F' w (.lst zs)):=(Same.refl F').put fw
       exact q _ (upd F' w (.lst zs)) H' (j.lent h2 R Z (by rw[w5 (Ne.symm G)];exact O) N (I.mono s2)) (s1.trans Z.ff) (.lst (SqL.of w4) (U.mono s2))
      |pr _ _=>cases h4
     .cases e
    .cases e
   .cases e
  .cases e
 .rename_i p00 r00 h0
  obtain⟨R,a2,a5,xs,a3,a4⟩:=rl.ob i p00 r00 h0
  split at e
  .rename_i ds ρ1 h1
   split at e
   .rename_i p r0 h2
    split at e
    .rename_i t r1 h3
     split at e
     .rename_i d' h4
      cases e
      refine⟨_,R,F0,H0,F,ρ,ds,ρ1,rl,h1,fun vs F1 H1 j s1 rv=>?_⟩
      obtain⟨b1,b2,b5,ys,b3,b4⟩:=j.ob i p r0 h2
      rw[R]at b1;cases b1
      show spG X.K n mf ((.ref p00::vs)++[]) H1 Q E
      rw[append_nil]
      refine⟨by rw[length_cons,rv.length,hm ρ ds ρ1 h1,hl],p00,vs,F1,r0,ds,t,r1,ys,rfl,b3,b2,j.fh,b4,rv,h3,?_⟩
      cases t with
      |sh g=>
       cases h4
       exact fun v F' H' zs x rg O N I=>q v F' H' (j.lentB h2 x O N I) (s1.trans x.ff) rg
      |fr gs=>
       cases h4
       intro w zs F' H' us x hw fw Y U O N I
       have G:w≠p00:=fun z=>by rw[z,b3]at hw;cases hw
       have Z:Ext F1 (del H1 p00) (upd F' w (.lst zs)) H':=x.freeze fw (by rw[R9 G];exact hw) Y
       have s2:Same F' (upd F' w (.lst zs)):=(Same.refl F').put fw
       exact q _ (upd F' w (.lst zs)) H' (j.lentB h2 Z (by rw[w5 (Ne.symm G)];exact O) N (I.mono s2)) (s1.trans Z.ff) (.lst (SqL.of w4) (U.mono s2))
      |pr _ _=>cases h4
     .cases e
    .cases e
   .cases e
  .cases e
 .cases e
end
end
section
section
variable {X:Cx}{a b c e:Expr}{ma mb:ME}{pos:Pos}
noncomputable def ixAD:D->D->Option D
 | .lst ds,.int k=>atI ds k
 | .tup ds,.int k=>atI ds k
 |_,_=>none
theorem xu0 {K:W.Frag}:OpD K (fun x y H Q=>rIxL K x y H Q\/rIxT K x y H Q) ixAD:=by
 intro F H x y d e w Q s I r2 h q
 cases d with
 |lst ds=>
  cases e with
  |int k=>
   obtain⟨a,xs,e1,i,j⟩:=I.l'
   obtain⟨v,G,z⟩:=G6 j (show atI _ k=some w from h)
   exact .inl ⟨_,_,k,v,e1,r2.i',s.seq i,G,q v F H (.refl s) z⟩
  |_=>cases h
 |tup ds=>
  cases e with
  |int k=>
   obtain⟨a,xs,e1,i,j⟩:=I.t'
   obtain⟨v,G,z⟩:=G6 j (show atI _ k=some w from h)
   exact .inr ⟨_,_,k,v,e1,r2.i',s.seqT i,G,q v F H (.refl s) z⟩
  |_=>cases h
 |_=>cases h
theorem zf2 (ha:PD X a ma)(i:PD X b mb)(hs:A8 b:=by exact fun _ _=>rfl):PD X (.Subscript a b pos) (m2 ixAD ma mb):=(K7 (IxR.or V1 yb4) ha i hs).imp fun σ H Q h=>op_d xu0 h
end
end
section
def LtAt (A:Around)(s:Shared)(v u:Value)(k:Bool):Prop:=∀(prog:Program)(w:World)(E:Value->Shared->Prop)(Q:Value->Shared->Prop),Q (.bool k) s->wpAny (model prog w) A (richCompare .Lt v u) Q E s
noncomputable def yy3 (A:Around)(s:Shared):List Value->List Value->Bool->Prop
 |[],[],k=>k=false
 |[],_::_,k=>k=true
 |_::_,[],k=>k=false
 |y::ys,x::xs,k=>∃ e,SeqAt.EqAt A s y x e/\((e=true/\yy3 A s ys xs k)\/(e=false/\LtAt A s y x k))
section
open PySem.SeqAt
open PySem.AutoSeq1 (wpAny_loadPart')
open PySem.MeetsSeq PySem.MeetsSeq2 PySem.MeetsSeq3
set_option maxHeartbeats 4000000 in
theorem xp5 (l b:Addr)(j i:Array Value)(n n2:Nat)(dd a1:Option Addr)(sl U:Array (Option Value))(k:Bool):
  Meets (Builtin.«tuple.__lt__» ⟨[.ref l,.ref b],[]⟩)
   (fun A R s=>s.heap.get? l=some { cls:=.type "tuple",dict:=dd,data:=.seq j n,slots:=sl }/\s.heap.get? b=some { cls:=.type "tuple",dict:=a1,data:=.seq i n2,slots:=U }/\
    yy3 A.in1 s j.toList i.toList k/\R (.ok (.ret (.bool k))) s):=
 .of_wp fun prog w A R s h=>by
  obtain⟨hp,g,d,tk,os⟩:=s;obtain⟨hl,hb,hx,h⟩:=h
  have f2:=AutoSeq1.sub_tuple_tuple
  wp_walk using wpAny_loadPart' hl,wpAny_loadPart' hb,wpAny_forIn_list _ (fun rest b s'=>b.1=none/\s'=⟨hp,g,d,tk,os⟩/\∃(vs ws:List Value),rest=vs.zip ws/\
   vs.length+i.size=ws.length+j.size/\yy3 A.in1 ⟨hp,g,d,tk,os⟩ vs ws k) _
  case turn=>
   rintro⟨y,x⟩ rest b s' ⟨O,rfl,vs,ws,I,z,G⟩
   cases vs with
   |nil=>rw[zip_nil_left]at I;cases I
   |cons a vs=>
    cases ws with
    |nil=>rw[zip_nil_right]at I;cases I
    |cons c ws=>
     rw[zip_cons_cons]at I
     injection I with Y N
     injection Y with hy Z
     subst hy Z
     simp only[length_cons]at z
     obtain⟨e,he,G⟩:=G
     refine wpAny_bind (he prog w _ _ ?_)
     rcases G with⟨rfl,G⟩|⟨rfl,G⟩
     .wp_walk
      exact⟨rfl,rfl,vs,ws,N,by omega,G⟩
     .have hri:=G prog w
      wp_walk using hri
      exact⟨_,rfl,by simpa using h⟩
  case fin=>
   rintro⟨b1,b2⟩ s' ⟨O,rfl,vs,ws,I,z,G⟩
   simp only at O
   subst O
   have hv:k=decide (j.size<i.size):=by
    cases vs with
    |nil=>
     cases ws with
     |nil=>
      simp only[length_nil]at z
      rw[show k=false from G]
      exact(decide_eq_false (by omega)).symm
     |cons c ws=>
      simp only[length_nil,length_cons]at z
      rw[show k=true from G]
      exact(decide_eq_true (by omega)).symm
    |cons a vs=>
     cases ws with
     |nil=>
      simp only[length_nil,length_cons]at z
      rw[show k=false from G]
      exact(decide_eq_false (by omega)).symm
     |cons c ws=>
      rw[zip_cons_cons]at I
      cases I
   rw[hv]at h
   wp_walk
   exact⟨_,rfl,by simpa[Builtin.Tuple.tupleCompareSizes]using h⟩
  case h=>
   exact⟨rfl,rfl,j.toList,i.toList,rfl,by simp;omega,hx⟩
set_option maxHeartbeats 4000000 in
theorem zi4 (l b:Addr)(G j:Array Value)(n n2:Nat)(dd a1:Option Addr)(sl Z:Array (Option Value))(r:Bool)(k:Nat):
  ∀ i:Nat,G.size-i=k->i<=G.size->i<=j.size->Meets (Builtin.«list.__eq__.loop» ⟨[.ref l,.ref b,rawInt i,rawInt 0],[]⟩)
   (fun A R s=>s.heap.get? l=some { cls:=.type "list",dict:=dd,data:=.seq G n,slots:=sl }/\s.heap.get? b=some { cls:=.type "list",dict:=a1,data:=.seq j n2,slots:=Z }/\
    yy3 A.in1 s (G.toList.drop i) (j.toList.drop i) r/\R (.ok (.ret (.bool r))) s):=by
 induction k with
 |zero=>
  intro i hk h1 h2 prog w A R s h
  obtain⟨hp,g,d,tk,os⟩:=s;obtain⟨hl,U,I,h⟩:=h
  wp_walk using wpAny_loadPart' hl,wpAny_loadPart' U
  have N:G[((i:Nat):Int).toNat]? =none:=by simp;omega
  have e1:G.toList.drop i=[]:=drop_eq_nil_of_le (by simp;omega)
  rw[e1]at I
  have hr:r=decide (G.size<j.size):=by
   cases e2:j.toList.drop i with
   |nil=>
    rw[e2]at I
    have:j.size<=i:=by simpa using e2
    rw[show r=false from I]
    exact(decide_eq_false (by omega)).symm
   |cons c ws=>
    rw[e2]at I
    have:i<j.size:=by
     rcases Nat.lt_or_ge i j.size with z|z
     .exact z
     .rw[drop_eq_nil_of_le (by simpa using z)]at e2;cases e2
    rw[show r=true from I]
    exact(decide_eq_true (by omega)).symm
  rw[N]
  wp_walk using wpAny_loadPart' hl,wpAny_loadPart' U
  rw[hr]at h
  exact h
 |succ k ih=>
  intro i hk h1 h2 prog w A R s h
  obtain⟨hp,g,d,tk,os⟩:=s;obtain⟨hl,U,I,h⟩:=h
  have Y:i<G.size:=by omega
  have N:G[((i:Nat):Int).toNat]? =some G[i]:=by simp[Y]
  have e1:G.toList.drop i=G[i]::G.toList.drop (i+1):=by rw[drop_eq_getElem_cons (by simpa using Y)];simp
  have hc:((i:Int)+1)=((i+1:Nat):Int):=by push_cast;rfl
  rw[e1]at I
  by_cases O:i<j.size
  .have hi2:j[((i:Nat):Int).toNat]? =some j[i]:=by simp[O]
   have e2:j.toList.drop i=j[i]::j.toList.drop (i+1):=by rw[drop_eq_getElem_cons (by simpa using O)];simp
   rw[e2]at I
   obtain⟨e,he,I⟩:=I
   wp_walk using wpAny_loadPart' hl,wpAny_loadPart' U
   rw[N,hi2]
   refine wpAny_bind (he prog w _ _ ?_)
   rcases I with⟨rfl,I⟩|⟨rfl,I⟩
   .wp_walk
    rw[hc]
    exact⟨plainId_quiet plain_eq_loop _,codeAny_builtin entry_eq_loop (by
     rw[Around.under_plainId plain_eq_loop _]
     exact ih (i+1) (by omega) (by omega) (by omega) prog w A R _ ⟨hl,U,I,h⟩)⟩
   .have hri:=I prog w
    wp_walk using wpAny_loadPart' hl,wpAny_loadPart' U
    rw[N,hi2]
    wp_walk using hri
    exact h
  .have hi2:j[((i:Nat):Int).toNat]? =none:=by simp;omega
   have e2:j.toList.drop i=[]:=drop_eq_nil_of_le (by simp;omega)
   rw[e2]at I
   have hr:r=decide (G.size<j.size):=by
    rw[show r=false from I]
    exact(decide_eq_false (by omega)).symm
   wp_walk using wpAny_loadPart' hl,wpAny_loadPart' U
   rw[N,hi2]
   wp_walk using wpAny_loadPart' hl,wpAny_loadPart' U
   rw[hr]at h
   exact h
set_option maxHeartbeats 4000000 in
theorem xj7 (l b:Addr)(j i:Array Value)(n I:Nat)(dd G:Option Addr)(sl z:Array (Option Value))(r:Bool):
  Meets (Builtin.«list.__lt__» ⟨[.ref l,.ref b],[]⟩)
   (fun A R s=>s.heap.get? l=some { cls:=.type "list",dict:=dd,data:=.seq j n,slots:=sl }/\s.heap.get? b=some { cls:=.type "list",dict:=G,data:=.seq i I,slots:=z }/\
    yy3 A.in1 s j.toList i.toList r/\R (.ok (.ret (.bool r))) s):=by
 intro prog w A R s h
 obtain⟨hp,g,d,tk,os⟩:=s;obtain⟨hl,N,O,h⟩:=h
 have U:=AutoSeq1.sub_list_list
 wp_walk using wpAny_loadPart' hl,wpAny_loadPart' N
 exact⟨plainId_quiet plain_eq_loop _,codeAny_builtin entry_eq_loop (by
  rw[Around.under_plainId plain_eq_loop _]
  exact zi4 l b j i n I dd G sl z r _ 0 rfl (Nat.zero_le _) (Nat.zero_le _) prog w A R _ ⟨hl,N,by simpa using O,h⟩)⟩
end
noncomputable def lexF (eq lt:D->D->Option Bool):List D->List D->Option Bool
 |[],[]=>some false
 |[],_::_=>some true
 |_::_,[]=>some false
 |d::ds,e::es=>match eq d e with
  |some true=>lexF eq lt ds es
  |some false=>lt d e
  |none=>none
noncomputable def ltF:Nat->D->D->Option Bool
 |0,_,_=>none
 |n+1,.lst ds,.lst es=>lexF (eqF n) (ltF n) ds es
 |n+1,.tup ds,.tup es=>lexF (eqF n) (ltF n) ds es
 |_+1,.int i,.int j=>some (decide (i<j))
 |_+1,_,_=>none
section
variable {X:Cx}{pins:List (Addr×Obj)}{σ:St}{H:Hp}{s:Shared}
theorem yr6 (I:Inv X pins σ H s)(n:Nat){A:Around}(j:A.units+n<cLine)(i:∀{x y:V}{v u:Value}{d e:D}{k:Bool},Rep X.K H x d->Rep X.K H y e->RelV x v->RelV y u->ltF n d e=some k->LtAt A s v u k):
  ∀{xs ys:List V}{vs us:List Value}{ds es:List D}{k:Bool},Reps X.K H xs ds->Reps X.K H ys es->Vals xs vs->Vals ys us->lexF (eqF n) (ltF n) ds es=some k->yy3 A s vs us k
 |_,_,_,_,_,_,k,.nil,.nil,.nil,.nil,h=>by cases h;exact rfl
 |_,_,_,_,_,_,k,.nil,.cons _ _,.nil,.cons _ _,h=>by cases h;exact rfl
 |_,_,_,_,_,_,k,.cons _ _,.nil,.cons _ _,.nil,h=>by cases h;exact rfl
 |_,_,_,_,_,_,k,.cons (d:=d) r1 t1,.cons (d:=e) r2 t2,.cons q1 p1,.cons q2 p2,h=>by
  unfold lexF at h
  cases hq:eqF n d e with
  |none=>rw[hq]at h;cases h
  |some b=>
   rw[hq]at h
   refine⟨b,(yp3 I n j r1 r2 q1 q2 hq).1,?_⟩
   cases b with
   |true=>exact .inl ⟨rfl,yr6 I n j i t1 t2 p1 p2 h⟩
   |false=>exact .inr ⟨rfl,i r1 r2 q1 q2 h⟩
theorem yr4 (I:Inv X pins σ H s):∀(n:Nat){A:Around}{x y:V}{v u:Value}{d e:D}{k:Bool},A.units+n<cLine->Rep X.K H x d->Rep X.K H y e->RelV x v->RelV y u->ltF n d e=some k->LtAt A s v u k
 |0,A,x,y,v,u,d,e,k,hu,r1,r2,q1,q2,h=>by simp[ltF]at h
 |n+1,A,x,y,v,u,d,e,k,hu,r1,r2,q1,q2,h=>by
  have a5:A.units<cLine:=by omega
  have R:A.in1.units+n<cLine:=by show A.units+1+n<cLine;omega
  cases d with
  |int i=>
   cases e with
   |int j=>
    obtain rfl:=r1.i'
    obtain rfl:=r2.i'
    obtain⟨t,rfl⟩:=q1
    obtain⟨t',rfl⟩:=q2
    cases h
    exact fun prog w E Q hQ=>HT.rcLt_int A s i t j t' prog w E Q hQ
   |_=>cases h
  |lst aa=>
   cases e with
   |lst a9=>
    obtain⟨a1,a8,rfl,sq,rs⟩:=r1.l'
    obtain⟨a2,a7,rfl,Y,a3⟩:=r2.l'
    cases q1;cases q2
    obtain⟨its,vr,⟨⟨cls,dd,data,sl⟩,m,ho,hc,ac,hd⟩,_⟩:=I.list sq
    obtain⟨z,U,⟨⟨a6,a4,data2,Z⟩,m2,G,O,ab,N⟩,_⟩:=I.list Y
    simp only at hc hd O N
    subst hc hd O N
    have L:=yr6 I n R (fun a b c d e=>yr4 I n R a b c d e) rs a3 vr U (show lexF (eqF n) (ltF n) _ _=some k from h)
    intro prog w E Q hQ
    exact richCompare_meets_room (op:=.Lt) ⟨_,ho,rfl⟩ ⟨_,G,rfl⟩ PySem.F.slot_list_lt PySem.F.entry_list_lt (PySem.F.args_list_lt_2 _ _) (xj7 _ _ its.toArray z.toArray m m2 dd a4 sl Z k)
     ⟨ho,G,by simpa using L,show Value.bool k≠Value.notImplemented/\Q (.bool k) s from⟨(fun x=>nomatch x),hQ⟩⟩ a5
   |_=>cases h
  |tup aa=>
   cases e with
   |tup a9=>
    obtain⟨a1,a8,rfl,sq,rs⟩:=r1.t'
    obtain⟨a2,a7,rfl,Y,a3⟩:=r2.t'
    cases q1;cases q2
    obtain⟨its,vr,⟨⟨cls,dd,data,sl⟩,ho,hc,m,hd⟩,_⟩:=I.tuple sq
    obtain⟨z,U,⟨⟨a6,a4,data2,Z⟩,G,O,m2,N⟩,_⟩:=I.tuple Y
    simp only at hc hd O N
    subst hc hd O N
    have L:=yr6 I n R (fun a b c d e=>yr4 I n R a b c d e) rs a3 vr U (show lexF (eqF n) (ltF n) _ _=some k from h)
    intro prog w E Q hQ
    exact richCompare_meets_room (op:=.Lt) ⟨_,ho,rfl⟩ ⟨_,G,rfl⟩ PySem.F.slot_tuple_lt PySem.F.entry_tuple_lt (PySem.F.args_tuple_lt_2 _ _) (xp5 _ _ its.toArray z.toArray m m2 dd a4 sl Z k)
     ⟨ho,G,by simpa using L,show Value.bool k≠Value.notImplemented/\Q (.bool k) s from⟨(fun x=>nomatch x),hQ⟩⟩ a5
   |_=>cases h
  |_=>cases h
end
end
section
noncomputable def minF (mk:D->Option D):List D->D->D->Option D
 |[],b,_=>some b
 |d::ds,b,kb=>match mk d with
  |some kd=>(match ltF 8 kd kb with |some true=>minF mk ds d kd|some false=>minF mk ds b kb|none=>none)
  |none=>none
section
variable {X:Cx}{pins:List (Addr×Obj)}{σ:St}
theorem FpOk.now {H H':Hp}{b:Addr}(h:FpOk X pins H b)(hn:H' b=none):FpOk X pins H' b:=⟨hn,h.2⟩
theorem Inv.pin2 {H:Hp}{s:Shared}{a b:Addr}{i ob:Obj}(I:Inv X pins σ H s)(ha:FpOk X pins H a)(j:FpOk X pins H b)(G:s.heap.get? a=some i)(z:s.heap.get? b=some ob)(O:∀ v,i.data≠ .cell v)(N:∀ v,ob.data≠ .cell v):Inv X (pins++[(a,i),(b,ob)]) σ H s:=
 I.pins_of fun p hp=>by
  rcases List.mem_append.mp hp with hp|hp
  .exact I.pin p (mem_append_right _ hp)
  .simp only[mem_cons,not_mem_nil,or_false]at hp
   rcases hp with rfl|rfl
   .exact⟨G,ha.1,ha.2.1,ha.2.2.1,O⟩
   .exact⟨z,j.1,j.2.1,j.2.2.1,N⟩
end
end
section
section
variable {X:Cx}{pins:List (Addr×Obj)}{σ:St}
end
end
section
section
variable {prog:Program}{w:World}{A:Around}{E:Value->Shared->Prop}{s:Shared}
end
noncomputable def Itdn (hi:Int)(n:Nat):It:=⟨fun i _=>i<n,fun i H x H'=>H'=H/\x= .int (hi-i),fun i _=>n<=i⟩
theorem yx0 {P:Program}{w:World}{K:PySem.W.Frag}{tg:Expr}(it:Addr)(lo:Int)(n:Nat):Turn P w K tg (Itdn lo n) [it] it (fun i h=>IsRangeIter h it (lo+(i:Nat)*(-1)) ((n:Int)-(i:Nat)) (-1)) where
 mem:=by simp
 obj:=fun i h st b j=>by
  have e:b=it:=by simpa using j
  subst e
  exact⟨_,st,fun v z=>by
   have z':Data.fields _=Data.cell v:=z
   cases z'⟩
 keep:=fun i h h' st k=>k it (by simp) _ st
 item:=by
  intro X U hw Y R i pins s σ H E I N st O
  subst U hw Y
  obtain⟨f0,f1,f2,f3,f4,Z⟩:=N it (by simp)
  have W:=Walks.range (prog:=X.prog) (w:=X.w) (I.ok.hd R) it lo (-1) n
  refine W.item i s _ _ O st fun v h' tk hv G kk=>?_
  obtain⟨t,rfl⟩:=hv
  have I1:Inv X pins σ H { s with heap:=h',toks:=tk }:=I.turned (fun b o j e=>kk b o (by simpa using j) e) f0 f1 f3 f4 Z
  refine⟨_,rfl,ye1 (s:={ s with heap:=h',toks:=tk }) (n:="range_iterator") G rfl rfl (by decide) ⟨.int (lo-i),H,I1,⟨t,?_⟩,⟨rfl,rfl⟩,G,fun b j=>(N b j).1⟩⟩
  rw[show lo+(i:Int)*(-1)=lo-i by omega]
 done:=by
  intro X U hw Y R i pins s σ H E I N st O
  subst U hw Y
  obtain⟨f0,f1,f2,f3,f4,Z⟩:=N it (by simp)
  exact wpAny_pyNext_range_end (I.ok.hd R) st (by have:n<=i:=O;omega) fun h' eb=>⟨rfl,I.turned (t':=s.toks) (fun b o j e=>eb b o j e) f0 f1 f3 f4 Z⟩
 self:=fun _ _ _ _ _ st h=>wpAny_pyIter_rangeiter st h
section
variable {X:Cx}
noncomputable def yz5 (n:Nat):List D:=(List.range n).map fun(i:Nat)=>D.int ((n:Int)-1-(i:Int))
theorem K1 (n:Nat):(yz5 n).length=n:=by unfold yz5;simp
theorem yf9 {K:W.Frag}{F:Hp}{n:Nat}:ItD K F (Itdn ((n:Int)-1) n) (yz5 n) where
 go:=fun i F1 H1 a b hi=>by rw[K1]at hi;exact hi
 yld:=fun i F1 H1 x H2 d a b e y=>by
  obtain⟨rfl,rfl⟩:=y
  unfold yz5 at e
  rw[getElem?_map]at e
  have hi:i<n:=by
   rcases Nat.lt_or_ge i n with h|h
   .exact h
   .rw[getElem?_eq_none (by simpa using h)]at e;cases e
  rw[getElem?_range hi]at e
  cases e
  exact⟨F1,.refl b,.int _⟩
 stop:=fun F1 H1 a b=>by rw[K1];exact Nat.le_refl n
end
end
section
section
variable {X:Cx}{a b:Expr}{pos:Pos}
end
end
section
section
variable {X:Cx}{e:Expr}{pos:Pos}{es:List Expr}{E:XK}{mf:MG}{st:Stmt}{na:MEm}
end
section
variable {X:Cx}{a b:Expr}{pos:Pos}
end
end
section
noncomputable def minN (mk:D->Option D)(ds:List D):Option D:=match ds with
 |[]=>none
 |d::ds=>(match mk d with |some kd=>minF mk ds d kd|none=>none)
section
variable {X:Cx}{pins:List (Addr×Obj)}{σ:St}
end
end
section
section
variable {X:Cx}{pins:List (Addr×Obj)}{σ:St}
end
end
section
noncomputable def minP:List D->D->Option D
 |[],b=>some b
 |d::ds,b=>(match ltF 8 d b with |some true=>minP ds d|some false=>minP ds b|none=>none)
section
variable {X:Cx}{pins:List (Addr×Obj)}{σ:St}
end
theorem yy1 (a:Value):argsOk "min" ⟨[a],[]⟩:=by unfold argsOk;kernel_rfl
section
variable {X:Cx}
end
end
section
section
variable {X:Cx}{pins:List (Addr×Obj)}{σ:St}
end
end
end L2
namespace L2
open List
open PySem PySem.Spec PyProof.Rows PySem.Builtin PySem.Builtin.Str
section
section
variable {X:Cx}{a b c e o:Expr}{ma mb mo:ME}{pos:Pos}
theorem P7 {K:W.Frag}{F:Hp}:∀(l:List Str),Reps K F (l.map V.str) (l.map D.str)
 |[]=>.nil
 |z::l=>.cons (.str z) (P7 l)
def rSlS:V->Option Int->Option Int->Hp->VK->Prop:=fun x lo hi H Q=>∃ z,x= .str z/\z.length<=sizeLine/\Q (.str (Txt.slice z lo hi)) H
theorem xo3:SlR X rSlS:=by
 intro pins s σ H x v Y U lo hi sl Q I rx hs pl R h
 obtain⟨z,rfl,G,q⟩:=h
 obtain⟨t,rfl⟩:=rx
 refine⟨"str",_,F.slot_str_getitem.lookup,typeIs_str _ _ _,?_⟩
 have fin:∀(t':Tok)(k:Nat),EP X pins σ Q (.str (Txt.slice z lo hi) t') { s with toks:=k }:=fun t' k=>⟨.str _,H,I.tok _,⟨_,rfl⟩,q⟩
 cases pl with
 |none=>
  cases R with
  |none=>exact wpAny_getItem_str_slice (l:=none) (u:=none) (st:=none) hs rfl (post_val_or_str ⟨Nat.le_trans (Txt.slice_le z _ _) G,fin⟩)
  |int j N=>exact wpAny_getItem_str_slice (l:=none) (u:=some (j,N)) (st:=none) hs rfl (post_val_or_str ⟨Nat.le_trans (Txt.slice_le z _ _) G,fin⟩)
 |int i O=>
  cases R with
  |none=>exact wpAny_getItem_str_slice (l:=some (i,O)) (u:=none) (st:=none) hs rfl (post_val_or_str ⟨Nat.le_trans (Txt.slice_le z _ _) G,fin⟩)
  |int j N=>exact wpAny_getItem_str_slice (l:=some (i,O)) (u:=some (j,N)) (st:=none) hs rfl (post_val_or_str ⟨Nat.le_trans (Txt.slice_le z _ _) G,fin⟩)
@[irreducible] noncomputable def C4 (m:ME)(lo hi:MO):ME:=fun ρ=>(m ρ).bind fun d=>(lo ρ).bind fun l=>(hi ρ).bind fun h=>match d with | .str z=>if z.length<=sizeLine then some (.str (Txt.slice z l h))else none|_=>none
theorem yu2 {lo hi:Option Expr}{l h:MO}{p2:Pos}(ha:PD X a ma)(hl:POs X lo l)(hh:POs X hi h):PD X (.Subscript a (.Slice lo hi none p2) pos) (C4 ma l h):=(zf1 xo3 ha hl hh).imp fun σ H Q G=>by
 obtain⟨F0,H0,F,ρ,g,N,e,q⟩:=G
 unfold C4 at e
 cases h1:ma ρ with
 |none=>rw[h1]at e;cases e
 |some d=>
  cases h2:l ρ with
  |none=>rw[h1,h2]at e;cases e
  |some i=>
   cases h3:h ρ with
   |none=>rw[h1,h2,h3]at e;cases e
   |some j=>
    rw[h1,h2,h3]at e
    refine⟨F0,H0,F,ρ,d,N,h1,fun v F1 H1 I U=>⟨F0,H0,F1,ρ,i,N.go I,h2,fun F2 H2 O=>⟨F0,H0,F2,ρ,j,(N.go I).go O,h3,fun Z Y R=>?_⟩⟩⟩
    cases U with
    |str z=>
     have e:(if z.length<=sizeLine then some (D.str (Txt.slice z i j))else none)=some g:=e
     split at e
     .rename_i hz;cases e
      exact⟨z,rfl,hz,q _ Z Y ((I.trans O).trans R) (.str _)⟩
     .cases e
    |_=>cases e
end
end
section
section
variable {X:Cx}{a b c e o:Expr}{ma mb mo:ME}{pos:Pos}
end
end
end L2
namespace L2
open List
open PySem PySem.Spec PyProof.Rows
section
section
variable {X:Cx}{a b c e o:Expr}{ma mb mo:ME}{pos:Pos}{st:Stmt}
end
end
section
section
variable {prog:Program}{w:World}{A:Around}{E:Value->Shared->Prop}{s:Shared}{l:Addr}{xs:Array (Int×Tok)}
end
section
variable {X:Cx}{a b c e o:Expr}{ma mb mo:ME}{pos:Pos}{st:Stmt}
end
section
variable {X:Cx}{a b c e:Expr}{na nb:MEm}{pos:Pos}{st:Stmt}{es:List Expr}{E:XK}{mf:MF}{m:MLm}
noncomputable abbrev MBm:=Ro->Option (Bool×Ro)
def TCm (K:W.Frag)(c:MBm):TT:=fun σ H Q=>∃ F0 H0 F ρ b ρ',Rl K F0 H0 F H σ ρ/\c ρ=some (b,ρ')/\∀ F' H',Rl K F0 H0 F' H' σ ρ'->Same F F'->Q b H'
@[irreducible] noncomputable def D9 (x:MEm):MBm:=fun ρ=>match x ρ with |some (.bl b,ρ1)=>some (b,ρ1)|_=>none
theorem xv3 {op:CmpOp}{r:R2}{f:D->D->Option D}(G:OpR X (compareOp op) r)(I:OpD X.K r f)(ha:PDm X a na)(N:PDm X b nb)(hm:behindInMarks op b=false):PT X (.Compare a [op] [b] pos) (TCm X.K (D9 (m2m f na nb))):=(zw9 G ha N hm).imp fun σ H Q i=>by
 obtain⟨F0,H0,F,ρ,g,ρ',z,e,q⟩:=i
 unfold D9 at e
 split at e
 .rename_i k ρ1 hk
  cases e
  refine yt0 I ⟨F0,H0,F,ρ,.bl g,ρ',z,hk,fun v F' H' j s' r=>?_⟩
  cases r
  exact⟨_,rfl,q F' H' j s'⟩
 .cases e
end
end
section
section
variable {X:Cx}{a b c e:Expr}{na nb:MEm}{pos:Pos}{st:Stmt}{es:List Expr}{m:MLm}
end
section
variable {X:Cx}{pos:Pos}
end
end
section
section
variable {X:Cx}{e:Expr}{na:MEm}{pos:Pos}{st:Stmt}{es:List Expr}{m:ML}{mf:MG}{E:XK}
noncomputable def zj8:List D->Bool
 |[]=>true
 | .int _::r=>zj8 r
 |_=>false
theorem yh6 (ns:List Int):zj8 (ns.map .int)=true:=by
 induction ns with
 |nil=>rfl
 |cons n ns i=>exact i
theorem zr9 {K:W.Frag}{F F':Hp}:∀{vs:List V}{ds:List D},zj8 ds=true->Reps K F vs ds->Reps K F' vs ds
 |_,[],_,.nil=>.nil
 |_,d::ds,h,.cons r rr=>by
  cases r with
  |int k=>exact .cons (.int k) (zr9 h rr)
  |_=>cases h
open Classical in
end
end
section
noncomputable def rng3:List D->Option (List D)
 |[.int i,.int j,.int k]=>if -1<=i/\i<2^61/\j= -1/\k= -1 then some (yz5 (i+1).toNat)else none
 |_=>none
theorem zr7 (i:Int)(h:-1<=i):Builtin.Range.rangeSize i (-1) (-1)=((i+1).toNat:Int):=by
 unfold Builtin.Range.rangeSize
 rw[if_neg (by decide)]
 split
 .rw[show (-(-1):Int)=1 by decide,Int.ediv_one];omega
 .omega
theorem zb0 (i:Int)(h:-1<=i)(h2:i<2^61):Builtin.Range.small i (-1) (-1)=true:=by
 unfold Builtin.Range.small
 rw[zr7 i h]
 unfold Builtin.Range.rangeFitsLong
 simp
 omega
section
variable {X:Cx}
theorem za1 {tg a b c:Expr}{m:ML}{p pos:Pos}(hg:Gl X "range")(hm:X.mg "range"=none)(ha:PAs X [a,b,c] m)(he:starEach [a,b,c] X.env=(false,eval a X.env)::starEach [b,c] X.env:=by rfl)(U:(backTo pos (starEach [b,c] X.env)).any (·.1)=false:=by rfl):
  PId X tg (.Call (.Name "range" p) [a,b,c] [] pos) (i7 rng3 m):=by
 intro pins s σ H R I h
 obtain⟨F0,H0,F,ρ,its,rl,e,q⟩:=h
 obtain⟨ds,h1,h2⟩:=M5 e
 refine Call_ (L9 I hg hm boot_range (PyProof.Rows.callWith_type1 (thn (ha pos pins s σ H (fun vs H1=>∃ i:Int,vs=[.int i,.int (-1),.int (-1)]/\ -1<=i/\i<2^61/\R (Itdn i (i+1).toNat) H1) I ⟨F0,H0,F,ρ,ds,rl,h1,fun vs F1 H1 Z O=>?_⟩) fun us s1 ⟨vs,H1,I1,O,q1⟩=>?_) he U))
 .unfold rng3 at h2
  split at h2
  .rename_i i j k
   split at h2
   .rename_i hk
    obtain⟨k1,k2,rfl,rfl⟩:=hk
    cases h2
    cases O with
    |cons r G=>
     cases G with
     |cons r2 G=>
      cases G with
      |cons N G=>
       cases G;cases r;cases r2;cases N
       refine⟨i,rfl,k1,k2,q _ F1 H1 Z ?_⟩
       have:i=((i+1).toNat:Int)-1:=by omega
       have z:=yf9 (K:=X.K) (F:=F1) (n:=(i+1).toNat)
       rw[<-this]at z
       exact z
   .cases h2
  .cases h2
 .obtain⟨i,e,k1,k2,q⟩:=q1
  subst e
  cases O with
  |cons r G=>
   cases G with
   |cons r2 G=>
    cases G with
    |cons N G=>
     cases G
     obtain⟨t,rfl⟩:=r
     obtain⟨t2,rfl⟩:=r2
     obtain⟨t3,rfl⟩:=N
     refine call_range_3 (by decide) ?_ (Or.inl (PyProof.noPylong_small (by omega)))
     refine wpAny_pyIter_range (IsRange.new ..) (zb0 i k1 k2) ?_
     have Y:Inv X pins σ H1 { s1 with heap:=s1.heap.push { cls:=.type "range",data:=.fields #[.int i t,.int (-1) t2,.int (-1) t3] },toks:=s1.toks }:=I1.kept fun b o e=>Heap.get?_push_of_some _ e
     refine⟨_,[(s1.heap.push { cls:=.type "range",data:=.fields #[.int i t,.int (-1) t2,.int (-1) t3] }).objs.size],_,_,H1,rfl,
      Y.kept (t':=s1.toks) fun b o e=>Heap.get?_push_of_some _ e,yx0 _ i (i+1).toNat,?_,fun b hb=>?_,q⟩
     .have e1:i+((0:Nat):Int)*(-1)=i:=by simp
      have e2:(((i+1).toNat:Nat):Int)-((0:Nat):Int)=Builtin.Range.rangeSize i (-1) (-1):=by rw[zr7 i k1];simp
      show IsRangeIter _ _ (i+((0:Nat):Int)*(-1)) ((((i+1).toNat:Nat):Int)-((0:Nat):Int)) (-1)
      rw[e1,e2]
      exact Heap.get?_push_size _ rfl
     .have e:b=(s1.heap.push { cls:=.type "range",data:=.fields #[.int i t,.int (-1) t2,.int (-1) t3] }).objs.size:=by simpa using hb
      subst e
      exact Y.fpOk (Nat.le_refl _) (Y.hok.fresh (Nat.le_refl _))
end
end
section
section
variable {X:Cx}{e:Expr}{pos:Pos}
@[irreducible] noncomputable def many (m:ML):ME:=fun ρ=>match m ρ with |some ds=>(match zt4 ds with |some ns=>some (.bl (ns.any fun i=>i != 0))|none=>none)|none=>none
end
end
section
section
variable {X:Cx}{e:Expr}{ma:ME}{pos:Pos}
end
end
section
section
variable {X:Cx}{e:Expr}{ma:ME}{pos:Pos}
end
end
section
section
variable {prog:Program}{w:World}{A:Around}{E:Value->Shared->Prop}{s:Shared}
end
section
variable {X:Cx}
end
end
section
section
variable {X:Cx}{a:Expr}{na:MEm}{pos:Pos}{ca:MBm}
end
end
section
section
variable {X:Cx}{a b:Expr}{m:ML}{pos:Pos}
end
end
end L2
namespace L2
open List
open PySem PySem.Spec PyProof.Rows PySem.W PySem.Builtin PySem.Builtin.ObjectAttr PySem.Builtin.Getset_descriptor
section
structure XCls (K:W.Frag)(C:Addr):Prop where
 ga:findIn K (.ref C) "__getattribute__"=some (some (.builtin "BaseException.__getattribute__"))
 nog:findIn K (.ref C) "__getattr__"=some none
 cl:findIn K (.ref C) "__class__"=some (some (.builtin "object.__class__"))
 ob:mroIn K C (.type "object")=some true
 be:mroIn K C (.type "BaseException")=some true
section
variable {prog:Program}{w:World}{A:Around}{E:Value->Shared->Prop}{K:W.Frag}{x C:Addr}{ox:Obj}{h:Heap}{g:Array GenState}{d:Drawn}{t:Nat}{os:OsState}
theorem xq7 {tp:Value}{R:Result->Shared->Prop}(X:K.In h)(LT:∀ M:Model,Looks M h (typeOf (.ref x)) (.ref C))(hm:mroIn K C (.type "object")=some true)
  (i:R (.ok (.ret (.ref C))) ⟨h,g,d,t,os⟩):codeAny (model prog w) A (.call (.builtin "getset_descriptor.__get__") ⟨[.builtin "object.__class__",.ref x,tp],[]⟩) R ⟨h,g,d,t,os⟩:=by
 have j:=LT (model prog w)
 have L1:=looks_mroIn (M:=model prog w) X hm
 refine codeAny_call_builtin F.slot_gs_get.plain F.entry_gs_get (F.slot_gs_get.check _ _ _ _ _ _ _ _ F.typeOf_object_class (F.args_gs_get _ _ tp) ?_)
 unfold Builtin.«getset_descriptor.__get__» descrGet
 rw[dga_obj]
 refine wpAny_bind (wpAny_pure ?_)
 unfold descrGetter;unfold descrCheckInstance;unfold descrNameAndClass isInstance
 simp only[KF.owner_class]
 repeat lk
 refine And.intro (Code.quiet_builtin _ (by decide +kernel)) (codeAny_builtin F.entry_object_class ?_)
 unfold Builtin.«object.__class__»;unfold shownTypeOf
 repeat lk
 exact i
theorem ym8 {tk:Tok}{Q:PySem.Fin->Shared->Prop}(Z:XCls K C)(X:K.In h)(LT:∀ M:Model,Looks M h (typeOf (.ref x)) (.ref C))(i:Q (.done (.ret (.ref C))) ⟨h,g,d,t,os⟩):
  wpAny (model prog w) A (Builtin.«object.__getattribute__» ⟨[.ref x,.str "__class__" tk],[]⟩) Q E ⟨h,g,d,t,os⟩:=by
 have G:=LT (model prog w)
 have L1:=looks_findIn (M:=model prog w) X Z.cl
 have L2:Looks (model prog w) h (typeOf (.builtin "object.__class__")) (.type "getset_descriptor"):=Looks.of_pure F.typeOf_object_class
 have z:Looks (model prog w) h (typeLookup (.type "getset_descriptor") "__get__") (some (.builtin "getset_descriptor.__get__")):=Looks.of_pure F.slot_gs_get.lookup
 have j:Looks (model prog w) h (typeLookup (.type "getset_descriptor") "__set__") (some (.builtin "getset_descriptor.__set__")):=Looks.of_pure F.slot_gs_set.lookup
 repeat (first|with_reducible refine wpAny_call (xq7 X LT Z.ob ?_)|lk)
 exact i
theorem ya3 {tk:Tok}{R:Result->Shared->Prop}(Z:XCls K C)(X:K.In h)(LT:∀ M:Model,Looks M h (typeOf (.ref x)) (.ref C))(i:R (.ok (.ret (.ref C))) ⟨h,g,d,t,os⟩):
  codeAny (model prog w) A (.call (.builtin "BaseException.__getattribute__") ⟨[.ref x,.str "__class__" tk],[]⟩) R ⟨h,g,d,t,os⟩:=by
 have k1:builtinKind "BaseException.__getattribute__"=some .slot:=by decide +kernel
 have k2:splitId "BaseException.__getattribute__"=some ("BaseException","__getattribute__"):=by decide +kernel
 have k3:=F.args_bexc_ga (.ref x) (.str "__class__" tk)
 have j:=LT (model prog w)
 have L1:=looks_mroIn (M:=model prog w) X Z.be
 refine codeAny_call_builtin (by decide +kernel) F.entry_bexc_ga ?_
 simp only[checkBuiltinCall,k1,k2]
 refine wpAny_bind ?_
 unfold isInstance
 refine wpAny_bind (j.at (L1.at ?_))
 rw[if_neg (by decide)]
 exact wpAny_of_eq (a:=()) k3 (ym8 Z X LT i)
theorem ym9 {Q:Option Value->Shared->Prop}(Z:XCls K C)(X:K.In h)(LT:∀ M:Model,Looks M h (typeOf (.ref x)) (.ref C))(i:Q (some (.ref C)) ⟨h,g,d,t+1,os⟩):
  wpAny (model prog w) A (getAttr? (.ref x) "__class__") Q E ⟨h,g,d,t,os⟩:=by
 have G:=LT (model prog w)
 have L1:=looks_findIn (M:=model prog w) X Z.ga
 have L2:=looks_findIn (M:=model prog w) X Z.nog
 unfold getAttr? getAttrBy? getAttrBy
 refine wpAny_bind (wpAny_mkText (wpAny_bind (wpAny_attempt (wpAny_holding (wpAny_bind (G.at (wpAny_bind (L1.at ?_))))))))
 dsimp only
 rw[if_neg (by intro z;rw[Bool.and_eq_true]at z;exact absurd z.2 (by decide))]
 unfold getAttrByItsOwn hookBefore
 rw[if_pos (by rfl)]
 refine wpAny_bind (L2.at (wpAny_bind (wpAny_attempt (wpAny_holding ?_))))
 unfold callGetattribute
 rw[if_neg (by decide)]
 unfold boundAndCalled
 have j:bindSpecial (.builtin "BaseException.__getattribute__") (.ref x)=pure (.builtin "BaseException.__getattribute__",[.ref x]):=F.attr_ValueError.ga.bind _
 refine wpAny_bind (wpAny_of_eq j (wpAny_call (ya3 Z X LT ?_)))
 exact handed_on rfl (wpAny_pure i)
theorem XAt.looks {a C:Addr}(p:XAt a C h)(M:Model):Looks M h (typeOf (.ref a)) (.ref C):=by
 obtain⟨o,vs,h1,h2,_⟩:=p
 exact h2 ▸ (Looks.ld h1).andThen .now
theorem ze4 {a C:Addr}(Z:XCls K C):KitX K (.ref a) (.ref C) (XAt a C) where
 ty:=fun M h _ p=>p.looks M
 it:=fun M h X _=>by
  have q:=Z.ob
  unfold mroIn at q
  cases hc:clsIn K C with
  |none=>rw[hc]at q;cases q
  |some N=>
   unfold clsIn at hc
   split at hc
   .rename_i c' d' cd' sl' ho
    intro U O R s1 G j
    unfold isType loadHead
    exact wpAny_bind (wpAny_loadPart (G _ _ (X C _ ho)) (wpAny_pure j))
   .cases hc
 ne:=fun h tp dd its n sl X i=>by
  refine Bool.eq_false_iff.mpr fun z=>?_
  have e:C=tp:=Value.ref.inj (beq_iff_eq.mp z)
  subst e
  have q:=Z.ob
  unfold mroIn at q
  cases hc:clsIn K C with
  |none=>rw[hc]at q;cases q
  |some N=>
   unfold clsIn at hc
   split at hc
   .rename_i c' d' cd' sl' ho
    cases (X _ _ ho).symm.trans i
   .cases hc
 ca:=fun{prog w A E Q s} X p I=>by
  obtain⟨hh,g,d,t,os⟩:=s
  exact ym9 Z X p.looks I
end
end
end L2
namespace L2
open List
open PySem PySem.Spec PyProof.Rows
section
structure Flown (P:Program)(w:World)(outer:List Env)(H:Hp)(s:Shared)(H':Hp)(B h':Heap):Prop where
 un:Un (frs outer) [] H H' s.heap h'
 ok:HOk P w H' h'
 st:B.StaysIn h'
 trk:∀ b o,H' b=some o->∃ ob,B.get? b=some ob
 old:∀ b o,s.heap.get? b=some o->b∉frs outer->∃ ob,B.get? b=some ob
def CXx (P:Program)(w:World):CXT:=fun outer H s E ev s'=>∃(e C:Addr)(a0:Value)(H':Hp)(B:Heap),ev= .ref e/\s'.os=s.os/\AllBare s'.gens/\Flown P w outer H s H' B s'.heap/\
 Heap.FlyingW B outer e (.ref C) a0 s'.heap/\E (.ref C) none H'
section
variable {P:Program}{w:World}{outer:List Env}{H H':Hp}{s:Shared}{B h1 h2 base:Heap}
theorem Flown.on (f:Flown P w outer H s H' B h1)(fr:h1.FunFrames base outer)(st:B.StaysIn h2)(U:h1.UpToSlots h2):Flown P w outer H s H' B h2:=by
 have same:∀ b o,h1.get? b=some o->(∃ ob,B.get? b=some ob)->h2.get? b=some o:=fun b o e N=>by
  obtain⟨ob,O⟩:=N
  have:=f.st b ob O
  rw[e]at this;cases this
  exact st b o O
 have i:∀ b o,b∈frs outer->h1.get? b=some o->∃ sl,h2.get? b=some { o with slots:=sl }:=fun b o j e=>by
  obtain⟨_,o',R,hd⟩:=fr.mem j
  rw[e]at R;cases R
  exact U b o e hd
 refine⟨⟨fun b o e n j I=>same b o (f.un.keep b o e n j I) (f.old b o e j),fun b o e n j I=>?_,f.un.free,fun b o e I=>?_,f.un.tups,f.un.frzs,f.un.tbls⟩,fun b u e=>?_,st,f.trk,f.old⟩
 .obtain⟨sl,e1⟩:=f.un.slot b o e n j I
  obtain⟨G,e2⟩:=i b _ j e1
  exact⟨G,e2⟩
 .by_cases j:b∈frs outer
  .obtain⟨o1,e1⟩:=f.un.there b o e I
   obtain⟨G,e2⟩:=i b _ j e1
   exact⟨_,e2⟩
  .obtain⟨ob,O⟩:=f.old b o e j
   exact⟨ob,st b ob O⟩
 .refine(f.ok b u e).stay (fun c v Y q=>same c v q ?_) (fun _ q=>q) fun _ _ q=>q
  rcases Y with z|z
  .rw[z];exact f.trk b u e
  .exact f.trk c _ z
end
structure Top (X:Cx):Prop where
 stk:X.stack=X.env::X.outer
 frm:X.env.frame=some X.env.locals
 ex:X.ex=[]
section
variable {X:Cx}{pins:List (Addr×Obj)}{σ:St}{H H':Hp}{s:Shared}{B h1:Heap}
theorem Flown.inv {s':Shared}(I:Inv X pins σ H s)(f:Flown X.prog X.w X.stack H s H' B s'.heap)(os:s'.os=s.os)(bare:AllBare s'.gens):Inv X pins σ H' s':=
 I.call' (ch:=[]) os f.un f.ok bare fun b z=>absurd z (by simp)
theorem Flown.out {s':Shared}(T:Top X)(I:Inv X pins σ H s)(f:Flown X.prog X.w X.stack H s H' B s'.heap)(os:s'.os=s.os)(bare:AllBare s'.gens):Flown X.prog X.w X.outer X.H₀ X.s₀ H' B s'.heap:=by
 have j:=f.inv I os bare
 refine⟨by have:=j.base;rw[T.ex]at this;exact this,f.ok,f.st,f.trk,fun b o e i=>?_⟩
 obtain⟨o1,e1⟩:=I.base.there b o e (by rw[T.ex];simp)
 refine f.old b o1 e1 fun z=>?_
 rcases List.mem_cons.mp (I.stkSub b z)with z|z
 .exact absurd (Nat.lt_of_lt_of_le (Heap.lt_size e) I.ok.above) (by rw[z];exact Nat.lt_irrefl _)
 .exact i z
end
theorem ObjOk.there {P:Program}{w:World}{H:Hp}{h:Heap}{a:Addr}{o:HO}(x:ObjOk P w H h a o):∃ ob,h.get? a=some ob:=by
 cases o with
 |lst xs=>obtain⟨_,_,_,_,e⟩:=x;exact⟨_,e⟩
 |tup xs=>obtain⟨_,_,_,⟨_,e,_⟩⟩:=x;exact⟨_,e⟩
 |dK kvs=>obtain⟨_,_,_,_,o,_,_,e,_⟩:=x;exact⟨_,e⟩
 |dT kvs=>obtain⟨_,_,_,_,o,_,_,e,_⟩:=x;exact⟨_,e⟩
 |set S n=>obtain⟨o,_,_,_,e,_⟩:=x;exact⟨_,e⟩
 |ins C dx fs=>obtain⟨_,_,_,e,_⟩:=x;exact⟨_,e⟩
 |own y=>exact x
 |xd fs=>obtain⟨_,⟨_,_,_,e,_⟩,_⟩:=x;exact⟨_,e⟩
 |rng lo hi=>obtain⟨_,_,_,e⟩:=x;exact⟨_,e⟩
 |frz ob u=>exact⟨_,x.1⟩
 |tbl ps=>exact⟨_,show h.get? a=some _ from x⟩
 |met f y=>exact⟨_,show h.get? a=some _ from x⟩
 |ext φ=>exact x.2.1
noncomputable abbrev bmV:List Value:=[.type "ValueError",.type "Exception",.type "BaseException",.type "object"]
theorem xobj {K:W.Frag}{h:Heap}{C:Addr}{j:List Value}{i:String}(X:K.In h)(q:W.excIn K C j i=true):
  ∃ bm N nm Z bs hdct sn sub ab col dd k0 k1 k2 k3 k5 O,h.get? C=some (excClassObj nm Z C N bs bm hdct sn sub ab col dd k0 k1 k2 k3 k5 i)/\h.Ns N O/\O "__init__"=none/\OwnTail h j bm:=by
 unfold W.excIn at q
 split at q
 .rename_i d1 cd sl ho
  split at q
  .rename_i C1 bm k0 k1 k2 k3 n1 k5 hm hs
   simp only[beq_iff_eq,Bool.not_eq_true',Bool.and_eq_true]at q
   obtain⟨⟨⟨⟨⟨Y,U⟩,I⟩,R⟩,z⟩,G⟩:=q
   subst Y U
   obtain⟨a1,a2,a3,a4,a5,a6,a7,a8,a9,ac,aa⟩:=cd
   dsimp only at hm I z G
   subst hm I
   obtain⟨l⟩:=sl
   have hl:l=[k0,k1,k2,k3,some (.builtin n1),k5]:=hs
   subst hl
   exact⟨bm,_,_,_,_,_,_,_,_,_,_,k0,k1,k2,k3,k5,_,X _ _ ho,.of_isNs (W.isNs_of_in X z),W.nsMap_none_of_in X z G,W.tail_of_in X R⟩
  .cases q
 .cases q
def XC (K:W.Frag)(c:Str)(C:Addr):Prop:=W.nsIn K mainGlobals c=some (some (.ref C))/\yk0 K C=some c
def RXp (X:Cx)(pins:List (Addr×Obj))(W:Str->St->Hp->Prop)(ev:Value)(s3:Shared):Prop:=
 ∃(e C:Addr)(a0:Value)(σ':St)(H1:Hp)(s1:Shared)(H':Hp)(B:Heap)(c:Str),ev= .ref e/\Inv X pins σ' H1 s1/\s3.os=s1.os/\AllBare s3.gens/\Flown X.prog X.w X.stack H1 s1 H' B s3.heap/\
  Heap.FlyingW B X.stack e (.ref C) a0 s3.heap/\XC X.K c C/\W c σ' H'
def RX (X:Cx)(pins:List (Addr×Obj))(W:Str->St->Hp->Prop)(ev:Value)(s':Shared):Prop:=
 wpAny (model X.prog X.w) X.A (noteFrame ev X.env) (fun _ s2=>wpAny (model X.prog X.w) X.A (setFlight ev none) (fun _ s3=>RXp X pins W ev s3) noE s2) noE s'
section
variable {X:Cx}{pins:List (Addr×Obj)}{σ:St}{H:Hp}{s:Shared}{W:Str->St->Hp->Prop}
theorem zk2 {E:XK}{N:Value}{s':Shared}(T:Top X)(I:Inv X pins σ H s)(h:CXx X.prog X.w X.stack H s E N s')(U:∀ v o H',E v o H'->∃ c C,v= .ref C/\XC X.K c C/\W c σ H'):RX X pins W N s':=by
 obtain⟨e,C,a0,H',B,rfl,os,bare,f,fl,q⟩:=h
 obtain⟨c,Z,z,O,w⟩:=U _ _ _ q
 cases z
 have fr:X.A.frames=some (X.env::X.outer):=by rw[<-T.stk];exact I.ok.frames
 have G:=fl
 rw[T.stk]at fl
 refine wpAny_looks_onW fr T.frm fl fun h1 hh R=>?_
 have Y:=f.on G.2.2.1 hh.1 R
 refine wpAny_landsW hh fun h2 i j=>?_
 rw[<-T.stk]at i hh
 exact⟨e,C,a0,σ,H,s,H',B,c,rfl,I,os,bare,Y.on hh.2.2.1 i.1 j,i,O,w⟩
theorem xz8 {e C:Addr}{c:Str}{us:List Value}{h1:Heap}(T:Top X)(I:Inv X pins σ H s)(hm:Heap.MadeExcOf s.heap h1 e (.ref C) us)(R:XC X.K c C)(q:W c σ H):RX X pins W (.ref e) { s with heap:=h1 }:=by
 have fr:X.A.frames=some (X.env::X.outer):=by rw[<-T.stk];exact I.ok.frames
 have G:∀ env∈X.stack,∀ a,env.frame=some a->a∈frs X.stack:=fun env j a ha=>List.mem_filterMap.mpr ⟨env,j,ha⟩
 have ff:=PySem.W.funFrames_hide I.stack G
 have i:(PySem.W.hideAll s.heap (frs X.stack)).StaysIn s.heap:=fun b o z=>PySem.W.of_hideAll _ z
 have f0:Flown X.prog X.w X.stack H s H (PySem.W.hideAll s.heap (frs X.stack)) s.heap:=
  ⟨Un.refl,I.hok,i,fun b o z=>(by
   obtain⟨ob,eb⟩:=(I.hok b o z).there
   exact⟨ob,PySem.W.hideAll_get _ eb fun y=>by rw[I.stkFree b y]at z;cases z⟩),fun b o z hb=>⟨o,PySem.W.hideAll_get _ z hb⟩⟩
 obtain⟨t,j,Z,ht⟩:=hm.there
 have N:s.heap.FunFrames (PySem.W.hideAll s.heap (frs X.stack)) (X.env::X.outer):=by rw[<-T.stk];exact ff
 have O:(PySem.W.hideAll s.heap (frs X.stack)).get? e=none:=by
  cases z:(PySem.W.hideAll s.heap (frs X.stack)).get? e with
  |none=>rfl
  |some o=>have:=i e o z;rw[hm.new]at this;cases this
 have key:wpAny (model X.prog X.w) X.A (noteFrame (.ref e) X.env) (fun _ s2=>wpAny (model X.prog X.w) X.A (setFlight (.ref e) none) (fun _ U=>RXp X pins W (.ref e) U) noE s2) noE { s with heap:=h1 }:=by
  unfold noteFrame
  simp only[T.frm]
  refine wpAny_bind (wpAny_field (s:={ s with heap:=h1 }) (x:=Value.none) j rfl (by rfl) ?_)
  rw[if_neg (by decide)]
  refine wpAny_newEntryW (s:={ s with heap:=h1 }) (a0:=.ref t) fr (N.of_keeps fun b o z _=>⟨o,hm.keeps b o z,rfl⟩) T.frm j (fun b o z=>hm.keeps b o (i b o z)) O rfl (by simp) (by rfl) fun h2 hL=>?_
  obtain⟨k1,k2,k3,Y⟩:=hL
  rw[<-T.stk]at k2
  exact⟨e,C,.ref t,σ,H,s,H,_,c,rfl,I,rfl,I.bare,f0.on I.stack k1 ((Heap.UpToSlots.of_keeps hm.keeps).trans Y),⟨k1,O,k2,k3⟩,R,q⟩
 exact key
theorem E3 {E:XK}{j:Value}{s':Shared}(T:Top X)(h:RX X pins (fun c _ H'=>∀ C,XC X.K c C->E (.ref C) none H') j s'):
  wpAny (model X.prog X.w) X.A (leaving X.env j) (fun _ i=>CXx X.prog X.w X.outer X.H₀ X.s₀ E j i) (fun U i=>CXx X.prog X.w X.outer X.H₀ X.s₀ E U i) s':=by
 unfold leaving
 refine wpAny_bind (wpAny_mono h (fun _ s2 h2=>wpAny_mono h2 (fun _ Y R=>?_) fun _ _ z=>z.elim) fun _ _ z=>z.elim)
 obtain⟨e,C,a0,G,H1,s1,H',B,c,rfl,I,os,bare,f,fl,N,q⟩:=R
 obtain⟨l1,l2,l3,O⟩:=fl
 rw[T.stk]at l3
 exact⟨e,C,a0,H',B,rfl,by rw[os];exact I.os,bare,f.out T I os bare,⟨l1,l2,l3.2.2,O⟩,q C N⟩
end
noncomputable abbrev Cx.bear (X:Cx)(pins:List (Addr×Obj))(E:Value->Shared->Prop):Cx:={ X with pn:=X.pn++pins,xe:=E }
section
variable {X:Cx}{pins pins':List (Addr×Obj)}{σ:St}{H:Hp}{s:Shared}{E:Value->Shared->Prop}
theorem Cx.Ok.bear (ok:X.Ok):(X.bear pins E).Ok:=⟨ok.mod,ok.kind,ok.glob,ok.blt,ok.above,ok.inj,ok.has,ok.cab,ok.hd,ok.frames,ok.stk,ok.exf,ok.bs,ok.bsz,ok.noex,ok.exfs,ok.funs,ok.frf⟩
theorem Cx.Ok.unbear (ok:(X.bear pins E).Ok):X.Ok:=⟨ok.mod,ok.kind,ok.glob,ok.blt,ok.above,ok.inj,ok.has,ok.cab,ok.hd,ok.frames,ok.stk,ok.exf,ok.bs,ok.bsz,ok.noex,ok.exfs,ok.funs,ok.frf⟩
theorem Inv.bear (I:Inv X (pins++pins') σ H s):Inv (X.bear pins E) pins' σ H s:=⟨I.ok.bear,I.os,I.bare,I.base,I.loc,I.cell,I.free,I.freeC,fun p hp=>I.pin p (by rw[<-append_assoc];exact hp),I.hok,I.len⟩
theorem Inv.unbear (I:Inv (X.bear pins E) pins' σ H s):Inv X (pins++pins') σ H s:=⟨I.ok.unbear,I.os,I.bare,I.base,I.loc,I.cell,I.free,I.freeC,fun p hp=>I.pin p (by rw[<-append_assoc]at hp;exact hp),I.hok,I.len⟩
theorem Inv.fewer (I:Inv X (pins++pins') σ H s):Inv X pins σ H s:=⟨I.ok,I.os,I.bare,I.base,I.loc,I.cell,I.free,I.freeC,fun p hp=>I.pin p (by rw[<-append_assoc];exact mem_append_left _ hp),I.hok,I.len⟩
theorem SP.bear {D:Ends}{f:Flow}{s':Shared}(h:SP X (pins++pins') D f s'):SP (X.bear pins E) pins' D f s':=by
 cases f with
 |next=>obtain⟨i,H',I,q⟩:=h;exact⟨i,H',I.bear,q⟩
 |brk=>obtain⟨i,H',I,q⟩:=h;exact⟨i,H',I.bear,q⟩
 |cont=>obtain⟨i,H',I,q⟩:=h;exact⟨i,H',I.bear,q⟩
 |ret u=>obtain⟨v,i,H',I,r,q⟩:=h;exact⟨v,i,H',I.bear,r,q⟩
theorem SP.unbear {D:Ends}{f:Flow}{s':Shared}(h:SP (X.bear pins E) pins' D f s'):SP X (pins++pins') D f s':=by
 cases f with
 |next=>obtain⟨i,H',I,q⟩:=h;exact⟨i,H',I.unbear,q⟩
 |brk=>obtain⟨i,H',I,q⟩:=h;exact⟨i,H',I.unbear,q⟩
 |cont=>obtain⟨i,H',I,q⟩:=h;exact⟨i,H',I.unbear,q⟩
 |ret u=>obtain⟨v,i,H',I,r,q⟩:=h;exact⟨v,i,H',I.unbear,r,q⟩
variable (nx:X.xe=noE)
include nx
theorem PT.bear {e:Expr}{t:TT}(h:PT X e t):PT (X.bear pins E) e t:=fun pins' s σ H Q I hw=>
 wpAny_mono (h _ s σ H Q I.unbear hw) (fun _ _ ⟨H',i,q⟩=>⟨H',i.bear,q⟩) fun _ _ z=>by rw[nx]at z;exact z.elim
theorem PA.bear {es:List Expr}{t:TA}(h:PA X es t):PA (X.bear pins E) es t:=fun pos pins' s σ H Q I hw=>
 wpAny_mono (h pos _ s σ H Q I.unbear hw) (fun _ _ ⟨v,H',i,r,q⟩=>⟨v,H',i.bear,r,q⟩) fun _ _ z=>by rw[nx]at z;exact z.elim
theorem PS.bear {st:Stmt}{t:TS}(h:PS X st t):PS (X.bear pins E) st t:=fun pins' s σ H D I hw=>
 wpAny_mono (h _ s σ H D I.unbear hw) (fun _ _ q=>q.bear) fun _ _ z=>by rw[nx]at z;exact z.elim
end
end
section
noncomputable abbrev MXe:=Ro->Option Str
noncomputable abbrev MXs:=Ro->Option (Str×Ro)
noncomputable abbrev WX:=Str->St->Hp->Prop
def TXe (K:PySem.W.Frag)(x:MXe)(W:WX):St->Hp->Prop:=fun σ H=>∃ F0 H0 F ρ c,Rl K F0 H0 F H σ ρ/\x ρ=some c/\∀ F' H',Ext F H F' H'->W c σ H'
def TXs (K:PySem.W.Frag)(x:MXs)(W:WX):St->Hp->Prop:=fun σ H=>∃ F0 H0 F ρ c ρ',Rl K F0 H0 F H σ ρ/\x ρ=some (c,ρ')/\∀ F' H' σ',Rl K F0 H0 F' H' σ' ρ'->Same F F'->W c σ' H'
noncomputable abbrev Cx.rx (X:Cx)(pins:List (Addr×Obj))(W:WX):Cx:=X.bear pins (RX X pins W)
def PEX (X:Cx)(e:Expr)(x:MXe):Prop:=∀ pins W,PE (X.rx pins W) e fun σ H _=>TXe X.K x W σ H
def PAX (X:Cx)(es:List Expr)(x:MXe):Prop:=∀ pins W,PA (X.rx pins W) es fun σ H _=>TXe X.K x W σ H
def PSX (X:Cx)(st:Stmt)(x:MXs):Prop:=∀ pins W,PS (X.rx pins W) st fun _ σ H=>TXs X.K x W σ H
def PSsX (X:Cx)(st:List Stmt)(x:MXs):Prop:=∀ pins W,PSs (X.rx pins W) st fun _ σ H=>TXs X.K x W σ H
noncomputable def xE (x:MXe):MXs:=fun ρ=>(x ρ).map fun c=>(c,ρ)
theorem xE_e {K:PySem.W.Frag}{x:MXe}{W:WX}{σ:St}{H:Hp}(h:TXs K (xE x) W σ H):TXe K x W σ H:=by
 obtain⟨F0,H0,F,ρ,c,ρ',j,e,w⟩:=h
 unfold xE at e
 cases h1:x ρ with
 |none=>rw[h1]at e;cases e
 |some z=>
  rw[h1]at e;cases e
  exact⟨F0,H0,F,ρ,c,j,h1,fun F' H' i=>w F' H' σ (j.go i) i.ff⟩
section
variable {X:Cx}{st:Stmt}{rest:List Stmt}{e c:Expr}{pos:Pos}
noncomputable def ya2:MXs:=fun _=>none
theorem E6:PSsX X rest ya2:=fun _ _ _ _ _ _ _ _ i=>by obtain⟨_,_,_,_,_,_,_,z,_⟩:=i;cases z
theorem PS.or {t u:TS}(h:PS X st t)(k:PS X st u):PS X st fun D σ H=>t D σ H\/u D σ H:=fun pins s σ H D I q=>q.elim (fun z=>h pins s σ H D I z) fun z=>k pins s σ H D I z
noncomputable def xseq (m:MS)(x1 x2:MXs):MXs:=fun ρ=>match m ρ with |some (.nx ρ')=>x2 ρ'|some _=>none|none=>x1 ρ
theorem yw6 {m:MS}{R O:MXs}(nx:X.xe=noE)(h:PSd X st m)(h1:PSX X st R)(h2:PSsX X rest O):PSsX X (st::rest) (xseq m R O):=fun pins W=>
 (W6 (((PS.bear nx h).or (h1 pins W))) (h2 pins W)).imp fun D σ H i=>by
  obtain⟨F0,H0,F,ρ,c,ρ',U,e,w⟩:=i
  unfold xseq at e
  cases h:m ρ with
  |none=>rw[h]at e;exact .inr ⟨F0,H0,F,ρ,c,ρ',U,e,w⟩
  |some o=>
   rw[h]at e
   cases o with
   |nx z=>exact .inl ⟨F0,H0,F,ρ,_,U,h,fun F1 H1 Y I Z=>⟨F0,H0,F1,z,c,ρ',I,e,fun F' H' j N G=>w F' H' j N (Z.trans G)⟩⟩
   |_=>cases e
theorem yw5 {x:MXs}(h:PSX X st x):PSsX X (st::rest) x:=fun pins W=>(W6 (h pins W) (E6 pins W)).imp fun _ _ _ q=>q
theorem J3 {x:MXs}(h:PSX X st x):PSsX X [st] x:=fun pins W=>E7 (h pins W)
noncomputable def xif (c:MB)(x y:MXs):MXs:=fun ρ=>match c ρ with |some true=>x ρ|some false=>y ρ|none=>none
theorem yc2 {ca:MB}{a b:List Stmt}{R O:MXs}(nx:X.xe=noE)(U:PC' X c ca)(ha:PSsX X a R)(Y:PSsX X b O):PSX X (.If c a b pos) (xif ca R O):=fun pins W=>
 (zj0 (PT.bear nx U) (ha pins W) (Y pins W)).imp fun D σ H G=>by
  obtain⟨F0,H0,F,ρ,c,ρ',I,e,w⟩:=G
  unfold xif at e
  split at e
  .rename_i h1
   exact⟨F0,H0,F,ρ,_,I,h1,fun F1 H1 z=>iteT ⟨F0,H0,F1,ρ,c,ρ',I.go z,e,fun F' H' i j N=>w F' H' i j (z.ff.trans N)⟩⟩
  .rename_i h1
   exact⟨F0,H0,F,ρ,_,I,h1,fun F1 H1 z=>iteF ⟨F0,H0,F1,ρ,c,ρ',I.go z,e,fun F' H' i j N=>w F' H' i j (z.ff.trans N)⟩⟩
  .cases e
theorem yj4 {x:MXe}(h:PEX X e x)(hs:swapsWith e none pos.line X.env=pure false:=by rfl):PSX X (.Expr e pos) (xE x):=fun pins W=>(N9 (h pins W) hs).imp fun _ _ _ q=>xE_e q
theorem xy7 {x:MXe}(h:PEX X e x):PSX X (.Return (some e) pos) (xE x):=fun pins W=>(Y9 (h pins W)).imp fun _ _ _ q=>xE_e q
theorem yh1 {x:MXe}{es:List Expr}(h:PEX X e x)(hs:starEach (e::es) X.env=(false,eval e X.env)::starEach es X.env:=by rfl):PAX X (e::es) x:=fun pins W=>by
 have hn:PA (X.rx pins W) es (fun _ _ _=>False):=fun _ _ _ _ _ _ _ z=>z.elim
 exact(j9 (h pins W) hn hs).imp fun _ _ _ q=>q
noncomputable abbrev MFX:=List D->Option Str
def spX (K:W.Frag)(n:Nat)(x:MFX):Sp:=fun vs H _ E=>vs.length=n/\∃ F ds c,Same F H/\Reps K F vs ds/\x ds=some c/\∀ C F' H',XC K c C->Ext F H F' H'->E (.ref C) none H'
@[irreducible] noncomputable def T3 (x:MFX)(m:ML):MXe:=fun ρ=>(m ρ).bind x
theorem J5 {k n:Nat}{f:Addr}{fd:FuncData}{ps:List Str}{N:MFX}{m:ML}{x:Str}{p:Pos}{es:List Expr}(nx:X.xe=noE)(T:Top X)(F:FnOk X.prog X.w X.K X.mg X.base (CXx X.prog X.w) k f fd ps (spX X.K n N))(hr:Room k X.A)(hg:Gl X x)(hm:X.mg x=some (.ref f))
  (hk:PySem.W.keepIn X.K (.ref f)=true) (hb:Binds X.K fd ps []) (hl:(e::es).length=n) (ha:PAs X (e::es) m) (Y:∀ ρ ds,m ρ=some ds->ds.length=(e::es).length)
  (a1:(x==("__debug__":Str))=false:=by decide) (he:starEach (e::es) X.env=(false,eval e X.env)::starEach es X.env:=by rfl) (U:(backTo pos (starEach es X.env)).any (·.1)=false:=by rfl):
  PEX X (.Call (.Name x p) (e::es) [] pos) (T3 N m):=by
 intro pins W pins' s σ H Q I h
 obtain⟨F0,H0,F1,ρ,c,rl,e1,w⟩:=h
 unfold T3 at e1
 cases h1:m ρ with
 |none=>rw[h1]at e1;cases e1
 |some ds=>
  rw[h1]at e1
  have e1:N ds=some c:=e1
  have a2:PA (X.rx pins W) (e::es) (TAs X.K m):=PA.bear nx ha
  refine wpAny_Call_Name_kw (P1 I hg hm ?_ a1)
  refine PySem.W.callWith_K (h₀:=X.base) I.ok.mod.kin hk (thn (a2 pos pins' s σ H (fun vs H1=>vs.length=n/\∃ F2,Ext F1 H F2 H1/\Reps X.K F2 vs ds) I ⟨F0,H0,F1,ρ,ds,rl,h1,fun vs F2 H2 O r2=>⟨by rw[r2.length,Y ρ ds h1,hl],F2,O,r2⟩⟩) fun us s1 ⟨vs,H1,R,r,hn,F2,O,r2⟩=>⟨R.kIn,?_⟩) he U
  have i:spX X.K n N vs H1 (fun _ _=>False) (fun v _ H'=>∃ c C,v= .ref C/\XC X.K c C/\W c σ H'):=⟨hn,F2,ds,c,O.fh,r2,e1,fun C F' H' xc x3=>⟨c,C,rfl,xc,w F' H' (O.trans x3)⟩⟩
  have Z:us.length=ps.length:=by rw[<-r.length];exact F.len _ _ _ _ i
  have G:=hb s1 us R.kIn (by rw[append_nil];exact Z)
  rw[append_nil]at G
  refine wpAny_call (codeAny_mono (F.run X.A X.stack s1 H1 ⟨us,[]⟩ us vs _ _ hr R.env0 G r i) fun r' s' j=>?_)
  cases r' with
  |error ev=>exact zk2 (E:=fun v _ H'=>∃ c C,v= .ref C/\XC X.K c C/\W c σ H') T R.unbear.fewer j fun v o H' z=>z
  |ok fl=>
   cases fl with
   |ret u=>obtain⟨_,_,_,_,_,_,_,z⟩:=j;exact z.elim
   |next=>exact False.elim j
   |brk=>exact False.elim j
   |cont=>exact False.elim j
noncomputable def zy1 (c:Str)(m:ML):MXs:=fun ρ=>(m ρ).map fun _=>(c,ρ)
theorem zq1 {C:Addr}{x:Str}{es:List Expr}{m:ML}{n:Nat}{np cpos:Pos}(nx:X.xe=noE)(T:Top X)(hc:X.calm=true)(hg:Gl X x)(hm:X.mg x=some (.ref C))(xc:XC X.K x C)(q:PySem.W.excIn X.K C bmV "ValueError.__new__"=true)
  (ha:PAs X (e::es) m) (hl:∀ ρ ds,m ρ=some ds->ds.length=n) (hn:n<=sizeLine) (R:(x==("__debug__":Str))=false:=by decide)
  (he:starEach (e::es) X.env=(false,eval e X.env)::starEach es X.env:=by rfl) (j:(backTo cpos (starEach es X.env)).any (·.1)=false:=by rfl):
  PSX X (.Raise (some (.Call (.Name x np) (e::es) [] cpos)) none pos) (zy1 x m):=by
 intro pins W pins' s σ H D I h
 obtain⟨F0,H0,F1,ρ,c,ρ',Z,e1,w⟩:=h
 unfold zy1 at e1
 cases h1:m ρ with
 |none=>rw[h1]at e1;cases e1
 |some ds=>
  rw[h1]at e1;cases e1
  obtain⟨bm,N,nm,qn,bs,hdct,sn,sub,ab,col,dd,k0,k1,k2,k3,k5,mN,hC,hN,z,TL⟩:=xobj I.mod.kin q
  have U:PA (X.rx pins W) (e::es) (TAs X.K m):=PA.bear nx ha
  have h2:=U cpos pins' s σ H (fun vs H1=>vs.length=n/\W x σ H1) I ⟨F0,H0,F1,ρ,ds,Z,h1,fun vs F2 H2 Y r2=>⟨by rw[r2.length];exact hl ρ ds h1,w F2 H2 σ (Z.go Y) Y.ff⟩⟩
  refine wpAny_Raise_call_subT (C:=C) (N:=N) (bm:=bm) (nm:=nm) (q:=qn) (bs:=bs) (sub:=sub) (sn:=sn) (hdct:=hdct) (col:=col) (ab:=ab) (dd:=dd) (k0:=k0) (k1:=k1) (k2:=k2) (k3:=k3) (k5:=k5) PySem.F.excBase_ValueError (TL.hasType PySem.F.excBase_ValueError.hasBase) (I.ok.hd hc) ?_ z (P1 I hg hm ⟨rfl,?_⟩ R)
  .rw[he]
   show (false || (backTo cpos (starEach es X.env)).any (·.1))=false
   rw[j];rfl
  .rw[he]at h2 ⊢
   refine Calls.evalArgs_plain (wpAny_mono h2 (fun us s2 ⟨vs,H1,i,r1,O,q1⟩=>⟨rfl,by rw[<-r1.length,O];exact hn,i.bk _ _ hC,hN.keeps i.bk,TL.keeps i.bk,fun h3 a G=>?_⟩) fun _ _ y=>y)
   exact xz8 T i.unbear.fewer G xc q1
noncomputable def runX (n:Nat)(x:MXs):MFX:=fun ds=>(x (v7 n ds)).map (·.1)
theorem Fun.okX {P:Program}{w:World}{K:PySem.W.Frag}{mg:Str->Option Value}{base:Heap}{x qual:Str}{st:Stmt}{f:Addr}{fd:FuncData}{N ps:List Str}{k:Nat}{m:MXs}(Fn:Fun K x qual st f fd)(Sc:FnScope N ps (y8 st))
  (i:∀(cdv:Value)(A:Around)(outer:List Env)(s:Shared)(H:Hp)(E:XK),Room k (A.deeper (envOfC qual (y8 st) s.heap.objs.size f cdv))->PSsX (cxOf (CXx P w) P w K mg base N qual (y8 st) f cdv A outer s H E).nox (p0 st) m):
  FnOk P w K mg base (CXx P w) (k+1) f fd ps (spX K ps.length (runX N.length m)):=by
 obtain⟨oc,od,kV,doc,pm,an,cdv,ct,osl,rfl,lk,j⟩:=Fn.ex
 refine ye2 lk j Sc (fun vs H Q E h=>h.1) fun A outer s H vs Q E hr h=>?_
 obtain⟨hl,F,ds,c,U,Y,e,R⟩:=h
 unfold runX at e
 cases h1:m (v7 N.length ds)with
 |none=>rw[h1]at e;cases e
 |some o=>
  obtain⟨c',ρ'⟩:=o
  rw[h1]at e;cases e
  have hb:=i cdv A outer s H E hr
  let W:WX:=fun c _ H'=>∀ C,XC K c C->E (.ref C) none H'
  refine⟨fun _ σ H=>TXs K m W σ H,fun pins s1 σ H1 D I q=>?_,F,H,F,v7 N.length ds,c',ρ',S6 U Y,h1,fun F' H' G Z _ C O=>R C F' H' O Z.ext⟩
  have I1:Inv (cxOf (CXx P w) P w K mg base N qual (y8 st) f cdv A outer s H E).nox (pins++[]) σ H1 s1:=by rw[append_nil];exact I.wish _
  refine wpAny_mono (hb pins W [] s1 σ H1 D I1.bear q) (fun fl s' z=>?_) fun ev s' z=>?_
  .have:=z.unbear
   rw[append_nil]at this
   exact this.unwish
  .exact E3 (X:=(cxOf (CXx P w) P w K mg base N qual (y8 st) f cdv A outer s H E).nox) ⟨rfl,rfl,rfl⟩ z
end
end
section
section
variable {X:Cx}{pins:List (Addr×Obj)}{E:Value->Shared->Prop}(nx:X.xe=noE)
include nx
theorem PI.bear {tg it:Expr}{t:TI}(h:PI X tg it t):PI (X.bear pins E) tg it t:=fun pins' s σ H R I hw=>
 wpAny_mono (h _ s σ H R I.unbear hw) (fun v s1 h1=>wpAny_mono h1 (fun i s2 ⟨it,fp,tn,J,H',e,I',T,st,f,q⟩=>⟨it,fp,tn,J,H',e,I'.bear,T,st,fun b j=>by
  obtain⟨Z,Y,U,O,N,G⟩:=f b j
  exact⟨Z,Y,U,O,N,fun p hp=>G p (by rw[<-append_assoc];exact hp)⟩,q⟩) fun _ _ z=>by rw[nx]at z;exact z.elim) fun _ _ z=>by rw[nx]at z;exact z.elim
end
section
variable {X:Cx}{e c:Expr}{pos:Pos}{st:Stmt}{rest:List Stmt}
end
end
section
noncomputable abbrev Cx.inX (X:Cx)(a:Addr):Cx:={ X with A:=X.A.mark (some (.ref a)),calm:=false }
section
variable {X:Cx}{pins:List (Addr×Obj)}{σ:St}{H:Hp}{s:Shared}{a C:Addr}
theorem Cx.Ok.inX (ok:X.Ok):(X.inX a).Ok:=⟨ok.mod,ok.kind,ok.glob,ok.blt,ok.above,ok.inj,ok.has,ok.cab,(fun z=>by cases z),ok.frames,ok.stk,ok.exf,ok.bs,ok.bsz,ok.noex,ok.exfs,ok.funs,ok.frf⟩
theorem Inv.inX (I:Inv X pins σ H s):Inv (X.inX a) pins σ H s:=⟨I.ok.inX,I.os,I.bare,I.base,I.loc,I.cell,I.free,I.freeC,I.pin,I.hok,I.len⟩
theorem Inv.outX (ok:X.Ok)(I:Inv (X.inX a) pins σ H s):Inv X pins σ H s:=⟨ok,I.os,I.bare,I.base,I.loc,I.cell,I.free,I.freeC,I.pin,I.hok,I.len⟩
theorem Inv.gone {i:Nat}{n:Str}{h':Heap}{t':Nat}{v:Option Value}{m:Str->Option Value}(I:Inv X pins σ H s)(hN:X.N.Nodup)(hi:X.N[i]? =some n)(hm:s.heap.Ns X.env.locals m)(hn:h'.Ns X.env.locals (fun x=>if x=n then v else m x))(hs:Heap.SameBut X.env.locals s.heap h'):
  Inv X pins (σ.set i none) H { s with heap:=h',toks:=t' }:=by
 have old:∀ b o,X.s₀.heap.get? b=some o->b≠X.env.locals:=fun b o e=>Nat.ne_of_lt (Nat.lt_of_lt_of_le (Heap.lt_size e) I.ok.above)
 refine⟨I.ok,I.os,I.bare,⟨fun b o e n hb G=>(hs.2 b (old b o e)).trans (I.base.keep b o e n hb G),fun b o e n hb G=>?_,I.base.free,fun b o e G=>?_,I.base.tups,I.base.frzs,I.base.tbls⟩,⟨_,hn,fun j y u e1 e2 e3=>?_⟩,fun y c e=>?_,I.free,I.freeC,fun p hp=>?_,fun b ob e=>?_,by rw[length_set];exact I.len⟩
 .obtain⟨sl,e1⟩:=I.base.slot b o e n hb G
  exact⟨sl,(hs.2 b (old b o e)).trans e1⟩
 .obtain⟨o1,e1⟩:=I.base.there b o e G
  exact⟨o1,(hs.2 b (old b o e)).trans e1⟩
 .have hj:j≠i:=fun z=>by
   subst z
   have hl:j<σ.length:=by
    rcases Nat.lt_or_ge j σ.length with z|z
    .exact z
    .rw[getElem?_eq_none (by simpa using z)]at e2;cases e2
   rw[getElem?_set_self hl]at e2;cases e2
  rw[getElem?_set_ne (Ne.symm hj)]at e2
  obtain⟨m0,Y,Z⟩:=I.loc
  have U:∀ z,m0 z=m z:=fun z=>by
   obtain⟨oo,es,ep,ho,hd,_,hf⟩:=Y
   obtain⟨a2,a3,a4,O,R,_,a1⟩:=hm
   rw[ho]at O;cases O
   rw[hd]at R;cases R
   rw[<-hf,<-a1]
  obtain⟨w,r,l⟩:=Z j y u e1 e2 e3
  refine⟨w,r,?_⟩
  have hy:y≠n:=fun z=>hj (zu2 hN e1 (z ▸ hi))
  rcases l with⟨k,q⟩|⟨k,c,e,z⟩
  .exact .inl ⟨k,by show (if y=n then v else m y)=some w;rw[if_neg hy,<-U];exact q⟩
  .exact .inr ⟨k,c,e,z.sameBut hs (I.cne y c e)⟩
 .obtain⟨w,z⟩:=I.cell y c e
  exact⟨w,z.sameBut hs (I.cne y c e)⟩
 .obtain⟨e,n,ne,nf,d⟩:=I.pin p hp
  exact⟨(hs.2 p.1 ne).trans e,n,ne,nf,d⟩
 .refine(I.hok b ob e).stay (fun c u hc q=>(hs.2 c ?_).trans q) (fun _ q=>q) fun _ _ q=>q
  rintro rfl
  rcases hc with z|z
  .rw[<-z,I.free]at e;cases e
  .rw[I.free]at z;cases z
theorem Inv.track {o:HO}(I:Inv X pins σ H s)(O:X.s₀.heap.get? a=none)(N:a≠X.env.locals)(G:∀ x c,X.env.cells.lookup x=some c->c≠a)(hp:∀ p∈X.pn++pins,p.1≠a)(hn:H a=none)(new:ObjOk X.prog X.w (upd H a o) s.heap a o):
  Inv X pins σ (upd H a o) s:=by
 have nb:∀ b o,X.s₀.heap.get? b=some o->b≠a:=fun b o e z=>by rw[z,O]at e;cases e
 refine⟨I.ok,I.os,I.bare,⟨I.base.keep,I.base.slot,fun b o e n j=>?_,I.base.there,fun b xs e=>?_,fun b o u e=>?_,fun b ps e=>?_⟩,I.loc,I.cell,?_,fun x c e=>?_,fun p i=>?_,fun b u e=>?_,I.len⟩
 .rw[w5 (nb b o e)];exact I.base.free b o e n j
 .have:=I.base.tups b xs e
  rw[w5 (m6 this hn)];exact this
 .have:=I.base.frzs b o u e
  rw[w5 (m6 this hn)];exact this
 .obtain⟨more,this⟩:=I.base.tbls b ps e
  exact⟨more,by rw[w5 (m6 this hn)];exact this⟩
 .rw[w5 (Ne.symm N)];exact I.free
 .rw[w5 (G x c e)];exact I.freeC x c e
 .obtain⟨e,n,r⟩:=I.pin p i
  exact⟨e,by rw[w5 (hp p i)];exact n,r⟩
 .by_cases hb:b=a
  .subst hb;rw[w4]at e;cases e;exact new
  .rw[w5 hb]at e
   exact(I.hok b u e).stay (fun c v _ q=>q) (fun c q=>by rw[w5 (m6 q hn)];exact q) fun c xs q=>by rw[w5 (m6 q hn)];exact q
end
theorem Rl.drop {K:W.Frag}{F0 H0 F H:Hp}{σ:St}{ρ:Ro}(r:Rl K F0 H0 F H σ ρ)(i:Nat):Rl K F0 H0 F H (σ.set i none) (ρ.set i none):=by
 have get:∀(j:Nat) x,(ρ.set i none)[j]? =some (some x)->i≠j/\ρ[j]? =some (some x):=fun j x e=>by
  by_cases G:i=j
  .subst G
   have hl:i<ρ.length:=by
    rcases Nat.lt_or_ge i ρ.length with z|z
    .exact z
    .rw[getElem?_eq_none (by simpa using z)]at e;cases e
   rw[getElem?_set_self hl]at e;cases e
  .rw[getElem?_set_ne G]at e;exact⟨G,e⟩
 have N:∀(j:Nat) x,(σ.set i none)[j]? =some (some x)->σ[j]? =some (some x):=fun j x e=>by
  by_cases G:i=j
  .subst G
   have hl:i<σ.length:=by
    rcases Nat.lt_or_ge i σ.length with z|z
    .exact z
    .rw[getElem?_eq_none (by simpa using z)]at e;cases e
   rw[getElem?_set_self hl]at e;cases e
  .rw[getElem?_set_ne G]at e;exact e
 refine⟨r.ext,by simp[r.len],fun j d e=>?_,fun j ds e=>?_,fun j k p ds es I e1 e2 e3 O=>r.inj j k p ds es I (get j _ e1).2 (get k _ e2).2 (N j _ e3) (N k _ O),fun j p ds e=>?_,fun j k p ds es e1 e2 e3=>r.obn j k p ds es (get j _ e1).2 (get k _ e2).2 (N k _ e3),fun j k p q ds es e1 e2=>r.ob1 j k p q ds es (get j _ e1).2 (get k _ e2).2⟩
 .obtain⟨n,e⟩:=get j _ e
  rw[getElem?_set_ne n];exact r.sh j d e
 .obtain⟨n,e⟩:=get j _ e
  rw[getElem?_set_ne n];exact r.own j ds e
 .obtain⟨n,e⟩:=get j _ e
  rw[getElem?_set_ne n];exact r.ob j p ds e
section
variable {X:Cx}{pos np hpos:Pos}
end
end
section
structure RoomN (k:Nat)(A:Around):Prop where
 dp:A.depth+3*k+5<recursionLimit
 un:A.units+16*k+200<cLine
structure FnOkN (P:Program)(w:World)(K:W.Frag)(mg:Str->Option Value)(base:Heap)(CX:CXT)(k:Nat)(f:Addr)(fd:FuncData)(ps:List Str)(sp:Sp):Prop where
 len:∀ vs H Q E,sp vs H Q E->vs.length=ps.length
 run:∀(A:Around)(outer:List Env)(s:Shared)(H:Hp)(args:Args)(us:List Value)(vs:List V)(Q:VK)(E:XK),RoomN k A->Env0 P w K mg base A outer s H->BindsTo s fd args (ps.zip us)->Vals vs us->sp vs H Q E->
  codeAny (model P w) A (.call (.ref f) args) (CR CX outer P w H s Q E) s
section
variable {X:Cx}{CX:CXT}{k:Nat}{f:Addr}{fd:FuncData}{ps:List Str}{sp:Sp}{dvs:List V}{ds:List Value}{E:XK}{x:Str}{p pos:Pos}{e:Expr}{es:List Expr}{t:TA}
end
@[irreducible] noncomputable def misX (tab:List (Str×Bool))(m:ME):ME:=fun ρ=>match m ρ with |some (.exc c)=>(tab.lookup c).map .bl|_=>none
section
variable {X:Cx}{a:Expr}{ma:ME}{pos:Pos}
def rIsX (K:W.Frag)(cv:Value)(tab:List (Str×Bool))(y:V):List V->Hp->VK->Prop:=fun vs H Q=>∃ b c k,vs=[.ref b,y]/\(∃ C,XC K c C/\H b=some (.ext (XAt b C)))/\tab.lookup c=some k/\Q (.bl k) H
theorem zd4 {cv:Value}{y:V}{tab:List (Str×Bool)}(j:∀ u,RelV y u->u=cv)(N:∀ c k,tab.lookup c=some k->∀ C,XC X.K c C->XCls X.K C/\W.kitOne X.K (.ref C) cv=some k):CallR X (.builtin "isinstance") (rIsX X.K cv tab y):=by
 intro pins s σ H xs us Q I r h
 obtain⟨b,c,k,rfl,⟨C,i,O⟩,e,q⟩:=h
 obtain⟨u,w,rfl,rx,r2⟩:=zc4 r
 cases rx
 cases j w r2
 obtain⟨z,G⟩:=N c k e C i
 exact W.kia_one (ze4 z) I.kIn (I.xat O) G (fun z=>nomatch z) fun tk=>⟨.bl k,H,I.tok _,rfl,q⟩
theorem yq7 {cv:Value}{y:V}{tab:List (Str×Bool)}{ty:TE}(I:∀ σ H Q,Q y H->ty σ H Q){σ:St}{H:Hp}{Q:VK}(h:TD X.K (misX tab ma) σ H Q):tCB (rIsX X.K cv tab y) (yk4 (TD X.K ma) (yk4 ty tNil)) σ H Q:=by
 obtain⟨F0,H0,F,ρ,g,z,e,q⟩:=h
 unfold misX at e
 split at e
 .rename_i c h1
  cases h2:tab.lookup c with
  |none=>rw[h2]at e;cases e
  |some k=>
   rw[h2]at e;cases e
   refine⟨F0,H0,F,ρ,_,z,h1,fun v F1 H1 i G=>?_⟩
   cases G with
   |exc j N=>exact I _ _ _ ⟨_,c,k,rfl,⟨_,j,i.fh _ _ N⟩,h2,q _ F1 H1 i (.bl _)⟩
 .cases e
theorem yu5 {c:Str}{i:Addr}{p p2:Pos}{tab:List (Str×Bool)}(R:Gl X "isinstance")(hm:X.mg "isinstance"=none)(N:Gl X c)(I:X.mg c=some (.ref i))(ha:PD X a ma)
  (O:∀ c k,tab.lookup c=some k->∀ C,XC X.K c C->XCls X.K C/\W.kitOne X.K (.ref C) (.ref i)=some k) (hd:(c==("__debug__":Str))=false:=by decide)
  (hs:starEach (a::[.Name c p2]) X.env=(false,eval a X.env)::starEach [.Name c p2] X.env:=by rfl) (j:starEach [.Name c p2] X.env=(false,eval (.Name c p2) X.env)::starEach [] X.env:=by rfl)
  (G:(backTo pos (starEach [.Name c p2] X.env)).any (·.1)=false:=by rfl):PD X (.Call (.Name "isinstance" p) [a,.Name c p2] [] pos) (misX tab ma):=
 (e7 (zd4 (y:=.ref i) (cv:=.ref i) (fun u z=>z) O) R hm PyProof.Rows.boot_isinstance (j9 ha (j9 (M3 (v:=.ref i) N I rfl hd) pa_nil j) hs) (by decide) (by decide) hs G).imp fun σ H Q h=>yq7 (fun _ _ _ z=>z) h
theorem xw9 {c:Str}{T:String}{p p2:Pos}{tab:List (Str×Bool)}(R:Gl X "isinstance")(hm:X.mg "isinstance"=none)(I:Gl X c)(G:X.mg c=none)(N:bootBuiltins c=some (.type T))(ha:PD X a ma)
  (O:∀ c k,tab.lookup c=some k->∀ C,XC X.K c C->XCls X.K C/\W.kitOne X.K (.ref C) (.type T)=some k) (hn:c≠"__name__":=by decide) (hd:(c==("__debug__":Str))=false:=by decide)
  (hs:starEach (a::[.Name c p2]) X.env=(false,eval a X.env)::starEach [.Name c p2] X.env:=by rfl) (i:starEach [.Name c p2] X.env=(false,eval (.Name c p2) X.env)::starEach [] X.env:=by rfl)
  (j:(backTo pos (starEach [.Name c p2] X.env)).any (·.1)=false:=by rfl):PD X (.Call (.Name "isinstance" p) [a,.Name c p2] [] pos) (misX tab ma):=
 (e7 (zd4 (y:=.ty T) (cv:=.type T) (fun u z=>z) O) R hm PyProof.Rows.boot_isinstance (j9 ha (j9 (yu0 (v:=.ty T) I G N rfl hn hd) pa_nil i) hs) (by decide) (by decide) hs j).imp fun σ H Q h=>yq7 (fun _ _ _ z=>z) h
end
noncomputable def ym7 (K:W.Frag)(C:Addr):Bool:=
 (W.findIn K (.ref C) "__getattribute__"==some (some (.builtin "BaseException.__getattribute__")))&&(W.findIn K (.ref C) "__getattr__"==some none)&&(W.findIn K (.ref C) "__class__"==some (some (.builtin "object.__class__")))&&
  (W.mroIn K C (.type "object")==some true)&&(W.mroIn K C (.type "BaseException")==some true)
theorem T2 {K:W.Frag}{C:Addr}(h:ym7 K C=true):XCls K C:=by
 unfold ym7 at h
 simp only[Bool.and_eq_true,beq_iff_eq]at h
 exact⟨h.1.1.1.1,h.1.1.1.2,h.1.1.2,h.1.2,h.2⟩
theorem XC.eq {K:W.Frag}{c:Str}{C x:Addr}(h:XC K c C)(e:W.nsIn K mainGlobals c=some (some (.ref x))):C=x:=by
 have:=h.1.symm.trans e
 cases this;rfl
theorem S9 {P:Str->Bool->Prop}:∀{tab:List (Str×Bool)},(∀ p∈tab,P p.1 p.2)->∀ c k,tab.lookup c=some k->P c k:=fun h c k e=>h (c,k) (PySem.mem_of_lookup e)
end
section
def PCs (X:Cx)(es:List Expr)(Cs:List Addr):Prop:=PA X es fun _ H Q=>Q (Cs.map V.ref) H
section
variable {X:Cx}{a:Expr}{ma:ME}{pos:Pos}
theorem xv2:PCs X [] []:=pa_nil
theorem O4 {c:Str}{i:Addr}{p:Pos}{es:List Expr}{j:List Addr}(G:Gl X c)(hm:X.mg c=some (.ref i))(z:PCs X es j)(hd:(c==("__debug__":Str))=false:=by decide)(hs:starEach (.Name c p::es) X.env=(false,eval (.Name c p) X.env)::starEach es X.env:=by rfl):
  PCs X (.Name c p::es) (i::j):=(j9 (M3 (v:=.ref i) G hm rfl hd) z hs).imp fun _ _ _ q=>q
theorem zs9:∀{i:List Addr}{us:List Value},Vals (i.map V.ref) us->us=i.map Value.ref
 |[],_,.nil=>rfl
 |_::_,_,.cons r t=>by
  cases r
  rw[zs9 t];rfl
def xe8 (K:W.Frag)(Cs:List Addr)(tab:List (Str×Bool)):List V->Hp->VK->Prop:=fun vs H Q=>∃ b p c k,vs=[.ref b,.ref p]/\H p=some (.tup (Cs.map V.ref))/\(∃ C,XC K c C/\H b=some (.ext (XAt b C)))/\tab.lookup c=some k/\Q (.bl k) H
theorem yo9 {i:List Addr}{tab:List (Str×Bool)}(Y:∀ c k,tab.lookup c=some k->∀ C,XC X.K c C->XCls X.K C/\W.kitAny X.K (.ref C) (i.map Value.ref)=some k):CallR X (.builtin "isinstance") (xe8 X.K i tab):=by
 intro pins s σ H xs us Q I r h
 obtain⟨b,p,c,k,rfl,hp,⟨C,N,Z⟩,e,q⟩:=h
 obtain⟨u,w,rfl,rx,r2⟩:=zc4 r
 cases rx
 cases r2
 obtain⟨z,its,O,⟨⟨cls,dd,data,sl⟩,U,j,n,hd⟩⟩:=(show ObjOk X.prog X.w H s.heap p (.tup (i.map V.ref))from I.hok p _ hp)
 simp only at j hd
 subst j hd
 have hi:=zs9 O
 subst hi
 obtain⟨G,R⟩:=Y c k e C N
 exact W.kia_tup (ze4 G) I.kIn (I.xat Z) U R (fun z=>nomatch z) fun tk=>⟨.bl k,H,I.tok _,rfl,q⟩
theorem xw8 {p p2:Pos}{k2:Nat}{es:List Expr}{j:List Addr}{tab:List (Str×Bool)}(hg:Gl X "isinstance")(hm:X.mg "isinstance"=none)(N:PCs X es j)(Z:j.length<=sizeLine)(ha:PD X a ma)
  (hk:∀ c k,tab.lookup c=some k->∀ C,XC X.K c C->XCls X.K C/\W.kitAny X.K (.ref C) (j.map Value.ref)=some k)
  (hs:starEach (a::[.Tuple es k2 p2]) X.env=(false,eval a X.env)::starEach [.Tuple es k2 p2] X.env:=by rfl) (G:starEach [.Tuple es k2 p2] X.env=(false,eval (.Tuple es k2 p2) X.env)::starEach [] X.env:=by rfl)
  (I:(backTo pos (starEach [.Tuple es k2 p2] X.env)).any (·.1)=false:=by rfl):PD X (.Call (.Name "isinstance" p) [a,.Tuple es k2 p2] [] pos) (misX tab ma):=
 (e7 (yo9 hk) hg hm PyProof.Rows.boot_isinstance (j9 ha (j9 (yv7 N) pa_nil G) hs) (by decide) (by decide) hs I).imp fun σ H Q i=>by
  obtain⟨F0,H0,F,ρ,g,U,e,q⟩:=i
  unfold misX at e
  split at e
  .rename_i c h1
   cases h2:tab.lookup c with
   |none=>rw[h2]at e;cases e
   |some k=>
    rw[h2]at e;cases e
    refine⟨F0,H0,F,ρ,_,U,h1,fun v F1 H1 z Y=>?_⟩
    refine⟨by rw[length_map];exact Z,fun t ht=>?_⟩
    cases Y with
    |exc R hb=>
     have O:Ext F1 H1 (upd F1 t (.tup (j.map V.ref))) (upd H1 t (.tup (j.map V.ref))):=Ext.laid z.fh ht
     exact⟨_,t,c,k,rfl,w4,⟨_,R,O.hh _ _ (z.fh _ _ hb)⟩,h2,q _ _ _ (z.trans O) (.bl _)⟩
  .cases e
open PySem.SeqAt in
end
end
section
section
variable {X:Cx}{pos:Pos}
end
end
section
section
variable {X:Cx}{v:Expr}{mv:ME}{pos:Pos}
end
theorem us1 {P:List Value->Prop}(h:∀ a,P [a]):∀ us:List Value,us.length=1->P us
 |[a],_=>h a
theorem us2 {P:List Value->Prop}(h:∀ a b,P [a,b]):∀ us:List Value,us.length=2->P us
 |[a,b],_=>h a b
theorem us3 {P:List Value->Prop}(h:∀ a b c,P [a,b,c]):∀ us:List Value,us.length=3->P us
 |[a,b,c],_=>h a b c
theorem us4 {P:List Value->Prop}(h:∀ a b c d,P [a,b,c,d]):∀ us:List Value,us.length=4->P us
 |[a,b,c,d],_=>h a b c d
end
section
section
variable {X:Cx}{e:Expr}{pos:Pos}
end
end
section
section
variable {X:Cx}{pins:List (Addr×Obj)}{σ:St}
end
end
section
inductive RPs (K:W.Frag)(F H:Hp):List Addr->List (List D)->Prop
 |nil:RPs K F H [] []
 |cons {q:Addr} {xs:List V} {ds:List D} {qs:List Addr} {dss:List (List D)}:H q=some (.lst xs)->Reps K F xs ds->RPs K F H qs dss->RPs K F H (q::qs) (ds::dss)
section
variable {K:W.Frag}{F H F' H':Hp}
theorem RPs.mono (e:Same F F')(k:Same H H'):∀{qs:List Addr}{dss:List (List D)},RPs K F H qs dss->RPs K F' H' qs dss
 |_,_,.nil=>.nil
 |_,_,.cons h r t=>.cons (k _ _ h) (r.mono e) (RPs.mono e k t)
theorem RPs.keep (e:Same F F'):∀{qs:List Addr}{dss:List (List D)},(∀ q∈qs,∀ o,H q=some o->H' q=some o)->RPs K F H qs dss->RPs K F' H' qs dss
 |_,_,_,.nil=>.nil
 |_,_,k,.cons h r t=>.cons (k _ mem_cons_self _ h) (r.mono e) (RPs.keep e (fun q i=>k q (mem_cons_of_mem _ i)) t)
theorem RPs.snoc {q:Addr}{xs:List V}{ds:List D}(h:H q=some (.lst xs))(r:Reps K F xs ds):∀{qs:List Addr}{dss:List (List D)},RPs K F H qs dss->RPs K F H (qs++[q]) (dss++[ds])
 |_,_,.nil=>.cons h r .nil
 |_,_,.cons a b t=>.cons a b (RPs.snoc h r t)
theorem RPs.length:∀{qs:List Addr}{dss:List (List D)},RPs K F H qs dss->qs.length=dss.length
 |_,_,.nil=>rfl
 |_,_,.cons _ _ t=>congrArg (·+1) (RPs.length t)
theorem RPs.some:∀{qs:List Addr}{dss:List (List D)},RPs K F H qs dss->∀ q∈qs,∃ o,H q=some o
 |_,_,.cons a _ t,q,i=>by
  rcases List.mem_cons.mp i with e|i
  .rw[e];exact⟨_,a⟩
  .exact RPs.some t q i
end
noncomputable abbrev MP:=Ro->Option (List (List D))
structure Pots (K:W.Frag)(H F' H':Hp)(p:Addr)(qs:List Addr)(dss:List (List D)):Prop where
 hp:H p=none
 fp:F' p=none
 at':H' p=some (.lst (qs.map V.ref))
 new:∀ q∈qs,H q=none/\F' q=none
 nd:(p::qs).Nodup
 rep:RPs K F' H' qs dss
def TPt (K:W.Frag)(m:MP):TE:=fun σ H Q=>∃ F0 H0 F ρ dss,Rl K F0 H0 F H σ ρ/\m ρ=some dss/\∀ p qs F' H',Ext F H F' H'->Pots K H F' H' p qs dss->Q (.ref p) H'
theorem Ext.stays {F H F' H':Hp}{p:Addr}{o:HO}(x:Ext F H F' H')(j:F p=none)(i:H p=some o):F' p=none:=by
 cases q:F' p with
 |none=>rfl
 |some u=>have:=x.new p j (by rw[q];simp);rw[this]at i;cases i
section
variable {X:Cx}{a b c e:Expr}{pos:Pos}
noncomputable def zy0 (g:Tg)(elt:ML):List D->Ro->List (List D)->Option (List (List D))
 |[],_,acc=>some acc
 |it::its,ρ,acc=>match tgD g it ρ with
  |some ρ1=>(match elt ρ1 with
   |some ds=>if acc.length<sizeLine then zy0 g elt its ρ1 (acc++[ds])else none
   |none=>none)
  |none=>none
noncomputable def L8 (src:List (Option Nat))(mi:ML)(g:Tg)(elt:ML):MP:=fun ρ=>(mi ρ).bind fun its=>zy0 g elt its (Y2 src ρ) []
theorem xr1 {K:W.Frag}{src:List (Option Nat)}{mi:ML}{g:Tg}{Z:ML}{σ:St}{H:Hp}{Q:VK}(h:TPt K (L8 src mi g Z) σ H Q):zr3 src (TId K mi) (TGd K g) (TC K cyes) (TF K Z) σ H Q:=by
 obtain⟨F0,H0,F,ρ,out,rl,e,q⟩:=h
 unfold L8 at e
 cases h1:mi ρ with
 |none=>rw[h1]at e;cases e
 |some its=>
  rw[h1]at e
  have e:zy0 g Z its (Y2 src ρ) []=some out:=e
  refine⟨F0,H0,F,ρ,its,rl,h1,fun J F1 H1 x1 I=>?_⟩
  intro p hp
  obtain⟨rb,no⟩:=(rl.go x1).blk src
  have ae:F1 p=none:=x1.fh.free hp
  refine⟨fun i m aa H'=>∃ F' ρ' acc qs,Rl K F1 H1 F' H' aa ρ'/\NoOwn ρ'/\H' p=some (.lst (qs.map V.ref))/\F' p=none/\RPs K F' H' qs acc/\(∀ w∈qs,H1 w=none/\F' w=none)/\(p::qs).Nodup/\i<=its.length/\m=its.length-i/\zy0 g Z (its.drop i) ρ' acc=some out,
   ⟨_,F1,Y2 src ρ,[],[],rb.other no hp ae,no,w4,ae,.nil,(fun w hw=>by cases hw),by simp,Nat.zero_le _,rfl,e⟩,?_⟩
  rintro i m aa H' ⟨F',ρ',acc,qs,j,ah,a2,a8,ra,N,a6,an,rfl,G⟩
  by_cases a7:i<its.length
  .right
   have hd:=getElem?_eq_getElem a7
   refine⟨I.go i F' H' j.ext.ff j.fh a7,fun a9 H2=>∃ F2 ρ2 O Y,Rl K F1 H1 F2 H2 a9 ρ2/\NoOwn ρ2/\H2 p=some (.lst (Y.map V.ref))/\F2 p=none/\RPs K F2 H2 Y O/\(∀ w∈Y,H1 w=none/\F2 w=none)/\(p::Y).Nodup/\zy0 g Z (its.drop (i+1)) ρ2 O=some out,?_,fun x H2 y=>?_⟩
   .rintro a9 H2 ⟨F2,ρ2,O,Y,b1,b2,b3,b4,b5,b6,b7,b8⟩
    exact⟨its.length-(i+1),by omega,F2,ρ2,O,Y,b1,b2,b3,b4,b5,b6,b7,a7,rfl,b8⟩
   .obtain⟨F2,x2,r2⟩:=I.yld i F' H' x H2 _ j.ext.ff j.fh hd y
    rw[W9 hd]at G
    unfold zy0 at G
    cases h2:tgD g its[i] ρ' with
    |none=>simp only[h2]at G;cases G
    |some a1=>
     simp only[h2]at G
     refine⟨F1,H1,F2,ρ',_,a1,j.go x2,r2,h2,fun F3 H3 am a3 x3=>?_⟩
     have ab:=ah.tg h2
     have af:=x2.trans x3
     refine⟨F1,H1,F3,a1,true,a3,rfl,fun F4 H4 x4=>iteT ?_⟩
     have a4:=af.trans x4
     cases h4:Z a1 with
     |none=>simp only[h4]at G;cases G
     |some ds=>
      simp only[h4]at G
      split at G
      .rename_i hz
       refine⟨F1,H1,F4,a1,ds,a3.go x4,h4,fun w xs F5 H5 x5 hw ak aj r5=>?_⟩
       have U:=a4.trans x5
       have al:=U.hh _ _ a2
       have ac:w≠p:=fun z=>by rw[z,a4.hh _ _ a2]at hw;cases hw
       have ag:RPs K F5 H5 qs acc:=ra.mono U.ff U.hh
       have ai:w∉qs:=fun z=>by
        obtain⟨o,ho⟩:=ra.some w z
        rw[a4.hh _ _ ho]at hw;cases hw
       refine⟨qs.map V.ref,al,by rw[length_map,ra.length];exact hz,F5,a1,acc++[ds],qs++[w],((a3.go x4).go x5).other ab hp (U.stays a8 a2),ab,by rw[w4,map_append];rfl,U.stays a8 a2,?_,fun z a5=>?_,?_,G⟩
       .refine((ag.snoc aj r5)).keep (Same.refl _) fun z a5 o ho=>?_
        have:z≠p:=by
         rcases List.mem_append.mp a5 with R|R
         .exact fun zz=>(List.nodup_cons.mp a6).1 (zz ▸ R)
         .rw[List.mem_singleton.mp R];exact ac
        rw[w5 this];exact ho
       .rcases List.mem_append.mp a5 with R|R
        .obtain⟨o,ho⟩:=ra.some z R
         exact⟨(N z R).1,U.stays (N z R).2 ho⟩
        .rw[List.mem_singleton.mp R]
         exact⟨(a3.go x4).ext.hh.free hw,ak⟩
       .have hn:=List.nodup_cons.mp a6
        refine List.nodup_cons.mpr ⟨fun z=>?_,List.nodup_append.mpr ⟨hn.2,by simp,fun a ha b hb=>?_⟩⟩
        .rcases List.mem_append.mp z with R|R
         .exact hn.1 R
         .exact ac (List.mem_singleton.mp R).symm
        .rw[List.mem_singleton.mp hb];exact fun zz=>ai (zz ▸ ha)
      .cases G
  .left
   have ad:i=its.length:=by omega
   subst ad
   rw[drop_length]at G
   have G:some acc=some out:=G
   cases G
   exact⟨I.stop F' H' j.ext.ff j.fh,q p qs F' H' (x1.trans j.ext) ⟨x1.hh.free hp,a8,a2,fun w hw=>⟨x1.hh.free (N w hw).1,(N w hw).2⟩,a6,ra⟩⟩
end
end
section
section
variable {K:W.Frag}{F0 H0 H0' F H:Hp}{σ:St}{ρ:Ro}
end
section
variable {X:Cx}{a b c e:Expr}{pos:Pos}{st:Stmt}
variable {E:XK}{es:List Expr}{m:ML}
end
end
section
section
variable {K:W.Frag}{F0 H0 F H:Hp}{σ:St}{ρ:Ro}
end
end
section
section
variable {X:Cx}{a b:Expr}{ma mb:ME}{pos:Pos}
end
section
variable {X:Cx}{a b:Expr}
open PySem.SeqAt in
end
end
section
section
variable {X:Cx}{a b c e o:Expr}{ma mb mo:ME}{pos:Pos}{st:Stmt}
end
open Classical in
section
variable {X:Cx}{pos:Pos}
end
end
section
section
variable {X:Cx}{st:Stmt}
end
end
section
inductive Fl where
 |v (d:D)|l (ds:List D)
inductive Cell where
 |ins (c:Str) (ns:List Str) (fs:List Fl)
 |row (fs:List Fl)
 |tb (P:Addr) (mw:Str) (pos:Pos) (q:Str)
def c5 (c:Addr)(q:Str):Heap->Prop:=fun h=>h.CodeRec (.ref c) q
structure CodeT (K:W.Frag)(cdv:Value)(P:Addr):Prop where
 hd:∃ c,cdv= .ref c/\∀ h:Heap,K.In h->W.CodeHd h c P
 ne:mainGlobals≠P
def TabF (K:W.Frag)(mw:Str)(P:Addr):Prop:=∃ f oc od fd sl,W.nsIn K mainGlobals mw=some (some (.ref f))/\K.lookup f=some ⟨oc,od,.func fd,sl⟩/\CodeT K fd.code P
noncomputable abbrev Bx:=List (Addr×Cell)
inductive FlR (K:W.Frag)(F B:Hp):List Addr->List V->List Fl->Prop
 |nil:FlR K F B [] [] []
 |v {fp:List Addr} {x:V} {d:D} {xs:List V} {fs:List Fl}:Rep K F x d->FlR K F B fp xs fs->FlR K F B fp (x::xs) (.v d::fs)
 |l {fp:List Addr} {q:Addr} {ys:List V} {ds:List D} {xs:List V} {fs:List Fl}:B q=some (.lst ys)->Reps K F ys ds->FlR K F B fp xs fs->FlR K F B (q::fp) (.ref q::xs) (.l ds::fs)
inductive CellR (K:W.Frag)(F B:Hp):List Addr->Addr->Cell->Prop
 |ins {fp:List Addr} {p dx C:Addr} {c:Str} {ns:List Str} {xs:List V} {fs:List Fl}:W.nsIn K mainGlobals c=some (some (.ref C))->ns.length=xs.length->B p=some (.ins C dx (ns.zip xs))->B dx=some (.own p)->FlR K F B fp xs fs->
   CellR K F B (p::dx::fp) p (.ins c ns fs)
 |row {fp:List Addr} {p:Addr} {xs:List V} {fs:List Fl}:B p=some (.lst xs)->FlR K F B fp xs fs->CellR K F B (p::fp) p (.row fs)
 |tb {P:Addr} {mw:Str} {pos:Pos} {q:Str} {ps:Array Value}:TabF K mw P->B P=some (.tbl ps)->TriplesOk ps.toList->(codeAmong pos ps.toList=none\/∃ c,codeAmong pos ps.toList=some (.ref c)/\F c=some (.ext (c5 c q)))->CellR K F B [P] P (.tb P mw pos q)
inductive BxR (K:W.Frag)(F B:Hp):List Addr->Bx->Prop
 |nil:BxR K F B [] []
 |cons {fp fq:List Addr} {p:Addr} {c:Cell} {β:Bx}:CellR K F B fp p c->BxR K F B fq β->BxR K F B (fp++fq) ((p,c)::β)
section
variable {K:W.Frag}{F F' B B':Hp}
theorem FlR.mono (e:Same F F'){fp:List Addr}{xs:List V}{fs:List Fl}(h:FlR K F B fp xs fs)(k:∀ a∈fp,B' a=B a):FlR K F' B' fp xs fs:=by
 induction h with
 |nil=>exact .nil
 |v r _ i=>exact .v (r.mono e) (i k)
 |l b r _ i=>exact .l (by rw[k _ (by simp)];exact b) (r.mono e) (i fun a ha=>k a (mem_cons_of_mem _ ha))
theorem CellR.mono (e:Same F F'){fp:List Addr}{p:Addr}{c:Cell}(h:CellR K F B fp p c)(k:∀ a∈fp,B' a=B a):CellR K F' B' fp p c:=by
 cases h with
 |ins a l b d r=>exact .ins a l (by rw[k _ (by simp)];exact b) (by rw[k _ (by simp)];exact d) (r.mono e fun a ha=>k a (by simp[ha]))
 |row b r=>exact .row (by rw[k _ (by simp)];exact b) (r.mono e fun a ha=>k a (by simp[ha]))
 |tb a b t h=>exact .tb a (by rw[k _ (by simp)];exact b) t (h.imp id fun⟨c,h1,h2⟩=>⟨c,h1,e _ _ h2⟩)
theorem BxR.mono (e:Same F F'){fp:List Addr}{β:Bx}(h:BxR K F B fp β)(k:∀ a∈fp,B' a=B a):BxR K F' B' fp β:=by
 induction h with
 |nil=>exact .nil
 |cons c _ i=>exact .cons (c.mono e fun a ha=>k a (by simp[ha])) (i fun a ha=>k a (by simp[ha]))
theorem FlR.mem {fp:List Addr}{xs:List V}{fs:List Fl}(h:FlR K F B fp xs fs):∀ a∈fp,B a≠none:=by
 induction h with
 |nil=>intro a ha;cases ha
 |v _ _ i=>exact i
 |l b _ _ i=>
  intro a ha
  rcases List.mem_cons.mp ha with rfl|ha
  .rw[b];simp
  .exact i a ha
theorem CellR.mem {fp:List Addr}{p:Addr}{c:Cell}(h:CellR K F B fp p c):∀ a∈fp,B a≠none:=by
 intro a ha
 cases h with
 |ins _ _ b d r=>
  rcases List.mem_cons.mp ha with rfl|ha
  .rw[b];simp
  .rcases List.mem_cons.mp ha with rfl|ha
   .rw[d];simp
   .exact r.mem a ha
 |row b r=>
  rcases List.mem_cons.mp ha with rfl|ha
  .rw[b];simp
  .exact r.mem a ha
 |tb _ b _ _=>rw[List.mem_singleton.mp ha,b];simp
theorem BxR.mem {fp:List Addr}{β:Bx}(h:BxR K F B fp β):∀ a∈fp,B a≠none:=by
 induction h with
 |nil=>intro a ha;cases ha
 |cons c _ i=>
  intro a ha
  rcases List.mem_append.mp ha with ha|ha
  .exact c.mem a ha
  .exact i a ha
end
noncomputable def jn (H0 B:Hp):Hp:=fun a=>match B a with |some o=>some o|none=>H0 a
theorem f6 {H0 B:Hp}{a:Addr}{o:HO}(h:B a=some o):jn H0 B a=some o:=by unfold jn;rw[h]
theorem d5 {H0 B:Hp}{a:Addr}(h:B a=none):jn H0 B a=H0 a:=by unfold jn;rw[h]
theorem Z6 {H0 B:Hp}{a:Addr}(h:jn H0 B a=none):B a=none/\H0 a=none:=by
 cases b:B a with
 |none=>rw[d5 b]at h;exact⟨rfl,h⟩
 |some o=>rw[f6 b]at h;cases h
structure BxOk (K:W.Frag)(F0 H0 F B:Hp)(fp:List Addr)(β:Bx):Prop where
 out:∀ a,B a≠none->H0 a=none/\F0 a=none
 bx:BxR K F B fp β
 nd:fp.Nodup
 plain:∀ a o u,B a≠some (.frz o u)
theorem BxOk.mono {K:W.Frag}{F0 H0 F F' B:Hp}{fp:List Addr}{β:Bx}(h:BxOk K F0 H0 F B fp β)(e:Same F F'):BxOk K F0 H0 F' B fp β:=⟨h.out,h.bx.mono e fun _ _=>rfl,h.nd,h.plain⟩
def RlW (K:W.Frag)(F0 H0 F H:Hp)(σ:St)(ρ:Ro)(β:Bx):Prop:=∃ B fp,Rl K F0 (jn H0 B) F H σ ρ/\BxOk K F0 H0 F B fp β
noncomputable abbrev MW:=Ro->Bx->Option (Out×Bx)
noncomputable def okW (K:W.Frag)(F0 H0 Fb:Hp)(Dn:Ends):Out->Bx->Prop
 | .nx ρ,β=>∀ F H σ,RlW K F0 H0 F H σ ρ β->Same Fb F->Dn.nx σ H
 | .bk ρ,β=>∀ F H σ,RlW K F0 H0 F H σ ρ β->Same Fb F->Dn.bk σ H
 | .ct ρ,β=>∀ F H σ,RlW K F0 H0 F H σ ρ β->Same Fb F->Dn.ct σ H
 | .rt d,β=>∀ v F H B fp,Ext F0 (jn H0 B) F H->BxOk K F0 H0 F B fp β->Rep K F v d->Dn.rt v H
 | .rf ds,β=>∀ p xs F H B fp,Ext F0 (jn H0 B) F H->BxOk K F0 H0 F B fp β->jn H0 B p=none->F p=none->H p=some (.lst xs)->Reps K F xs ds->Dn.rt (.ref p) H
 | .rg d p r,β=>∀ v F H xs B fp,Ext F0 (jn H0 B) F H->BxOk K F0 H0 F B fp β->Rep K F v d->jn H0 B p=none->F p=none->H p=some (.lst xs)->Reps K F xs r->Dn.rt v H
 | .rp _ _,_=>False
 | .rgf _ _ _,_=>False
theorem okW.mono {K:W.Frag}{F0 H0 z j:Hp}{G:Ends}(s:Same z j):∀{o:Out}{β:Bx},okW K F0 H0 z G o β->okW K F0 H0 j G o β
 | .nx _,_,h=>fun F H σ i q=>h F H σ i (s.trans q)
 | .bk _,_,h=>fun F H σ i q=>h F H σ i (s.trans q)
 | .ct _,_,h=>fun F H σ i q=>h F H σ i (s.trans q)
 | .rt _,_,h=>h
 | .rf _,_,h=>h
 | .rp _ _,_,h=>h
 | .rg _ _ _,_,h=>h
 | .rgf _ _ _,_,h=>h
def TSw (K:W.Frag)(m:MW):TS:=fun Dn σ H=>∃ F0 H0 F ρ β o β',RlW K F0 H0 F H σ ρ β/\m ρ β=some (o,β')/\okW K F0 H0 F Dn o β'
def TDw (K:W.Frag)(m:Ro->Bx->Option D):TE:=fun σ H Q=>∃ F0 H0 F ρ β d,RlW K F0 H0 F H σ ρ β/\m ρ β=some d/\∀ v F' H',RlW K F0 H0 F' H' σ ρ β->Same F F'->Same H H'->Rep K F' v d->Q v H'
def TCw (K:W.Frag)(m:Ro->Bx->Option Bool):TT:=fun σ H Q=>∃ F0 H0 F ρ β b,RlW K F0 H0 F H σ ρ β/\m ρ β=some b/\∀ F' H',RlW K F0 H0 F' H' σ ρ β->Same F F'->Q b H'
def PSw (X:Cx)(st:Stmt)(m:MW):Prop:=PS X st (TSw X.K m)
def PSsw (X:Cx)(st:List Stmt)(m:MW):Prop:=PSs X st (TSw X.K m)
def PDw (X:Cx)(e:Expr)(m:Ro->Bx->Option D):Prop:=PE X e (TDw X.K m)
def PCw' (X:Cx)(e:Expr)(m:Ro->Bx->Option Bool):Prop:=PT X e (TCw X.K m)
section
variable {X:Cx}{a b c e:Expr}{pos:Pos}{st:Stmt}{rest:List Stmt}
noncomputable def wS (m:MS):MW:=fun ρ β=>match m ρ with |some (.nx ρ')=>some (.nx ρ',β)|some (.bk ρ')=>some (.bk ρ',β)|some (.ct ρ')=>some (.ct ρ',β)|_=>none
noncomputable def wE {α:Type}(m:Ro->Option α):Ro->Bx->Option α:=fun ρ _=>m ρ
theorem psw {m:MS}(h:PSd X st m):PSw X st (wS m):=PS.imp h fun I σ H ⟨F0,H0,F,ρ,β,o,β',⟨B,fp,G,ok⟩,e,k⟩=>by
 unfold wS at e
 split at e
 .rename_i ρ' h1
  cases e
  exact⟨F0,jn H0 B,F,ρ,_,G,h1,fun F' H' i j z=>k F' H' i ⟨B,fp,j,ok.mono z⟩ z⟩
 .rename_i ρ' h1
  cases e
  exact⟨F0,jn H0 B,F,ρ,_,G,h1,fun F' H' i j z=>k F' H' i ⟨B,fp,j,ok.mono z⟩ z⟩
 .rename_i ρ' h1
  cases e
  exact⟨F0,jn H0 B,F,ρ,_,G,h1,fun F' H' i j z=>k F' H' i ⟨B,fp,j,ok.mono z⟩ z⟩
 .cases e
theorem pdw {m:ME}(h:PD X e m):PDw X e (wE m):=PE.imp h fun σ H Q ⟨F0,H0,F,ρ,β,d,⟨B,fp,i,ok⟩,e,q⟩=>
 ⟨F0,jn H0 B,F,ρ,d,i,e,fun v F' H' x r=>q v F' H' ⟨B,fp,i.go x,ok.mono x.ff⟩ x.ff x.hh r⟩
theorem pcw {m:MB}(h:PC' X e m):PCw' X e (wE m):=PT.imp h fun σ H Q ⟨F0,H0,F,ρ,β,d,⟨B,fp,i,ok⟩,e,q⟩=>
 ⟨F0,jn H0 B,F,ρ,d,i,e,fun F' H' x=>q F' H' ⟨B,fp,i.go x,ok.mono x.ff⟩ x.ff⟩
noncomputable def i9 (x y:MW):MW:=fun ρ β=>match x ρ β with |some (.nx ρ',β')=>y ρ' β'|o=>o
theorem m9 {m:MW}(h:PSw X st m):PSsw X [st] m:=E7 h
theorem W5:PSsw X [] (wS n9):=PSs.imp pss_nil fun j σ H ⟨F0,H0,F,ρ,β,o,β',⟨B,fp,i,ok⟩,e,k⟩=>by
 cases e
 exact k F H σ ⟨B,fp,i,ok⟩ (Same.refl _)
theorem u6 {m1 m2':MW}(h1:PSw X st m1)(h2:PSsw X rest m2'):PSsw X (st::rest) (i9 m1 m2'):=PSs.imp (W6 h1 h2) fun D σ H G=>by
 obtain⟨F0,H0,F,ρ,β,o,β',i,e,ok⟩:=G
 unfold i9 at e
 cases h:m1 ρ β with
 |none=>rw[h]at e;cases e
 |some ob=>
  obtain⟨o1,z⟩:=ob
  rw[h]at e
  cases o1 with
  |nx j=>exact⟨F0,H0,F,ρ,β,_,z,i,h,fun F' H' N I O=>⟨F0,H0,F',j,z,o,β',I,e,ok.mono O⟩⟩
  |bk j=>cases e;exact⟨F0,H0,F,ρ,β,_,_,i,h,ok⟩
  |ct j=>cases e;exact⟨F0,H0,F,ρ,β,_,_,i,h,ok⟩
  |rt d=>cases e;exact⟨F0,H0,F,ρ,β,_,_,i,h,ok⟩
  |rf d=>cases e;exact⟨F0,H0,F,ρ,β,_,_,i,h,ok⟩
  |rp d ds=>cases e;exact⟨F0,H0,F,ρ,β,_,_,i,h,ok⟩
  |rg d p r=>cases e;exact⟨F0,H0,F,ρ,β,_,_,i,h,ok⟩
  |rgf d p r=>cases e;exact⟨F0,H0,F,ρ,β,_,_,i,h,ok⟩
noncomputable def mifW (c:Ro->Bx->Option Bool)(x y:MW):MW:=fun ρ β=>match c ρ β with |some true=>x ρ β|some false=>y ρ β|none=>none
theorem zy4 {ca:Ro->Bx->Option Bool}{x y:List Stmt}{mx I:MW}(R:PCw' X c ca)(O:PSsw X x mx)(N:PSsw X y I):PSw X (.If c x y pos) (mifW ca mx I):=PS.imp (zj0 R O N) fun D σ H j=>by
 obtain⟨F0,H0,F,ρ,β,o,β',i,e,ok⟩:=j
 unfold mifW at e
 split at e
 .rename_i h1
  exact⟨F0,H0,F,ρ,β,_,i,h1,fun F1 H1 G z=>iteT ⟨F0,H0,F1,ρ,β,o,β',G,e,ok.mono z⟩⟩
 .rename_i h1
  exact⟨F0,H0,F,ρ,β,_,i,h1,fun F1 H1 G z=>iteF ⟨F0,H0,F1,ρ,β,o,β',G,e,ok.mono z⟩⟩
 .cases e
noncomputable def K8 (x:Ro->Bx->Option D):MW:=fun ρ β=>(x ρ β).map fun d=>(.rt d,β)
theorem Q4 {ma:Ro->Bx->Option D}(h:PS X st (tRet (TDw X.K ma))):PSw X st (K8 ma):=PS.imp h fun D σ H i=>by
 obtain⟨F0,H0,F,ρ,β,o,β',j,e,ok⟩:=i
 unfold K8 at e
 cases h1:ma ρ β with
 |none=>rw[h1]at e;cases e
 |some d=>
  rw[h1]at e;cases e
  refine⟨F0,H0,F,ρ,β,d,j,h1,fun v F1 H1 G I _ rp=>?_⟩
  obtain⟨B,fp,z,k⟩:=G
  exact ok v F1 H1 B fp z.ext k rp
noncomputable def forW (g:Tg)(body:MW):List D->MW
 |[],ρ,β=>some (.nx ρ,β)
 |d::ds,ρ,β=>match tgD g d ρ with
  |some ρ1=>match body ρ1 β with
   |some (.nx ρ2,β2)=>forW g body ds ρ2 β2
   |some (.ct ρ2,β2)=>forW g body ds ρ2 β2
   |some (.bk ρ2,β2)=>some (.nx ρ2,β2)
   |o=>o
  |none=>none
noncomputable def Q9 (mi:ML)(g:Tg)(body:MW):MW:=fun ρ β=>(mi ρ).bind fun its=>forW g body its ρ β
theorem E5 {tg iter:Expr}{body:List Stmt}{mi:ML}{g:Tg}{mb:MW}(hp:PassesOwn (model X.prog X.w) X.A X.env X.xe)(hc:X.calm=true)(hi:PId X tg iter mi)(hg:PGd X tg g)(hb:PSsw X body mb)
  (hs:∀ x,foldedSetIterable iter X.env x=pure x:=by intro _;rfl):PSw X (.For tg iter body [] pos) (Q9 mi g mb):=PS.imp (yc3 hp hc hi hg hb hs) fun Dn σ H ⟨F0,H0,F,ρ,β,o,β',⟨B,fp,rl,ok⟩,e,k⟩=>by
 unfold Q9 at e
 cases h1:mi ρ with
 |none=>rw[h1]at e;cases e
 |some its=>
  rw[h1]at e
  have e:forW g mb its ρ β=some (o,β'):=e
  refine⟨F0,jn H0 B,F,ρ,its,rl,h1,fun J F1 H1 R I=>?_⟩
  refine⟨fun i m Z H'=>∃ F' ρ' G,RlW X.K F0 H0 F' H' Z ρ' G/\Same F1 F'/\i<=its.length/\m=its.length-i/\forW g mb (its.drop i) ρ' G=some (o,β'),⟨_,F1,ρ,β,⟨B,fp,rl.go R,ok.mono R.ff⟩,Same.refl _,Nat.zero_le _,rfl,e⟩,?_⟩
  rintro i m Z H' ⟨F',ρ',G,⟨B1,a6,O,a4⟩,sf,a9,rfl,j⟩
  by_cases a2:i<its.length
  .right
   have hd:=getElem?_eq_getElem a2
   refine⟨I.go i F' H' sf O.fh a2,fun a3 H2=>∃ F2 ρ2 z,RlW X.K F0 H0 F2 H2 a3 ρ2 z/\Same F1 F2/\forW g mb (its.drop (i+1)) ρ2 z=some (o,β'),?_,fun x H2 y=>?_⟩
   .rintro a3 H2 ⟨F2,ρ2,z,rl2,sf2,e2⟩
    exact⟨its.length-(i+1),by omega,F2,ρ2,z,rl2,sf2,a2,rfl,e2⟩
   .obtain⟨F2,x2,r2⟩:=I.yld i F' H' x H2 _ sf O.fh hd y
    rw[W9 hd]at j
    unfold forW at j
    cases h2:tgD g its[i] ρ' with
    |none=>simp only[h2]at j;cases j
    |some a1=>
     simp only[h2]at j
     refine⟨F0,jn H0 B1,F2,ρ',_,a1,O.go x2,r2,h2,fun F3 H3 a8 a7 x3=>?_⟩
     have U:Same F1 F3:=(sf.trans x2.ff).trans x3.ff
     cases h3:mb a1 G with
     |none=>simp only[h3]at j;cases j
     |some ob=>
      obtain⟨o1,z⟩:=ob
      simp only[h3]at j
      refine⟨F0,H0,F3,a1,G,o1,z,⟨B1,a6,a7,a4.mono (x2.ff.trans x3.ff)⟩,h3,?_⟩
      cases o1 with
      |nx ρ2=>exact fun F5 H5 Y N s5=>⟨F5,ρ2,z,N,U.trans s5,j⟩
      |ct ρ2=>exact fun F5 H5 Y N s5=>⟨F5,ρ2,z,N,U.trans s5,j⟩
      |bk ρ2=>
       cases j
       exact fun F5 H5 Y N s5=>k F5 H5 Y N ((R.ff.trans U).trans s5)
      |rt d=>cases j;exact k.mono (R.ff.trans U)
      |rf d=>cases j;exact k.mono (R.ff.trans U)
      |rp d ds=>cases j;exact k.mono (R.ff.trans U)
      |rg d p r=>cases j;exact k.mono (R.ff.trans U)
      |rgf d p r=>cases j;exact k.mono (R.ff.trans U)
  .left
   have a5:i=its.length:=by omega
   subst a5
   rw[drop_length]at j
   have j:some (Out.nx ρ',G)=some (o,β'):=j
   cases j
   exact⟨I.stop F' H' sf O.fh,k F' H' Z ⟨B1,a6,O,a4⟩ (R.ff.trans sf)⟩
noncomputable def flD:Fl->D
 | .v d=>d
 | .l ds=>.lst ds
noncomputable def xr3:Cell->D
 | .ins c ns fs=>.obj c ns (fs.map flD)
 | .row fs=>.lst (fs.map flD)
 | .tb P _ _ _=>.ptr P
noncomputable def N6 (β:Bx):Option S->Option S
 |some (.sh (.ptr p))=>match β.lookup p with |some c=>some (.sh (xr3 c))|none=>some (.sh (.ptr p))
 |x=>x
noncomputable def thaw (ρ:Ro)(β:Bx):Ro:=ρ.map (N6 β)
noncomputable def yz1 (m:ME):Ro->Bx->Option D:=fun ρ β=>(m (thaw ρ β)).bind fun d=>if isSc d=true then some d else none
noncomputable def yf2 (m:MB):Ro->Bx->Option Bool:=fun ρ β=>m (thaw ρ β)
end
section
variable {K:W.Frag}{F0 H0 F H B:Hp}{σ:St}{ρ:Ro}{β:Bx}{fp:List Addr}
theorem FlR.rep {G:Hp}{xs:List V}{fs:List Fl}(j:Same F G)(z:Same B G)(h:FlR K F B fp xs fs):Reps K G xs (fs.map flD):=by
 induction h with
 |nil=>exact .nil
 |v r _ i=>exact .cons (r.mono j) i
 |l b r _ i=>exact .cons (.lst (SqL.of (z _ _ b)) (r.mono j)) i
theorem CellR.rep {G:Hp}{p:Addr}{c:Cell}(j:Same F G)(i:Same B G)(h:CellR K F B fp p c):Rep K G (.ref p) (xr3 c):=by
 cases h with
 |ins a l b d r=>exact .obj a l (i _ _ b) (i _ _ d) (r.rep j i)
 |row b r=>exact .lst (SqL.of (i _ _ b)) (r.rep j i)
 |tb _ _ _ _=>exact .ptr _
theorem BxR.at' {p:Addr}{c:Cell}:∀{fp:List Addr}{β:Bx},BxR K F B fp β->β.lookup p=some c->∃ fq,CellR K F B fq p c
 |_,_,.nil,e=>by cases e
 |_,_,.cons (p:=q) h r,e=>by
  rw[lookup_cons]at e
  split at e
  .rename_i z
   have z:=beq_iff_eq.mp z
   subst z
   cases e
   exact⟨_,h⟩
  .exact r.at' e
theorem RlW.frozen (z:Rl K F0 (jn H0 B) F H σ ρ)(ok:BxOk K F0 H0 F B fp β):Rl K (jn F0 B) (jn H0 B) (jn F B) H σ (thaw ρ β)/\Same F (jn F B):=by
 have bh:Same B H:=fun a o e=>z.ext.hh a o (f6 e)
 have fn:∀ a,B a≠none->F a=none:=fun a h=>by
  cases q:F a with
  |none=>rfl
  |some o=>
   have:=z.ext.new a (ok.out a h).2 (by rw[q];simp)
   exact absurd (Z6 this).1 h
 have R:Same F (jn F B):=fun a o e=>by
  cases q:B a with
  |none=>rw[d5 q];exact e
  |some u=>rw[fn a (by rw[q];simp)]at e;cases e
 have bj:Same B (jn F B):=fun a o e=>f6 e
 have back:∀(i:Nat) x,(thaw ρ β)[i]? =some x->∃ y,ρ[i]? =some y/\x=N6 β y:=fun i x e=>by
  unfold thaw at e
  rw[getElem?_map]at e
  cases q:ρ[i]? with
  |none=>rw[q]at e;cases e
  |some y=>rw[q]at e;cases e;exact⟨y,rfl,rfl⟩
 have Z:∀{y:Option S}{ds:List D},some (.own ds)=N6 β y->y=some (.own ds):=fun{y ds} e=>by
  unfold N6 at e
  split at e
  .split at e <;> cases e
  .exact e.symm
 have tB:∀{y:Option S}{p:Addr}{ds:List D},some (.ob p ds)=N6 β y->y=some (.ob p ds):=fun{y p ds} e=>by
  unfold N6 at e
  split at e
  .split at e <;> cases e
  .exact e.symm
 have G:∀(i:Nat) ds,(thaw ρ β)[i]? =some (some (.own ds))->ρ[i]? =some (some (.own ds)):=fun i ds e=>by
  obtain⟨y,e1,e2⟩:=back i _ e
  rw[e1,Z e2]
 have I:∀(i:Nat) p ds,(thaw ρ β)[i]? =some (some (.ob p ds))->ρ[i]? =some (some (.ob p ds)):=fun i p ds e=>by
  obtain⟨y,e1,e2⟩:=back i _ e
  rw[e1,tB e2]
 have Y:∀ p,F p=none->jn H0 B p=none->jn F B p=none:=fun p h h2=>by rw[d5 (Z6 h2).1];exact h
 refine⟨⟨⟨fun a o e=>?_,z.ext.hh,fun a o e=>?_,fun b e n=>?_,fun b o u e=>?_⟩,by unfold thaw;rw[length_map];exact z.len,fun i d e=>?_,fun i ds e=>?_,fun i j p ds es U e1 e2 e3 e4=>z.inj i j p ds es U (G i ds e1) (G j es e2) e3 e4,fun i p ds e=>?_,fun i j p ds es e1 e2 e3=>z.obn i j p ds es (I i p ds e1) (G j es e2) e3,fun i j p q ds es e1 e2=>z.ob1 i j p q ds es (I i p ds e1) (I j q es e2)⟩,R⟩
 .cases q:B a with
  |none=>rw[d5 q]at e;rw[d5 q];exact z.ext.ff a o e
  |some u=>rw[f6 q]at e;rw[f6 q];exact e
 .cases q:B a with
  |none=>rw[d5 q]at e;exact z.ext.fh a o e
  |some u=>rw[f6 q]at e;cases e;exact bh a _ q
 .obtain⟨e1,e2⟩:=Z6 e
  rw[d5 e1]at n
  exact z.ext.new b e2 n
 .cases q:B b with
  |none=>rw[d5 q]at e ⊢;exact z.ext.nf b o u e
  |some w=>rw[f6 q]at e ⊢;exact e
 .obtain⟨y,e1,e2⟩:=back i _ e
  unfold N6 at e2
  split at e2
  .rename_i p
   obtain⟨v,N,O⟩:=z.sh i _ e1
   cases O
   split at e2
   .rename_i c hc
    cases e2
    obtain⟨fq,hq⟩:=ok.bx.at' hc
    exact⟨_,N,hq.rep R bj⟩
   .cases e2
    exact⟨_,N,.ptr p⟩
  .subst e2
   obtain⟨v,N,O⟩:=z.sh i d e1
   exact⟨v,N,O.mono R⟩
 .obtain⟨p,xs,N,O,a3,a4,a5⟩:=z.own i ds (G i ds e)
  exact⟨p,xs,N,Y p O a5,a3,a4.mono R,a5⟩
 .obtain⟨N,O,a3,xs,a4,a5⟩:=z.ob i p ds (I i p ds e)
  exact⟨N,Y p O a3,a3,xs,a4,a5.mono R⟩
theorem RlW.melt {F2 H2:Hp}(i:Rl K F0 (jn H0 B) F H σ ρ)(ok:BxOk K F0 H0 F B fp β)(x:Ext (jn F B) H F2 H2)(j:Same F (jn F B)):RlW K F0 H0 F H2 σ ρ β:=
 ⟨B,fp,i.go ⟨Same.refl _,x.hh,i.fh.trans x.hh,fun b e n=>absurd e n,fun _ _ _ z=>z⟩,ok⟩
end
section
variable {X:Cx}{a b c e:Expr}{pos:Pos}
theorem yi5 {m:ME}(h:PD X e m):PDw X e (yz1 m):=PE.imp h fun σ H Q ⟨F0,H0,F,ρ,β,d,⟨B,fp,i,ok⟩,e,q⟩=>by
 unfold yz1 at e
 cases h1:m (thaw ρ β)with
 |none=>rw[h1]at e;cases e
 |some d'=>
  rw[h1,Option.bind_some]at e
  split at e
  .rename_i hs
   cases e
   obtain⟨j,z⟩:=RlW.frozen i ok
   exact⟨_,_,_,_,_,j,h1,fun v F' H' x r=>q v F H' (RlW.melt i ok x z) (Same.refl _) x.hh (xo4 hs r)⟩
  .cases e
theorem yi9 {m:MB}(h:PC' X e m):PCw' X e (yf2 m):=PT.imp h fun σ H Q ⟨F0,H0,F,ρ,β,d,⟨B,fp,i,ok⟩,e,q⟩=>by
 obtain⟨j,z⟩:=RlW.frozen i ok
 exact⟨_,_,_,_,_,j,e,fun F' H' x=>q F H' (RlW.melt i ok x z) (Same.refl _)⟩
end
end
section
noncomputable def cut (H B:Hp):Hp:=fun a=>match B a with |some _=>none|none=>H a
theorem yb9 {H B:Hp}{a:Addr}(h:B a≠none):cut H B a=none:=by
 unfold cut
 cases q:B a with
 |none=>exact absurd q h
 |some o=>rfl
theorem M8 {H B:Hp}{a:Addr}(h:B a=none):cut H B a=H a:=by unfold cut;rw[h]
theorem yq3 {H B:Hp}(h:Same B H):jn (cut H B) B=H:=by
 funext a
 cases q:B a with
 |none=>rw[d5 q,M8 q]
 |some o=>rw[f6 q,h a o q]
noncomputable abbrev MFW:=List D->Bx->Option (Rt×Bx)
noncomputable def okTW (K:W.Frag)(F H B:Hp)(Q:VK):Rt->Bx->Prop
 | .sh d,β=>∀ v F' H' B' fp',Ext F (jn (cut H B) B') F' H'->BxOk K F (cut H B) F' B' fp' β->Rep K F' v d->Q v H'
 | .fr ds,β=>∀ p xs F' H' B' fp',Ext F (jn (cut H B) B') F' H'->BxOk K F (cut H B) F' B' fp' β->jn (cut H B) B' p=none->F' p=none->H' p=some (.lst xs)->Reps K F' xs ds->Q (.ref p) H'
 | .pr _ _,_=>False
def spW (K:W.Frag)(n:Nat)(m:MFW):Sp:=fun vs H Q _=>vs.length=n/\∃ F B fp ds β r β',Same F H/\Same B H/\BxOk K F (cut H B) F B fp β/\Reps K F vs ds/\m ds β=some (r,β')/\okTW K F H B Q r β'
noncomputable def runW (n:Nat)(m:MW):MFW:=fun ds β=>match m (v7 n ds) β with
 |some (.nx _,β')=>some (.sh .non,β'.drop (β'.length-β.length))
 |some (.rt d,β')=>some (.sh d,β'.drop (β'.length-β.length))
 |some (.rf es,β')=>some (.fr es,β'.drop (β'.length-β.length))
 |_=>none
theorem BxR.drop {K:W.Frag}{F B:Hp}:∀{fp:List Addr}{β:Bx}(k:Nat),BxR K F B fp β->∃ fq,BxR K F B fq (β.drop k)/\fq.Sublist fp
 |_,_,0,h=>⟨_,h,List.Sublist.refl _⟩
 |_,_,k+1,.nil=>⟨_,.nil,List.Sublist.refl _⟩
 |_,_,k+1,.cons c r=>by
  obtain⟨fq,h,s⟩:=BxR.drop k r
  exact⟨fq,h,s.trans (sublist_append_right _ _)⟩
theorem BxOk.drop {K:W.Frag}{F0 H0 F B:Hp}{fp:List Addr}{β:Bx}(h:BxOk K F0 H0 F B fp β)(k:Nat):∃ fq,BxOk K F0 H0 F B fq (β.drop k):=by
 obtain⟨fq,r,s⟩:=h.bx.drop k
 exact⟨fq,h.out,r,h.nd.sublist s,h.plain⟩
theorem Fun.okW {P:Program}{w:World}{K:W.Frag}{mg:Str->Option Value}{base:Heap}{x qual:Str}{st:Stmt}{f:Addr}{fd:FuncData}{N ps:List Str}{k:Nat}{m:MW}(Fn:Fun K x qual st f fd)(Sc:FnScope N ps (y8 st))
  (i:∀(cdv:Value)(A:Around)(outer:List Env)(s:Shared)(H:Hp)(E:XK),Room k (A.deeper (envOfC qual (y8 st) s.heap.objs.size f cdv))->PSsw (cxOf CX0 P w K mg base N qual (y8 st) f cdv A outer s H E).nox (p0 st) m):
  FnOk P w K mg base CX0 (k+1) f fd ps (spW K ps.length (runW N.length m)):=by
 refine Fn.ok Sc (fun vs H Q E h=>h.1) fun cdv A outer s H vs Q E Z h=>?_
 obtain⟨hl,F,B,fp,ds,β,r,β',O,R,bo,U,e,ok⟩:=h
 unfold runW at e
 refine⟨_,i cdv A outer s H E Z,F,cut H B,F,v7 N.length ds,β,?_⟩
 have start:RlW K F (cut H B) F H (start N vs) (v7 N.length ds) β:=⟨B,fp,by rw[yq3 R];exact S6 O U,bo⟩
 split at e
 .rename_i ρ β1 h1
  cases e
  refine⟨_,_,start,h1,fun F' H' I Y _=>?_⟩
  obtain⟨B',z,G,j⟩:=Y
  obtain⟨fq,k2⟩:=j.drop (β1.length-β.length)
  exact ok .non F' H' B' fq G.ext k2 .non
 .rename_i d β1 h1
  cases e
  refine⟨_,_,start,h1,fun v F' H' B' z x j rp=>?_⟩
  obtain⟨fq,k2⟩:=j.drop (β1.length-β.length)
  exact ok v F' H' B' fq x k2 rp
 .rename_i es β1 h1
  cases e
  refine⟨_,_,start,h1,fun p xs F' H' B' z x j a1 a2 a3 a4=>?_⟩
  obtain⟨fq,k2⟩:=j.drop (β1.length-β.length)
  exact ok p xs F' H' B' fq x k2 a1 a2 a3 a4
 .cases e
def TDx (K:W.Frag)(m:Ro->Bx->Option (D×Bx)):TE:=fun σ H Q=>∃ F0 H0 F ρ β d β',RlW K F0 H0 F H σ ρ β/\m ρ β=some (d,β')/\∀ v F' H',RlW K F0 H0 F' H' σ ρ β'->Same F F'->Rep K F' v d->Q v H'
def PDx (X:Cx)(e:Expr)(m:Ro->Bx->Option (D×Bx)):Prop:=PE X e (TDx X.K m)
section
variable {K:W.Frag}{F0 H0 F H B:Hp}{σ:St}{ρ:Ro}{β:Bx}{fp:List Addr}
theorem BxOk.call (i:Rl K F0 (jn H0 B) F H σ ρ)(ok:BxOk K F0 H0 F B fp β):Same B H/\BxOk K F (cut H B) F B fp β:=by
 have j:Same B H:=fun a o e=>i.ext.hh a o (f6 e)
 refine⟨j,fun a h=>⟨yb9 h,?_⟩,ok.bx,ok.nd,ok.plain⟩
 cases q:F a with
 |none=>rfl
 |some o=>
  have:=i.ext.new a (ok.out a h).2 (by rw[q];simp)
  exact absurd (Z6 this).1 h
theorem RlW.back' {F' H' B':Hp}{O:List Addr}{β':Bx}(I:Rl K F0 (jn H0 B) F H σ ρ)(ok:BxOk K F0 H0 F B fp β)(x:Ext F (jn (cut H B) B') F' H')(G:BxOk K F (cut H B) F' B' O β'):Rl K F0 (jn H0 B') F' H' σ ρ/\BxOk K F0 H0 F' B' O β':=by
 have R:∀ a o,H0 a=some o->B a=none/\H a=some o/\B' a=none:=fun a o e=>by
  have b:B a=none:=by
   cases q:B a with
   |none=>rfl
   |some u=>have:=(ok.out a (by rw[q];simp)).1;rw[this]at e;cases e
  have h:=I.ext.hh a o (by rw[d5 b];exact e)
  refine⟨b,h,?_⟩
  cases q:B' a with
  |none=>rfl
  |some u=>have:=(G.out a (by rw[q];simp)).1;rw[M8 b,h]at this;cases this
 have N:∀ p xs,jn H0 B p=none->F p=none->H p=some (.lst xs)->F' p=none/\jn H0 B' p=none/\H' p=some (.lst xs):=fun p xs e1 e2 e3=>by
  obtain⟨b,h⟩:=Z6 e1
  have c:cut H B p=some (.lst xs):=by rw[M8 b];exact e3
  have b':B' p=none:=by
   cases q:B' p with
   |none=>rfl
   |some u=>have:=(G.out p (by rw[q];simp)).1;rw[c]at this;cases this
  have j:jn (cut H B) B' p=some (.lst xs):=by rw[d5 b'];exact c
  refine⟨?_,by rw[d5 b'];exact h,x.hh p _ j⟩
  cases q:F' p with
  |none=>rfl
  |some u=>have:=x.new p e2 (by rw[q];simp);rw[j]at this;cases this
 refine⟨⟨⟨I.ext.ff.trans x.ff,fun a o e=>?_,x.fh,fun b e n=>?_,fun b o u e=>I.ext.nf b o u (x.nf b o u e)⟩,I.len,fun i d e=>?_,fun i ds e=>?_,I.inj,fun i p ds e=>?_,I.obn,I.ob1⟩,fun a h=>⟨?_,?_⟩,G.bx,G.nd,G.plain⟩
 .cases q:B' a with
  |some u=>rw[f6 q]at e;cases e;exact x.hh a _ (f6 q)
  |none=>
   rw[d5 q]at e
   obtain⟨b,h,_⟩:=R a o e
   exact x.hh a o (by rw[d5 q,M8 b];exact h)
 .cases q1:F b with
  |none=>
   obtain⟨b',c⟩:=Z6 (x.new b q1 n)
   rw[d5 b']
   cases q:H0 b with
   |none=>rfl
   |some o=>obtain⟨z,h,_⟩:=R b o q;rw[M8 z,h]at c;cases c
  |some o=>
   have:=I.ext.new b e (by rw[q1];simp)
   obtain⟨_,h⟩:=Z6 this
   cases q:B' b with
   |none=>rw[d5 q];exact h
   |some u=>have:=(G.out b (by rw[q];simp)).2;rw[q1]at this;cases this
 .obtain⟨v,a1,a2⟩:=I.sh i d e
  exact⟨v,a1,a2.mono x.ff⟩
 .obtain⟨p,xs,a1,a2,a3,a4,a5⟩:=I.own i ds e
  obtain⟨Z,Y,U⟩:=N p xs a5 a2 a3
  exact⟨p,xs,a1,Z,U,a4.mono x.ff,Y⟩
 .obtain⟨a1,a2,a3,xs,a4,a5⟩:=I.ob i p ds e
  obtain⟨Z,Y,U⟩:=N p xs a3 a2 a4
  exact⟨a1,Z,Y,xs,U,a5.mono x.ff⟩
 .cases q:H0 a with
  |none=>rfl
  |some o=>exact absurd (R a o q).2.2 h
 .cases q:F0 a with
  |none=>rfl
  |some o=>have:=(G.out a h).2;rw[I.ext.ff a o q]at this;cases this
theorem RlW.back {F' H' B':Hp}{i:List Addr}{β':Bx}(z:Rl K F0 (jn H0 B) F H σ ρ)(ok:BxOk K F0 H0 F B fp β)(x:Ext F (jn (cut H B) B') F' H')(j:BxOk K F (cut H B) F' B' i β'):RlW K F0 H0 F' H' σ ρ β':=let ⟨a,b⟩:=RlW.back' z ok x j;⟨B',i,a,b⟩
end
section
variable {X:Cx}{a b c e o:Expr}{pos:Pos}{st:Stmt}{rest:List Stmt}{E:XK}{es:List Expr}{mf:MFW}{m:ML}
noncomputable def rtW:Option (Rt×Bx)->Option (D×Bx)
 |some (.sh d,β)=>some (d,β)
 |some (.fr es,β)=>some (.lst es,β)
 |_=>none
theorem yn0 {K:W.Frag}{F0 H0 F H B:Hp}{σ:St}{ρ:Ro}{β β':Bx}{fp:List Addr}{ds:List D}{d:D}{vs:List V}{n:Nat}{Q:VK}(i:Rl K F0 (jn H0 B) F H σ ρ)(ok:BxOk K F0 H0 F B fp β)(hl:vs.length=n)(r:Reps K F vs ds)(e:rtW (mf ds β)=some (d,β'))
  (q:∀ v F' H',RlW K F0 H0 F' H' σ ρ β'->Same F F'->Rep K F' v d->Q v H'):spW K n mf vs H Q E:=by
 obtain⟨G,k⟩:=ok.call i
 refine⟨hl,F,B,fp,ds,β,?_⟩
 unfold rtW at e
 split at e
 .rename_i d' β1 h2
  cases e
  exact⟨_,_,i.fh,G,k,r,h2,fun v F' H' B' z x j rp=>q v F' H' (RlW.back i ok x j) x.ff rp⟩
 .rename_i es' β1 h2
  cases e
  refine⟨_,_,i.fh,G,k,r,h2,fun p xs F' H' B' z x j e1 e2 e3 rp=>?_⟩
  have s2:Same F' (upd F' p (.lst xs)):=(Same.refl F').put e2
  exact q _ (upd F' p (.lst xs)) H' (RlW.back i ok (x.freeze e2 e1 e3) (j.mono s2)) (x.ff.trans s2) (.lst (SqL.of w4) (rp.mono s2))
 .cases e
noncomputable def T9 (f:MFW)(m:ML):Ro->Bx->Option (D×Bx):=fun ρ β=>(m ρ).bind fun ds=>rtW (f ds β)
theorem J6 {n:Nat}(h:∀ t,PA X es t->PE X e (zr4 (spW X.K n mf) [] E t))(hl:es.length=n)(ha:PAs X es m)(hm:∀ ρ ds,m ρ=some ds->ds.length=es.length):PDx X e (T9 mf m):=PE.imp (h _ ha) fun σ H Q ⟨F0,H0,F,ρ,β,d,β',⟨B,fp,z,ok⟩,e,q⟩=>by
 unfold T9 at e
 cases h1:m ρ with
 |none=>rw[h1]at e;cases e
 |some ds=>
  rw[h1,Option.bind_some]at e
  refine⟨F0,jn H0 B,F,ρ,ds,z,h1,fun vs F1 H1 i G=>?_⟩
  show spW X.K n mf (vs++[]) H1 Q E
  rw[append_nil]
  exact yn0 (z.go i) (ok.mono i.ff) (by rw[G.length,hm ρ ds h1,hl]) G e fun v F' H' j I rp=>q v F' H' j (i.ff.trans I) rp
noncomputable def za4 (i:Nat)(x:Ro->Bx->Option (D×Bx)):MW:=fun ρ β=>(x ρ β).map fun r=>(.nx (ρ.set i (some (.sh r.1))),r.2)
theorem yj6 {i:Nat}{x:Str}{pos':Pos}{ma:Ro->Bx->Option (D×Bx)}(Z:X.N.Nodup)(hi:X.N[i]? =some x)(R:Loc X.env.scope x)(Y:PDx X e ma)(hs:swapsWith e (some (.Name x pos')) pos.line X.env=pure false:=by rfl)(U:X.fn x=true\/X.env.scope.names.lookup x=some .local:=by first|exact .inl rfl|exact .inr rfl):
  PSw X (.Assign [.Name x pos'] e pos) (za4 i ma):=PS.imp (zy5 Z hi R Y hs U) fun D σ H j=>by
 obtain⟨F0,H0,F,ρ,β,o,β',z,e,ok⟩:=j
 unfold za4 at e
 cases h1:ma ρ β with
 |none=>rw[h1]at e;cases e
 |some r=>
  rw[h1]at e;cases e
  refine⟨F0,H0,F,ρ,β,r.1,r.2,z,h1,fun v F1 H1 O G rp=>?_⟩
  obtain⟨B,fp,I,k⟩:=O
  exact ok F1 H1 _ ⟨B,fp,I.set rp,k⟩ G
end
end
section
section
variable {X:Cx}{a b c e o:Expr}{pos apos:Pos}{E:XK}{es:List Expr}{m:ML}{mo:ME}
end
noncomputable def updB (p:Addr)(c':Cell):Bx->Bx
 |[]=>[]
 | (q,c)::β=>if q=p then (q,c')::β else (q,c)::updB p c' β
section
variable {K:W.Frag}{F0 H0 F H B:Hp}{σ:St}{ρ:Ro}{β:Bx}{fp:List Addr}
theorem BxR.upd {p:Addr}{c:Cell}:∀{fp:List Addr}{β:Bx},BxR K F B fp β->fp.Nodup->β.lookup p=some c->∃ fq,CellR K F B fq p c/\fq.Nodup/\(∀ a∈fq,a∈fp)/\
  ∀(O:Cell)(i:List Addr)(B' F':Hp),Same F F'->CellR K F' B' i p O->i.Nodup->(∀ a∈fp,a∉fq->B' a=B a)->(∀ a∈i,a∈fq\/a∉fp)->∃ j,BxR K F' B' j (updB p O β)/\j.Nodup/\∀ a∈j,a∈fp\/a∈i
 |_,_,.nil,_,e=>by cases e
 |_,_,.cons (fp:=f0) (fq:=f1) (p:=q) (c:=c0) (β:=β) h r,nd,e=>by
  obtain⟨n0,n1,n2⟩:=List.nodup_append.mp nd
  have N:∀ a,a∈f0->a∈f1->False:=fun a h1 h2=>n2 a h1 a h2 rfl
  rw[lookup_cons]at e
  cases z:p==q with
  |true=>
   rw[z]at e
   have z:=beq_iff_eq.mp z
   subst z
   cases e
   refine⟨f0,h,n0,fun a ha=>mem_append_left _ ha,fun O i B' F' R hc Z U fr=>?_⟩
   unfold updB
   rw[if_pos rfl]
   refine⟨i++f1,.cons hc (r.mono R fun a ha=>U a (mem_append_right _ ha) fun z=>N a z ha),List.nodup_append.mpr ⟨Z,n1,fun a h1 b h2 I=>?_⟩,fun a ha=>?_⟩
   .subst I
    rcases fr a h1 with z|z
    .exact N a z h2
    .exact z (mem_append_right _ h2)
   .rcases List.mem_append.mp ha with z|z
    .exact .inr z
    .exact .inl (mem_append_right _ z)
  |false=>
   rw[z]at e
   have a3:¬ q=p:=fun y=>by rw[y,beq_self_eq_true]at z;cases z
   obtain⟨fq,h1,Y,G,a2⟩:=r.upd n1 e
   refine⟨fq,h1,Y,fun a ha=>mem_append_right _ (G a ha),fun O i B' F' R hc Z U fr=>?_⟩
   obtain⟨j,r',a1,hm⟩:=a2 O i B' F' R hc Z (fun a ha hn=>U a (mem_append_right _ ha) hn) fun a ha=>(fr a ha).imp id fun z y=>z (mem_append_right _ y)
   unfold updB
   rw[if_neg a3]
   refine⟨f0++j,.cons (h.mono R fun a ha=>U a (mem_append_left _ ha) fun y=>N a ha (G a y)) r',List.nodup_append.mpr ⟨n0,a1,fun a h1 b h2 I=>?_⟩,fun a ha=>?_⟩
   .subst I
    rcases hm a h2 with z|z
    .exact N a h1 z
    .rcases fr a z with y|y
     .exact N a h1 (G a y)
     .exact y (mem_append_left _ h1)
   .rcases List.mem_append.mp ha with z|z
    .exact .inl (mem_append_left _ z)
    .exact(hm a z).imp (mem_append_right _) id
theorem Rl.putB {a:Addr}{o:HO}(j:Rl K F0 (jn H0 B) F H σ ρ)(out:∀ b,B b≠none->H0 b=none/\F0 b=none)(ha:B a≠none\/H a=none):Rl K F0 (jn H0 (upd B a o)) F (upd H a o) σ ρ/\F a=none/\H0 a=none/\F0 a=none:=by
 have N:F a=none/\H0 a=none/\F0 a=none:=by
  rcases ha with h|h
  .refine⟨?_,out a h⟩
   cases q:F a with
   |none=>rfl
   |some u=>exact absurd (Z6 (j.ext.new a (out a h).2 (by rw[q];simp))).1 h
  .have f:F a=none:=j.fh.free h
   exact⟨f,(Z6 (j.ext.hh.free h)).2,j.ext.ff.free f⟩
 have I:∀ b,b≠a->jn H0 (upd B a o) b=jn H0 B b:=fun b G=>by unfold jn;rw[w5 G]
 have ne:∀ p xs,jn H0 B p=none->H p=some (.lst xs)->p≠a:=fun p xs e1 e2 e3=>by
  subst e3
  rcases ha with h|h
  .exact h (Z6 e1).1
  .rw[h]at e2;cases e2
 refine⟨⟨⟨j.ext.ff,fun b u e=>?_,j.ext.fh.put N.1,fun b e n=>?_,j.ext.nf⟩,j.len,j.sh,fun i ds e=>?_,j.inj,fun i p ds e=>?_,j.obn,j.ob1⟩,N⟩
 .by_cases G:b=a
  .subst G
   rw[f6 w4]at e
   rw[w4];exact e
  .rw[I b G]at e
   rw[w5 G]
   exact j.ext.hh b u e
 .have G:b≠a:=fun z=>by subst z;exact n N.1
  rw[I b G]
  exact j.ext.new b e n
 .obtain⟨p,xs,a1,a2,a3,a4,a5⟩:=j.own i ds e
  have hp:=ne p xs a5 a3
  exact⟨p,xs,a1,a2,by rw[w5 hp];exact a3,a4,by rw[I p hp];exact a5⟩
 .obtain⟨a1,a2,a3,xs,a4,a5⟩:=j.ob i p ds e
  have hp:=ne p xs a3 a4
  exact⟨a1,a2,by rw[I p hp];exact a3,xs,by rw[w5 hp];exact a4,a5⟩
end
end
section
section
variable {K:W.Frag}{F0 H0 F H B:Hp}{σ:St}{ρ:Ro}{β:Bx}{fp:List Addr}
theorem FlR.length {xs:List V}{fs:List Fl}(h:FlR K F B fp xs fs):xs.length=fs.length:=by
 induction h with
 |nil=>rfl
 |v _ _ i=>simp[i]
 |l _ _ _ i=>simp[i]
theorem zk0 {a:Addr}{o:HO}(out:∀ b,B b≠none->H0 b=none/\F0 b=none)(h:H0 a=none/\F0 a=none):∀ b,upd B a o b≠none->H0 b=none/\F0 b=none:=fun b i=>by
 by_cases z:b=a
 .subst z;exact h
 .rw[w5 z]at i;exact out b i
theorem G9 {a:Addr}{o:HO}(pl:∀ b o u,B b≠some (.frz o u))(h:∀ p u,o≠ .frz p u):∀ b p u,upd B a o b≠some (.frz p u):=fun b p u i=>by
 by_cases z:b=a
 .subst z;rw[w4]at i;exact h p u (Option.some.inj i)
 .rw[w5 z]at i;exact pl b p u i
end
section
variable {X:Cx}{value o:Expr}{pos pos':Pos}{f:Str}
end
end
section
section
variable {X:Cx}{value e o:Expr}{pos pos' apos cpos:Pos}{f:Str}{st:Stmt}{rest:List Stmt}
end
end
section
theorem Rl.forget {K:W.Frag}{F0 H0 F H:Hp}{σ:St}{ρ:Ro}(r:Rl K F0 H0 F H σ ρ)(i:Nat):Rl K F0 H0 F H σ (ρ.set i none):=by
 have back:∀(j:Nat) x,(ρ.set i none)[j]? =some (some x)->ρ[j]? =some (some x):=fun j x e=>by
  by_cases I:i=j
  .subst I
   rcases Nat.lt_or_ge i ρ.length with z|z
   .rw[getElem?_set_self z]at e;cases e
   .rw[getElem?_eq_none (by simpa using z)]at e;cases e
  .rw[getElem?_set_ne I]at e;exact e
 exact⟨r.ext,by simp[r.len],fun j d e=>r.sh j d (back j _ e),fun j ds e=>r.own j ds (back j _ e),fun j k p ds es G e1 e2=>r.inj j k p ds es G (back j _ e1) (back k _ e2),fun j p ds e=>r.ob j p ds (back j _ e),fun j k p ds es e1 e2=>r.obn j k p ds es (back j _ e1) (back k _ e2),fun j k p q ds es e1 e2=>r.ob1 j k p q ds es (back j _ e1) (back k _ e2)⟩
open Classical in
noncomputable def anyN {α:Type}(β:Bx)(f:Addr->Option α):Option α:=if h:∃ r,∀ x,x∉β.map Prod.fst->f x=some r then some (Classical.choose h)else none
theorem ym1 {i:Type}{β:Bx}{f:Addr->Option i}{r:i}(h:anyN β f=some r):∀ x,x∉β.map Prod.fst->f x=some r:=by
 unfold anyN at h
 split at h
 .rename_i hx
  cases h
  exact Classical.choose_spec hx
 .cases h
theorem yz3 (l:List Addr):∃ x,x∉l:=by
 have z:∀ l:List Addr,∃ b,∀ a∈l,a<b:=by
  intro l
  induction l with
  |nil=>exact⟨0,fun a h=>by cases h⟩
  |cons a l G=>
   obtain⟨b,j⟩:=G
   refine⟨max b (a+1),fun c i=>?_⟩
   rcases List.mem_cons.mp i with rfl|i
   .have:=Nat.le_max_right b (c+1);exact Nat.lt_of_lt_of_le (Nat.lt_succ_self c) this
   .exact Nat.lt_of_lt_of_le (j c i) (Nat.le_max_left _ _)
 obtain⟨b,j⟩:=z l
 exact⟨b,fun h=>Nat.lt_irrefl _ (j b h)⟩
theorem xr9 {i:Type}{β:Bx}{f:Addr->Option i}{r:i}(h:∀ x,x∉β.map Prod.fst->f x=some r):anyN β f=some r:=by
 unfold anyN
 have j:∃ r,∀ x,x∉β.map Prod.fst->f x=some r:=⟨r,h⟩
 rw[dif_pos j]
 obtain⟨x,hn⟩:=yz3 (β.map Prod.fst)
 have:=Classical.choose_spec j x hn
 rw[h x hn]at this
 exact this.symm
noncomputable def letGo (i:Nat)(k:Nat):Out×Bx->Out×Bx
 | (.nx ρ,β)=>(.nx (ρ.set i none),β.drop (β.length-k))
 | (.bk ρ,β)=>(.bk (ρ.set i none),β.drop (β.length-k))
 | (.ct ρ,β)=>(.ct (ρ.set i none),β.drop (β.length-k))
 | (o,β)=>(o,β.drop (β.length-k))
theorem okW.letGo {K:W.Frag}{F0 H0 I:Hp}{N:Ends}{i k:Nat}:∀{o:Out}{β:Bx},okW K F0 H0 I N (letGo i k (o,β)).1 (letGo i k (o,β)).2->okW K F0 H0 I N o β
 | .nx ρ,β,h=>fun F H σ ⟨B,fp,G,ok⟩ s=>let ⟨fq,z⟩:=ok.drop (β.length-k);h F H σ ⟨B,fq,G.forget i,z⟩ s
 | .bk ρ,β,h=>fun F H σ ⟨B,fp,G,ok⟩ s=>let ⟨fq,z⟩:=ok.drop (β.length-k);h F H σ ⟨B,fq,G.forget i,z⟩ s
 | .ct ρ,β,h=>fun F H σ ⟨B,fp,G,ok⟩ s=>let ⟨fq,z⟩:=ok.drop (β.length-k);h F H σ ⟨B,fq,G.forget i,z⟩ s
 | .rt d,β,h=>fun v F H B fp x ok r=>let ⟨fq,z⟩:=ok.drop (β.length-k);h v F H B fq x z r
 | .rf ds,β,h=>fun p xs F H B fp x ok a b c r=>let ⟨fq,z⟩:=ok.drop (β.length-k);h p xs F H B fq x z a b c r
 | .rg d p r,β,h=>fun v F H xs B fp x ok a j b c e=>let ⟨fq,z⟩:=ok.drop (β.length-k);h v F H xs B fq x z a j b c e
 | .rp _ _,_,h=>h
 | .rgf _ _ _,_,h=>h
section
variable {X:Cx}{e:Expr}{es:List Expr}{st:Stmt}{rest:List Stmt}{E:XK}{mf:MFW}{m:ML}
theorem BxR.keys {K:W.Frag}{F B:Hp}:∀{fp:List Addr}{β:Bx},BxR K F B fp β->∀ p∈β.map Prod.fst,B p≠none
 |_,_,.nil,p,h=>by cases h
 |_,_,.cons (p:=q) c r,p,h=>by
  rw[map_cons]at h
  rcases List.mem_cons.mp h with z|z
  .subst z
   cases c with
   |ins _ _ b _ _=>rw[b];simp
   |row b _=>rw[b];simp
   |tb _ b _ _=>rw[b];simp
  .exact r.keys p z
end
noncomputable def plainW (mf:MFW):MF:=fun ds=>match mf ds []with |some (.sh d,_)=>some (.sh d)|some (.fr es,_)=>some (.fr es)|_=>none
theorem Ext.unjn {F H B F' H':Hp}(d:∀ a,B a≠none->H a=none)(x:Ext F (jn H B) F' H'):Ext F H F' H':=
 ⟨x.ff,fun a o e=>x.hh a o (by
  cases q:B a with
  |none=>rw[d5 q];exact e
  |some u=>rw[d a (by rw[q];simp)]at e;cases e),x.fh,fun b e n=>(Z6 (x.new b e n)).2,x.nf⟩
theorem FnOk.plainW {P:Program}{w:World}{K:W.Frag}{mg:Str->Option Value}{base:Heap}{CX:CXT}{k:Nat}{f:Addr}{fd:FuncData}{ps:List Str}{n:Nat}{mf:MFW}(G:FnOk P w K mg base CX k f fd ps (spW K n mf)):FnOk P w K mg base CX k f fd ps (spR K n (plainW mf)):=G.imp fun vs H Q E j=>by
 obtain⟨hl,F,ds,r,I,N,e,ok⟩:=j
 have O:cut H (fun _=>none)=H:=funext fun a=>M8 rfl
 have R:BxOk K F (cut H fun _=>none) F (fun _=>none) [] []:=⟨fun a h=>absurd rfl h,.nil,nodup_nil,fun a o u h=>by cases h⟩
 refine⟨hl,F,fun _=>none,[],ds,[],?_⟩
 unfold L2.plainW at e
 split at e
 .rename_i d β h1
  cases e
  refine⟨_,_,I,fun a o h=>(by cases h),R,N,h1,fun v F' H' B' z x i r=>?_⟩
  rw[O]at x i
  exact ok v F' H' (x.unjn fun a h=>(i.out a h).1) r
 .rename_i es β h1
  cases e
  refine⟨_,_,I,fun a o h=>(by cases h),R,N,h1,fun p xs F' H' B' z x i U a2 Z Y=>?_⟩
  rw[O]at x i U
  exact ok p xs F' H' (x.unjn fun a h=>(i.out a h).1) (Z6 U).2 a2 Z Y
 .cases e
end
section
section
variable {X:Cx}{a b c e o:Expr}{pos:Pos}{st:Stmt}{rest:List Stmt}{E:XK}{es:List Expr}{mf:MFW}
noncomputable def zi1 (c:MBm)(x y:MW):MW:=fun ρ β=>match c ρ with |some (true,ρ1)=>x ρ1 β|some (false,ρ1)=>y ρ1 β|none=>none
theorem xy8 {ca:MBm}{x y:List Stmt}{mx G:MW}(O:PT X c (TCm X.K ca))(N:PSsw X x mx)(I:PSsw X y G):PSw X (.If c x y pos) (zi1 ca mx G):=PS.imp (zj0 O N I) fun D σ H ⟨F0,H0,F,ρ,β,o,β',⟨B,fp,z,k⟩,e,ok⟩=>by
 unfold zi1 at e
 split at e
 .rename_i ρ1 h1
  exact⟨F0,jn H0 B,F,ρ,true,ρ1,z,h1,fun F1 H1 j i=>iteT ⟨F0,H0,F1,ρ1,β,o,β',⟨B,fp,j,k.mono i⟩,e,ok.mono i⟩⟩
 .rename_i ρ1 h1
  exact⟨F0,jn H0 B,F,ρ,false,ρ1,z,h1,fun F1 H1 j i=>iteF ⟨F0,H0,F1,ρ1,β,o,β',⟨B,fp,j,k.mono i⟩,e,ok.mono i⟩⟩
 .cases e
end
end
section
section
variable {X:Cx}{e o:Expr}{E:XK}
end
end
section
section
variable {X:Cx}{e:Expr}{pos:Pos}
end
end
section
section
variable {K:W.Frag}{F0 H0 F H B:Hp}{σ:St}{ρ:Ro}{β:Bx}{fp:List Addr}
end
noncomputable abbrev MGW:=Addr->List D->List D->Bx->Option (D×List D×Bx)
section
variable {X:Cx}{e:Expr}{pos:Pos}{st:Stmt}{es:List Expr}{E:XK}{mf:MGW}{m:ML}
end
end
section
end
section
section
variable {P:Program}{w:World}{K:W.Frag}{mg:Str->Option Value}{base h:Heap}{nm ql cn:Str}{st:Stmt}{ps:List Str}{sp:Sp}{n:Nat}{C:Addr}
end
section
variable {X:Cx}{n k:Nat}{nm cn:Str}{ps:List Str}{sp:Sp}{e o:Expr}{es:List Expr}{ta:TE}{t:TA}{p pos apos:Pos}{C:Addr}{pl:Sem Bool}
end
section
variable {a b c d e f:ME}(ρ:Ro)(ds:List D)
end
end
section
section
variable {X:Cx}{a b c e:Expr}{pos:Pos}{st:Stmt}
@[irreducible] noncomputable def zh4 (x y:MBm):MBm:=fun ρ=>match x ρ with |some (true,ρ1)=>y ρ1|some (false,ρ1)=>some (false,ρ1)|none=>none
theorem yj0 {ca:MBm}(h:PT X a (TCm X.K ca)):PW X (.BoolOp .And [a] pos) (TCm X.K ca):=yw2 h
theorem xy4 {ca cb:MBm}{rest:List Expr}(ha:PT X a (TCm X.K ca))(I:PW X (.BoolOp .And (b::rest) pos) (TCm X.K cb)):PW X (.BoolOp .And (a::b::rest) pos) (TCm X.K (zh4 ca cb)):=(yc1 ha I).imp fun σ H Q j=>by
 obtain⟨F0,H0,F,ρ,g,ρ',G,e,q⟩:=j
 unfold zh4 at e
 split at e
 .rename_i ρ1 h1
  exact⟨F0,H0,F,ρ,_,ρ1,G,h1,fun F1 H1 i s1=>iteT ⟨F0,H0,F1,ρ1,g,ρ',i,e,fun F2 H2 z s2=>q F2 H2 z (s1.trans s2)⟩⟩
 .rename_i ρ1 h1
  cases e
  exact⟨F0,H0,F,ρ,_,_,G,h1,fun F1 H1 i s1=>iteF (q F1 H1 i s1)⟩
 .cases e
theorem xd2 {ca:MBm}(h:PW X a (TCm X.K ca)):PT X a (TCm X.K ca):=h.pt
@[irreducible] noncomputable def cpu (x:MB):MBm:=fun ρ=>match x ρ with |some b=>some (b,ρ)|none=>none
theorem yh0 {ca:MB}(h:PC' X a ca):PT X a (TCm X.K (cpu ca)):=PT.imp h fun σ H Q i=>by
 obtain⟨F0,H0,F,ρ,g,ρ',z,e,q⟩:=i
 unfold cpu at e
 split at e
 .rename_i b h1
  cases e
  exact⟨F0,H0,F,_,_,z,h1,fun F1 H1 j=>q F1 H1 (z.go j) j.ff⟩
 .cases e
noncomputable def yt8 (i:Nat):MW:=fun ρ β=>match ρ[i]? with |some (some (.own ds))=>some (.rf ds,β)|_=>none
theorem yj7 (i:Nat){x:Str}{pos':Pos}(h:PE X (.Name x pos') (tVar i)):PSw X (.Return (some (.Name x pos')) pos) (yt8 i):=PS.imp (Y9 h) fun D σ H ⟨F0,H0,F,ρ,β,o,β',⟨B,fp,j,k⟩,e,ok⟩=>by
 unfold yt8 at e
 split at e
 .rename_i ds h1
  cases e
  obtain⟨p,xs,e1,e2,e3,G,z⟩:=j.own i _ h1
  exact⟨_,e1,ok p xs F H B fp j.ext k z e2 e3 G⟩
 .cases e
end
end
section
noncomputable def low (m:MW):MS:=fun ρ=>match m ρ []with |some (o,_)=>some o|none=>none
section
variable {X:Cx}{st:Stmt}{sts:List Stmt}
end
end
section
section
variable {X:Cx}{a b c e k:Expr}{te:TE}{ma mb:ME}{la lb:ML}{pos p2:Pos}{st:Stmt}
noncomputable def zz1 {α:Type}(xs:List α)(js:List Nat):List α:=js.filterMap (xs[·]?)
noncomputable def R0 {α:Type}(xs:List α)(lo hi st:Option Int):List α:=zz1 xs (sliceRange (sliceBounds lo hi st xs.length).1 (sliceBounds lo hi st xs.length).2.1 (sliceBounds lo hi st xs.length).2.2)
theorem Reps.pick {K:W.Frag}{F:Hp}{vs:List V}{ds:List D}(r:Reps K F vs ds):∀ i:List Nat,Reps K F (zz1 vs i) (zz1 ds i)
 |[]=>.nil
 |j::i=>by
  unfold zz1
  rw[filterMap_cons,filterMap_cons]
  cases h:ds[j]? with
  |none=>
   have:vs[j]? =none:=by rw[getElem?_eq_none_iff]at h ⊢;rw[r.length];exact h
   rw[this];exact Reps.pick r i
  |some d=>
   obtain⟨v,h1,h2⟩:=r.get h
   rw[h1];exact .cons h2 (Reps.pick r i)
theorem Vals.pick {vs:List V}{us:List Value}(r:Vals vs us):∀ i:List Nat,Vals (zz1 vs i) (zz1 us i)
 |[]=>.nil
 |j::i=>by
  unfold zz1
  rw[filterMap_cons,filterMap_cons]
  cases h:vs[j]? with
  |none=>
   have:us[j]? =none:=by rw[getElem?_eq_none_iff]at h ⊢;rw[<-r.length];exact h
   rw[this];exact Vals.pick r i
  |some d=>
   obtain⟨v,h1,h2⟩:=r.get h
   rw[h1];exact .cons h2 (Vals.pick r i)
theorem A9 (its:List Value)(lo hi st:Option Int):slicePick its.toArray lo hi st=(R0 its lo hi st).toArray:=by
 unfold slicePick R0 zz1
 simp
def xe0 (K:W.Frag)(te:TE)(tl th tk:TO):TE:=fun σ H Q=>te σ H fun x H1=>tl σ H1 fun lo H2=>th σ H2 fun hi H3=>tk σ H3 fun st H4=>st≠some 0/\∃ a xs,x= .ref a/\SqL K H4 a xs/\(R0 xs lo hi st).length<=sizeLine/\∀ p,H4 p=none->Q (.ref p) (upd H4 p (.lst (R0 xs lo hi st)))
theorem xw0 {lo hi O:Option Expr}{tl th tk:TO}(he:PE X e te)(hl:PO X lo tl)(hh:PO X hi th)(hk:PO X O tk)(G:∀ v i:Value,subscripted (.Slice lo hi O p2) false v i=operate [v,i] (getItem v i)):PE X (.Subscript e (.Slice lo hi O p2) pos) (xe0 X.K te tl th tk):=by
 intro pins s σ H Q I h
 refine Subscript_ (thn (he pins s σ H _ I h) fun v s1 j=>?_)
 obtain⟨x,H1,I1,r1,q1⟩:=j
 refine wpAny_Slice (thn (hl pins s1 σ H1 _ I1 q1) fun Y s2 ⟨l,H2,I2,pl,q2⟩=>(thn (hh pins s2 σ H2 _ I2 q2) fun vh s3 ⟨R,H3,I3,ph,q3⟩=>(thn (hk pins s3 σ H3 _ I3 q3) fun Z z j=>?_)))
 obtain⟨o,H4,I4,pk,ne,a,xs,ex,hx,hz,q⟩:=j
 subst ex
 cases r1
 have U:Inv X pins σ H4 { z with heap:=z.heap.push { cls:=.type "slice",data:=.fields #[Y,vh,Z] } }:=I4.kept (t':=z.toks) fun b ob q=>Heap.get?_push_of_some _ q
 obtain⟨its,r,ht,a1⟩:=U.list hx
 have N:=r.length
 show wpAny (model X.prog X.w) X.A (subscriptTail e (.Slice lo hi O p2) (.ref a) (.ref z.heap.objs.size)) (EP X pins σ Q) X.xe { z with heap:=z.heap.push { cls:=.type "slice",data:=.fields #[Y,vh,Z] } }
 refine tail_any (ops:=[.ref a,.ref z.heap.objs.size]) ht.isList.typeIs slot_list_getitem.lookup ?_ (G _ _)
 refine wpAny_getItem_list_slice ht.isList (Heap.IsSliceOf.new ..) pl ph pk ne ?_ (by rw[size_toArray] <;> omega)
 rw[A9]
 refine⟨.ref _,_,U.laid (t':=z.toks) (o:=.lst (R0 xs l R o)) (fun b ob q=>Heap.get?_push_of_some _ q) (Nat.le_refl _) ?_,rfl,q _ (U.hok.fresh (Nat.le_refl _))⟩
 refine⟨hz,_,0,?_,Heap.get?_push_size _ rfl⟩
 unfold R0
 rw[N]
 exact r.pick _
@[irreducible] noncomputable def zz4 (m:ML)(lo hi k:MO):ML:=fun ρ=>(m ρ).bind fun ds=>(lo ρ).bind fun l=>(hi ρ).bind fun h=>(k ρ).bind fun s=>if s≠some 0/\(R0 ds l h s).length<=sizeLine then some (R0 ds l h s)else none
theorem xx6 {lo hi ko:Option Expr}{Y Z mk:MO}(ha:PB X a la)(hl:POs X lo Y)(hh:POs X hi Z)(hk:POs X ko mk)(I:∀ v i:Value,subscripted (.Slice lo hi ko p2) false v i=operate [v,i] (getItem v i):=by intro _ _;with_unfolding_all rfl):PF X (.Subscript a (.Slice lo hi ko p2) pos) (zz4 la Y Z mk):=(xw0 ha hl hh hk I).imp fun σ H Q N=>by
 obtain⟨F0,H0,F,ρ,g,R,e,q⟩:=N
 unfold zz4 at e
 cases h1:la ρ with
 |none=>rw[h1]at e;cases e
 |some ds=>
  cases h2:Y ρ with
  |none=>rw[h1,h2]at e;cases e
  |some l=>
   cases h3:Z ρ with
   |none=>rw[h1,h2,h3]at e;cases e
   |some h=>
    cases h4:mk ρ with
    |none=>rw[h1,h2,h3,h4]at e;cases e
    |some k=>
     rw[h1,h2,h3,h4]at e
     have e:(if k≠some 0/\(R0 ds l h k).length<=sizeLine then some (R0 ds l h k)else none)=some g:=e
     split at e
     .rename_i hz
      cases e
      refine⟨F0,H0,F,ρ,ds,R,h1,fun p xs F1 H1 O s1 U=>⟨F0,H0,F1,ρ,_,R.go O,h2,fun F2 H2 z=>⟨F0,H0,F2,ρ,_,(R.go O).go z,h3,fun F3 H3 G=>⟨F0,H0,F3,ρ,_,((R.go O).go z).go G,h4,fun F4 H4 j=>⟨hz.1,p,xs,rfl,j.hh.seq (G.hh.seq (z.hh.seq s1)),?_,fun w hw=>?_⟩⟩⟩⟩⟩
      .have:=hz.2
       have hr:=((U.mono ((z.ff.trans G.ff).trans j.ff)).pick (sliceRange (sliceBounds l h k ds.length).1 (sliceBounds l h k ds.length).2.1 (sliceBounds l h k ds.length).2.2)).length
       unfold R0 at this ⊢
       rw[U.length,hr];exact this
      .have xx:=((O.trans z).trans G).trans j
       refine q w _ F4 _ (xx.trans (Ext.own j.fh hw)) (xx.hh.free hw) (j.fh.free hw) w4 ?_
       unfold R0
       rw[U.length]
       exact(U.mono ((z.ff.trans G.ff).trans j.ff)).pick _
     .cases e
def KTup (K:W.Frag)(a:Addr)(xs:List Str):Prop:=∃(o:Obj)(its:Array Value)(n:Nat),K.lookup a=some o/\o.cls= .type "tuple"/\o.data= .seq its n/\its.size<=sizeLine/\Vals (xs.map V.str) its.toList/\o.dict=none
theorem KTup.rep {K:W.Frag}{F:Hp}{a:Addr}{xs:List Str}(h:KTup K a xs):Rep K F (.ref a) (.tup (xs.map .str)):=let ⟨o,its,n,h1,h2,z,j,i,_⟩:=h;.tup (.inr ⟨o,its,n,h1,h2,z,j,i⟩) (P7 xs)
theorem O3 {x:Str}{xs:List Str}{q:Addr}{p:Pos}(ht:KTup X.K q xs)(j:Gl X x)(hm:X.mg x=some (.ref q))(hd:(x==("__debug__":Str))=false:=by decide):PD X (.Name x p) (mc (.tup (xs.map .str))):=(M3 (v:=.ref q) j hm rfl hd).imp fun σ H Q i=>by
 obtain⟨F0,H0,F,ρ,d,r,e,q⟩:=i
 cases e;exact q _ F H (.refl r.fh) ht.rep
noncomputable def idxS (x:Str):List Str->Option Nat
 |[]=>none
 |y::r=>if y=x then some 0 else (idxS x r).map (·+1)
theorem zr2 {l:Addr}{a b x:Str}{ta tb I:Tok}{j:Nat}(i:idxS x [a,b]=some j):Meets (Builtin.«tuple.index» { pos:=[.ref l,.str x I] }) fun A R s=>(∃ o n,s.heap.get? l=some o/\o.data= .seq #[.str a ta,.str b tb] n)/\R (.ok (.ret (.int j s.toks))) { s with toks:=s.toks+1 }:=by
 intro prog w A R s ⟨⟨o,n,U,hd⟩,h⟩
 show wpAny _ A.in1 (Builtin.Tuple.tupleItemsOf (.ref l) >>= _) _ _ s
 refine wpAny_bind (wpAny_tupleItemsOf U hd ?_)
 have O:∀(f:Nat->Option PySem.Fin×Unit->Sem (ForInStep (Option PySem.Fin×Unit)))(z:Option PySem.Fin×Unit),(forIn [0:min (#[Value.str a ta,Value.str b tb]:Array Value).size (#[Value.str a ta,Value.str b tb]:Array Value).size] z f:Sem _)=forIn [0,1] z f:=fun f z=>by
  rw[Std.Legacy.Range.forIn_eq_forIn_range']
  have e:List.range' [:min (#[Value.str a ta,Value.str b tb]:Array Value).size (#[Value.str a ta,Value.str b tb]:Array Value).size].start [:min (#[Value.str a ta,Value.str b tb]:Array Value).size (#[Value.str a ta,Value.str b tb]:Array Value).size].size [:min (#[Value.str a ta,Value.str b tb]:Array Value).size (#[Value.str a ta,Value.str b tb]:Array Value).size].step=[0,1]:=by
   show List.range' 0 ((2-0+1-1) / 1) 1=[0,1]
   decide
  rw[e]
 show wpAny _ A.in1 ((forIn [0:min (#[Value.str a ta,Value.str b tb]:Array Value).size (#[Value.str a ta,Value.str b tb]:Array Value).size] (none,()) _) >>= _) _ _ s
 rw[O,forIn_cons]
 unfold idxS at i
 refine wpAny_bind (wpAny_bind ?_)
 show wpAny _ A.in1 (eqBool (.str a ta) (.str x I) >>= _) _ _ s
 refine wpAny_bind (PySem.SeqAt.EqAt.str_str a ta x I prog w _ _ ?_)
 by_cases ha:a=x
 .rw[if_pos ha]at i
  cases i
  have G:(a==x)=true:=by simpa using ha
  rw[G,if_pos rfl]
  refine wpAny_bind ?_
  unfold retInt
  refine wpAny_bind (wpAny_mkInt ?_)
  exact wpAny_pure (wpAny_pure (wpAny_pure (wpAny_pure h)))
 .rw[if_neg ha]at i
  have G:(a==x)=false:=by simpa using ha
  rw[G,if_neg Bool.false_ne_true]
  refine wpAny_pure ?_
  dsimp only
  rw[forIn_cons]
  refine wpAny_bind ?_
  show wpAny _ A.in1 (eqBool (.str b tb) (.str x I) >>= _) _ _ s
  refine wpAny_bind (PySem.SeqAt.EqAt.str_str b tb x I prog w _ _ ?_)
  unfold idxS at i
  by_cases G:b=x
  .rw[if_pos G]at i
   cases i
   have N:(b==x)=true:=by simpa using G
   rw[N,if_pos rfl]
   refine wpAny_bind ?_
   unfold retInt
   refine wpAny_bind (wpAny_mkInt ?_)
   exact wpAny_pure (wpAny_pure (wpAny_pure (wpAny_pure h)))
  .rw[if_neg G]at i
   cases i
theorem za3 {a b:Str}:MtR X "tuple.index" (fun t vs H Q=>∃ l x j,t= .ref l/\vs=[.str x]/\SqT X.K H l [.str a,.str b]/\idxS x [a,b]=some j/\Q (.int (j:Int)) H):=by
 intro pins s σ H t vs v us Q I rx i h
 obtain⟨l,x,j,rfl,rfl,hl,O,q⟩:=h
 cases rx
 obtain⟨u,rfl,G⟩:=i.one
 obtain⟨tk,rfl⟩:=G
 obtain⟨its,r,⟨o,e,R,n,hd⟩,z⟩:=I.tuple hl
 cases r with
 |cons N r=>
  cases r with
  |cons r2 r=>
   cases r
   obtain⟨ta,rfl⟩:=N
   obtain⟨tb,rfl⟩:=r2
   exact call_meets F.slot_tuple_index ⟨_,e,R⟩ F.entry_tuple_index (F.args_tuple_index_2 _ _) (zr2 O) ⟨⟨o,n,e,hd⟩,.int j,H,I.tok _,⟨_,rfl⟩,q⟩
@[irreducible] noncomputable def ys6 (a b:Str)(x:ME):ME:=fun ρ=>match x ρ with
 |some (.str y)=>(idxS y [a,b]).map fun j=>.int (j:Int)
 |_=>none
theorem yu6 {n a b:Str}{q:Addr}{x:ME}{p apos cpos:Pos}(ht:KTup X.K q [a,b])(O:PD X e x)
  (R:∀ ta,PA X [e] ta->PE X (.Call (.Attribute (.Name n p) "index" apos) [e] [] cpos) (tBM X.K "tuple" (fun t vs H Q=>∃ l x j,t= .ref l/\vs=[.str x]/\SqT X.K H l [.str a,.str b]/\idxS x [a,b]=some j/\Q (.int (j:Int)) H) (tC (.ref q)) ta)) (hs:starEach (e::[]) X.env=(false,eval e X.env)::starEach [] X.env:=by rfl):PD X (.Call (.Attribute (.Name n p) "index" apos) [e] [] cpos) (ys6 a b x):=
 (R _ (j9 O pa_nil hs)).imp fun σ H Q i=>by
  obtain⟨F0,H0,F,ρ,g,G,e,q⟩:=i
  unfold ys6 at e
  split at e
  .rename_i y h1
   cases h2:idxS y [a,b]with
   |none=>rw[h2]at e;cases e
   |some j=>
    rw[h2]at e;cases e
    obtain⟨o,its,n,k1,k2,k3,N,k5,I⟩:=ht
    refine⟨.inr (.inl ⟨rfl,o,k1,k2,I⟩),F0,H0,F,ρ,_,G,h1,fun w F2 H2 z r2=>?_⟩
    cases r2
    exact⟨_,y,j,rfl,rfl,.inr ⟨o,its,n,k1,k2,k3,N,k5⟩,h2,q _ F2 H2 z (.int _)⟩
  .cases e
noncomputable def zh9 (m:ME):ML:=fun ρ=>match m ρ with |some (.tup ds)=>some ds|_=>none
theorem xt7 {K:W.Frag}{F:Hp}{p:Addr}{xs:List V}{ds:List D}(s:SqT K F p xs)(r:Reps K F xs ds):ItD K F (Itt K p) ds where
 go:=fun i F1 H1 a b hi=>by
  obtain⟨v,e,_⟩:=r.get (getElem?_eq_getElem hi)
  exact⟨xs,v,b.seqT (a.seqT s),e⟩
 yld:=fun i F1 H1 x H2 d a b e y=>by
  obtain⟨rfl,y⟩:=y
  obtain⟨v,e1,e2⟩:=r.get e
  have:=y xs (b.seqT (a.seqT s))
  rw[e1]at this;cases this
  exact⟨F1,.refl b,e2.mono a⟩
 stop:=fun F1 H1 a b=>⟨xs,b.seqT (a.seqT s),by rw[r.length];exact Nat.le_refl _⟩
theorem yv3 {tg:Expr}(hd:PD X e ma):PId X tg e (zh9 ma):=PI.imp (xn5 hd) fun σ H R i=>by
 obtain⟨F0,H0,F,ρ,its,z,e,q⟩:=i
 unfold zh9 at e
 split at e
 .rename_i ds h1
  cases e
  refine⟨F0,H0,F,ρ,_,z,h1,fun v F1 H1 j G=>?_⟩
  cases G with
  |tup s t=>exact⟨_,rfl,⟨_,j.fh.seqT s⟩,q _ F1 H1 j (xt7 s t)⟩
 .cases e
end
end
section
def R3 (a:Addr)(o:Obj):Heap->Prop:=fun h=>h.get? a=some o
noncomputable abbrev lamO (X:Cx)(q:Str)(params:Arguments)(body:Expr)(sc:Scope)(pm:Value)(c:Addr)(ctv:Value):Obj:=W.kla_obj (Str.ofString "<lambda>") q params body sc (clOf X.env.cells sc.names []) pm c ctv
def tLam (X:Cx)(P:Addr)(pos:Pos)(q:Str)(params:Arguments)(body:Expr)(sc:Scope):TE:=fun σ H Q=>∃ ps,H P=some (.tbl ps)/\TriplesOk ps.toList/\
 ((codeAmong pos ps.toList=none/\∀ c f pm ctv ps',c≠f->H c=none->H f=none->TriplesOk ps'.toList->codeAmong pos ps'.toList=some (.ref c)->
   Q (.ref f) (upd (upd (upd H P (.tbl ps')) c (.ext (c5 c q))) f (.ext (R3 f (lamO X q params body sc pm c ctv)))))\/
  ∃ c,codeAmong pos ps.toList=some (.ref c)/\H c=some (.ext (c5 c q))/\∀ f pm ctv,H f=none->Q (.ref f) (upd H f (.ext (R3 f (lamO X q params body sc pm c ctv)))))
theorem zf5 {P:Program}{w:World}{H:Hp}{h:Heap}{f:Addr}{o:Obj}(e:h.get? f=some o):ObjOk P w H h f (.ext (R3 f o)):=⟨e,⟨o,e⟩,fun _ _ p k=>k _ p⟩
theorem yo2 {P:Program}{w:World}{H:Hp}{h:Heap}{c:Addr}{q:Str}(e:h.CodeRec (.ref c) q):ObjOk P w H h c (.ext (c5 c q)):=by
 refine⟨e,?_,fun h1 h2 p k=>?_⟩
 .obtain⟨c',o,vs,t,e1,e2,_⟩:=e
  cases e1;exact⟨o,e2⟩
 .obtain⟨c',o,vs,t,e1,e2,e3,e4⟩:=p
  cases e1
  exact⟨c,o,vs,t,rfl,k o e2,e3,e4⟩
section
variable {X:Cx}{P:Addr}{pos:Pos}{q:Str}{params:Arguments}{body:Expr}{sc:Scope}
theorem yc6 (ct:CodeT X.K X.env.code P)(aa:X.base.BuiltinsAt X.mg P)(a9:∀ x∈sc.names,x.2= .free->X.env.kindOf x.1=some .cell\/X.env.kindOf x.1=some .free)(hd:defaultsOf params X.env=([],[]):=by rfl)(hq:X.env.qual++Str.ofString "<lambda>"=q:=by rfl):
  PE X (.Lambda params body sc pos) (tLam X P pos q params body sc):=by
 intro pins s σ H Q I ⟨ps,Z,tr,h⟩
 refine W.kla_eval hd ?_
 rw[hq]
 obtain⟨c0,e0,U⟩:=ct.hd
 have U:=U _ I.kIn
 have bt:s.heap.BuiltinsAt X.mg P:=aa.keeps I.bk
 have a2:s.heap.get? P=some (W.tabObj ps):=I.hok P _ Z
 have cl:=S3 (env:=X.env) (scope:=sc) fun x hx hk=>I.ok.has x.1 (a9 x hx hk)
 have a4:s.heap.Ns mainGlobals X.mg:=by
  obtain⟨o,es,ep,e,r⟩:=I.mod.glob
  exact⟨o,es,ep,I.bk _ _ e,r⟩
 have a6:=Heap.lt_size a2
 rcases h with⟨hn,h⟩|⟨c,hc,hF,h⟩
 .refine W.kla_makeFunction cl I.ok.glob a4 e0 U a2 tr hn ct.ne bt fun c ctv h' tk hx i R a3 a8=>?_
  generalize a1:(ps++#[rawInt pos.line,rawInt pos.col,Value.ref c])=ps2 at a8
  generalize O:W.kla_obj (Str.ofString "<lambda>") q params body sc (clOf X.env.cells sc.names []) ((X.mg (Str.ofString "__name__")).getD Value.none) c ctv=ob
  have G:∀ b o,b≠P->s.heap.get? b=some o->(h'.push ob).get? b=some o:=fun b o j e=>Heap.get?_push_of_some _ (hx b o j e)
  have a7:(h'.push ob).get? P=some (W.tabObj ps2):=Heap.get?_push_of_some _ a8
  have hf:(h'.push ob).get? h'.objs.size=some ob:=Heap.get?_push_size _ (by rw[<-O];rfl)
  have Hc:H c=none:=I.hok.fresh i
  have Y:H h'.objs.size=none:=I.hok.fresh (Nat.le_trans i (Nat.le_of_lt R))
  have cf:c≠h'.objs.size:=Nat.ne_of_lt R
  have cP:c≠P:=fun z=>absurd a6 (by rw[<-z];exact Nat.not_lt.mpr i)
  have fP:h'.objs.size≠P:=fun z=>absurd a6 (by rw[<-z];exact Nat.not_lt.mpr (Nat.le_trans i (Nat.le_of_lt R)))
  have N:∀ b,b≠P->b≠c->b≠h'.objs.size->upd (upd (upd H P (.tbl ps2)) c (.ext (c5 c q))) h'.objs.size (.ext (R3 h'.objs.size ob)) b=H b:=fun b h1 h2 h3=>by rw[w5 h3,w5 h2,w5 h1]
  have nP:∀ b,H b=none->b≠P:=fun b n z=>by rw[z,Z]at n;cases n
  refine⟨.ref h'.objs.size,_,I.un (H':=upd (upd (upd H P (.tbl ps2)) c (.ext (c5 c q))) h'.objs.size (.ext (R3 h'.objs.size ob))) (t':=tk) ⟨fun b o e n _ _=>G b o (nP b n) e,fun b o e n _ _=>⟨o.slots,G b o (nP b n) e⟩,fun b o e n _=>?_,fun b o e _=>?_,fun b xs e=>?_,fun b o u e=>?_,fun b qs e=>?_⟩ ?_,rfl,?_⟩
  .have j:=Heap.lt_size e
   rw[N b (nP b n) (fun z=>absurd j (by rw[z];exact Nat.not_lt.mpr i)) fun z=>absurd j (by rw[z];exact Nat.not_lt.mpr (Nat.le_trans i (Nat.le_of_lt R)))]
   exact n
  .by_cases j:b=P
   .subst j;exact⟨_,a7⟩
   .exact⟨o,G b o j e⟩
  .rw[N b (fun z=>by rw[z,Z]at e;cases e) (fun z=>by rw[z,Hc]at e;cases e) fun z=>by rw[z,Y]at e;cases e];exact e
  .rw[N b (fun z=>by rw[z,Z]at e;cases e) (fun z=>by rw[z,Hc]at e;cases e) fun z=>by rw[z,Y]at e;cases e];exact e
  .by_cases j:b=P
   .subst j
    rw[Z]at e;cases e
    exact⟨#[rawInt pos.line,rawInt pos.col,Value.ref c],by rw[w5 (Ne.symm fP),w5 (Ne.symm cP),w4,a1]⟩
   .exact⟨#[],by rw[N b j (fun z=>by rw[z,Hc]at e;cases e) (fun z=>by rw[z,Y]at e;cases e),e];simp⟩
  .intro a o e
   by_cases h1:a=h'.objs.size
   .subst h1;rw[w4]at e;cases e
    exact zf5 hf
   .rw[w5 h1]at e
    by_cases h2:a=c
    .subst h2;rw[w4]at e;cases e
     obtain⟨c',o',vs,t,z1,z2,z3,z4⟩:=a3
     cases z1
     exact yo2 ⟨_,o',vs,t,rfl,Heap.get?_push_of_some _ z2,z3,z4⟩
    .rw[w5 h2]at e
     by_cases h3:a=P
     .subst h3;rw[w4]at e;cases e
      exact a7
     .rw[w5 h3]at e
      refine(I.hok a o e).stay (fun b u j k=>G b u ?_ k) (fun b k=>?_) fun b xs k=>?_
      .rcases j with rfl|j
       .exact h3
       .exact fun z=>by rw[z,Z]at j;cases j
      .rw[N b (fun z=>by rw[z,Z]at k;cases k) (fun z=>by rw[z,Hc]at k;cases k) fun z=>by rw[z,Y]at k;cases k];exact k
      .rw[N b (fun z=>by rw[z,Z]at k;cases k) (fun z=>by rw[z,Hc]at k;cases k) fun z=>by rw[z,Y]at k;cases k];exact k
  .rw[<-O]
   refine h c _ _ ctv ps2 cf Hc Y ?_ ?_
   .rw[<-a1,Array.toList_append];exact TriplesOk_snoc _ _ _ _ tr
   .rw[<-a1,Array.toList_append];exact codeAmong_snoc _ tr hn
 .refine W.kla_makeFunctionHit cl I.ok.glob a4 e0 U a2 tr hc bt fun ctv h' tk hk i=>?_
  have Y:H h'.objs.size=none:=I.hok.fresh i
  generalize O:({ cls:=.type "function",data:=.func (W.kla_fn (Str.ofString "<lambda>") q params body sc (clOf X.env.cells sc.names []) ((X.mg (Str.ofString "__name__")).getD Value.none) (.ref c) ctv) }:Obj)=ob
  have hf:(h'.push ob).get? h'.objs.size=some ob:=Heap.get?_push_size _ (by rw[<-O];rfl)
  have a5:∀ b o,s.heap.get? b=some o->(h'.push ob).get? b=some o:=fun b o e=>Heap.get?_push_of_some _ (hk b o e)
  refine⟨.ref h'.objs.size,_,I.un (t':=tk) (Un.laid a5 i Y) (I.hok.laid a5 i (zf5 hf)),rfl,?_⟩
  rw[<-O]
  exact h _ _ ctv Y
end
end
section
noncomputable def yr8 (X:Cx)(sc:Scope)(q:Str)(L f c:Addr):Env:=newEnv sc L mainGlobals (clOf X.env.cells sc.names []) (q++Str.ofString ".<locals>.") (some f) (.ref c) none builtinsNs
noncomputable def zt3 (X:Cx)(N:List Str)(sc:Scope)(q:Str)(f c:Addr)(A:Around)(s:Shared)(H:Hp):Cx where
 prog:=X.prog
 w:=X.w
 K:=X.K
 mg:=X.mg
 base:=X.base
 A:=A.deeper (yr8 X sc q s.heap.objs.size f c)
 N:=N
 s₀:=s
 H₀:=H
 env:=yr8 X sc q s.heap.objs.size f c
 outer:=X.stack
 stack:=yr8 X sc q s.heap.objs.size f c::X.stack
 ex:=[]
 fn:=fun _=>false
 calm:=true
 pn:=[]
 xe:=fun _ _=>False
section
variable {X:Cx}{pins:List (Addr×Obj)}{σ:St}{H:Hp}{s:Shared}
theorem zo2 {sc:Scope}{N:List Str}{src:List (Option Nat)}{q x:Str}{f c:Addr}{A:Around}{h':Heap}{t:Nat}{v:V}{u:Value}(B:Blk X sc N src)(I:Inv X pins σ H s)(hA:A.handled=none)(a2:A.frames=some X.stack)
  (h0:N[0]? =some x) (a4:src[0]? =some none) (hl:sc.names.lookup x=some .local) (rv:RelV v u) (hn:h'.Ns s.heap.objs.size fun y=>List.lookup y [(x,u)])
  (Z:∀ b o,s.heap.get? b=some o->h'.get? b=some o):Inv (zt3 X N sc q f c A s H) [] ((blk0 src σ).set 0 (some v)) H { s with heap:=h',toks:=t }:=by
 have Y:=I.env0
 have j:∀ b:Addr,b∉(zt3 X N sc q f c A s H).ex:=fun b z=>absurd (show b∈([]:List Addr)from z) (by simp)
 refine⟨⟨Y.mod,B.kind,rfl,rfl,Nat.le_refl _,fun x y c h1 h2=>I.ok.inj x y c (V0 h1) (V0 h2),fun x R=>?_,fun y c h _=>(by cases h),fun _=>hA,Around.frames_deeper a2,.inr ⟨rfl,rfl⟩,fun b z=>absurd z (j b),Y.bs,Y.bsz,fun b _ _=>j b,fun b z=>absurd z (j b),Y.funs,Y.frf⟩,
  rfl,I.bare,Un.kept Z,⟨_,hn,fun i y O e1 e2 e3=>?_⟩,fun y c e=>?_,I.hok.fresh (Nat.le_refl _),fun y c e=>I.freeC y c (V0 e),fun p hp=>absurd (show p∈([]:List (Addr×Obj))from hp) (by simp),I.hok.kept Z,?_⟩
 .have hx':∃ k,sc.names.lookup x=some k/\(k= .cell\/k= .free):=by
   rcases R with R|R
   .exact⟨_,R,.inl rfl⟩
   .exact⟨_,R,.inr rfl⟩
  obtain⟨k,e,a1⟩:=hx'
  have hm:=PySem.mem_of_lookup e
  rcases a1 with rfl|rfl
  .exact absurd rfl (B.nocell _ hm)
  .obtain⟨c',hc'⟩:=I.ok.has x (B.free _ hm rfl)
   exact Option.isSome_iff_exists.mp (U3 hc' sc.names [] hm)
 .cases i with
  |zero=>
   have e1:N[0]? =some y:=e1
   rw[h0]at e1;cases e1
   have G:0<(blk0 src σ).length:=by
    rcases Nat.eq_zero_or_pos (blk0 src σ).length with z|z
    .rw[getElem?_eq_none (by simp[z])]at e2;cases e2
    .exact z
   rw[getElem?_set_self G]at e2;cases e2
   exact⟨u,rv,.inl ⟨hl,by show List.lookup x [(x,u)]=some u;simp[lookup_cons]⟩⟩
  |succ i=>
   rw[getElem?_set_ne (by omega)]at e2
   have a3:∃ k,src[i+1]? =some (some k)/\σ[k]? =some (some O):=by
    unfold blk0 at e2
    rw[getElem?_map]at e2
    cases q:src[i+1]? with
    |none=>rw[q]at e2;cases e2
    |some o=>
     rw[q]at e2
     cases o with
     |none=>cases e2
     |some k=>
      refine⟨k,rfl,?_⟩
      have e2:(σ[k]?).join=some O:=Option.some.inj e2
      cases qq:σ[k]? with
      |none=>rw[qq]at e2;cases e2
      |some z=>rw[qq]at e2;exact congrArg some e2
   obtain⟨k,ek,ev⟩:=a3
   obtain⟨x',n1,n2,n3⟩:=B.fv (i+1) k ek
   have:x'=y:=by
    have e1:N[i+1]? =some y:=e1
    rw[n1]at e1;exact Option.some.inj e1
   subst this
   obtain⟨m0,a5,G⟩:=I.loc
   have U:=B.free (x',.free) (PySem.mem_of_lookup n3) rfl
   obtain⟨u',r,l⟩:=G k x' O n2 ev (by rcases U with z|z;exact .inr (.inl z);exact .inr (.inr z))
   refine⟨u',r,.inr ⟨.inr n3,?_⟩⟩
   rcases l with⟨l,_⟩|⟨_,c',ec,z⟩
   .rcases U with q|q <;> (rw[q]at l;cases l)
   .obtain⟨c2,ec'⟩:=Option.isSome_iff_exists.mp (U3 ec sc.names [] (PySem.mem_of_lookup n3))
    have:=V0 ec'
    rw[ec]at this;cases this
    obtain⟨o,ho,hd⟩:=z
    exact⟨c',ec',o,Z c' o ho,hd⟩
 .obtain⟨O,o,ho,hd⟩:=I.cell y c (V0 e)
  exact⟨O,o,Z c o ho,hd⟩
 .show ((blk0 src σ).set 0 (some v)).length=N.length
  unfold blk0;rw[length_set,length_map];exact B.len
def KeyR (X:Cx)(σ:St)(Pr:Hp->Hp->Prop)(kv:Value)(mk:D->Option D):Prop:=∀(pins:List (Addr×Obj))(H F:Hp)(s:Shared)(x:V)(u:Value)(d kd:D),Inv X pins σ H s->Pr F H->Same F H->Rep X.K F x d->RelV x u->mk d=some kd->
 wpAny (model X.prog X.w) X.A.in1 (call kv [u]) (fun w s'=>∃ y F' H',Inv X pins σ H' s'/\RelV y w/\Ext F H F' H'/\Rep X.K F' y kd) (fun _ _=>False) s
def LamP (X:Cx)(σ:St)(ρ:Ro)(q:Str)(c f:Addr)(o:Obj)(F H:Hp):Prop:=(∃ F0 H0,Rl X.K F0 H0 F H σ ρ)/\F c=some (.ext (c5 c q))/\F f=some (.ext (R3 f o))
theorem LamP.go {ρ:Ro}{q:Str}{c f:Addr}{o:Obj}{F H F' H':Hp}(h:LamP X σ ρ q c f o F H)(x:Ext F H F' H'):LamP X σ ρ q c f o F' H':=
 let ⟨⟨F0,H0,i⟩,h1,h2⟩:=h;⟨⟨F0,H0,i.go x⟩,x.ff _ _ h1,x.ff _ _ h2⟩
theorem yf5 {sc:Scope}{N:List Str}{src:List (Option Nat)}{q x:Str}{f c:Addr}{params:Arguments}{body:Expr}{pm ctv:Value}{ρ:Ro}{mb:ME}(B:Blk X sc N src)(h0:N[0]? =some x)(Y:src[0]? =some none)(hl:sc.names.lookup x=some .local)
  (hb:∀ cl pm cdv ctv u,bindArgs (W.kla_fn (Str.ofString "<lambda>") q params body sc cl pm cdv ctv) ⟨[u],[]⟩=pure [(x,u)]) (j:∀ f c s H,PD (zt3 X N sc q f c X.A.in1 s H) body mb) (a1:sc.isCoroutine=false) (G:sc.isGenerator=false) (hr:X.A.in1.depth<recursionLimit) (hd:X.A.in1.handled=none):
  KeyR X σ (LamP X σ ρ q c f (lamO X q params body sc pm c ctv)) (.ref f) (fun d=>mb ((Y2 src ρ).set 0 (some (.sh d)))):=by
 intro pins H F s x0 u d R I pr sf r rx hm
 obtain⟨⟨F0,H0,rl⟩,hc,hf⟩:=pr
 have gf:s.heap.get? f=some (lamO X q params body sc pm c ctv):=(I.hok f _ (sf _ _ hf)).1
 have gc:s.heap.CodeRec (.ref c) q:=(I.hok c _ (sf _ _ hc)).1
 refine wpAny_call (W.kla_callFunE hr gf rfl a1 G rfl gc ?_)
 rw[hb]
 refine wpAny_pure ?_
 refine wpAny_newFunctionEnv B.nocell (by intro y hy;rw[List.mem_singleton.mp hy];exact hl) (fun h' Z U=>?_) B.kind
 have hk:∀ b o,s.heap.get? b=some o->h'.get? b=some o:=fun b o e=>U.extBut b o (Nat.ne_of_lt (Heap.lt_size e)) (Heap.get?_push_of_some _ e)
 refine⟨I.nolimit.keeps hk,W.kla_codeExpr ?_⟩
 have I1:=zo2 (q:=q) (f:=f) (c:=c) (A:=X.A.in1) (t:=s.toks+[(x,u)].length) B I hd I.env0.in1.frames h0 Y hl rx Z hk
 have O:=(rl.blk src).1.set (i:=0) r
 refine wpAny_mono (j f c s H [] _ _ H (fun v H'=>∃ F',Ext F H F' H'/\Rep X.K F' v R) I1 ⟨F,H,F,_,R,O,hm,fun v F' H' x r=>⟨F',x,r⟩⟩) (fun w s' hw=>?_) fun _ _ z=>z.elim
 obtain⟨v,H',J,rv,q'⟩:=hw
 have hq:CE X.stack X.prog X.w H s (fun v H'=>∃ F',Ext F H F' H'/\Rep X.K F' v R) w s':=⟨v,H',J.os,J.bare,J.base,J.hok,rv,q'⟩
 obtain⟨y,H2,I2,ry,F2,x2,r2⟩:=I.after hq
 exact⟨y,F2,H2,I2,ry,x2,r2⟩
end
end
section
section
variable {X:Cx}{pins:List (Addr×Obj)}{σ:St}
set_option maxHeartbeats 8000000 in
theorem ys3 {q:Addr}{mk:D->Option D}{Pr:Hp->Hp->Prop}(hk:KeyR X σ Pr (.ref q) mk)(hP:∀ F H F' H',Pr F H->Ext F H F' H'->Pr F' H')(hc:X.calm=true)(hu:X.A.units+64<cLine){l I S:Addr}{xs:List V}{ds:List D}{kw:List (Str×Value)}{dm:D}(a2:I≠S)(ah:l≠I)(ag:l≠S):
  ∀(r j:Nat)(H F H0 F0:Hp)(s:Shared)(xb yb:V)(U Y:Value)(db N:D)(c:Nat)(R:Result->Shared->Prop),
   ds.length-(j+1)=r->j+1<=ds.length->Inv X pins σ H s->Pr F H->Ext F0 H0 F H->SqT X.K H l xs->Reps X.K F xs ds->s.heap.IsTupleIter I l (j+1)->s.heap.get? S=some (seqObj "list" #[U,Y] c)->FpOk X pins H I->FpOk X pins H S->
   RelV xb U->Rep X.K F xb db->RelV yb Y->Rep X.K F yb N->minF mk (ds.drop (j+1)) db N=some dm->
   (∀ x v F' H' s',Inv X pins σ H' s'->RelV x v->Ext F0 H0 F' H'->Rep X.K F' x dm->R (.ok (.ret v)) s')->
   codeAny (model X.prog X.w) X.A (.builtin "min.loop" ⟨[.ref I,.ref q,.ref S],kw⟩) R s:=by
 have O:(toString "min"++toString ".loop":String)="min.loop":=by decide
 intro r
 induction r with
 |zero=>
  intro j H F H0 F0 s xb yb U Y db N c R hr hj I' pr ext sq rs a1 hS fI fS rb pb ry py hm hR
  have ac:j+1=ds.length:=by omega
  obtain⟨its,vr,pl,_⟩:=I'.tuple sq
  have zl:its.length=ds.length:=by rw[<-vr.length,rs.length]
  rw[ac,drop_length]at hm
  have hm:some db=some dm:=hm
  cases hm
  refine codeAny_builtin PySem.F.entry_min_loop ?_
  rw[Around.under_plainId PySem.F.plain_min_loop _]
  show wpAny _ X.A.in1 (seqItems? (.ref S) >>= _) _ _ _
  refine wpAny_bind (wpAny_seqItems hS rfl ?_)
  show wpAny _ X.A.in1 (tryCatch (pyNext (.ref I)) _ >>= _) _ _ _
  refine wpAny_bind (wpAny_tryCatch (wpAny_pyNext_tuple_end (I'.ok.hd hc) a1 pl (by simp;omega) fun h' a7=>?_))
  have af:h'.get? S=some (seqObj "list" #[U,Y] c):=a7 S _ (Ne.symm a2) hS
  have s1:=Heap.SameBut.update h' S (Obj.mapSeq fun _=>(#[]:Array Value))
  show wpAny _ X.A.in1 (updateSeq S (fun _=>#[]) >>= _) _ _ _
  refine wpAny_bind ?_
  refine wpAny_updateSeq af rfl (wpAny_bind (wpAny_letGo (wpAny_pure ?_)))
  have I9:Inv X pins σ H { s with heap:=h'.update S (Obj.mapSeq fun _=>(#[]:Array Value)),toks:=s.toks }:=I'.turnedL (fp:=[I,S]) (t':=s.toks) (fun b o G e=>by
   simp only[mem_cons,not_mem_nil,or_false,not_or]at G
   exact(s1.2 b G.2).trans (a7 b o G.1 e)) (fun b G=>by
   simp only[mem_cons,not_mem_nil,or_false]at G
   rcases G with rfl|rfl <;> assumption)
  exact hR xb U F H _ I9 rb ext pb
 |succ r ih=>
  intro j H F H0 F0 s xb yb U Y db N c R hr hj I' pr ext sq rs a1 hS fI fS rb pb ry py hm hR
  have Z:j+1<ds.length:=by omega
  obtain⟨its,vr,pl,_⟩:=I'.tuple sq
  have zl:its.length=ds.length:=by rw[<-vr.length,rs.length]
  obtain⟨d,hd⟩:∃ d,ds[j+1]? =some d:=⟨_,getElem?_eq_getElem Z⟩
  obtain⟨x,hx,px⟩:=rs.get hd
  obtain⟨v,hv,rx⟩:=vr.get hx
  rw[W9 hd]at hm
  unfold minF at hm
  cases hkd:mk d with
  |none=>rw[hkd]at hm;cases hm
  |some kd=>
   rw[hkd]at hm
   dsimp only at hm
   refine codeAny_builtin PySem.F.entry_min_loop ?_
   rw[Around.under_plainId PySem.F.plain_min_loop _]
   show wpAny _ X.A.in1 (seqItems? (.ref S) >>= _) _ _ _
   refine wpAny_bind (wpAny_seqItems hS rfl ?_)
   show wpAny _ X.A.in1 (tryCatch (pyNext (.ref I)) _ >>= _) _ _ _
   refine wpAny_bind (wpAny_tryCatch (wpAny_pyNext_tuple_item a1 pl (by simpa using hv) fun h1 a9 s1=>?_))
   have I1:Inv X pins σ H { s with heap:=h1,toks:=s.toks }:=I'.turnedL (fp:=[I]) (fun b o G e=>s1.extBut b o (by simpa using G) e) (fun b G=>by rw[List.mem_singleton.mp G];exact fI)
   have ae:h1.get? S=some (seqObj "list" #[U,Y] c):=s1.extBut _ _ (Ne.symm a2) hS
   obtain⟨oI,eI,cI,dI⟩:=id a9
   have Ip:=I1.pin2 fI fS eI ae (fun v z=>by rw[dI]at z;cases z) (fun v z=>by cases z)
   show wpAny _ X.A.in1 (tryCatch (holding [v] (call (.ref q) [v])) _ >>= _) _ _ _
   refine wpAny_bind (wpAny_tryCatch (wpAny_holding (wpAny_mono (hk (pins++[(I,oI),(S,seqObj "list" #[U,Y] c)]) H F _ x v d kd Ip pr ext.fh px rx hkd) (fun w s2 hw=>?_) fun _ _ z=>z.elim)))
   obtain⟨y,F2,H2,I2,a5,i,a6⟩:=hw
   have pI:=I2.pin (I,oI) (by simp)
   have pS:=I2.pin (S,seqObj "list" #[U,Y] c) (by simp)
   have a4:Inv X pins σ H2 s2:=I2.unpinned
   have ab:FpOk X pins H2 I:=fI.now pI.2.1
   have a3:FpOk X pins H2 S:=fS.now pS.2.1
   have a8:s2.heap.IsTupleIter I l (j+1+1):=⟨oI,pI.1,cI,dI⟩
   cases hlt8:ltF 8 kd N with
   |none=>rw[hlt8]at hm;cases hm
   |some bt=>
    rw[hlt8]at hm
    have aa:=yr4 a4 8 (A:=X.A.in1) (by show X.A.units+1+8<cLine;omega) (a6.mono i.fh) ((py.mono i.ff).mono i.fh) a5 ry hlt8
    show wpAny _ X.A.in1 (tryCatch (holding [v,w] (richCompare .Lt w Y >>= _)) _ >>= _) _ _ _
    refine wpAny_bind (wpAny_tryCatch (wpAny_holding (wpAny_bind (aa X.prog X.w _ _ ?_))))
    refine wpAny_bind (wpAny_holding (wpAny_truthy_bool ?_))
    refine wpAny_bind (wpAny_letGo (wpAny_pure ?_))
    cases bt with
    |true=>
     have s3:=Heap.SameBut.update s2.heap S (Obj.mapSeq fun _=>#[v,w])
     obtain⟨c2,ad⟩:∃ c2,(s2.heap.update S (Obj.mapSeq fun _=>#[v,w])).get? S=some (seqObj "list" #[v,w] c2):=⟨_,get?_update_seq pS.1 fun _=>#[v,w]⟩
     simp only[if_true]
     refine wpAny_bind ?_
     refine wpAny_updateSeq pS.1 rfl (wpAny_bind (wpAny_letGo ?_))
     rw[O]
     have I3:Inv X pins σ H2 { s2 with heap:=s2.heap.update S (Obj.mapSeq fun _=>#[v,w]),toks:=s2.toks }:=a4.turnedL (fp:=[S]) (fun b o G e=>(s3.2 b (by simpa using G)).trans e) (fun b G=>by rw[List.mem_singleton.mp G];exact a3)
     refine wpAny_pure ⟨plainId_quiet PySem.F.plain_min_loop _,ih (j+1) H2 F2 H0 F0 _ x y v w d kd c2 R (by omega) Z I3 (hP _ _ _ _ pr i) (ext.trans i) (i.hh.seqT sq) (rs.mono i.ff) ⟨oI,(s3.2 I a2).trans pI.1,cI,dI⟩ ad ab a3 rx (px.mono i.ff) a5 a6 hm hR⟩
    |false=>
     simp only[Bool.false_eq_true,if_false]
     refine wpAny_bind (wpAny_letGo ?_)
     rw[O]
     refine wpAny_pure ⟨plainId_quiet PySem.F.plain_min_loop _,ih (j+1) H2 F2 H0 F0 _ xb yb U Y db N c R (by omega) Z a4 (hP _ _ _ _ pr i) (ext.trans i) (i.hh.seqT sq) (rs.mono i.ff) a8 pS.1 ab a3 rb (pb.mono i.ff) ry (py.mono i.ff) hm hR⟩
set_option maxHeartbeats 8000000 in
theorem yg4 {q:Addr}{mk:D->Option D}{Pr:Hp->Hp->Prop}(hk:KeyR X σ Pr (.ref q) mk)(hP:∀ F H F' H',Pr F H->Ext F H F' H'->Pr F' H')(hc:X.calm=true)(hu:X.A.units+64<cLine){l:Addr}{xs:List V}{ds:List D}{dm:D}{H F:Hp}{s:Shared}{E:Value->Shared->Prop}{Q:Value->Shared->Prop}
  (I:Inv X pins σ H s) (pr:Pr F H) (sf:Same F H) (sq:SqT X.K H l xs) (rs:Reps X.K F xs ds) (hm:minN mk ds=some dm)
  (hQ:∀ x v F' H' s',Inv X pins σ H' s'->RelV x v->Ext F H F' H'->Rep X.K F' x dm->Q v s'):
  wpAny (model X.prog X.w) X.A (call (.builtin "min") [.ref l] [(Str.ofString "key",.ref q)]) Q E s:=by
 have j:(toString "min"++toString ".loop":String)="min.loop":=by decide
 obtain⟨its,vr,pl,_⟩:=I.tuple sq
 have Y:=pl
 obtain⟨ol,a6,_⟩:=id Y
 have Z:l<s.heap.objs.size:=Heap.lt_size a6
 refine kmk_tree PySem.F.kind_min PySem.F.plain_min PySem.F.entry_min (kmk_min_key _ _) ?_
 show wpAny _ X.A.in1 (Builtin.Builtins.bindParams "min" ["key","default"] 0 ⟨[],[(Str.ofString "key",.ref q)]⟩ >>= _) _ _ s
 refine wpAny_bind (wpAny_of_eq (show Builtin.Builtins.bindParams "min" ["key","default"] 0 ⟨[],[(Str.ofString "key",.ref q)]⟩=pure [some (.ref q),none]from rfl) ?_)
 refine wpAny_bind (wpAny_pure ?_)
 refine wpAny_bind (wpAny_pyIter_tuple Y ?_)
 refine wpAny_bind (wpAny_newList ?_ (Nat.zero_le _))
 rw[j]
 refine wpAny_pure ⟨plainId_quiet PySem.F.plain_min_loop _,?_⟩
 generalize N:({ cls:=.type "tuple_iterator",data:=.fields #[.ref l,.int 0 0] }:Obj)=oI0
 have hS:(s.heap.push oI0).objs.size=s.heap.objs.size+1:=size_push' ..
 have a8:l≠s.heap.objs.size:=Nat.ne_of_lt Z
 have a7:l≠(s.heap.push oI0).objs.size:=by rw[hS];exact Nat.ne_of_lt (Nat.lt_succ_of_lt Z)
 have O:s.heap.objs.size≠(s.heap.push oI0).objs.size:=by rw[hS];exact Nat.ne_of_lt (Nat.lt_succ_self _)
 have gI:((s.heap.push oI0).push (seqObj "list" #[] 0)).get? s.heap.objs.size=some oI0:=Heap.get?_push_of_some _ (Heap.get?_push_size _ (by rw[<-N];rfl))
 have gS:((s.heap.push oI0).push (seqObj "list" #[] 0)).get? (s.heap.push oI0).objs.size=some (seqObj "list" #[] 0):=Heap.get?_push_size _ rfl
 have fI:FpOk X pins H s.heap.objs.size:=I.fpOk (Nat.le_refl _) (I.hok.fresh (Nat.le_refl _))
 have fS:FpOk X pins H (s.heap.push oI0).objs.size:=I.fpOk (by rw[hS];exact Nat.le_succ _) (I.hok.fresh (by rw[hS];exact Nat.le_succ _))
 have I0:Inv X pins σ H { s with heap:=(s.heap.push oI0).push (seqObj "list" #[] 0),toks:=s.toks }:=I.turnedL (fp:=[]) (fun b o _ e=>Heap.get?_push_of_some _ (Heap.get?_push_of_some _ e)) (fun b G=>by cases G)
 generalize (s.heap.push oI0).objs.size=S at*
 generalize hI:s.heap.objs.size=J at*
 generalize (s.heap.push oI0).push (seqObj "list" #[] 0)=h0 at*
 have a9:h0.IsTupleIter J l 0:=⟨_,gI,by rw[<-N],by rw[<-N];rfl⟩
 have zl:its.length=ds.length:=by rw[<-vr.length,rs.length]
 obtain⟨its',U,a5,_⟩:=I0.tuple sq
 have ae:its'.length=ds.length:=by rw[<-U.length,rs.length]
 refine codeAny_builtin PySem.F.entry_min_loop ?_
 rw[Around.under_plainId PySem.F.plain_min_loop _]
 show wpAny _ X.A.in1 (seqItems? (.ref S) >>= _) _ _ _
 refine wpAny_bind (wpAny_seqItems gS rfl ?_)
 show wpAny _ X.A.in1 (tryCatch (pyNext (.ref J)) _ >>= _) _ _ _
 cases ds with
 |nil=>cases hm
 |cons d ds=>
  obtain⟨x,hx,px⟩:=rs.get (i:=0) (d:=d) rfl
  obtain⟨v,hv,rx⟩:=U.get hx
  unfold minN at hm
  dsimp only at hm
  cases hkd:mk d with
  |none=>rw[hkd]at hm;cases hm
  |some kd=>
   rw[hkd]at hm
   dsimp only at hm
   refine wpAny_bind (wpAny_tryCatch (wpAny_pyNext_tuple_item a9 a5 (by simpa using hv) fun h1 a1 s1=>?_))
   have I1:=I0.turnedL (h':=h1) (t':=s.toks) (fp:=[J]) (fun b o G e=>s1.extBut b o (by simpa using G) e) (fun b G=>by rw[List.mem_singleton.mp G];exact fI)
   have ab:h1.get? S=some (seqObj "list" #[] 0):=s1.extBut _ _ (Ne.symm O) gS
   obtain⟨oI,eI,cI,dI⟩:=id a1
   have Ip:=I1.pin2 fI fS eI ab (fun v z=>by rw[dI]at z;cases z) (fun v z=>by cases z)
   show wpAny _ X.A.in1 (tryCatch (holding [v] (call (.ref q) [v])) _ >>= _) _ _ _
   refine wpAny_bind (wpAny_tryCatch (wpAny_holding (wpAny_mono (hk (pins++[(J,oI),(S,seqObj "list" #[] 0)]) H F _ x v d kd Ip pr sf px rx hkd) (fun w s2 hw=>?_) fun _ _ z=>z.elim)))
   obtain⟨y,F2,H2,I2,a3,R,a4⟩:=hw
   have pI:=I2.pin (J,oI) (by simp)
   have pS:=I2.pin (S,seqObj "list" #[] 0) (by simp)
   have ad:Inv X pins σ H2 s2:=I2.unpinned
   have ac:FpOk X pins H2 J:=fI.now pI.2.1
   have a2:FpOk X pins H2 S:=fS.now pS.2.1
   have s3:=Heap.SameBut.update s2.heap S (Obj.mapSeq fun _=>#[v,w])
   obtain⟨c2,aa⟩:∃ c2,(s2.heap.update S (Obj.mapSeq fun _=>#[v,w])).get? S=some (seqObj "list" #[v,w] c2):=⟨_,get?_update_seq pS.1 fun _=>#[v,w]⟩
   show wpAny _ X.A.in1 (updateSeq S (fun _=>#[v,w]) >>= _) _ _ _
   refine wpAny_bind (wpAny_updateSeq pS.1 rfl ?_)
   rw[j]
   have I3:Inv X pins σ H2 { s2 with heap:=s2.heap.update S (Obj.mapSeq fun _=>#[v,w]),toks:=s2.toks }:=ad.turnedL (fp:=[S]) (fun b o G e=>(s3.2 b (by simpa using G)).trans e) (fun b G=>by rw[List.mem_singleton.mp G];exact a2)
   refine wpAny_pure ⟨plainId_quiet PySem.F.plain_min_loop _,ys3 hk hP hc hu (ds:=d::ds) (dm:=dm) O a8 a7 _ 0 H2 F2 H F _ x y v w d kd c2 _ rfl (by simp) I3 (hP _ _ _ _ pr R) R (R.hh.seqT sq) (rs.mono R.ff) ⟨oI,(s3.2 J O).trans pI.1,cI,dI⟩ aa ac a2 rx (px.mono R.ff) a3 a4 hm fun x v F' H' s' a b c d=>hQ x v F' H' s' a b c d⟩
end
end
section
theorem F7 {p:Addr}{c:Cell}:∀{β:Bx},β.lookup p=some c->updB p c β=β
 |[],e=>rfl
 | (q,j)::β,e=>by
  rw[lookup_cons]at e
  unfold updB
  cases z:p==q with
  |true=>
   rw[z]at e;cases e
   rw[if_pos (beq_iff_eq.mp z).symm]
  |false=>
   rw[z]at e
   have i:¬ q=p:=fun y=>by rw[y,beq_self_eq_true]at z;cases z
   rw[if_neg i,F7 e]
open Classical in
@[irreducible] noncomputable def za6 (mw:Str)(pos:Pos)(q:Str)(ds:List D)(src:List (Option Nat))(mb:ME):Ro->Bx->Option (D×Bx):=fun ρ β=>
 if ∃ P,β.lookup P=some (.tb P mw pos q)then (minN (fun d=>mb ((Y2 src ρ).set 0 (some (.sh d)))) ds).map fun d=>(d,β)else none
section
variable {X:Cx}
theorem xw2 {x tn mw q:Str}{T:Addr}{xs:List Str}{N:List Str}{src:List (Option Nat)}{params:Arguments}{body:Expr}{sc:Scope}{mb:ME}{pm pt j kp cpos:Pos}
  (ht:KTup X.K T xs) (ae:Gl X tn) (ad:X.mg tn=some (.ref T)) (hg:Gl X "min") (hm:X.mg "min"=none) (ag:∀ P,TabF X.K mw P->Mod X.K X.mg X.base->CodeT X.K X.env.code P/\X.base.BuiltinsAt X.mg P)
  (B:Blk X sc N src) (h0:N[0]? =some x) (ac:src[0]? =some none) (hl:sc.names.lookup x=some .local) (hb:∀ cl pm cdv ctv u,bindArgs (W.kla_fn (Str.ofString "<lambda>") q params body sc cl pm cdv ctv) ⟨[u],[]⟩=pure [(x,u)])
  (Y:∀ f c s H,PD (zt3 X N sc q f c X.A.in1 s H) body mb) (ah:sc.isCoroutine=false) (a5:sc.isGenerator=false) (hr:X.A.in1.depth<recursionLimit) (hh:X.A.in1.handled=none) (hc:X.calm=true) (hu:X.A.units+64<cLine)
  (hd:defaultsOf params X.env=([],[]):=by rfl) (hq:X.env.qual++Str.ofString "<lambda>"=q:=by rfl) (af:(tn==("__debug__":Str))=false:=by decide) (hs:starEach (.Name tn pt::[]) X.env=(false,eval (.Name tn pt) X.env)::starEach [] X.env:=by rfl):
  PDx X (.Call (.Name "min" pm) [.Name tn pt] [⟨some "key",.Lambda params body sc j,kp⟩] cpos) (za6 mw j q (xs.map .str) src mb):=by
 intro pins s σ H Q I ⟨F0,H0,F,ρ,β,d,β',⟨Bh,fp,rl,ok⟩,e,k⟩
 unfold za6 at e
 split at e
 .rename_i hP
  obtain⟨P,hP⟩:=hP
  cases h1:minN (fun d=>mb ((Y2 src ρ).set 0 (some (.sh d)))) (xs.map .str)with
  |none=>rw[h1]at e;cases e
  |some d1=>
   rw[h1]at e
   have e:some (d1,β)=some (d,β'):=e
   cases e
   obtain⟨fq,U,nq,ar,up⟩:=ok.bx.upd ok.nd hP
   cases U with
   |@tb _ _ _ _ ps T1 b1 tr hcd=>
    obtain⟨ct,bt⟩:=ag P T1 I.mod
    have Z:H P=some (.tbl ps):=rl.ext.hh _ _ (f6 b1)
    refine wpAny_Call_Name_kw (L9 I hg hm PyProof.Rows.boot_min ?_ (by decide) (by decide))
    have A:=j9 (M3 (v:=.ref T) (pos:=pt) ae ad rfl af) pa_nil hs cpos pins s σ H (fun vs H1=>vs=[.ref T]/\H1=H) I ⟨rfl,rfl⟩
    refine callWith_kw (thn A fun us s1 a4=>?_) (by rw[hs];rfl) (by rw[hs];rfl)
    obtain⟨vs,H1,I1,r1,ev,eH⟩:=a4
    subst ev eH
    obtain⟨u,rfl,ru⟩:=K5 r1
    cases ru
    have a3:=yv2 (nm:=some "key") (kpos:=kp) (yc6 (pos:=j) (body:=body) ct bt B.free hd hq) yc4 cpos pins s1 σ H1 (fun vs H2=>∃ f c pv ctv F2 B2 a1,vs=[.ref f]/\Rl X.K F0 (jn H0 B2) F2 H2 σ ρ/\BxOk X.K F0 H0 F2 B2 a1 β/\Same F F2/\F2 c=some (.ext (c5 c q))/\F2 f=some (.ext (R3 f (lamO X q params body sc pv c ctv)))) I1 ?_
    .refine thn a3 fun us s2 ⟨vs,H2,I2,r2,f,c,pv,ctv,F2,B2,a1,ev,R,aa,sf,G,aj⟩=>?_
     subst ev
     obtain⟨u1,rfl,a9⟩:=K5 r2
     cases a9
     obtain⟨o,its,n,k1,k2,k3,k4,k5,k6⟩:=ht
     exact yg4 (yf5 B h0 ac hl hb Y ah a5 hr hh (pm:=pv) (ctv:=ctv) (ρ:=ρ)) (fun _ _ _ _ p x=>p.go x) hc hu I2 ⟨⟨_,_,R⟩,G,aj⟩ R.fh (.inr ⟨o,its,n,k1,k2,k3,k4,k5⟩) (P7 xs) h1 fun x v F' H' s' I' rx x3 px=>⟨x,H',I',rx,k x F' H' ⟨B2,a1,R.go x3,aa.mono x3.ff⟩ (sf.trans x3.ff) px⟩
    .refine⟨ps,Z,tr,?_⟩
     rcases hcd with hn|⟨c,ai,a6⟩
     .refine .inl ⟨hn,fun c f pv ctv i cf Hc Hf a8 cm=>?_⟩
      obtain⟨a2,fP,ak,an⟩:=rl.putB (a:=P) (o:=.tbl i) ok.out (.inl (by rw[b1];simp))
      have cP:c≠P:=fun z=>by rw[z,Z]at Hc;cases Hc
      have am:f≠P:=fun z=>by rw[z,Z]at Hf;cases Hf
      have ap:upd H1 P (.tbl i) c=none:=by rw[w5 cP];exact Hc
      have ao:upd (upd H1 P (.tbl i)) c (.ext (c5 c q)) f=none:=by rw[w5 (Ne.symm cf),w5 am];exact Hf
      have x1:Ext F (upd H1 P (.tbl i)) (upd F c (.ext (c5 c q))) (upd (upd H1 P (.tbl i)) c (.ext (c5 c q))):=Ext.laid a2.fh ap
      have O:=Ext.laid (o:=.ext (R3 f (lamO X q params body sc pv c ctv))) x1.fh ao
      have sf:Same F (upd (upd F c (.ext (c5 c q))) f (.ext (R3 f (lamO X q params body sc pv c ctv)))):=x1.ff.trans O.ff
      have G:upd (upd F c (.ext (c5 c q))) f (.ext (R3 f (lamO X q params body sc pv c ctv))) c=some (.ext (c5 c q)):=by rw[w5 cf,w4]
      obtain⟨al,a7,ab,aq⟩:=up (.tb P mw j q) [P] (upd Bh P (.tbl i)) _ sf (.tb T1 w4 a8 (.inr ⟨c,cm,G⟩)) (by simp) (fun a ha hn=>w5 fun z=>hn (by rw[z];simp)) fun a ha=>.inl ha
      rw[F7 hP]at a7
      exact⟨f,c,pv,ctv,_,upd Bh P (.tbl i),al,rfl,(a2.go x1).go O,⟨zk0 ok.out ⟨ak,an⟩,a7,ab,G9 ok.plain fun _ _ z=>by cases z⟩,sf,G,w4⟩
     .refine .inr ⟨c,ai,rl.fh _ _ a6,fun f pv ctv Hf=>?_⟩
      have O:=Ext.laid (o:=.ext (R3 f (lamO X q params body sc pv c ctv))) rl.fh Hf
      exact⟨f,c,pv,ctv,_,Bh,fp,rfl,rl.go O,ok.mono O.ff,O.ff,O.ff _ _ a6,w4⟩
 .cases e
end
section
variable {P:Program}{w:World}{K:W.Frag}{mg:Str->Option Value}{base:Heap}{nm:Str}{st:Stmt}{ps:List Str}{sp:Sp}{n:Nat}
theorem Fun.okC {x qual:Str}{f:Addr}{fd:FuncData}{N:List Str}{k:Nat}(F:Fun K x qual st f fd)(S:FnScope N ps (y8 st))(len:∀ vs H Q E,sp vs H Q E->vs.length=ps.length)
  (i:∀(cdv:Value)(A:Around)(outer:List Env)(s:Shared)(H:Hp)(vs:List V)(Q:VK)(E:XK),fd.code=cdv->Room k (A.deeper (envOfC qual (y8 st) s.heap.objs.size f cdv))->sp vs H Q E->
   ∃ t,PSs (cxOf CX0 P w K mg base N qual (y8 st) f cdv A outer s H E).nox (p0 st) t/\t { nx:=fun _ H'=>Q .non H',rt:=Q } (start N vs) H):FnOk P w K mg base CX0 (k+1) f fd ps sp:=by
 obtain⟨oc,od,kV,doc,pm,an,cdv,ct,osl,rfl,G,z⟩:=F.ex
 refine ye2 G z S len fun A outer s H vs Q E I j=>?_
 obtain⟨t,h,q⟩:=i cdv A outer s H vs Q E rfl I j
 exact⟨t,h.nox,q⟩
theorem Fun.okWT {x qual:Str}{f:Addr}{fd:FuncData}{N:List Str}{k:Nat}{m:MW}(Fn:Fun K x qual st f fd)(Sc:FnScope N ps (y8 st))
  (i:∀(cdv:Value)(A:Around)(outer:List Env)(s:Shared)(H:Hp)(E:XK),fd.code=cdv->Room k (A.deeper (envOfC qual (y8 st) s.heap.objs.size f cdv))->PSsw (cxOf CX0 P w K mg base N qual (y8 st) f cdv A outer s H E).nox (p0 st) m):
  FnOk P w K mg base CX0 (k+1) f fd ps (spW K ps.length (runW N.length m)):=by
 refine Fn.okC Sc (fun vs H Q E h=>h.1) fun cdv A outer s H vs Q E I hr h=>?_
 obtain⟨hl,F,B,fp,ds,β,r,β',R,U,bo,Y,e,ok⟩:=h
 unfold runW at e
 refine⟨_,i cdv A outer s H E I hr,F,cut H B,F,v7 N.length ds,β,?_⟩
 have start:RlW K F (cut H B) F H (start N vs) (v7 N.length ds) β:=⟨B,fp,by rw[yq3 U];exact S6 R Y,bo⟩
 split at e
 .rename_i ρ β1 h1
  cases e
  refine⟨_,_,start,h1,fun F' H' O Z _=>?_⟩
  obtain⟨B',z,G,j⟩:=Z
  obtain⟨fq,k2⟩:=j.drop (β1.length-β.length)
  exact ok .non F' H' B' fq G.ext k2 .non
 .rename_i d β1 h1
  cases e
  refine⟨_,_,start,h1,fun v F' H' B' z x j rp=>?_⟩
  obtain⟨fq,k2⟩:=j.drop (β1.length-β.length)
  exact ok v F' H' B' fq x k2 rp
 .rename_i es β1 h1
  cases e
  refine⟨_,_,start,h1,fun p xs F' H' B' z x j a1 a2 a3 a4=>?_⟩
  obtain⟨fq,k2⟩:=j.drop (β1.length-β.length)
  exact ok p xs F' H' B' fq x k2 a1 a2 a3 a4
 .cases e
theorem zd2 {f T T0:Addr}{fd:FuncData}{cdv:Value}(Fn:Fun K nm nm st f fd)(a:mg nm=some (.ref f))(Y:fd.code=cdv)(R:TabF K nm T0)(b0:base.BuiltinsAt mg T0)(h:TabF K nm T)(M:Mod K mg base):CodeT K cdv T/\base.BuiltinsAt mg T:=by
 have one:∀{T},TabF K nm T->CodeT K cdv T:=fun{T} h=>by
  obtain⟨f',oc,od,Z,sl,e1,e2,ct⟩:=h
  have e3:=W.mg_of M.kin M.glob e1
  rw[a]at e3
  cases e3
  obtain⟨oc,od,kV,doc,pm,an,j,a2,osl,e4,i,U⟩:=Fn.ex
  rw[e2]at i
  cases i
  rw[<-Y]
  exact ct
 have z:=one h
 have c0:=one R
 have e:T=T0:=by
  obtain⟨c,e1,h1⟩:=z.hd
  obtain⟨c',e2,h2⟩:=c0.hd
  rw[e1]at e2;cases e2
  obtain⟨o,vs,_,_,_,_,_,_,_,a1,_,a3,a4,_⟩:=h1 _ M.kin
  obtain⟨o',O,_,_,_,_,_,_,_,N,_,I,G,_⟩:=h2 _ M.kin
  rw[a1]at N;cases N
  rw[a3]at I;cases I
  rw[a4]at G;cases G;rfl
 subst e
 exact⟨z,b0⟩
end
end
section
theorem TabF.of {K:W.Frag}{mw:Str}{P f c:Addr}{oc:Value}{od o1:Option Addr}{fd:FuncData}{sl N:Array (Option Value)}{vs:Array Value}(e:W.nsIn K mainGlobals mw=some (some (.ref f)))(l:K.lookup f=some ⟨oc,od,.func fd,sl⟩)(hc:fd.code= .ref c)(lc:K.lookup c=some ⟨.type "code",o1,.fields vs,N⟩)
  (hv:∃ z tf i tg G j I,vs[11]? =some (.ref P)/\vs.getD 11 .none= .ref P/\vs.getD 18 .none= .str z tf/\vs.getD 7 .none= .int i tg/\vs.getD 9 .none= .bool G/\vs.getD 10 .none= .int j I) (O:c≠P)
  (n4:mainGlobals≠P):TabF K mw P:=by
 obtain⟨z,tf,i,tg,G,j,I,v1,v2,Z,Y,U,R⟩:=hv
 exact⟨f,oc,od,fd,sl,e,l,⟨c,hc,fun h X=>⟨_,vs,z,tf,i,tg,G,j,I,X _ _ lc,rfl,rfl,v1,v2,Z,Y,U,R,O⟩⟩,n4⟩
theorem yr7 {P:Program}{w:World}{K:W.Frag}{mg mb:Str->Option Value}{k:Nat}{fa a T:Addr}{fd:FuncData}{x mw q:Str}{pos:Pos}{m:MFW}{i:Shared}{vs:List Value}{ns:List Int}
  (KX:K.In i.heap) (a1:i.heap.Ns mainGlobals mg) (I:i.heap.Ns builtinsNs mb) (ac:∀ x:Str,x≠"__name__"->mb x=bootBuiltins x) (a6:i.heap.NoLimit) (hg:i.gens=#[])
  (ha:i.heap.get? a=some { cls:=.type "list",data:=.seq vs.toArray }) (hi:IntsAre vs ns) (hl:ns.length<=sizeLine) (hr:Room k callerA)
  (bm:∃ bm ob,mg "__builtins__"=some (.ref bm)/\bm≠builtinsNs/\i.heap.get? bm=some ob/\ob.cls= .type "module"/\ob.dict=some builtinsNs/\ob.data= .plain) (F:∀ base:Heap,K.In base->base.Ns mainGlobals mg->base.BuiltinsAt mg T->FnOk P w K mg base CX0 k fa fd [x] (spW K 1 m)) (a3:∀(s:Shared)(u:Value),BindsTo s fd ⟨[u],[]⟩ [(x,u)])
  (hT:i.heap.get? T=some (W.tabObj #[])) (ad:K.lookup T=none) (tf:TabF K mw T) (Z:∃ β,m [.lst (ns.map .int)] [(T,.tb T mw pos q)]=some (.sh (.bl true),β)):
  codeAny (model P w) callerA (.call (.ref fa) ⟨[.ref a],[]⟩) (fun r s'=>r= .ok (.ret (.bool true))/\OldK i.heap s'.heap/\s'.os=i.os/\AllBare s'.gens) i:=by
 have rv:=zr0 hi
 have a4:=hi.length
 have Ta:T≠a:=fun z=>by rw[z,ha]at hT;cases hT
 have U:∀ G:Hp,Only G->SqL K G a (ns.map V.int)->HOk P w G i.heap->(∀ b,G b≠none->b=a)->(G a≠none->K.lookup a=none)->
   codeAny (model P w) callerA (.call (.ref fa) ⟨[.ref a],[]⟩) (fun r s'=>r= .ok (.ret (.bool true))/\OldK i.heap s'.heap/\s'.os=i.os/\AllBare s'.gens) i:=by
  intro G hO hS a5 a8 hK
  have a9:G T=none:=by
   cases z:G T with
   |none=>rfl
   |some u=>exact absurd (a8 T (by rw[z];simp)) Ta
  have sH:Same G (upd G T (.tbl #[])):=(Same.refl G).put a9
  have hok:HOk P w (upd G T (.tbl #[])) i.heap:=fun b u e=>by
   by_cases z:b=T
   .subst z;rw[w4]at e;cases e;exact hT
   .rw[w5 z]at e
    exact(a5 b u e).stay (fun _ _ _ q=>q) (fun c q=>sH _ _ q) fun c xs q=>sH _ _ q
  have hA:∀ b,upd G T (.tbl #[]) b≠none->b=a\/b=T:=fun b h=>by
   by_cases z:b=T
   .exact .inr z
   .rw[w5 z]at h;exact .inl (a8 b h)
  generalize hH:upd G T (.tbl #[])=H at*
  have HT:H T=some (.tbl #[]):=by rw[<-hH,w4]
  have j:∀{b:Addr}{o:Obj},i.heap.get? b=some o->H b=none->(hidT i.heap H).get? b=some o:=fun e n=>ye0 e n
  have aa:∀{b:Addr}{o:Obj}{es:Array DictEntry}{ep:Nat},i.heap.get? b=some o->o.data= .dict es ep->H b=none:=fun{b o es ep} e d=>by
   cases q:H b with
   |none=>rfl
   |some u=>
    rcases hA b (by rw[q];simp)with z|z
    .subst z
     rw[ha]at e;cases e
     have d':Data.seq vs.toArray _=Data.dict es ep:=d
     cases d'
    .subst z
     rw[hT]at e;cases e
     have d':Data.fields #[]=Data.dict es ep:=d
     cases d'
  have N:∀{b:Addr}{m:Str->Option Value},i.heap.Ns b m->(hidT i.heap H).Ns b m:=fun{b m} ⟨o,es,ep,e,d,r⟩=>⟨o,es,ep,j e (aa e d),d,r⟩
  have a7:K.In (hidT i.heap H):=fun b o e=>j (KX b o e) (by
   cases q:H b with
   |none=>rfl
   |some u=>
    rcases hA b (by rw[q];simp)with z|z
    .subst z
     rw[hK (by rw[<-hH,w5 (Ne.symm Ta)]at q;rw[q];simp)]at e;cases e
    .subst z;rw[ad]at e;cases e)
  have hM:Mod K mg (hidT i.heap H):=⟨a7,N a1,⟨mb,N I,ac⟩,let ⟨mc,h1,h2⟩:=a6;⟨mc,N h1,h2⟩⟩
  have e0:Env0 P w K mg (hidT i.heap H) callerA [] i H:=⟨rfl,hM,fun b o e=>xu4 e,Nat.le_of_eq (yp0 _ _),trivial,fun b I=>absurd (show b∈([]:List Addr)from I) (by simp),hok,.of_eq hg⟩
  obtain⟨β,Z⟩:=Z
  have ae:(hidT i.heap H).BuiltinsAt mg T:=by
   obtain⟨bm,ob,b1,b2,b3,b4,b5,b6⟩:=bm
   have nT:bm≠T:=fun z=>by rw[z,hT]at b3;cases b3;cases b4
   have na:bm≠a:=fun z=>by rw[z,ha]at b3;cases b3;cases b6
   have ng:bm≠mainGlobals:=fun z=>by
    obtain⟨o,es,ep,e,d,_⟩:=a1
    rw[z,e]at b3;cases b3;rw[d]at b6;cases b6
   refine⟨bm,ob,b1,b2,ng,nT,j b3 ?_,b4,b5,b6⟩
   cases q:H bm with
   |none=>rfl
   |some u=>
    rcases hA bm (by rw[q];simp)with z|z
    .exact absurd z na
    .exact absurd z nT
  have ab:spW K 1 m [.ref a] H (fun v _=>v= .bl true) (fun _ _ _=>False):=by
   refine⟨rfl,G,fun b=>if b=T then some (.tbl #[])else none,[T],[.lst (ns.map .int)],[(T,.tb T mw pos q)],.sh (.bl true),β,sH,fun b o e=>?_,⟨fun b h=>?_,.cons (fp:=[T]) (.tb tf (if_pos rfl) (by trivial) (.inl rfl)) .nil,by simp,fun b o u h=>?_⟩,.cons (.lst hS (zq0 ns)) .nil,Z,fun v F' H' B' af _ _ r=>?_⟩
   .have e:(if b=T then some (HO.tbl #[])else none)=some o:=e
    by_cases z:b=T
    .rw[if_pos z]at e;rw[z,HT];exact e
    .rw[if_neg z]at e;cases e
   .have h:(if b=T then some (HO.tbl #[])else none)≠none:=h
    split at h
    .rename_i z
     subst z
     exact⟨yb9 (by show (if b=b then some (HO.tbl #[])else none)≠none;rw[if_pos rfl];simp),a9⟩
    .exact absurd rfl h
   .have h:(if b=T then some (HO.tbl #[])else none)=some (.frz o u):=h
    split at h <;> cases h
   .cases r;rfl
  refine codeAny_mono ((F _ a7 (N a1) ae).run callerA [] i H ⟨[.ref a],[]⟩ [.ref a] [.ref a] _ _ hr e0 (a3 i (.ref a)) (.cons rfl .nil) ab) fun r s' h=>?_
  cases r with
  |error e=>exact h.elim
  |ok fl=>
   cases fl with
   |next=>exact False.elim h
   |brk=>exact False.elim h
   |cont=>exact False.elim h
   |ret u=>
    obtain⟨v,H',os,bare,un,R,r',q⟩:=h
    have q':v= .bl true:=q
    subst q'
    obtain rfl:u=Value.bool true:=r'
    have old:∀ b o,b≠T->i.heap.get? b=some o->s'.heap.get? b=some o:=fun b o Y e=>by
     cases q:H b with
     |none=>exact un.keep b o e q (by intro z;exact absurd (show b∈([]:List Addr)from z) (by simp)) (by simp)
     |some u=>
      rcases hO b with z|⟨ob,xs,z⟩
      .rw[<-hH,w5 Y,z]at q;cases q
      .have z1:H b=some (.frz ob (.lst xs)):=by rw[<-hH,w5 Y];exact z
       have z2:=un.frzs b ob _ z1
       obtain⟨e1,_⟩:=hok b _ z1
       obtain⟨e2,_⟩:=R b _ z2
       rw[e]at e1;cases e1
       exact e2
    obtain⟨more,a2⟩:=un.tbls T #[] HT
    have O:s'.heap.get? T=some (W.tabObj (#[]++more)):=R T _ a2
    refine⟨rfl,⟨fun b o e=>?_,fun b o e=>?_⟩,os,bare⟩
    .by_cases Y:b=T
     .subst Y
      rw[hT]at e;cases e
      obtain⟨_,_,_,_,_,_,_,ct⟩:=tf
      obtain⟨c,_,hc⟩:=ct.hd
      obtain⟨o,cs,_,_,_,_,_,_,_,c1,c2,c3,c4,_⟩:=hc _ KX
      exact .inr (.inl ⟨⟨c,o,cs,c1,c2,c3,c4⟩,rfl,#[],more,rfl,O⟩)
     .exact .inl (old b o Y e)
    .by_cases Y:b=T
     .subst Y;exact⟨_,O⟩
     .exact⟨o,old b o Y e⟩
 cases hk:K.lookup a with
 |some o=>
  have e:=KX a o hk
  rw[ha]at e
  cases e
  refine U (fun _=>none) (fun _=>.inl rfl) (.inr ⟨_,vs.toArray,_,hk,rfl,rfl,rfl,by rw[size_toArray,a4];exact hl,by simpa using rv⟩) (fun b u z=>by have z':(none:Option HO)=some u:=z;cases z') (fun b z=>absurd rfl z) fun z=>absurd rfl z
 |none=>
  refine U (fun b=>if b=a then some (.frz { cls:=.type "list",data:=.seq vs.toArray } (.lst (ns.map V.int)))else none) (fun b=>?_) (.inl (.inr ⟨{ cls:=.type "list",data:=.seq vs.toArray },if_pos rfl⟩)) (fun b u z=>?_) (fun b z=>?_) fun _=>hk
  .by_cases I:b=a
   .exact .inr ⟨_,_,if_pos I⟩
   .exact .inl (if_neg I)
  .by_cases I:b=a
   .have z':=(if_pos I).symm.trans z
    cases z'
    subst I
    exact⟨ha,by rw[length_map];exact hl,vs,_,rv,ha⟩
   .have z':=(if_neg I).symm.trans z
    cases z'
  .by_cases I:b=a
   .exact I
   .exact absurd (if_neg I) z
theorem zi5 {K:W.Frag}{T:Addr}(h:T∉K.map (·.1)):K.lookup T=none:=by
 induction K with
 |nil=>rfl
 |cons e K i=>
  rw[map_cons]at h
  rw[lookup_cons]
  have hn:(T==e.1)=false:=by
   cases z:T==e.1 with
   |false=>rfl
   |true=>exact absurd (by rw[beq_iff_eq.mp z];simp) h
  rw[hn]
  exact i fun z=>h (mem_cons_of_mem _ z)
theorem walk_ofT {l:W.OpenLaw}{n k:Nat}{q:Program}{j:List Str}{XP:(Str->Option Value)->Heap->Prop}{d:DefRec}{K:Params->W.Frag}{as:List Addr}{e:∀ P:Params,as=(K P).map (·.1)}{T:Addr}{x mw ql:Str}{pos:Pos}{m:MFW}
  (hn:l.most=some n) (R:n<=sizeLine) (Z:d.params.defaults=[]) (hr:Room k callerA) (hT:T∉as)
  (F:∀(w:World)(mg:Str->Option Value)(N:Addr)(h:Heap),(K w.params).In h->h.Ns mainGlobals mg->mg d.name=some (.ref N)->
   TabF (K w.params) mw T/\∃ fd:FuncData,(∀(s:Shared)(u:Value),BindsTo s fd ⟨[u],[]⟩ [(x,u)])/\
    ∀ base:Heap,(K w.params).In base->base.Ns mainGlobals mg->base.BuiltinsAt mg T->FnOk l.prog w (K w.params) mg base CX0 k N fd [x] (spW (K w.params) 1 m))
  (O:∀(T:Addr)(ns:List Int),ns.length<=n->∃ β,m [.lst (ns.map .int)] [(T,.tb T mw pos ql)]=some (.sh (.bl true),β)):
  W.WalkO q j XP (W.kmHook K as e [T]).says l.row.toRowW d [] (fun f vs=>PySem.call f vs):=by
 refine Att.attach_call hn Z fun w s₀ a1 mg mb N o pm cd doc a vs ns G Y ho hd a2 U I z i hg=>?_
 have KX:=W.km_in_of Y
 obtain⟨tf,fd,hb,hF⟩:=F w mg N _ KX G.T.g U
 exact yr7 KX G.T.g G.T.b G.T.builtins G.T.nolimit hg I z (Nat.le_trans i R) hr G.T.bmain hF hb (W.km_tabs_of Y T (by simp)) (zi5 (by rw[<-e];exact hT)) tf (O T ns i)
theorem and_dep {a b:Prop}(h:a)(k:a->b):a/\b:=⟨h,k h⟩
theorem ze3 {X:Cx}{N:List Str}{sc:Scope}{q:Str}{f c:Addr}{A:Around}{s:Shared}{H:Hp}{k:Nat}(i:Room (k+1) A):Room k (zt3 X N sc q f c A s H).A:=i.deeper _
end
section
noncomputable def insB (B H:Hp)(L:List Addr):Hp:=fun a=>if a∈L then H a else B a
theorem zt5 {B H:Hp}{L:List Addr}{a:Addr}(h:a∈L):insB B H L a=H a:=by unfold insB;rw[if_pos h]
theorem G1 {B H:Hp}{L:List Addr}{a:Addr}(h:a∉L):insB B H L a=B a:=by unfold insB;rw[if_neg h]
section
variable {K:W.Frag}{F0 H0 F H B:Hp}{σ:St}{ρ:Ro}{β:Bx}{fp:List Addr}
theorem Rl.takeBs {L:List Addr}(j:Rl K F0 (jn H0 B) F H σ ρ)(N:∀ q∈L,H q≠none)(O:∀ q∈L,F q=none)(R:∀ q∈L,jn H0 B q=none)(hn:∀ q∈L,∀(i:Nat) ds,ρ[i]? =some (some (.own ds))->σ[i]? ≠some (some (.ref q)))(I:∀ q∈L,∀(i:Nat) p ds,ρ[i]? =some (some (.ob p ds))->p≠q):Rl K F0 (jn H0 (insB B H L)) F H σ ρ:=by
 have G:∀ b,b∉L->jn H0 (insB B H L) b=jn H0 B b:=fun b I=>by unfold jn;rw[G1 I]
 refine⟨⟨j.ext.ff,fun b u e=>?_,j.ext.fh,fun b e n=>?_,j.ext.nf⟩,j.len,j.sh,fun i ds e=>?_,j.inj,fun i p ds e=>?_,j.obn,j.ob1⟩
 .by_cases hq:b∈L
  .have:=N b hq
   unfold jn at e
   rw[zt5 hq]at e
   cases z:H b with
   |none=>exact absurd z this
   |some o=>rw[z]at e;exact e
  .rw[G b hq]at e;exact j.ext.hh b u e
 .have hq:b∉L:=fun z=>n (O b z)
  rw[G b hq];exact j.ext.new b e n
 .obtain⟨p,xs,a1,a2,a3,a4,a5⟩:=j.own i ds e
  exact⟨p,xs,a1,a2,a3,a4,by rw[G p (fun z=>hn p z i ds e a1)];exact a5⟩
 .obtain⟨a1,a2,a3,xs,a4,a5⟩:=j.ob i p ds e
  exact⟨a1,a2,by rw[G p (fun z=>I p z i p ds e rfl)];exact a3,xs,a4,a5⟩
theorem zd0 {B':Hp}:∀{qs:List Addr}{dss:List (List D)},RPs K F H qs dss->(∀ q∈qs,B' q=H q)->FlR K F B' qs (qs.map V.ref) (dss.map .l)
 |_,_,.nil,_=>.nil
 |_,_,.cons h r t,k=>.l (by rw[k _ (by simp)];exact h) r (zd0 t fun q i=>k q (mem_cons_of_mem _ i))
theorem RlW.pots {F' H':Hp}{p:Addr}{qs:List Addr}{dss:List (List D)}(I:Rl K F0 (jn H0 B) F H σ ρ)(ok:BxOk K F0 H0 F B fp β)(x:Ext F H F' H')(P:Pots K H F' H' p qs dss):RlW K F0 H0 F' H' σ ρ ((p,.row (dss.map .l))::β)/\B p=none:=by
 have new:∀ q∈p::qs,H q=none/\F' q=none/\H' q≠none:=fun q j=>by
  rcases List.mem_cons.mp j with e|j
  .subst e;exact⟨P.hp,P.fp,by rw[P.at'];simp⟩
  .obtain⟨o,ho⟩:=P.rep.some q j
   exact⟨(P.new q j).1,(P.new q j).2,by rw[ho];simp⟩
 have O:∀ q∈p::qs,jn H0 B q=none:=fun q j=>I.ext.hh.free (new q j).1
 have Y:∀ q∈p::qs,B q=none:=fun q j=>(Z6 (O q j)).1
 have N:=(I.go x).takeBs (L:=p::qs) (fun q j=>(new q j).2.2) (fun q j=>(new q j).2.1) O (fun q j i ds e z=>by
  obtain⟨U,xs,a1,_,a3,_⟩:=I.own i ds e
  rw[z]at a1;cases a1
  rw[(new q j).1]at a3;cases a3) (fun q j i U ds e z=>by
  obtain⟨_,_,_,xs,Z,_⟩:=I.ob i U ds e
  rw[z,(new q j).1]at Z;cases Z)
 have G:∀ a∈fp,a∉p::qs:=fun a ha z=>ok.bx.mem a ha (Y a z)
 refine⟨⟨insB B H' (p::qs),(p::qs)++fp,N,fun a h=>?_,.cons (.row (by rw[zt5 (by simp)];exact P.at') (zd0 P.rep fun q j=>zt5 (mem_cons_of_mem _ j))) (ok.bx.mono x.ff fun a ha=>G1 (G a ha)),List.nodup_append.mpr ⟨P.nd,ok.nd,fun a h1 b h2 z=>by subst z;exact G a h2 h1⟩,fun a o u h=>?_⟩,Y p (by simp)⟩
 .by_cases j:a∈p::qs
  .exact⟨(Z6 (O a j)).2,I.ext.ff.free (I.fh.free (new a j).1)⟩
  .rw[G1 j]at h;exact ok.out a h
 .by_cases j:a∈p::qs
  .rw[zt5 j]at h
   rcases List.mem_cons.mp j with e|j
   .subst e;rw[P.at']at h;cases h
   .obtain⟨i,hi,hiq⟩:=getElem_of_mem j
    have hr:=P.rep
    have:∃ xs,H' a=some (.lst xs):=by
     clear h
     have R:∀{qs:List Addr}{dss:List (List D)},RPs K F' H' qs dss->a∈qs->∃ xs,H' a=some (.lst xs):=by
      intro qs dss r
      induction r with
      |nil=>intro h;cases h
      |cons h1 _ _ ih=>
       intro h
       rcases List.mem_cons.mp h with e|h
       .subst e;exact⟨_,h1⟩
       .exact ih h
     exact R hr j
    obtain⟨xs,e⟩:=this
    rw[e]at h;cases h
  .rw[G1 j]at h;exact ok.plain a o u h
theorem FlR.at' {n:Nat}{ds:List D}:∀{n:Nat}{fp:List Addr}{xs:List V}{fs:List Fl},FlR K F B fp xs fs->fp.Nodup->fs[n]? =some (.l ds)->∃ q ys,xs[n]? =some (.ref q)/\q∈fp/\B q=some (.lst ys)/\Reps K F ys ds/\
  ∀(B' F':Hp) i j,Same F F'->B' q=some (.lst i)->Reps K F' i j->(∀ a∈fp,a≠q->B' a=B a)->FlR K F' B' fp xs (fs.set n (.l j))
 |_,_,_,_,.nil,_,e=>by simp at e
 |0,_,_,_,.v _ _,_,e=>by simp at e
 |n+1,_,_,_,.v r t,nd,e=>by
  obtain⟨q,ys,a1,R,Z,Y,U⟩:=FlR.at' (n:=n) t nd (by simpa using e)
  exact⟨q,ys,by simpa using a1,R,Z,Y,fun B' F' i j G O N I=>.v (r.mono G) (U B' F' i j G O N I)⟩
 |0,_,_,_,.l (fp:=fp) (q:=q) b r t,nd,e=>by
  simp at e
  subst e
  have hn:=List.nodup_cons.mp nd
  exact⟨q,_,rfl,by simp,b,r,fun B' F' i j G O N I=>.l O N (t.mono G fun a ha=>I a (by simp[ha]) fun z=>hn.1 (z ▸ ha))⟩
 |n+1,_,_,_,.l (fp:=fp) (q:=q0) b r t,nd,e=>by
  have hn:=List.nodup_cons.mp nd
  obtain⟨q,ys,a1,R,Z,Y,U⟩:=FlR.at' (n:=n) t hn.2 (by simpa using e)
  exact⟨q,ys,by simpa using a1,by simp[R],Z,Y,fun B' F' i j G O N I=>.l (by rw[I q0 (by simp) fun z=>hn.1 (z ▸ R)];exact b) (r.mono G) (U B' F' i j G O N fun a ha hq=>I a (by simp[ha]) hq)⟩
end
noncomputable def ys1 (i:Nat)(mp:MP)(rest:MW):MW:=fun ρ β=>(mp ρ).bind fun dss=>anyN β fun x=>(rest (ρ.set i (some (.sh (.ptr x)))) ((x,.row (dss.map .l))::β)).map (letGo i β.length)
section
variable {X:Cx}{a b c e:Expr}{pos:Pos}{st:Stmt}{rest:List Stmt}{E:XK}{es:List Expr}{mf:MFW}{m:ML}
theorem yw7 {i:Nat}{src:List (Option Nat)}{N:ML}{g:Tg}{j:ML}{I:MW}(hS:PS X st (tAsg (zr3 src (TId X.K N) (TGd X.K g) (TC X.K cyes) (TF X.K j)) (zz7 i)))(hr:PSsw X rest I):PSsw X (st::rest) (ys1 i (L8 src N g j) I):=PSs.imp (W6 hS hr) fun Dn σ H ⟨F0,H0,F,ρ,β,o,β',⟨B,fp,Z,ok⟩,e,k⟩=>by
 unfold ys1 at e
 cases h1:L8 src N g j ρ with
 |none=>rw[h1]at e;cases e
 |some dss=>
  rw[h1,Option.bind_some]at e
  show zr3 src (TId X.K N) (TGd X.K g) (TC X.K cyes) (TF X.K j) σ H (fun v H'=>TSw X.K I Dn (σ.set i (some v)) H')
  refine xr1 ⟨F0,jn H0 B,F,ρ,dss,Z,h1,fun p qs F' H' x P=>?_⟩
  obtain⟨⟨B2,Y,O,R⟩,U⟩:=RlW.pots Z ok x P
  have e:=ym1 e p fun z=>ok.bx.keys p z U
  show TSw X.K I Dn (σ.set i (some (.ref p))) H'
  cases h3:I (ρ.set i (some (.sh (.ptr p)))) ((p,.row (dss.map .l))::β)with
  |none=>rw[h3]at e;cases e
  |some ob=>
   obtain⟨o1,G⟩:=ob
   rw[h3]at e
   have e:some (letGo i β.length (o1,G))=some (o,β'):=e
   have e:=Option.some.inj e
   refine⟨F0,H0,F',_,_,o1,G,⟨B2,Y,O.set (.ptr p),R⟩,h3,okW.letGo (i:=i) (k:=β.length) ?_⟩
   rw[e]
   exact k.mono x.ff
noncomputable def setR (a b:Int)(d:D)(fs:List Fl):Option (List Fl):=match ixN fs.length a with
 |some n=>(match fs[n]? with
  |some (.l ds)=>(match ixN ds.length b with |some m=>some (fs.set n (.l (ds.set m d)))|none=>none)
  |_=>none)
 |none=>none
noncomputable def zp3 (i:Nat)(k1 k2:ME)(v:Ro->Bx->Option D):MW:=fun ρ β=>match v ρ β,ρ[i]?,k1 ρ,k2 ρ with
 |some d,some (some (.sh (.ptr p))),some (.int a),some (.int b)=>(match β.lookup p with
  |some (.row fs)=>(setR a b d fs).map fun fs'=>(.nx ρ,updB p (.row fs') β)
  |_=>none)
 |_,_,_,_=>none
theorem zv0 {i:Nat}{k1 k2:ME}{mv:Ro->Bx->Option D}(hE:PS X st (tAsg (TDw X.K mv) (gSub (tOp (rIxL X.K) (tVar i) (TD X.K k1)) (TD X.K k2) xy3))):PSw X st (zp3 i k1 k2 mv):=PS.imp hE fun Dn σ H R=>by
 obtain⟨F0,H0,F,ρ,β,o,β',a6,e,k⟩:=R
 unfold zp3 at e
 split at e
 .rename_i d p a b h1 hp hk1 hk2
  split at e
  .rename_i fs hb
   cases h2:setR a b d fs with
   |none=>rw[h2]at e;cases e
   |some fs'=>
    rw[h2]at e;cases e
    unfold setR at h2
    split at h2
    .rename_i n hn
     split at h2
     .rename_i ds hfs
      split at h2
      .rename_i m hm
       cases h2
       refine⟨F0,H0,F,ρ,β,d,a6,h1,fun v F1 H1 r1 s1 _ rp=>?_⟩
       obtain⟨B,fp,N,ok⟩:=r1
       obtain⟨w,a9,Z⟩:=N.sh i _ hp
       cases Z
       obtain⟨fq,hc,nq,ag,up⟩:=ok.bx.upd ok.nd hb
       cases hc with
       |@row fq0 _ xs _ b0 fl=>
        have O:=List.nodup_cons.mp nq
        obtain⟨q,ys,a1,a2,a3,a4,a5⟩:=FlR.at' (n:=n) fl O.2 hfs
        refine⟨_,a9,F0,jn H0 B,F1,ρ,_,N,hk1,fun w2 F2 H2 Y r2=>?_⟩
        cases r2
        have ad:atI xs a=some (.ref q):=by
         unfold atI
         rw[fl.length,hn]
         exact a1
        refine⟨p,xs,a,.ref q,rfl,rfl,SqL.of (Y.hh _ _ (N.ext.hh _ _ (f6 b0))),ad,F0,jn H0 B,F2,ρ,_,N.go Y,hk2,fun w3 U H3 x3 r3=>?_⟩
        cases r3
        have I:=(N.go Y).go x3
        refine⟨q,ys,b,m,rfl,rfl,I.ext.hh _ _ (f6 a3),by rw[a4.length];exact hm,?_⟩
        obtain⟨a7,_,ab,aa⟩:=I.putB (a:=q) (o:=.lst (ys.set m v)) ok.out (.inl (by rw[a3];simp))
        have pq:p≠q:=fun z=>O.1 (z ▸ a2)
        have j:Same F1 U:=Y.ff.trans x3.ff
        have G:CellR X.K U (upd B q (.lst (ys.set m v))) (p::fq0) p (.row (fs.set n (.l (ds.set m d)))):=.row (by rw[w5 pq];exact b0) (a5 _ U _ _ j w4 ((a4.mono j).set (rp.mono j) m) fun a _ ac=>w5 ac)
        obtain⟨ae,r',a8,af⟩:=up _ _ _ U j G nq (fun a _ hn=>w5 fun z=>hn (by rw[z];simp[a2])) fun a ha=>.inl ha
        exact k U _ σ ⟨_,ae,a7,zk0 ok.out ⟨ab,aa⟩,r',a8,G9 ok.plain fun _ _ z=>by cases z⟩ (s1.trans j)
      .cases h2
     .cases h2
    .cases h2
  .cases e
 .cases e
noncomputable def zp5 (m:ML):MW:=fun ρ β=>(m ρ).map fun ds=>(.rf ds,β)
theorem yj8 (h:PF X e m):PSw X (.Return (some e) pos) (zp5 m):=PS.imp (Y9 h) fun N σ H ⟨F0,H0,F,ρ,β,o,β',⟨B,fp,i,ok⟩,e,k⟩=>by
 unfold zp5 at e
 cases h1:m ρ with
 |none=>rw[h1]at e;cases e
 |some ds=>
  rw[h1]at e;cases e
  exact⟨F0,jn H0 B,F,ρ,ds,i,h1,fun p xs F1 H1 j hp I G z=>k p xs F1 H1 B fp (i.ext.trans j) (ok.mono j.ff) (i.ext.hh.free hp) I G z⟩
def TCx (K:W.Frag)(m:Ro->Bx->Option (Bool×Bx)):TT:=fun σ H Q=>∃ F0 H0 F ρ β b β',RlW K F0 H0 F H σ ρ β/\m ρ β=some (b,β')/\∀ F' H',RlW K F0 H0 F' H' σ ρ β'->Same F F'->Q b H'
noncomputable def mifX (c:Ro->Bx->Option (Bool×Bx))(x y:MW):MW:=fun ρ β=>match c ρ β with |some (true,β')=>x ρ β'|some (false,β')=>y ρ β'|none=>none
theorem zk8 {ca:Ro->Bx->Option (Bool×Bx)}{x y:List Stmt}{mx I:MW}(R:PT X c (TCx X.K ca))(O:PSsw X x mx)(N:PSsw X y I):PSw X (.If c x y pos) (mifX ca mx I):=PS.imp (zj0 R O N) fun D σ H j=>by
 obtain⟨F0,H0,F,ρ,β,o,β',i,e,ok⟩:=j
 unfold mifX at e
 split at e
 .rename_i β1 h1
  exact⟨F0,H0,F,ρ,β,_,β1,i,h1,fun F1 H1 G z=>iteT ⟨F0,H0,F1,ρ,β1,o,β',G,e,ok.mono z⟩⟩
 .rename_i β1 h1
  exact⟨F0,H0,F,ρ,β,_,β1,i,h1,fun F1 H1 G z=>iteF ⟨F0,H0,F1,ρ,β1,o,β',G,e,ok.mono z⟩⟩
 .cases e
noncomputable def zz6 (f:D->D->Option D)(x:Ro->Bx->Option (D×Bx))(y:ME):Ro->Bx->Option (Bool×Bx):=fun ρ β=>match x ρ β with
 |some (d,β')=>(match y ρ with
  |some e=>(match f d e with |some (.bl k)=>some (k,β')|_=>none)
  |none=>none)
 |none=>none
theorem zv6 {op:CmpOp}{r:R2}{f:D->D->Option D}{ma:Ro->Bx->Option (D×Bx)}{mb:ME}(U:OpR X (compareOp op) r)(Y:OpD X.K r f)(ha:PDx X a ma)(Z:PD X b mb)(hm:behindInMarks op b=false):PT X (.Compare a [op] [b] pos) (TCx X.K (zz6 f ma mb)):=PT.imp (zw9 U ha Z hm) fun σ H Q j=>by
 obtain⟨F0,H0,F,ρ,β,k,β',I,e,q⟩:=j
 unfold zz6 at e
 split at e
 .rename_i d β1 h1
  split at e
  .rename_i g h2
   split at e
   .rename_i k' h3
    cases e
    refine⟨F0,H0,F,ρ,β,d,_,I,h1,fun v F1 H1 R s1 rp=>?_⟩
    obtain⟨B,fp,N,ok⟩:=R
    refine⟨F0,jn H0 B,F1,ρ,g,N,h2,fun w F2 H2 i r2=>?_⟩
    refine Y F2 H2 v w d g _ _ i.fh (rp.mono i.ff) r2 h3 fun z F3 H3 G O=>?_
    cases O
    exact⟨_,rfl,q F3 H3 ⟨B,fp,(N.go i).go G,(ok.mono i.ff).mono G.ff⟩ (s1.trans (i.ff.trans G.ff))⟩
   .cases e
  .cases e
 .cases e
end
end
section
section
variable {X:Cx}{pins:List (Addr×Obj)}{σ:St}
set_option maxHeartbeats 8000000 in
theorem ys4 (hc:X.calm=true)(hu:X.A.units+64<cLine){l I S:Addr}{xs:List V}{ds:List D}{kw:List (Str×Value)}{dm:D}(a4:I≠S)(ab:l≠I)(aa:l≠S):
  ∀(r j:Nat)(H F H0 F0:Hp)(s:Shared)(Y:V)(G:Value)(U:D)(c:Nat)(R:Result->Shared->Prop),
   ds.length-(j+1)=r->j+1<=ds.length->Inv X pins σ H s->Ext F0 H0 F H->SqL X.K H l xs->Reps X.K F xs ds->s.heap.IsListIter I l (j+1)->s.heap.get? S=some (seqObj "list" #[G,G] c)->FpOk X pins H I->FpOk X pins H S->
   RelV Y G->Rep X.K F Y U->(∃ i:Nat,xs[i]? =some Y/\ds[i]? =some U)->minP (ds.drop (j+1)) U=some dm->
   (∀ x v F' H' s',Inv X pins σ H' s'->RelV x v->Ext F0 H0 F' H'->Rep X.K F' x dm->(∃ i:Nat,xs[i]? =some x/\ds[i]? =some dm)->R (.ok (.ret v)) s')->
   codeAny (model X.prog X.w) X.A (.builtin "min.loop" ⟨[.ref I,.none,.ref S],kw⟩) R s:=by
 have N:(toString "min"++toString ".loop":String)="min.loop":=by decide
 intro r
 induction r with
 |zero=>
  intro j H F H0 F0 s Y G U c R hr hj I' ext sq rs a2 hS fI fS rb pb a1 hm hR
  have a7:j+1=ds.length:=by omega
  obtain⟨its,vr,pl,_⟩:=I'.list sq
  have zl:its.length=ds.length:=by rw[<-vr.length,rs.length]
  rw[a7,drop_length]at hm
  have hm:some U=some dm:=hm
  cases hm
  refine codeAny_builtin PySem.F.entry_min_loop ?_
  rw[Around.under_plainId PySem.F.plain_min_loop _]
  show wpAny _ X.A.in1 (seqItems? (.ref S) >>= _) _ _ _
  refine wpAny_bind (wpAny_seqItems hS rfl ?_)
  show wpAny _ X.A.in1 (tryCatch (pyNext (.ref I)) _ >>= _) _ _ _
  refine wpAny_bind (wpAny_tryCatch (wpAny_pyNext_list_end (I'.ok.hd hc) a2 pl.isList (by simp;omega) fun h' a5=>?_))
  have a9:h'.get? S=some (seqObj "list" #[G,G] c):=a5 S _ (Ne.symm a4) hS
  have s1:=Heap.SameBut.update h' S (Obj.mapSeq fun _=>(#[]:Array Value))
  show wpAny _ X.A.in1 (updateSeq S (fun _=>#[]) >>= _) _ _ _
  refine wpAny_bind ?_
  refine wpAny_updateSeq a9 rfl (wpAny_bind (wpAny_letGo (wpAny_pure ?_)))
  have I9:Inv X pins σ H { s with heap:=h'.update S (Obj.mapSeq fun _=>(#[]:Array Value)),toks:=s.toks }:=I'.turnedL (fp:=[I,S]) (t':=s.toks) (fun b o z e=>by
   simp only[mem_cons,not_mem_nil,or_false,not_or]at z
   exact(s1.2 b z.2).trans (a5 b o z.1 e)) (fun b z=>by
   simp only[mem_cons,not_mem_nil,or_false]at z
   rcases z with rfl|rfl <;> assumption)
  exact hR Y G F H _ I9 rb ext pb a1
 |succ r ih=>
  intro j H F H0 F0 s Y G U c R hr hj I' ext sq rs a2 hS fI fS rb pb a1 hm hR
  have Z:j+1<ds.length:=by omega
  obtain⟨its,vr,pl,_⟩:=I'.list sq
  have zl:its.length=ds.length:=by rw[<-vr.length,rs.length]
  obtain⟨d,hd⟩:∃ d,ds[j+1]? =some d:=⟨_,getElem?_eq_getElem Z⟩
  obtain⟨x,hx,px⟩:=rs.get hd
  obtain⟨v,hv,rx⟩:=vr.get hx
  rw[W9 hd]at hm
  unfold minP at hm
  refine codeAny_builtin PySem.F.entry_min_loop ?_
  rw[Around.under_plainId PySem.F.plain_min_loop _]
  show wpAny _ X.A.in1 (seqItems? (.ref S) >>= _) _ _ _
  refine wpAny_bind (wpAny_seqItems hS rfl ?_)
  show wpAny _ X.A.in1 (tryCatch (pyNext (.ref I)) _ >>= _) _ _ _
  refine wpAny_bind (wpAny_tryCatch (wpAny_pyNext_list_item a2 pl.isList (by simpa using hv) fun h1 O s1=>?_))
  have I1:Inv X pins σ H { s with heap:=h1,toks:=s.toks }:=I'.turnedL (fp:=[I]) (fun b o z e=>s1.extBut b o (by simpa using z) e) (fun b z=>by rw[List.mem_singleton.mp z];exact fI)
  have a3:h1.get? S=some (seqObj "list" #[G,G] c):=s1.extBut _ _ (Ne.symm a4) hS
  cases hlt8:ltF 8 d U with
  |none=>rw[hlt8]at hm;cases hm
  |some bt=>
   rw[hlt8]at hm
   have a6:=yr4 I1 8 (A:=X.A.in1) (by show X.A.units+1+8<cLine;omega) (px.mono ext.fh) (pb.mono ext.fh) rx rb hlt8
   refine wpAny_bind (wpAny_pure ?_)
   show wpAny _ X.A.in1 (tryCatch (holding [v,v] (richCompare .Lt v G >>= _)) _ >>= _) _ _ _
   refine wpAny_bind (wpAny_tryCatch (wpAny_holding (wpAny_bind (a6 X.prog X.w _ _ ?_))))
   refine wpAny_bind (wpAny_holding (wpAny_truthy_bool ?_))
   refine wpAny_bind (wpAny_letGo (wpAny_pure ?_))
   cases bt with
   |true=>
    have s3:=Heap.SameBut.update h1 S (Obj.mapSeq fun _=>#[v,v])
    obtain⟨c2,a8⟩:∃ c2,(h1.update S (Obj.mapSeq fun _=>#[v,v])).get? S=some (seqObj "list" #[v,v] c2):=⟨_,get?_update_seq a3 fun _=>#[v,v]⟩
    simp only[if_true]
    refine wpAny_bind ?_
    refine wpAny_updateSeq a3 rfl (wpAny_bind (wpAny_letGo ?_))
    rw[N]
    have I3:=I1.turnedL (h':=h1.update S (Obj.mapSeq fun _=>#[v,v])) (t':=s.toks) (fp:=[S]) (fun b o z e=>(s3.2 b (by simpa using z)).trans e) (fun b z=>by rw[List.mem_singleton.mp z];exact fS)
    refine wpAny_pure ⟨plainId_quiet PySem.F.plain_min_loop _,ih (j+1) H F H0 F0 _ x v d c2 R (by omega) Z I3 ext sq rs (O.at fun o e=>(s3.2 I a4).trans e) a8 fI fS rx px ⟨_,hx,hd⟩ hm hR⟩
   |false=>
    simp only[Bool.false_eq_true,if_false]
    refine wpAny_bind (wpAny_letGo ?_)
    rw[N]
    refine wpAny_pure ⟨plainId_quiet PySem.F.plain_min_loop _,ih (j+1) H F H0 F0 _ Y G U c R (by omega) Z I1 ext sq rs O a3 fI fS rb pb a1 hm hR⟩
end
def xe7 (K:W.Frag):List V->Hp->VK->Prop:=fun vs H Q=>∃ p xs d ds dm F,vs=[.ref p]/\SqL K H p xs/\Same F H/\Reps K F xs (d::ds)/\minP ds d=some dm/\∀ x F' H',Ext F H F' H'->Rep K F' x dm->(∃ i:Nat,xs[i]? =some x/\(d::ds)[i]? =some dm)->Q x H'
section
variable {X:Cx}
set_option maxHeartbeats 8000000 in
theorem yo6 (hc:X.calm=true)(hu:X.A.units+64<cLine):CallR X (.builtin "min") (xe7 X.K):=by
 intro pins s σ H vs us Q I r h
 obtain⟨l,xs,d,ds,dm,F,rfl,sq,sf,rs,hm,q⟩:=h
 obtain⟨u,rfl,ru⟩:=K5 r
 cases ru
 have j:(toString "min"++toString ".loop":String)="min.loop":=by decide
 obtain⟨its,vr,pl,_⟩:=I.list sq
 have O:=pl.isList
 obtain⟨ol,a3,_⟩:=id O
 have R:l<s.heap.objs.size:=Heap.lt_size a3
 refine kmk_tree PySem.F.kind_min PySem.F.plain_min PySem.F.entry_min (yy1 _) ?_
 show wpAny _ X.A.in1 (Builtin.Builtins.bindParams "min" ["key","default"] 0 ⟨[],[]⟩ >>= _) _ _ s
 refine wpAny_bind (wpAny_of_eq (show Builtin.Builtins.bindParams "min" ["key","default"] 0 ⟨[],[]⟩=pure [none,none]from rfl) ?_)
 refine wpAny_bind (wpAny_pure ?_)
 refine wpAny_bind (wpAny_pyIter_list O ?_)
 refine wpAny_bind (wpAny_newList ?_ (Nat.zero_le _))
 rw[j]
 refine wpAny_pure ⟨plainId_quiet PySem.F.plain_min_loop _,?_⟩
 generalize G:({ cls:=.type "list_iterator",data:=.fields #[.ref l,.int 0 0] }:Obj)=oI0
 have Z:(s.heap.push oI0).objs.size=s.heap.objs.size+1:=size_push' ..
 have a5:l≠s.heap.objs.size:=Nat.ne_of_lt R
 have a4:l≠(s.heap.push oI0).objs.size:=by rw[Z];exact Nat.ne_of_lt (Nat.lt_succ_of_lt R)
 have N:s.heap.objs.size≠(s.heap.push oI0).objs.size:=by rw[Z];exact Nat.ne_of_lt (Nat.lt_succ_self _)
 have gI:((s.heap.push oI0).push (seqObj "list" #[] 0)).get? s.heap.objs.size=some oI0:=Heap.get?_push_of_some _ (Heap.get?_push_size _ (by rw[<-G];rfl))
 have gS:((s.heap.push oI0).push (seqObj "list" #[] 0)).get? (s.heap.push oI0).objs.size=some (seqObj "list" #[] 0):=Heap.get?_push_size _ rfl
 have fI:FpOk X pins H s.heap.objs.size:=I.fpOk (Nat.le_refl _) (I.hok.fresh (Nat.le_refl _))
 have fS:FpOk X pins H (s.heap.push oI0).objs.size:=I.fpOk (by rw[Z];exact Nat.le_succ _) (I.hok.fresh (by rw[Z];exact Nat.le_succ _))
 have I0:Inv X pins σ H { s with heap:=(s.heap.push oI0).push (seqObj "list" #[] 0),toks:=s.toks }:=I.turnedL (fp:=[]) (fun b o _ e=>Heap.get?_push_of_some _ (Heap.get?_push_of_some _ e)) (fun b z=>by cases z)
 generalize (s.heap.push oI0).objs.size=S at*
 generalize hI:s.heap.objs.size=J at*
 generalize (s.heap.push oI0).push (seqObj "list" #[] 0)=h0 at*
 have a6:h0.IsListIter J l 0:=⟨_,gI,by rw[<-G],by rw[<-G];rfl⟩
 obtain⟨its',a1,a2,_⟩:=I0.list sq
 refine codeAny_builtin PySem.F.entry_min_loop ?_
 rw[Around.under_plainId PySem.F.plain_min_loop _]
 show wpAny _ X.A.in1 (seqItems? (.ref S) >>= _) _ _ _
 refine wpAny_bind (wpAny_seqItems gS rfl ?_)
 show wpAny _ X.A.in1 (tryCatch (pyNext (.ref J)) _ >>= _) _ _ _
 obtain⟨x,hx,px⟩:=rs.get (i:=0) (d:=d) rfl
 obtain⟨v,hv,rx⟩:=a1.get hx
 refine wpAny_bind (wpAny_tryCatch (wpAny_pyNext_list_item a6 a2.isList (by simpa using hv) fun h1 U s1=>?_))
 have I1:=I0.turnedL (h':=h1) (t':=s.toks) (fp:=[J]) (fun b o z e=>s1.extBut b o (by simpa using z) e) (fun b z=>by rw[List.mem_singleton.mp z];exact fI)
 have Y:h1.get? S=some (seqObj "list" #[] 0):=s1.extBut _ _ (Ne.symm N) gS
 refine wpAny_bind (wpAny_pure ?_)
 have s3:=Heap.SameBut.update h1 S (Obj.mapSeq fun _=>#[v,v])
 obtain⟨c2,a7⟩:∃ c2,(h1.update S (Obj.mapSeq fun _=>#[v,v])).get? S=some (seqObj "list" #[v,v] c2):=⟨_,get?_update_seq Y fun _=>#[v,v]⟩
 show wpAny _ X.A.in1 (updateSeq S (fun _=>#[v,v]) >>= _) _ _ _
 refine wpAny_bind (wpAny_updateSeq Y rfl ?_)
 rw[j]
 have I3:=I1.turnedL (h':=h1.update S (Obj.mapSeq fun _=>#[v,v])) (t':=s.toks) (fp:=[S]) (fun b o z e=>(s3.2 b (by simpa using z)).trans e) (fun b z=>by rw[List.mem_singleton.mp z];exact fS)
 refine wpAny_pure ⟨plainId_quiet PySem.F.plain_min_loop _,ys4 hc hu (ds:=d::ds) (dm:=dm) N a5 a4 _ 0 H F H F _ x v d c2 _ rfl (by simp) I3 (.refl sf) sq rs (U.at fun o e=>(s3.2 J N).trans e) a7 fI fS rx px ⟨0,hx,rfl⟩ hm fun x v F' H' s' a b c d ix=>⟨x,H',a,b,q x F' H' c d ix⟩⟩
end
end
section
section
variable {X:Cx}{pins:List (Addr×Obj)}{σ:St}
set_option maxHeartbeats 8000000 in
theorem ys2 (hc:X.calm=true)(hu:X.A.units+64<cLine){l I S:Addr}{xs:List V}{ds:List D}{kw:List (Str×Value)}{dm:D}(Z:I≠S)(a7:l≠I)(a6:l≠S):
  ∀(r j:Nat)(H F H0 F0:Hp)(s:Shared)(xb:V)(z:Value)(db:D)(c:Nat)(R:Result->Shared->Prop),
   ds.length-(j+1)=r->j+1<=ds.length->Inv X pins σ H s->Ext F0 H0 F H->SqT X.K H l xs->Reps X.K F xs ds->s.heap.IsTupleIter I l (j+1)->s.heap.get? S=some (seqObj "list" #[z,z] c)->FpOk X pins H I->FpOk X pins H S->
   RelV xb z->Rep X.K F xb db->minP (ds.drop (j+1)) db=some dm->
   (∀ x v F' H' s',Inv X pins σ H' s'->RelV x v->Ext F0 H0 F' H'->Rep X.K F' x dm->R (.ok (.ret v)) s')->
   codeAny (model X.prog X.w) X.A (.builtin "min.loop" ⟨[.ref I,.none,.ref S],kw⟩) R s:=by
 have G:(toString "min"++toString ".loop":String)="min.loop":=by decide
 intro r
 induction r with
 |zero=>
  intro j H F H0 F0 s xb z db c R hr hj I' ext sq rs U hS fI fS rb pb hm hR
  have a3:j+1=ds.length:=by omega
  obtain⟨its,vr,pl,_⟩:=I'.tuple sq
  have zl:its.length=ds.length:=by rw[<-vr.length,rs.length]
  rw[a3,drop_length]at hm
  have hm:some db=some dm:=hm
  cases hm
  refine codeAny_builtin PySem.F.entry_min_loop ?_
  rw[Around.under_plainId PySem.F.plain_min_loop _]
  show wpAny _ X.A.in1 (seqItems? (.ref S) >>= _) _ _ _
  refine wpAny_bind (wpAny_seqItems hS rfl ?_)
  show wpAny _ X.A.in1 (tryCatch (pyNext (.ref I)) _ >>= _) _ _ _
  refine wpAny_bind (wpAny_tryCatch (wpAny_pyNext_tuple_end (I'.ok.hd hc) U pl (by simp;omega) fun h' a1=>?_))
  have a5:h'.get? S=some (seqObj "list" #[z,z] c):=a1 S _ (Ne.symm Z) hS
  have s1:=Heap.SameBut.update h' S (Obj.mapSeq fun _=>(#[]:Array Value))
  show wpAny _ X.A.in1 (updateSeq S (fun _=>#[]) >>= _) _ _ _
  refine wpAny_bind ?_
  refine wpAny_updateSeq a5 rfl (wpAny_bind (wpAny_letGo (wpAny_pure ?_)))
  have I9:Inv X pins σ H { s with heap:=h'.update S (Obj.mapSeq fun _=>(#[]:Array Value)),toks:=s.toks }:=I'.turnedL (fp:=[I,S]) (t':=s.toks) (fun b o i e=>by
   simp only[mem_cons,not_mem_nil,or_false,not_or]at i
   exact(s1.2 b i.2).trans (a1 b o i.1 e)) (fun b i=>by
   simp only[mem_cons,not_mem_nil,or_false]at i
   rcases i with rfl|rfl <;> assumption)
  exact hR xb z F H _ I9 rb ext pb
 |succ r ih=>
  intro j H F H0 F0 s xb z db c R hr hj I' ext sq rs U hS fI fS rb pb hm hR
  have O:j+1<ds.length:=by omega
  obtain⟨its,vr,pl,_⟩:=I'.tuple sq
  have zl:its.length=ds.length:=by rw[<-vr.length,rs.length]
  obtain⟨d,hd⟩:∃ d,ds[j+1]? =some d:=⟨_,getElem?_eq_getElem O⟩
  obtain⟨x,hx,px⟩:=rs.get hd
  obtain⟨v,hv,rx⟩:=vr.get hx
  rw[W9 hd]at hm
  unfold minP at hm
  refine codeAny_builtin PySem.F.entry_min_loop ?_
  rw[Around.under_plainId PySem.F.plain_min_loop _]
  show wpAny _ X.A.in1 (seqItems? (.ref S) >>= _) _ _ _
  refine wpAny_bind (wpAny_seqItems hS rfl ?_)
  show wpAny _ X.A.in1 (tryCatch (pyNext (.ref I)) _ >>= _) _ _ _
  refine wpAny_bind (wpAny_tryCatch (wpAny_pyNext_tuple_item U pl (by simpa using hv) fun h1 N s1=>?_))
  have I1:Inv X pins σ H { s with heap:=h1,toks:=s.toks }:=I'.turnedL (fp:=[I]) (fun b o i e=>s1.extBut b o (by simpa using i) e) (fun b i=>by rw[List.mem_singleton.mp i];exact fI)
  have Y:h1.get? S=some (seqObj "list" #[z,z] c):=s1.extBut _ _ (Ne.symm Z) hS
  cases hlt8:ltF 8 d db with
  |none=>rw[hlt8]at hm;cases hm
  |some bt=>
   rw[hlt8]at hm
   have a2:=yr4 I1 8 (A:=X.A.in1) (by show X.A.units+1+8<cLine;omega) (px.mono ext.fh) (pb.mono ext.fh) rx rb hlt8
   refine wpAny_bind (wpAny_pure ?_)
   show wpAny _ X.A.in1 (tryCatch (holding [v,v] (richCompare .Lt v z >>= _)) _ >>= _) _ _ _
   refine wpAny_bind (wpAny_tryCatch (wpAny_holding (wpAny_bind (a2 X.prog X.w _ _ ?_))))
   refine wpAny_bind (wpAny_holding (wpAny_truthy_bool ?_))
   refine wpAny_bind (wpAny_letGo (wpAny_pure ?_))
   cases bt with
   |true=>
    have s3:=Heap.SameBut.update h1 S (Obj.mapSeq fun _=>#[v,v])
    obtain⟨c2,a4⟩:∃ c2,(h1.update S (Obj.mapSeq fun _=>#[v,v])).get? S=some (seqObj "list" #[v,v] c2):=⟨_,get?_update_seq Y fun _=>#[v,v]⟩
    simp only[if_true]
    refine wpAny_bind ?_
    refine wpAny_updateSeq Y rfl (wpAny_bind (wpAny_letGo ?_))
    rw[G]
    have I3:=I1.turnedL (h':=h1.update S (Obj.mapSeq fun _=>#[v,v])) (t':=s.toks) (fp:=[S]) (fun b o i e=>(s3.2 b (by simpa using i)).trans e) (fun b i=>by rw[List.mem_singleton.mp i];exact fS)
    refine wpAny_pure ⟨plainId_quiet PySem.F.plain_min_loop _,ih (j+1) H F H0 F0 _ x v d c2 R (by omega) O I3 ext sq rs (N.at fun o e=>(s3.2 I Z).trans e) a4 fI fS rx px hm hR⟩
   |false=>
    simp only[Bool.false_eq_true,if_false]
    refine wpAny_bind (wpAny_letGo ?_)
    rw[G]
    refine wpAny_pure ⟨plainId_quiet PySem.F.plain_min_loop _,ih (j+1) H F H0 F0 _ xb z db c R (by omega) O I1 ext sq rs N Y fI fS rb pb hm hR⟩
theorem yy0 (a b:Value):argsOk "min" ⟨[a,b],[]⟩:=by unfold argsOk;kernel_rfl
set_option maxHeartbeats 8000000 in
theorem yg3 (hc:X.calm=true)(hu:X.A.units+64<cLine){xs:List V}{d:D}{ds:List D}{dm:D}{G O:Hp}{j:Shared}{E:Value->Shared->Prop}{Q:Value->Shared->Prop}
  {Z Y:Value} (Ib:Inv X pins σ G j) (a6:Same O G) (vb:Vals xs [Z,Y]) (a7:Reps X.K O xs (d::ds)) (hm:minP ds d=some dm)
  (hQ:∀ x v F' H' s',Inv X pins σ H' s'->RelV x v->Ext O G F' H'->Rep X.K F' x dm->Q v s'):
  wpAny (model X.prog X.w) X.A (call (.builtin "min") [Z,Y]) Q E j:=by
 have z:(toString "min"++toString ".loop":String)="min.loop":=by decide
 refine kmk_tree PySem.F.kind_min PySem.F.plain_min PySem.F.entry_min (yy0 _ _) ?_
 show wpAny _ X.A.in1 (Builtin.Builtins.bindParams "min" ["key","default"] 0 ⟨[],[]⟩ >>= _) _ _ j
 refine wpAny_bind (wpAny_of_eq (show Builtin.Builtins.bindParams "min" ["key","default"] 0 ⟨[],[]⟩=pure [none,none]from rfl) ?_)
 have a9:xs.length=2:=vb.length
 have ae:G j.heap.objs.size=none:=Ib.hok.fresh (Nat.le_refl _)
 show wpAny _ X.A.in1 (newTuple [Z,Y] >>= _) _ _ j
 refine wpAny_bind (wpAny_newTuple ?_ (by show 2<=sizeLine;rw[sizeLine_eq];decide))
 have I:Inv X pins σ (upd G j.heap.objs.size (.tup xs)) { j with heap:=j.heap.push (seqObj "tuple" #[Z,Y] 0),toks:=j.toks }:=Ib.laid (t':=j.toks) (fun b u e=>Heap.get?_push_of_some _ e) (Nat.le_refl _) ⟨by rw[a9,sizeLine_eq];decide,_,vb,⟨_,Heap.get?_push_size _ rfl,rfl,_,rfl⟩⟩
 have xb:Ext O G (upd O j.heap.objs.size (.tup xs)) (upd G j.heap.objs.size (.tup xs)):=Ext.laid a6 ae
 have sf:Same (upd O j.heap.objs.size (.tup xs)) (upd G j.heap.objs.size (.tup xs)):=xb.fh
 have sq:SqT X.K (upd G j.heap.objs.size (.tup xs)) j.heap.objs.size xs:=SqT.of w4
 have rs:Reps X.K (upd O j.heap.objs.size (.tup xs)) xs (d::ds):=a7.mono xb.ff
 have hQ:∀ x v F' H' s',Inv X pins σ H' s'->RelV x v->Ext (upd O j.heap.objs.size (.tup xs)) (upd G j.heap.objs.size (.tup xs)) F' H'->Rep X.K F' x dm->Q v s':=fun x v F' H' s' a b c d=>hQ x v F' H' s' a b (xb.trans c) d
 generalize upd O j.heap.objs.size (.tup xs)=F at*
 generalize upd G j.heap.objs.size (.tup xs)=H at*
 show wpAny _ X.A.in1 (pyIter (.ref j.heap.objs.size) >>= _) _ _ { j with heap:=j.heap.push (seqObj "tuple" #[Z,Y] 0),toks:=j.toks }
 generalize j.heap.objs.size=l at*
 generalize ({ j with heap:=j.heap.push (seqObj "tuple" #[Z,Y] 0),toks:=j.toks }:Shared)=s at*
 obtain⟨its,vr,pl,_⟩:=I.tuple sq
 have a2:=pl
 obtain⟨ol,aa,_⟩:=id a2
 have a3:l<s.heap.objs.size:=Heap.lt_size aa
 refine wpAny_bind (wpAny_pyIter_tuple a2 ?_)
 refine wpAny_bind (wpAny_newList ?_ (Nat.zero_le _))
 rw[z]
 refine wpAny_pure ⟨plainId_quiet PySem.F.plain_min_loop _,?_⟩
 generalize R:({ cls:=.type "tuple_iterator",data:=.fields #[.ref l,.int 0 0] }:Obj)=oI0
 have hS:(s.heap.push oI0).objs.size=s.heap.objs.size+1:=size_push' ..
 have ac:l≠s.heap.objs.size:=Nat.ne_of_lt a3
 have ab:l≠(s.heap.push oI0).objs.size:=by rw[hS];exact Nat.ne_of_lt (Nat.lt_succ_of_lt a3)
 have U:s.heap.objs.size≠(s.heap.push oI0).objs.size:=by rw[hS];exact Nat.ne_of_lt (Nat.lt_succ_self _)
 have gI:((s.heap.push oI0).push (seqObj "list" #[] 0)).get? s.heap.objs.size=some oI0:=Heap.get?_push_of_some _ (Heap.get?_push_size _ (by rw[<-R];rfl))
 have gS:((s.heap.push oI0).push (seqObj "list" #[] 0)).get? (s.heap.push oI0).objs.size=some (seqObj "list" #[] 0):=Heap.get?_push_size _ rfl
 have fI:FpOk X pins H s.heap.objs.size:=I.fpOk (Nat.le_refl _) (I.hok.fresh (Nat.le_refl _))
 have fS:FpOk X pins H (s.heap.push oI0).objs.size:=I.fpOk (by rw[hS];exact Nat.le_succ _) (I.hok.fresh (by rw[hS];exact Nat.le_succ _))
 have I0:Inv X pins σ H { s with heap:=(s.heap.push oI0).push (seqObj "list" #[] 0),toks:=s.toks }:=I.turnedL (fp:=[]) (fun b o _ e=>Heap.get?_push_of_some _ (Heap.get?_push_of_some _ e)) (fun b N=>by cases N)
 generalize (s.heap.push oI0).objs.size=S at*
 generalize hI:s.heap.objs.size=J at*
 generalize (s.heap.push oI0).push (seqObj "list" #[] 0)=h0 at*
 have ad:h0.IsTupleIter J l 0:=⟨_,gI,by rw[<-R],by rw[<-R];rfl⟩
 have zl:its.length=(d::ds).length:=by rw[<-vr.length,rs.length]
 obtain⟨its',a1,a8,_⟩:=I0.tuple sq
 have ag:its'.length=(d::ds).length:=by rw[<-a1.length,rs.length]
 refine codeAny_builtin PySem.F.entry_min_loop ?_
 rw[Around.under_plainId PySem.F.plain_min_loop _]
 show wpAny _ X.A.in1 (seqItems? (.ref S) >>= _) _ _ _
 refine wpAny_bind (wpAny_seqItems gS rfl ?_)
 show wpAny _ X.A.in1 (tryCatch (pyNext (.ref J)) _ >>= _) _ _ _
 obtain⟨x,hx,px⟩:=rs.get (i:=0) (d:=d) rfl
 obtain⟨v,hv,rx⟩:=a1.get hx
 refine wpAny_bind (wpAny_tryCatch (wpAny_pyNext_tuple_item ad a8 (by simpa using hv) fun h1 a4 s1=>?_))
 have I1:=I0.turnedL (h':=h1) (t':=s.toks) (fp:=[J]) (fun b o N e=>s1.extBut b o (by simpa using N) e) (fun b N=>by rw[List.mem_singleton.mp N];exact fI)
 have a5:h1.get? S=some (seqObj "list" #[] 0):=s1.extBut _ _ (Ne.symm U) gS
 refine wpAny_bind (wpAny_pure ?_)
 have s3:=Heap.SameBut.update h1 S (Obj.mapSeq fun _=>#[v,v])
 obtain⟨c2,af⟩:∃ c2,(h1.update S (Obj.mapSeq fun _=>#[v,v])).get? S=some (seqObj "list" #[v,v] c2):=⟨_,get?_update_seq a5 fun _=>#[v,v]⟩
 show wpAny _ X.A.in1 (updateSeq S (fun _=>#[v,v]) >>= _) _ _ _
 refine wpAny_bind (wpAny_updateSeq a5 rfl ?_)
 rw[z]
 have I3:=I1.turnedL (h':=h1.update S (Obj.mapSeq fun _=>#[v,v])) (t':=s.toks) (fp:=[S]) (fun b o N e=>(s3.2 b (by simpa using N)).trans e) (fun b N=>by rw[List.mem_singleton.mp N];exact fS)
 refine wpAny_pure ⟨plainId_quiet PySem.F.plain_min_loop _,ys2 hc hu (ds:=d::ds) (dm:=dm) U ac ab _ 0 H F H F _ x v d c2 _ rfl (by simp) I3 (.refl sf) sq rs (a4.at fun o e=>(s3.2 J U).trans e) af fI fS rx px hm fun x v F' H' s' a b c d=>hQ x v F' H' s' a b c d⟩
end
noncomputable def zp8:List D->Option D
 |[d,e]=>minP [e] d
 |_=>none
def xn1 (K:W.Frag):List V->Hp->VK->Prop:=fun vs H Q=>∃ x y d e dm F,vs=[x,y]/\Same F H/\Reps K F [x,y] [d,e]/\minP [e] d=some dm/\∀ z F' H',Ext F H F' H'->Rep K F' z dm->Q z H'
section
variable {X:Cx}{pos:Pos}
theorem yz9 (O:X.calm=true)(N:X.A.units+64<cLine):CallR X (.builtin "min") (xn1 X.K):=by
 intro pins s σ H vs us Q I r h
 obtain⟨x,y,d,e,dm,F,rfl,i,j,hm,q⟩:=h
 obtain⟨u,w,rfl,G,r2⟩:=zc4 r
 exact yg3 O N I i (.cons G (.cons r2 .nil)) j hm fun z v F' H' s' a b c g=>⟨z,H',a,b,q z F' H' c g⟩
theorem yz8 {K:W.Frag}:zg2 K (xn1 K) zp8:=by
 intro F H vs ds g Q j z e q
 unfold zp8 at e
 split at e
 .rename_i d e'
  cases z with
  |cons r i=>
   cases i with
   |cons r2 i=>
    cases i
    exact⟨_,_,d,e',g,F,rfl,j,.cons r (.cons r2 .nil),e,q⟩
 .cases e
theorem yi8 {x y:Expr}{p:Pos}{m:ML}(I:X.calm=true)(j:X.A.units+64<cLine)(z:Gl X "min")(hm:X.mg "min"=none)(ha:PAs X [x,y] m)(G:starEach [x,y] X.env=(false,eval x X.env)::starEach [y] X.env:=by rfl)(i:(backTo pos (starEach [y] X.env)).any (·.1)=false:=by rfl):PD X (.Call (.Name "min" p) [x,y] [] pos) (i5 zp8 m):=
 (e7 (yz9 I j) z hm PyProof.Rows.boot_min ha (by decide) (by decide) G i).imp fun _ _ _ h=>zx9 yz8 h
end
end
section
@[irreducible] noncomputable def V4 (f:MF)(m:ML):ME:=fun ρ=>(m ρ).bind fun ds=>match f ds with |some (.pr d es)=>some (.tup [d,.lst es])|_=>none
def TN (K:W.Frag)(f:MF)(m:ML):TE:=fun σ H Q=>∃ F0 H0 F ρ ds d es,Rl K F0 H0 F H σ ρ/\m ρ=some ds/\f ds=some (.pr d es)/\∀ t v p xs F' H',Ext F H F' H'->H t=none->H p=none->t≠p->F' t=none->F' p=none->H' t=some (.tup [v,.ref p])->H' p=some (.lst xs)->Rep K F' v d->Reps K F' xs es->Q (.ref t) H'
section
variable {X:Cx}{e:Expr}{pos:Pos}{es:List Expr}{m:ML}{mf:MF}{E:XK}
theorem xx2 {n:Nat}(h:∀ t,PA X es t->PE X e (zr4 (spR X.K n mf) [] E t))(hl:es.length=n)(ha:PAs X es m)(hm:∀ ρ ds,m ρ=some ds->ds.length=es.length):PE X e (TN X.K mf m):=(h _ ha).imp fun σ H Q i=>by
 obtain⟨F0,H0,F,ρ,ds,d,gs,rl,h1,h2,q⟩:=i
 refine⟨F0,H0,F,ρ,ds,rl,h1,fun vs F1 H1 j R=>?_⟩
 show spR X.K n mf (vs++[]) H1 _ E
 rw[append_nil]
 exact⟨by rw[R.length,hm ρ ds h1,hl],F1,ds,_,j.fh,R,h2,fun t v p xs F2 H2 U ht hp z N O G I Y Z=>q t v p xs F2 H2 (j.trans U) (j.hh.free ht) (j.hh.free hp) z N O G I Y Z⟩
end
def NewPs (K:W.Frag)(H F':Hp)(xs:List V)(out:List D):Prop:=∀(i:Nat) x g,xs[i]? =some x->out[i]? =some g->∃ t v q zs d es,x= .ref t/\g= .tup [d,.lst es]/\H t=none/\H q=none/\t≠q/\F' t=some (.tup [v,.ref q])/\F' q=some (.lst zs)/\Rep K F' v d/\Reps K F' zs es
theorem NewPs.mono {K:W.Frag}{H F' j:Hp}{xs:List V}{out:List D}(n:NewPs K H F' xs out)(s:Same F' j):NewPs K H j xs out:=fun i x g a b=>by
 obtain⟨t,v,q,zs,d,es,h1,h2,U,R,O,N,I,G,z⟩:=n i x g a b
 exact⟨t,v,q,zs,d,es,h1,h2,U,R,O,s _ _ N,s _ _ I,G.mono s,z.mono s⟩
theorem yz6 {K:PySem.W.Frag}{src:List (Option Nat)}{g:Tg}{f:MF}{m:ML}{its out:List D}{F1 H1:Hp}{σ:St}{a5:Ro}{p:Addr}{J:It}{Q:VK}(f1:Same F1 H1)(hp:H1 p=none)(rb:Rl K F1 (upd F1 p (.lst [])) F1 (upd H1 p (.lst [])) (blk0 src σ) a5)(I:ItD K F1 J its)(e:V8 g cyes (V4 f m) its a5 []=some out)
  (q:∀ xs F' H',Ext F1 H1 F' H'->F' p=none->H' p=some (.lst xs)->Reps K F' xs out->NewPs K H1 F' xs out->Q (.ref p) H'):
  ∃ W:Nat->Nat->St->Hp->Prop,(∃ m,W 0 m (blk0 src σ) (upd H1 p (.lst [])))/\∀ i n U H',W i n U H'->
   (J.stop i H'/\Q (.ref p) H')\/(J.go i H'/\∃ N:St->Hp->Prop,(∀ R H2,N R H2->∃ m',m'<n/\W (i+1) m' R H2)/\∀ x H2,J.yld i H' x H2->TGd K g x U H2 fun O H3=>TC K cyes O H3 fun b H4=>
    if b=true then TN K f m O H4 fun y H5=>∃ xs,H5 p=some (.lst xs)/\xs.length<sizeLine/\N O (upd H5 p (.lst (xs++[y])))else N O H4):=by
 have aa:F1 p=none:=f1.free hp
 refine⟨fun i n U H'=>∃ F' ρ' acc xs,Rl K F1 (upd F1 p (.lst xs)) F' H' U ρ'/\Ext F1 H1 F' H'/\H' p=some (.lst xs)/\F' p=none/\Reps K F' xs acc/\NewPs K H1 F' xs acc/\i<=its.length/\n=its.length-i/\V8 g cyes (V4 f m) (its.drop i) ρ' acc=some out,
  ⟨_,F1,a5,[],[],rb,(Ext.refl f1).acc hp aa,w4,aa,.nil,(fun i x g a b=>by simp at a),Nat.zero_le _,rfl,e⟩,?_⟩
 clear rb e
 rintro i n U H' ⟨F',ρ',acc,xs,a3,xe,a9,ae,ra,nw,aj,rfl,e'⟩
 by_cases a1:i<its.length
 .right
  have hd:=getElem?_eq_getElem a1
  refine⟨I.go i F' H' xe.ff a3.fh a1,fun R H2=>∃ F2 ρ2 j G,Rl K F1 (upd F1 p (.lst G)) F2 H2 R ρ2/\Ext F1 H1 F2 H2/\H2 p=some (.lst G)/\F2 p=none/\Reps K F2 G j/\NewPs K H1 F2 G j/\V8 g cyes (V4 f m) (its.drop (i+1)) ρ2 j=some out,?_,fun x H2 y=>?_⟩
  .rintro R H2 ⟨F2,ρ2,j,G,b1,b2,b3,b4,b5,b6,b7⟩
   exact⟨its.length-(i+1),Nat.sub_lt_sub_left a1 (Nat.lt_succ_self i),F2,ρ2,j,G,b1,b2,b3,b4,b5,b6,a1,rfl,b7⟩
  .obtain⟨F2,x2,r2⟩:=I.yld i F' H' x H2 _ xe.ff a3.fh hd y
   rw[W9 hd]at e'
   obtain⟨Y,h2,e3⟩:=zx8 e'
   clear e' I q y hd
   refine⟨F1,_,F2,ρ',_,Y,a3.go x2,r2,h2,fun F3 H3 O a7 x3=>?_⟩
   have af:=x2.trans x3
   rcases e3 with⟨h3,e4⟩|⟨d,h3,h4,hz,e4⟩
   .cases h3
   .refine⟨F1,_,F3,Y,true,a7,h3,fun F4 H4 x4=>iteT ?_⟩
    unfold V4 at h4
    cases hm1:m Y with
    |none=>rw[hm1]at h4;cases h4
    |some ds=>
     rw[hm1,Option.bind_some]at h4
     split at h4
     .rename_i d0 es0 hf
      cases h4
      refine⟨F1,_,F4,Y,ds,d0,es0,a7.go x4,hm1,hf,fun t v w zs F5 H5 x5 ht hw a8 am ad al ak rv rs=>?_⟩
      have ab:=af.trans x4
      have s2:Same F5 (upd F5 w (.lst zs)):=(Same.refl F5).put ad
      have a4:upd F5 w (.lst zs) t=none:=by rw[w5 a8];exact am
      have s3:Same (upd F5 w (.lst zs)) (upd (upd F5 w (.lst zs)) t (.tup [v,.ref w])):=(Same.refl _).put a4
      have xx:Ext F4 H4 (upd (upd F5 w (.lst zs)) t (.tup [v,.ref w])) H5:=(x5.freeze ad hw ak).freeze a4 ht al
      have sw:upd (upd F5 w (.lst zs)) t (.tup [v,.ref w]) w=some (.lst zs):=by rw[w5 (Ne.symm a8)];exact w4
      have rep:Rep K (upd (upd F5 w (.lst zs)) t (.tup [v,.ref w])) (.ref t) (.tup [d0,.lst es0]):=
       .tup (SqT.of w4) (.cons (rv.mono (s2.trans s3)) (.cons (.lst (SqL.of sw) (rs.mono (s2.trans s3))) .nil))
      have Z:=ab.trans xx
      have pn:=Z.stay ae a9
      have a2:∀ a,H4 a=none->H1 a=none:=fun a z=>xe.hh.free (ab.hh.free z)
      have ai:=nw.mono Z.ff
      have a6:upd (upd F5 w (.lst zs)) t (.tup [v,.ref w]) t=some (.tup [v,.ref w]):=w4
      have ag:=rv.mono (s2.trans s3)
      have ah:=rs.mono (s2.trans s3)
      generalize upd (upd F5 w (.lst zs)) t (.tup [v,.ref w])=F6 at*
      refine⟨xs,Z.hh _ _ a9,by rw[ra.length];exact hz,F6,Y,acc++[.tup [d0,.lst es0]],xs++[.ref t],((a7.go x4).go xx).rebase pn aa,(xe.trans Z).acc hp pn,w4,pn,(ra.mono Z.ff).append (.cons rep .nil),fun i x g a b=>?_,e4⟩
      have an:=ra.length
      rcases Nat.lt_or_ge i xs.length with z|z
      .rw[getElem?_append_left z]at a
       rw[getElem?_append_left (by omega)]at b
       exact ai i x g a b
      .rw[getElem?_append_right z]at a
       rw[getElem?_append_right (by omega)]at b
       rcases hk:i-xs.length with _|k
       .rw[hk]at a
        rw[show i-acc.length=0 by omega]at b
        cases a;cases b
        exact⟨t,v,w,zs,d0,es0,rfl,rfl,a2 _ ht,a2 _ hw,a8,a6,sw,ag,ah⟩
       .rw[hk]at a;simp at a
     .cases h4
 .left
  have ac:i=its.length:=Nat.le_antisymm aj (Nat.le_of_not_lt a1)
  subst ac
  rw[drop_length]at e'
  have e':some acc=some out:=e'
  cases e'
  exact⟨I.stop F' H' xe.ff a3.fh,q xs F' H' xe ae a9 ra nw⟩
def TFN (K:W.Frag)(m:ML):TE:=fun σ H Q=>∃ F0 H0 F ρ out,Rl K F0 H0 F H σ ρ/\m ρ=some out/\∀ p xs F' H',Ext F H F' H'->F' p=none->H' p=some (.lst xs)->Reps K F' xs out->NewPs K H F' xs out->Q (.ref p) H'
theorem ye8 {K:W.Frag}{src:List (Option Nat)}{z:ML}{g:Tg}{f:MF}{m:ML}{σ:St}{H:Hp}{Q:VK}(h:TFN K (W0 src z g cyes (V4 f m)) σ H Q):zr3 src (TId K z) (TGd K g) (TC K cyes) (TN K f m) σ H Q:=by
 obtain⟨F0,H0,F,ρ,out,O,e,q⟩:=h
 unfold W0 at e
 cases h1:z ρ with
 |none=>rw[h1]at e;cases e
 |some its=>
  rw[h1]at e
  refine⟨F0,H0,F,ρ,its,O,h1,fun J F1 H1 j I p hp=>?_⟩
  obtain⟨rb,U⟩:=(O.go j).blk src
  exact yz6 j.fh hp (rb.noB U hp) I e fun xs F' H' xe N G R nw=>q p xs F' H' (j.trans xe) N G R fun i x g a b=>by
   obtain⟨t,v,q,zs,d,es,h1,h2,h3,Z,Y⟩:=nw i x g a b
   exact⟨t,v,q,zs,d,es,h1,h2,j.hh.free h3,j.hh.free Z,Y⟩
@[irreducible] noncomputable def zx3 (m:ML):MS:=fun ρ=>match m ρ with
 |some (d::ds)=>(match minP ds d with
  |some (.tup [g,.lst es])=>if zj8 (g::es)=true then some (.rp g es)else none
  |_=>none)
 |_=>none
section
variable {X:Cx}{pos:Pos}
theorem yw8 {sc:Scope}{N:List Str}{src:List (Option Nat)}{tg j iter:Expr}{mi:ML}{g:Tg}{f:MF}{m:ML}{p pc pr:Pos}(hc:X.calm=true)(hu:X.A.units+64<cLine)(a4:Gl X "min")(a3:X.mg "min"=none)(B:Blk X sc N src)
  (hi:PId X tg iter mi) (hg:∀ C fp s H,PGd (Y6 X sc C N fp s H) tg g) (he:∀ C fp s H,PE (Y6 X sc C N fp s H) j (TN X.K f m))
  (hs:∀ x,foldedSetIterable iter X.env x=pure x:=by intro _;rfl)
  (Y:starEach ((.ListComp j [⟨tg,iter,[],0⟩] sc pos)::[]) X.env=(false,eval (.ListComp j [⟨tg,iter,[],0⟩] sc pos) X.env)::starEach [] X.env:=by rfl) (O:starEach [(.ListComp j [⟨tg,iter,[],0⟩] sc pos)] X.env=(false,eval (.ListComp j [⟨tg,iter,[],0⟩] sc pos) X.env)::starEach [] X.env:=by rfl) (Z:(backTo pc (starEach [] X.env)).any (·.1)=false:=by rfl):
  PSd X (.Return (some (.Call (.Name "min" p) [.ListComp j [⟨tg,iter,[],0⟩] sc pos] [] pc)) pr) (zx3 (W0 src mi g cyes (V4 f m))):=
 (Y9 (e7 (yo6 hc hu) a4 a3 PyProof.Rows.boot_min (j9 ((yv8 (g:=TGd X.K g) (tc:=TC X.K cyes) (te:=TN X.K f m) B hc hi (fun C fp s H=>hg C fp s H) (fun C fp s H=>J2) (fun C fp s H=>he C fp s H) hs).imp fun _ _ _ h=>ye8 h) pa_nil Y) (by decide) (by decide) O Z)).imp fun D σ H R=>by
  obtain⟨F0,H0,F,ρ,o,G,e,ok⟩:=R
  unfold zx3 at e
  split at e
  .rename_i d ds h1
   split at e
   .rename_i g0 es0 h2
    split at e
    .rename_i hn
     cases e
     refine⟨F0,H0,F,ρ,d::ds,G,h1,fun p xs F1 H1 x1 a8 a6 rs nw=>?_⟩
     refine⟨p,xs,d,ds,_,F1,rfl,SqL.of a6,x1.fh,rs,h2,fun x F2 H2 I _ ix=>?_⟩
     obtain⟨i,hx,a5⟩:=ix
     obtain⟨t,v,w,zs,d0,a7,rfl,eg,n1,n2,a1,f1,f2,rv,rz⟩:=nw i x _ hx a5
     cases eg
     have sm:Same H H2:=x1.hh.trans I.hh
     have x3:Ext F H F H2:=⟨Same.refl F,sm,G.fh.trans sm,fun b e n=>absurd e n,fun _ _ _ z=>z⟩
     have a2:zj8 es0=true:=by
      cases g0 with
      |int k=>exact hn
      |_=>cases hn
     have U:Rep X.K F v g0:=by
      cases g0 with
      |int k=>cases rv;exact .int k
      |_=>cases hn
     exact ok t v w zs F H2 (G.ext.trans x3) (G.ext.hh.free n1) (G.ext.hh.free n2) a1 (G.fh.free n1) (G.fh.free n2) (I.fh _ _ (I.ff _ _ f1)) (I.fh _ _ (I.ff _ _ f2)) U (zr9 a2 rz)
    .cases e
   .cases e
  .cases e
end
end
section
structure BlkC (X:Cx)(sc:Scope)(N:List Str)(src:List (Option Nat)):Prop where
 kind:sc.kind= .function
 cells:∀ y∈sc.names,y.2= .cell->sc.names.lookup y.1=some .cell
 names:∀ y∈sc.names,y.2= .local->sc.names.lookup y.1=some .local
 free:∀ y∈sc.names,y.2= .free->X.env.kindOf y.1=some .cell\/X.env.kindOf y.1=some .free
 fv:∀(j i:Nat),src[j]? =some (some i)->∃ x,N[j]? =some x/\X.N[i]? =some x/\sc.names.lookup x=some .free
 len:src.length=N.length
section
variable {X:Cx}{pins:List (Addr×Obj)}{σ:St}{H:Hp}{s:Shared}
end
section
variable {X:Cx}
end
section
variable {X:Cx}{pos:Pos}
end
end
section
section
variable {X:Cx}{pos:Pos}
end
end
section
section
variable {K:W.Frag}{F0 H0 F H B:Hp}{σ:St}{ρ:Ro}{β:Bx}{fp:List Addr}
end
end
section
section
variable {K:W.Frag}{F0 J F H:Hp}{σ:St}{ρ:Ro}
end
section
variable {X:Cx}{a b c e e1 e2:Expr}{pos p1 p2:Pos}{st:Stmt}
noncomputable def mixR (i:Nat)(k1 k2:ME):Ro->Bx->Option D:=fun ρ β=>match ρ[i]?,k1 ρ,k2 ρ with
 |some (some (.sh (.ptr p))),some (.int a),some (.int b)=>(match β.lookup p with
  |some (.row fs)=>(match ixN fs.length a with
   |some n=>(match fs[n]? with |some (.l ds)=>atI ds b|_=>none)
   |none=>none)
  |_=>none)
 |_,_,_=>none
theorem xg9 {K:W.Frag}{F:Hp}{ys:List V}{ds:List D}{b:Int}{d:D}(r:Reps K F ys ds)(h:atI ds b=some d):∃ v,atI ys b=some v/\Rep K F v d:=by
 unfold atI at h ⊢
 rw[r.length]
 cases hn:ixN ds.length b with
 |none=>rw[hn]at h;cases h
 |some n=>rw[hn]at h;exact r.get h
theorem yu1 {i:Nat}{k1 k2:ME}(h:PE X e (tOp (rIxL X.K) (tOp (rIxL X.K) (tVar i) (TD X.K k1)) (TD X.K k2))):PDw X e (mixR i k1 k2):=PE.imp h fun σ H Q ⟨F0,H0,F,ρ,β,d,⟨B,fp,z,ok⟩,e,q⟩=>by
 unfold mixR at e
 split at e
 .rename_i p a b hp hk1 hk2
  split at e
  .rename_i fs hb
   split at e
   .rename_i n hn
    split at e
    .rename_i ds hfs
     obtain⟨w,O,I⟩:=z.sh i _ hp
     cases I
     obtain⟨fq,hc,nq,a6,up⟩:=ok.bx.upd ok.nd hb
     cases hc with
     |@row fq0 _ xs _ b0 fl=>
      have N:=List.nodup_cons.mp nq
      obtain⟨y,ys,a1,a2,a3,a4,a5⟩:=FlR.at' (n:=n) fl N.2 hfs
      refine⟨_,O,F0,jn H0 B,F,ρ,_,z,hk1,fun w2 F2 H2 G r2=>?_⟩
      cases r2
      have R:atI xs a=some (.ref y):=by
       unfold atI
       rw[fl.length,hn]
       exact a1
      refine⟨p,xs,a,.ref y,rfl,rfl,SqL.of (G.hh _ _ (z.ext.hh _ _ (f6 b0))),R,F0,jn H0 B,F2,ρ,_,z.go G,hk2,fun w3 F3 H3 U Z=>?_⟩
      cases Z
      have j:=G.trans U
      obtain⟨v,hv,Y⟩:=xg9 a4 e
      exact⟨y,ys,b,v,rfl,rfl,SqL.of (j.hh _ _ (z.ext.hh _ _ (f6 a3))),hv,q v F3 H3 ⟨B,fp,z.go j,ok.mono j.ff⟩ j.ff j.hh (Y.mono j.ff)⟩
    .cases e
   .cases e
  .cases e
 .cases e
end
end
section
section
variable {X:Cx}{a b e:Expr}{pos:Pos}{ta tb:TE}{ma mb:Ro->Bx->Option D}
end
end
section
section
variable {X:Cx}{pos:Pos}
end
end
section
section
variable {X:Cx}{st:Stmt}{rest:List Stmt}{e o c:Expr}{es:List Expr}{pos apos:Pos}{mo:ME}{m:ML}
end
section
variable {X:Cx}{pos np hpos:Pos}
end
section
variable {X:Cx}{e:Expr}{es:List Expr}{st:Stmt}{E:XK}{mf:MFW}{m:ML}
end
end
section
section
variable {X:Cx}{e:Expr}{es:List Expr}{st:Stmt}{E:XK}{mf:MF}{m:ML}{pos:Pos}
end
section
variable {X:Cx}{e:Expr}{es:List Expr}{pos:Pos}{x:Ro->Bx->Option D}{m:Ro->Bx->Option (List D)}
end
section
variable {K:W.Frag}{F0 J F H:Hp}{σ:St}{ρ:Ro}
end
section
variable {X:Cx}{e:Expr}{E:XK}{mf:MF}
end
end
section
section
variable {X:Cx}{e o:Expr}{E:XK}{mf:MF}{mo:ME}
end
end
section
section
variable {X:Cx}{e:Expr}{es:List Expr}{st:Stmt}{rest:List Stmt}{E:XK}{mf:MFW}{m:MLm}
end
end
end L2
namespace L2
open List
open PySem PySem.Spec PyProof.Rows PySem.W
section
theorem yt5 {e:Value}{env env':Env}(h:env.frame=env'.frame):noteFrame e env=noteFrame e env':=by
 unfold noteFrame PySem.frameOf
 rw[h]
section
variable {M:Model}{A:Around}{E:Value->Shared->Prop}{s:Shared}
theorem zw6 {base:Heap}{l:List Env}{e:Addr}{cls a0 fl:Value}{Q:Unit->Shared->Prop}(fr:Option Addr)
  (Y:base.StaysIn s.heap) (hl:s.heap.FunFrames base l) (ht:s.heap.TracedAtW base e cls a0 fl)
  (h:∀ h',base.StaysIn h'->h'.FunFrames base l->h'.TracedAtW base e cls a0 (fr.elim .none fun f=>rawInt f)->s.heap.UpToSlots h'->Q () { s with heap:=h' }):
  wpAny M A (setFlight (.ref e) fr) Q E s:=by
 obtain⟨oe,vs,T,oT,ts,he,R,hd,h1,O,U,Z,G,h3⟩:=ht
 have I:3<ts.size:=(Array.getElem?_eq_some_iff.mp h3).1
 have other:∀ b,b≠T->(s.heap.update T (Obj.mapFields (·.setIfInBounds 3 (fr.elim Value.none fun f=>rawInt f)))).get? b=s.heap.get? b:=
  fun b j=>Heap.get?_update_other _ _ (Ne.symm j)
 have i:∀ b o,s.heap.get? b=some o->(∀ vs,o.data≠ .fields vs)->b≠T:=fun b o j z q=>by
  rw[q,Z]at j;injection j with j;subst j;exact z ts G
 unfold setFlight
 refine wpAny_bind (wpAny_field he hd h1 ?_)
 rw[if_pos (show (Value.ref T != Value.none)=true from by simp)]
 refine wpAny_setField Z G I (h _ (fun b o N=>(other b fun q=>by rw[q,O]at N;cases N).trans (Y b o N))
  (hl.of_keeps fun b o j z=>⟨o,(other b (i b o j z)).trans j,rfl⟩) ?_ fun b o j z=>⟨o.slots,(other b (i b o j z)).trans j⟩)
 exact⟨oe,vs,T,_,_,(other e (Ne.symm U)).trans he,R,hd,h1,O,U,Heap.get?_update_self _ Z (Obj.isFreed_of_fields (Obj.data_mapFields G _)),Obj.data_mapFields G _,by simp[I]⟩
theorem yh7 {base:Heap}{env:Env}{outer:List Env}{L e:Addr}{cls a0 fl:Value}{Q:Unit->Shared->Prop}
  (R:A.frames=some (env::outer)) (hl:s.heap.FunFrames base (env::outer)) (U:env.frame=some L) (ht:s.heap.TracedAtW base e cls a0 fl) (O:base.StaysIn s.heap) (I:base.get? e=none)
  (h:∀ h',Heap.HeldW base (env::outer) e cls a0 L h'->s.heap.UpToSlots h'->Q () { s with heap:=h' }):wpAny M A (noteFrame (.ref e) env) Q E s:=by
 by_cases Y:fl=rawInt L
 .subst Y
  exact wpAny_noteFrame_againW U ht (h s.heap ⟨O,I,hl,ht⟩ fun b o j _=>⟨o.slots,j⟩)
 .obtain⟨oe,vs,T,oT,ts,he,⟨hcls,h0⟩,hd,h1,hnT,hTe,hT,hdT,h3⟩:=ht
  subst hcls
  unfold noteFrame
  simp only[U]
  refine wpAny_bind (wpAny_field he hd h1 ?_)
  rw[if_pos (show (Value.ref T != Value.none)=true from by simp)]
  refine wpAny_bind (wpAny_field hT hdT h3 ?_)
  rw[if_neg (show ¬ ((fl==rawInt L)=true)from fun z=>Y (beq_iff_eq.mp z))]
  refine wpAny_bind (wpAny_setField hT hdT (Array.getElem?_eq_some_iff.mp h3).1 ?_)
  have other:∀ b,b≠T->(s.heap.update T (Obj.mapFields (·.setIfInBounds 3 Value.none))).get? b=s.heap.get? b:=fun b j=>Heap.get?_update_other _ _ (Ne.symm j)
  have i:∀ b o,s.heap.get? b=some o->(∀ vs,o.data≠ .fields vs)->b≠T:=fun b o j G q=>by
   rw[q,hT]at j;injection j with j;subst j;exact G ts hdT
  refine wpAny_entryW R (hl.of_keeps fun b o j G=>⟨o,(other b (i b o j G)).trans j,rfl⟩) U ((other e (Ne.symm hTe)).trans he)
   (fun b o N=>(other b fun q=>by rw[q,hnT]at N;cases N).trans (O b o N)) I hd (Array.getElem?_eq_some_iff.mp h1).1 h0
   fun h' ⟨x1,x2,x3,Z⟩=>h h' ⟨x1,I,x2,x3⟩ fun b o j G=>Z b o ((other b (i b o j G)).trans j) G
end
section
variable {B h h':Heap}{l:List Env}{e C L:Addr}{cls a0 fl:Value}
theorem R8 {base i:Heap}(k:∀ b,base.get? b=none->i.get? b=none):∀{l:List Env},h.FunFrames base l->h.FunFrames i l
 |[],_=>trivial
 |_::_,⟨hk,⟨L,o,hf,hn,ho,hd⟩,hr⟩=>⟨hk,⟨L,o,hf,k L hn,ho,hd⟩,R8 k hr⟩
theorem V6 {b:Addr}{j:List Addr}(i:B.get? b=none):(hideAll B j).get? b=none:=by
 cases q:(hideAll B j).get? b with
 |none=>rfl
 |some o=>rw[of_hideAll _ q]at i;cases i
theorem F8 (ht:h.TracedAtW B e cls a0 fl)(hs:Heap.SameBut C h h')(G:∃ o,B.get? C=some o)(j:B.get? e=none):h'.TracedAtW (hideAll B [C]) e cls a0 fl:=by
 obtain⟨oC,G⟩:=G
 obtain⟨R,vs,T,U,O,Y,Z,hd,h1,i,N,hT,I,h3⟩:=ht
 have eC:e≠C:=fun z=>by rw[z,G]at j;cases j
 have tC:T≠C:=fun z=>by rw[z,G]at i;cases i
 exact⟨R,vs,T,U,O,(hs.2 e eC).trans Y,Z,hd,h1,V6 i,N,(hs.2 T tC).trans hT,I,h3⟩
theorem C9 (hl:h.FunFrames B l)(hs:Heap.SameBut C h h')(i:∃ o,B.get? C=some o):h'.FunFrames (hideAll B [C]) l:=by
 obtain⟨Y,i⟩:=i
 have key:∀{l:List Env},h.FunFrames B l->h'.FunFrames B l:=fun{l}=>by
  induction l with
  |nil=>exact fun _=>trivial
  |cons env l G=>
   rintro⟨O,⟨L,o,R,hn,N,hd⟩,I⟩
   have j:L≠C:=fun z=>by rw[z,i]at hn;cases hn
   exact⟨O,⟨L,o,R,hn,(hs.2 L j).trans N,hd⟩,G I⟩
 exact R8 (fun b U=>V6 U) (key hl)
theorem N7 (i:B.StaysIn h)(hs:Heap.SameBut C h h'):(hideAll B [C]).StaysIn h':=fun b o e=>by
 have j:b≠C:=fun z=>by rw[z,hideAll_none [C] (List.mem_singleton.mpr rfl)]at e;cases e
 exact(hs.2 b j).trans (i b o (of_hideAll _ e))
theorem Flown.less {P:Program}{w:World}{outer:List Env}{H H':Hp}{s:Shared}{I:Obj}(f:Flown P w outer H s H' B h)(hs:Heap.SameBut C h h')(R:s.heap.get? C=some I)(U:H C=none)(N:C∉frs outer):Flown P w outer H { s with heap:=hideAll s.heap [C] } H' (hideAll B [C]) h':=by
 have j:H' C=none:=f.un.free C I R U (by simp)
 have ne:∀ b o,(hideAll s.heap [C]).get? b=some o->b≠C:=fun b o e z=>by rw[z,hideAll_none [C] (List.mem_singleton.mpr rfl)]at e;cases e
 refine⟨⟨fun b o e n G i=>(hs.2 b (ne b o e)).trans (f.un.keep b o (of_hideAll _ e) n G i),fun b o e n G i=>?_,fun b o e n i=>f.un.free b o (of_hideAll _ e) n i,fun b o e i=>?_,f.un.tups,f.un.frzs,f.un.tbls⟩,fun b u e=>?_,N7 f.st hs,fun b o e=>?_,fun b o e G=>?_⟩
 .obtain⟨sl,e1⟩:=f.un.slot b o (of_hideAll _ e) n G i
  exact⟨sl,(hs.2 b (ne b o e)).trans e1⟩
 .obtain⟨o1,e1⟩:=f.un.there b o (of_hideAll _ e) i
  exact⟨o1,(hs.2 b (ne b o e)).trans e1⟩
 .refine(f.ok b u e).stay (fun c v O q=>(hs.2 c ?_).trans q) (fun _ q=>q) fun _ _ q=>q
  rintro rfl
  rcases O with z|z
  .rw[<-z,j]at e;cases e
  .rw[j]at z;cases z
 .obtain⟨ob,eb⟩:=f.trk b o e
  exact⟨ob,hideAll_get _ eb (by rw[mem_singleton];rintro rfl;rw[j]at e;cases e)⟩
 .obtain⟨ob,eb⟩:=f.old b o (of_hideAll _ e) G
  exact⟨ob,hideAll_get _ eb (by rw[mem_singleton];exact ne b o e)⟩
end
def RB (Y:Cx)(pins:List (Addr×Obj))(W:WX)(ev:Value)(s':Shared):Prop:=∃(σ':St)(H1:Hp)(s1:Shared),Inv Y pins σ' H1 s1/\CXx Y.prog Y.w Y.stack H1 s1 (fun v _ H'=>∃ c C,v= .ref C/\XC Y.K c C/\W c σ' H') ev s'
def PEB (Y:Cx)(e:Expr)(x:MXe):Prop:=∀ pins W,PE (Y.bear pins (RB Y pins W)) e fun σ H _=>TXe Y.K x W σ H
section
variable {X:Cx}{e:Expr}{es:List Expr}{pos:Pos}
theorem yi3 {k n:Nat}{f:Addr}{fd:FuncData}{ps:List Str}{N:MFX}{m:ML}{x:Str}{p:Pos}(nx:X.xe=noE)(F:FnOk X.prog X.w X.K X.mg X.base (CXx X.prog X.w) k f fd ps (spX X.K n N))(hr:Room k X.A)(hg:Gl X x)(hm:X.mg x=some (.ref f))
  (hk:PySem.W.keepIn X.K (.ref f)=true) (hb:Binds X.K fd ps []) (hl:(e::es).length=n) (ha:PAs X (e::es) m) (Y:∀ ρ ds,m ρ=some ds->ds.length=(e::es).length)
  (a1:(x==("__debug__":Str))=false:=by decide) (he:starEach (e::es) X.env=(false,eval e X.env)::starEach es X.env:=by rfl) (U:(backTo pos (starEach es X.env)).any (·.1)=false:=by rfl):
  PEB X (.Call (.Name x p) (e::es) [] pos) (T3 N m):=by
 intro pins W pins' s σ H Q I h
 obtain⟨F0,H0,F1,ρ,c,rl,e1,w⟩:=h
 unfold T3 at e1
 cases h1:m ρ with
 |none=>rw[h1]at e1;cases e1
 |some ds=>
  rw[h1]at e1
  have e1:N ds=some c:=e1
  have a2:PA (X.bear pins (RB X pins W)) (e::es) (TAs X.K m):=PA.bear nx ha
  refine wpAny_Call_Name_kw (P1 I hg hm ?_ a1)
  refine PySem.W.callWith_K (h₀:=X.base) I.ok.mod.kin hk (thn (a2 pos pins' s σ H (fun vs H1=>vs.length=n/\∃ F2,Ext F1 H F2 H1/\Reps X.K F2 vs ds) I ⟨F0,H0,F1,ρ,ds,rl,h1,fun vs F2 H2 O r2=>⟨by rw[r2.length,Y ρ ds h1,hl],F2,O,r2⟩⟩) fun us s1 ⟨vs,H1,R,r,hn,F2,O,r2⟩=>⟨R.kIn,?_⟩) he U
  have i:spX X.K n N vs H1 (fun _ _=>False) (fun v _ H'=>∃ c C,v= .ref C/\XC X.K c C/\W c σ H'):=⟨hn,F2,ds,c,O.fh,r2,e1,fun C F' H' xc x3=>⟨c,C,rfl,xc,w F' H' (O.trans x3)⟩⟩
  have Z:us.length=ps.length:=by rw[<-r.length];exact F.len _ _ _ _ i
  have G:=hb s1 us R.kIn (by rw[append_nil];exact Z)
  rw[append_nil]at G
  refine wpAny_call (codeAny_mono (F.run X.A X.stack s1 H1 ⟨us,[]⟩ us vs _ _ hr R.env0 G r i) fun r' s' j=>?_)
  cases r' with
  |error ev=>exact⟨σ,H1,s1,R.unbear.fewer,j⟩
  |ok fl=>
   cases fl with
   |ret u=>obtain⟨_,_,_,_,_,_,_,z⟩:=j;exact z.elim
   |next=>exact False.elim j
   |brk=>exact False.elim j
   |cont=>exact False.elim j
end
@[irreducible] noncomputable def ym6 (src:List (Option Nat))(mi:ML)(g:Tg)(x:MXe):MXe:=fun ρ=>match mi ρ with
 |some (d::_)=>(match tgD g d (Y2 src ρ)with |some ρ1=>x ρ1|none=>none)
 |_=>none
section
variable {X:Cx}
theorem yi2 {sc:Scope}{N:List Str}{src:List (Option Nat)}{tg a3 iter:Expr}{pos:Pos}{mi:ML}{g:Tg}{x:MXe}(nx:X.xe=noE)(T:Top X)(B:Blk X sc N src)(hc:X.calm=true)
  (hi:PId X tg iter mi) (hg:∀ C fp s H,PGd (Y6 X sc C N fp s H) tg g) (he:∀ C fp s H,PEB (Y6 X sc C N fp s H) a3 x)
  (hs:∀ x,foldedSetIterable iter X.env x=pure x:=by intro _;rfl):
  PEX X (.ListComp a3 [⟨tg,iter,[],0⟩] sc pos) (ym6 src mi g x):=by
 intro pins W pins' s σ H Q I h
 obtain⟨F0,H0,F,ρ,c,rl,e1,w⟩:=h
 unfold ym6 at e1
 split at e1
 .rename_i d its h1
  split at e1
  .rename_i ρ1 h2
   rw[eval_ListComp]
   have az:PI (X.rx pins W) tg iter (TId X.K mi):=PI.bear nx hi
   refine wpAny_comprehension_free (use:=none) rfl hs (B.cl I.ok.unbear) B.kind B.names (wpAny_mono (az pins' s σ H (fun J H1=>∃ F1,Ext F H F1 H1/\ItD X.K F1 J (d::its)) I ⟨F0,H0,F,ρ,_,rl,h1,fun J F1 H1 x1 It=>⟨F1,x1,It⟩⟩) (fun xv s1 h3=>wpAny_mono h3 (fun bl s2 h4=>?_) fun _ _ e=>e) fun _ _ e=>e)
   obtain⟨it,fp,tn,J,H2,rfl,bd,Tn,ak,b7,F1,x1,It⟩:=h4
   have I2:Inv X (pins++pins') σ H2 s2:=bd.unbear
   have f2:∀ b∈fp,FpOk X (pins++pins') H2 b:=fun b O=>by
    obtain⟨f0,f1,f2,f3,f4,f5⟩:=b7 b O
    exact⟨f0,f1,f2,f3,f4,fun p hp=>f5 p (by rw[append_assoc];exact hp)⟩
   refine wpAny_newObj_type (wpAny_newFunctionEnv B.nocell (by intro y hy;simp at hy) (fun j R i=>?_) B.kind)
   dsimp only at R i ⊢
   generalize a8:s2.heap.push { cls:=.type "list",dict:=none,data:=.seq ([]:List Value).toArray }=HH at R i ⊢
   have hC:HH.objs.size=s2.heap.objs.size+1:=by rw[<-a8,Heap.size_push]
   have aq:s2.heap.objs.size≠HH.objs.size:=by rw[hC];exact Nat.ne_of_lt (Nat.lt_succ_self _)
   have Z:s2.heap.objs.size<=HH.objs.size:=by rw[hC];exact Nat.le_succ _
   have below:∀ b,b<s2.heap.objs.size->b≠HH.objs.size:=fun b O=>by rw[hC];exact Nat.ne_of_lt (Nat.lt_succ_of_lt O)
   have old:∀ b o,s2.heap.get? b=some o->j.get? b=some o:=fun b o e=>i.extBut b o (below b (Heap.lt_size e)) (Heap.get?_push_of_some _ (a8 ▸ Heap.get?_push_of_some _ e))
   have ap:j.get? s2.heap.objs.size=some { cls:=.type "list",data:=.seq #[] 0 }:=i.extBut _ _ aq (Heap.get?_push_of_some _ (a8 ▸ Heap.get?_push_size _ rfl))
   have ao:∀ b∈fp,∃ o,s2.heap.get? b=some o:=fun b O=>by obtain⟨o,e,_⟩:=Tn.obj _ _ ak b O;exact⟨o,e⟩
   have al:tn 0 j:=Tn.keep _ _ _ ak fun b _ o e=>old b o e
   have HD:H2 s2.heap.objs.size=none:=I2.fresh
   have I1:=zm0 (t:=s2.toks+([]:List (Str×Value)).length) B I2 hc f2 ao old (Nat.le_refl _) ap R Z aq
   generalize HH.objs.size=C at*
   generalize a9:s2.heap.objs.size=D at*
   have aj:∀{H':Hp},(∀ b∈fp,H' b=none)->∀ b∈fp,FpOk (Y6 X sc C N fp s2 H2) [] H' b:=fun{H'} hn b O=>by
    obtain⟨f0,f1,f2,f3,f4,f5⟩:=f2 b O
    refine⟨hn b O,I1.ok.exf b O |>.1,I1.ok.exfs b O,.inl O,fun x c e=>f4 x c (V0 e),fun p hp=>absurd (show p∈([]:List (Addr×Obj))++[]from hp) (by simp)⟩
   have b0:∀ b∈fp,b≠D:=fun b O z=>by
    obtain⟨o,e⟩:=ao b O
    exact absurd (Heap.lt_size e) (by rw[z,a9];exact Nat.lt_irrefl _)
   have fr:X.A.frames=some (X.env::X.outer):=by rw[<-T.stk];exact I.ok.frames
   have xD:Ext F1 H2 F1 (upd H2 D (.lst [])):=⟨Same.refl _,(Same.refl H2).put HD,x1.fh.put (x1.fh.free HD),fun b e n=>absurd e n,fun _ _ _ z=>z⟩
   have av:Rl X.K F1 H2 F1 (upd H2 D (.lst [])) (blk0 src σ) (Y2 src ρ):=((rl.go x1).blk src).1.go xD
   have a4:∀ U:Shared,U={ s2 with heap:=j,toks:=s2.toks+([]:List (Str×Value)).length }->
     codeAny (model X.prog X.w) X.A (.compLoop (.ListComp a3 [⟨tg,iter,[],0⟩] sc pos) 0 (.ref it) (.ref D) (compEnvC sc (clOf X.env.cells sc.names []) C X.env))
      (compPost (model X.prog X.w) X.A (RX X pins W) none (EP (X.rx pins W) pins' σ Q) (.ref D) C) U:=by
    rintro U rfl
    refine codeAny_loop rfl (fun n s'=>n=0/\s'={ s2 with heap:=j,toks:=s2.toks+([]:List (Str×Value)).length }) (fun n s' hI=>?_) 0 ⟨rfl,rfl⟩
    obtain⟨rfl,rfl⟩:=hI
    show wpAny _ X.A ((compTurn (.ListComp a3 [⟨tg,iter,[],0⟩] sc pos) 0 (.ref it) (.ref D) (compEnvC sc (clOf X.env.cells sc.names []) C X.env)).onRaise (fun x=>do noteFrame x (compEnvC sc (clOf X.env.cells sc.names []) C X.env);theTreesLotGoes x)) _ _ _
    refine wpAny_noted ?_
    rw[compTurn_list]
    refine wpAny_bind (wpAny_standAt (wpAny_bind (toE (Tn.item (Y6 X sc C N fp s2 H2) rfl rfl rfl rfl 0 [] _ _ _ noE I1 (aj fun b O=>by rw[w5 (b0 b O)];exact(f2 b O).1) al (It.go 0 F1 _ (Same.refl _) xD.fh (by simp))) fun r s4 G=>?_)))
    obtain⟨u,hr,h4⟩:=G
    subst hr
    refine wpAny_bind (toE h4 fun _ s5 G=>?_)
    obtain⟨x5,H5,I5,r5,y5,bk,bt⟩:=G
    obtain⟨F5,ae,au⟩:=It.yld 0 F1 _ x5 H5 d (Same.refl _) xD.fh rfl y5
    refine wpAny_bind (toE (hg C fp s2 H2 [] s5 _ H5 x5 u (fun ad H3=>∃ F3,Rl X.K F1 H2 F3 H3 ad ρ1/\Ext F5 H5 F3 H3) I5 r5 ⟨F1,H2,F5,_,d,ρ1,av.go ae,au,h2,fun F3 H3 ad ax x3=>⟨F3,ax,x3⟩⟩) fun _ s6 G=>?_)
    obtain⟨ac,H6,I6,F6,aw,x6⟩:=G
    refine wpAny_bind (wpAny_pure ?_)
    have af:Ext F H F6 H6:=((x1.trans xD).trans ae).trans x6
    let W':WX:=fun c' _ H'=>c'=c/\∃ F',Ext F6 H6 F' H'
    have bc:Inv (Y6 X sc C N fp s2 H2) ([]++[]) ac H6 s6:=I6
    refine wpAny_bind (wpAny_bind (wpAny_mono (he C fp s2 H2 [] W' [] s6 ac H6 (fun _ _=>False) bc.bear ⟨F1,H2,F6,ρ1,c,aw,e1,fun F' H' x7=>⟨rfl,F',x7⟩⟩) (fun v s7 h7=>?_) fun ev s7 h7=>?_))
    .obtain⟨_,_,_,_,z⟩:=h7;exact z.elim
    .obtain⟨σ7,H7,s7',I7,e,Cc,a0,H',B0,rfl,os,bare,f,fl,c',C',zC,xc,rfl,F',xF'⟩:=h7
     cases zC
     have IX:Inv X (pins++pins') σ H7 s7':=I2.call' (ch:=fp) I7.os I7.base I7.hok I7.bare fun b O=>⟨(f2 b O).2.2.2.1,(f2 b O).2.1,(f2 b O).2.2.2.2.1,(f2 b O).2.2.2.2.2⟩
     obtain⟨m7,ay,_⟩:=id I7.loc
     have ab:H7 C=none:=I7.free
     obtain⟨oC,b8,b9,a7,b2,a6⟩:=id ay
     have CF:C∉frs X.stack:=fun z=>by
      obtain⟨_,o,ho,_⟩:=I2.stack.mem z
      exact absurd (Heap.lt_size ho) (by rw[a9];exact Nat.not_lt.mpr Z)
     have b6:=fl
     rw[show (Y6 X sc C N fp s2 H2).stack=X.env::X.outer from T.stk]at fl
     show notedBy _ _ _ _ _ _
     unfold notedBy
     rw[yt5 (env:=compEnvC sc (clOf X.env.cells sc.names []) C X.env) (env':=X.env) rfl]
     refine wpAny_looks_onW fr T.frm fl fun h8 hh up=>?_
     have f8:=f.on b6.2.2.1 hh.1 up
     obtain⟨ob,a2⟩:=f.old C oC a7 CF
     have oo:ob=oC:=by
      have z1:=f.st C ob a2
      have z2:=f.un.keep C oC a7 ab CF (by simp)
      rw[z1]at z2;exact Option.some.inj z2
     subst oo
     have b4:h8.get? C=some ob:=hh.1 C ob a2
     refine⟨m7,⟨ob,b8,b9,b4,b2,a6⟩,fun h9 a1 aa bm=>?_⟩
     have t9:=F8 hh.2.2.2 a1 ⟨ob,a2⟩ hh.2.1
     have l9:=C9 hh.2.2.1 a1 ⟨ob,a2⟩
     have k9:=N7 hh.1 a1
     have ba:(hideAll B0 [C]).get? e=none:=V6 hh.2.1
     have F9:Flown X.prog X.w X.stack H7 { s7' with heap:=hideAll s7'.heap [C] } H' (hideAll B0 [C]) h9:=Flown.less f8 a1 a7 ab CF
     have sb:Heap.SameBut C s7'.heap (hideAll s7'.heap [C]):=⟨hideAll_size _ _,fun b O=>by
      cases q:s7'.heap.get? b with
      |none=>exact V6 q
      |some o=>exact hideAll_get _ q (by rw[mem_singleton];exact O)⟩
     have bb:Inv X (pins++pins') σ H7 { s7' with heap:=hideAll s7'.heap [C] }:=IX.letGo ⟨_,_,I2⟩ (by rw[a9];exact Z) ab sb
     have ar:=t9
     obtain⟨oe,vs,Tb,oT,ts,b1,bn,b3,b5,bh,bj,bo,bi,bp⟩:=ar
     unfold PySem.passOn
     refine wpAny_bind (wpAny_field b1 b3 b5 ?_)
     rw[if_neg (show ¬ ((Value.ref Tb==Value.none)=true)from by simp)]
     refine wpAny_bind (zw6 aa.frame k9 l9 t9 fun bs an am as ai=>?_)
     refine wpAny_throw ?_
     show RX X pins W (.ref e) _
     unfold RX
     refine yh7 fr am T.frm as an ba fun br Y ah=>?_
     refine wpAny_landsW Y fun bq a5 ag=>?_
     have bg:=F9.on (by rw[T.stk];exact l9) an ai
     have bf:=bg.on (by rw[T.stk];exact am) Y.1 ah
     have be:=bf.on (by rw[T.stk];exact Y.2.2.1) a5.1 ag
     exact⟨e,Cc,a0,σ,H7,_,H',_,c',rfl,bb.fewer,os,bare,be,by rw[T.stk];exact a5,xc,w F' H' (af.trans xF')⟩
   refine codeAny_compStart_list (a4 _ rfl) (toE (Tn.self X.A 0 { s2 with heap:=j,toks:=s2.toks+([]:List (Str×Value)).length } (fun v s'=>v= .ref it/\s'={ s2 with heap:=j,toks:=s2.toks+([]:List (Str×Value)).length }) noE al ⟨rfl,rfl⟩) fun v s' G=>?_)
   obtain⟨e1,e2⟩:=G
   subst e1;subst e2
   exact a4 _ rfl
  .cases e1
 .cases e1
end
end
section
section
variable {X:Cx}{e:Expr}{pos:Pos}
theorem xx9 {x:MXe}{p:Pos}{f:Str}{b:String}(G:Gl X f)(hm:X.mg f=none)(z:bootBuiltins f=some (.builtin b))(h:PEX X e x)(hn:f≠"__name__":=by decide)(hd:(f==("__debug__":Str))=false:=by decide)
  (j:starEach [e] X.env=(false,eval e X.env)::starEach [] X.env:=by rfl) (i:(backTo pos (starEach [] X.env)).any (·.1)=false:=by rfl):
  PEX X (.Call (.Name f p) [e] [] pos) x:=fun pins W=>(e7 (X:=X.rx pins W) (r:=fun _ _ _=>False) (fun pins s σ H xs us Q I r h=>h.elim) G hm z (yh1 h j pins W) hn hd j i).imp fun _ _ _ q=>q
end
def KeyX (X:Cx)(σ:St)(Pr:Hp->Hp->Prop)(kv:Value)(xk:D->Option Str):Prop:=∀(pins:List (Addr×Obj))(H F:Hp)(s:Shared)(x:V)(u:Value)(d:D)(c:Str),Inv X pins σ H s->Pr F H->Same F H->Rep X.K F x d->RelV x u->xk d=some c->
 wpAny (model X.prog X.w) X.A.in1 (call kv [u]) (fun _ _=>False) (fun ev s'=>CXx X.prog X.w X.stack H s (fun v _ H'=>∃ C,v= .ref C/\XC X.K c C/\∃ F',Ext F H F' H') ev s') s
section
variable {X:Cx}{pins:List (Addr×Obj)}{σ:St}{H:Hp}{s:Shared}
theorem yf4 {sc:Scope}{N:List Str}{src:List (Option Nat)}{q x:Str}{f c:Addr}{params:Arguments}{body:Expr}{pm ctv:Value}{ρ:Ro}{xb:MXe}(B:Blk X sc N src)(h0:N[0]? =some x)(Y:src[0]? =some none)(hl:sc.names.lookup x=some .local)
  (hb:∀ cl pm cdv ctv u,bindArgs (PySem.W.kla_fn (Str.ofString "<lambda>") q params body sc cl pm cdv ctv) ⟨[u],[]⟩=pure [(x,u)]) (j:∀ f c s H,PEX (zt3 X N sc q f c X.A.in1 s H) body xb) (a1:sc.isCoroutine=false) (G:sc.isGenerator=false) (hr:X.A.in1.depth<recursionLimit) (hd:X.A.in1.handled=none):
  KeyX X σ (LamP X σ ρ q c f (lamO X q params body sc pm c ctv)) (.ref f) (fun d=>xb ((Y2 src ρ).set 0 (some (.sh d)))):=by
 intro pins H F s x0 u d kd I pr sf r rx hm
 obtain⟨⟨F0,H0,rl⟩,hc,hf⟩:=pr
 have gf:s.heap.get? f=some (lamO X q params body sc pm c ctv):=(I.hok f _ (sf _ _ hf)).1
 have gc:s.heap.CodeRec (.ref c) q:=(I.hok c _ (sf _ _ hc)).1
 refine wpAny_call (PySem.W.kla_callFunE hr gf rfl a1 G rfl gc ?_)
 rw[hb]
 refine wpAny_pure ?_
 refine wpAny_newFunctionEnv B.nocell (by intro y hy;rw[List.mem_singleton.mp hy];exact hl) (fun h' Z U=>?_) B.kind
 have hk:∀ b o,s.heap.get? b=some o->h'.get? b=some o:=fun b o e=>U.extBut b o (Nat.ne_of_lt (Heap.lt_size e)) (Heap.get?_push_of_some _ e)
 refine⟨I.nolimit.keeps hk,PySem.W.kla_codeExpr ?_⟩
 have I1:=zo2 (q:=q) (f:=f) (c:=c) (A:=X.A.in1) (t:=s.toks+[(x,u)].length) B I hd I.env0.in1.frames h0 Y hl rx Z hk
 have R:=(rl.blk src).1.set (i:=0) r
 have T:Top (zt3 X N sc q f c X.A.in1 s H):=⟨rfl,rfl,rfl⟩
 let E:XK:=fun v _ H'=>∃ C,v= .ref C/\XC X.K kd C/\∃ F',Ext F H F' H'
 let W:WX:=fun c' _ H'=>∀ C,XC X.K c' C->E (.ref C) none H'
 have a2:Inv (zt3 X N sc q f c X.A.in1 s H) ([]++[]) ((blk0 src σ).set 0 (some x0)) H { s with heap:=h',toks:=s.toks+[(x,u)].length }:=I1
 refine wpAny_mono (j f c s H [] W [] _ _ H (fun _ _=>False) a2.bear ⟨F,H,F,_,kd,R,hm,fun F' H' x1 C xc=>⟨C,rfl,xc,F',x1⟩⟩) (fun w s' hw=>?_) fun ev s' hx=>?_
 .obtain⟨_,_,_,_,z⟩:=hw;exact z.elim
 .exact wpAny_mono (E3 (E:=E) T hx) (fun _ O z=>z) fun _ O z=>z
theorem yg2 {q:Addr}{xk:D->Option Str}{Pr:Hp->Hp->Prop}{W:WX}(hk:KeyX X σ Pr (.ref q) xk)(T:Top X)(hc:X.calm=true){l:Addr}{xs:List V}{ds:List D}{d:D}{c:Str}{H F:Hp}{s:Shared}{Q:Value->Shared->Prop}{pins':List (Addr×Obj)}
  (I:Inv X (pins++pins') σ H s) (pr:Pr F H) (sf:Same F H) (sq:SqT X.K H l xs) (rs:Reps X.K F xs (d::ds)) (hm:xk d=some c)
  (hW:∀ F' H',Ext F H F' H'->W c σ H'):
  wpAny (model X.prog X.w) X.A (call (.builtin "min") [.ref l] [(Str.ofString "key",.ref q)]) Q (RX X pins W) s:=by
 have G:(toString "min"++toString ".loop":String)="min.loop":=by decide
 obtain⟨its,vr,pl,_⟩:=I.tuple sq
 have Y:=pl
 obtain⟨ol,a5,_⟩:=id Y
 have aa:l<s.heap.objs.size:=Heap.lt_size a5
 refine kmk_tree PySem.F.kind_min PySem.F.plain_min PySem.F.entry_min (kmk_min_key _ _) ?_
 show wpAny _ X.A.in1 (Builtin.Builtins.bindParams "min" ["key","default"] 0 ⟨[],[(Str.ofString "key",.ref q)]⟩ >>= _) _ _ s
 refine wpAny_bind (wpAny_of_eq (show Builtin.Builtins.bindParams "min" ["key","default"] 0 ⟨[],[(Str.ofString "key",.ref q)]⟩=pure [some (.ref q),none]from rfl) ?_)
 refine wpAny_bind (wpAny_pure ?_)
 refine wpAny_bind (wpAny_pyIter_tuple Y ?_)
 refine wpAny_bind (wpAny_newList ?_ (Nat.zero_le _))
 rw[G]
 refine wpAny_pure ⟨plainId_quiet PySem.F.plain_min_loop _,?_⟩
 generalize R:({ cls:=.type "tuple_iterator",data:=.fields #[.ref l,.int 0 0] }:Obj)=oI0
 have hS:(s.heap.push oI0).objs.size=s.heap.objs.size+1:=size_push' ..
 have a7:s.heap.objs.size≠(s.heap.push oI0).objs.size:=by rw[hS];exact Nat.ne_of_lt (Nat.lt_succ_self _)
 have j:s.heap.objs.size<=(s.heap.push oI0).objs.size:=by rw[hS];exact Nat.le_succ _
 have gI:((s.heap.push oI0).push (seqObj "list" #[] 0)).get? s.heap.objs.size=some oI0:=Heap.get?_push_of_some _ (Heap.get?_push_size _ (by rw[<-R];rfl))
 have gS:((s.heap.push oI0).push (seqObj "list" #[] 0)).get? (s.heap.push oI0).objs.size=some (seqObj "list" #[] 0):=Heap.get?_push_size _ rfl
 have fI:FpOk X (pins++pins') H s.heap.objs.size:=I.fpOk (Nat.le_refl _) (I.hok.fresh (Nat.le_refl _))
 have fS:FpOk X (pins++pins') H (s.heap.push oI0).objs.size:=I.fpOk (by rw[hS];exact Nat.le_succ _) (I.hok.fresh (by rw[hS];exact Nat.le_succ _))
 have I0:Inv X (pins++pins') σ H { s with heap:=(s.heap.push oI0).push (seqObj "list" #[] 0),toks:=s.toks }:=I.turnedL (fp:=[]) (fun b o _ e=>Heap.get?_push_of_some _ (Heap.get?_push_of_some _ e)) (fun b N=>by cases N)
 have SF:(s.heap.push oI0).objs.size∉frs X.stack:=fun z=>by
  obtain⟨_,o,ho,_⟩:=I.stack.mem z
  exact absurd (Heap.lt_size ho) (Nat.not_lt.mpr j)
 generalize (s.heap.push oI0).objs.size=S at*
 generalize hI:s.heap.objs.size=J at*
 generalize (s.heap.push oI0).push (seqObj "list" #[] 0)=h0 at*
 have a6:h0.IsTupleIter J l 0:=⟨_,gI,by rw[<-R],by rw[<-R];rfl⟩
 obtain⟨its',a2,a4,_⟩:=I0.tuple sq
 refine codeAny_builtin PySem.F.entry_min_loop ?_
 rw[Around.under_plainId PySem.F.plain_min_loop _]
 show wpAny _ X.A.in1 (seqItems? (.ref S) >>= _) _ _ _
 refine wpAny_bind (wpAny_seqItems gS rfl ?_)
 show wpAny _ X.A.in1 (tryCatch (pyNext (.ref J)) _ >>= _) _ _ _
 obtain⟨x,hx,px⟩:=rs.get (i:=0) (d:=d) rfl
 obtain⟨v,hv,rx⟩:=a2.get hx
 refine wpAny_bind (wpAny_tryCatch (wpAny_pyNext_tuple_item a6 a4 (by simpa using hv) fun h1 a9 s1=>?_))
 have I1:=I0.turnedL (h':=h1) (t':=s.toks) (fp:=[J]) (fun b o N e=>s1.extBut b o (by simpa using N) e) (fun b N=>by rw[List.mem_singleton.mp N];exact fI)
 have O:h1.get? S=some (seqObj "list" #[] 0):=s1.extBut _ _ (Ne.symm a7) gS
 show wpAny _ X.A.in1 (tryCatch (holding [v] (call (.ref q) [v])) _ >>= _) _ _ _
 refine wpAny_bind (wpAny_tryCatch (wpAny_holding (wpAny_mono (hk (pins++pins') H F _ x v d c I1 pr sf px rx hm) (fun _ _ z=>z.elim) fun ev s2 hx=>?_)))
 obtain⟨e,Cc,a0,H',B0,rfl,os,bare,f,fl,C',zC,xc,F',a1⟩:=hx
 cases zC
 have HS:H S=none:=fS.1
 obtain⟨ob,U⟩:=f.old S _ O SF
 have z2:=f.un.keep S _ O HS SF (by simp)
 refine wpAny_bind (wpAny_updateSeq z2 rfl ?_)
 refine wpAny_bind (wpAny_letGo ?_)
 refine wpAny_throw ?_
 have Z:=Heap.SameBut.update s2.heap S (Obj.mapSeq fun _=>(#[]:Array Value))
 have f9:=Flown.less f Z O HS SF
 have a3:Heap.SameBut S h1 (hideAll h1 [S]):=⟨hideAll_size _ _,fun b N=>by
  cases q:h1.get? b with
  |none=>exact V6 q
  |some o=>exact hideAll_get _ q (by rw[mem_singleton];exact N)⟩
 have I9:Inv X (pins++pins') σ H { s with heap:=hideAll h1 [S],toks:=s.toks }:=I1.letGo ⟨_,_,I⟩ (by rw[hI];exact j) HS a3
 have a8:Heap.FlyingW (hideAll B0 [S]) X.stack e (.ref Cc) a0 (s2.heap.update S (Obj.mapSeq fun _=>(#[]:Array Value))):=⟨N7 fl.1 Z,V6 fl.2.1,C9 fl.2.2.1 Z ⟨ob,U⟩,F8 fl.2.2.2 Z ⟨ob,U⟩ fl.2.1⟩
 exact zk2 (E:=fun v _ H'=>∃ C,v= .ref C/\XC X.K c C/\∃ F',Ext F H F' H') T I9.fewer ⟨e,Cc,a0,H',_,rfl,os,bare,f9,a8,_,rfl,xc,F',a1⟩ fun v o H' ⟨C,z1,z2,F',z3⟩=>⟨c,C,z1,z2,hW F' H' z3⟩
end
end
section
noncomputable abbrev MXw:=Ro->Bx->Option Str
def TXw (K:PySem.W.Frag)(x:MXw)(W:WX):St->Hp->Prop:=fun σ H=>∃ F0 H0 F ρ β c,RlW K F0 H0 F H σ ρ β/\x ρ β=some c/\∀ F' H',RlW K F0 H0 F' H' σ ρ β->Same F F'->W c σ H'
def PEXw (X:Cx)(e:Expr)(x:MXw):Prop:=∀ pins W,PE (X.rx pins W) e fun σ H _=>TXw X.K x W σ H
def PSXw (X:Cx)(st:Stmt)(x:MXw):Prop:=∀ pins W,PS (X.rx pins W) st fun _ σ H=>TXw X.K x W σ H
def yy2 (X:Cx)(st:List Stmt)(x:MXw):Prop:=∀ pins W,PSs (X.rx pins W) st fun _ σ H=>TXw X.K x W σ H
noncomputable def zm8 (x:MXe):MXw:=fun ρ β=>x (thaw ρ β)
noncomputable def xifW (c:MB)(x y:MXw):MXw:=fun ρ β=>match c ρ with |some true=>x ρ β|some false=>y ρ β|none=>none
theorem xj8 {K:PySem.W.Frag}{x:MXe}{W:WX}{σ:St}{H:Hp}(h:TXw K (zm8 x) W σ H):TXe K x W σ H:=by
 obtain⟨F0,H0,F,ρ,β,c,⟨B,fp,i,ok⟩,e,w⟩:=h
 obtain⟨z,G⟩:=RlW.frozen i ok
 exact⟨_,_,_,_,c,z,e,fun F' H' j=>w F H' (RlW.melt i ok j G) (Same.refl _)⟩
section
variable {X:Cx}{st:Stmt}{rest:List Stmt}{e c:Expr}{es:List Expr}{pos:Pos}
theorem zq6 {x:MXe}(h:PEX X e x):PEXw X e (zm8 x):=fun pins W=>(h pins W).imp fun _ _ _ q=>xj8 q
theorem T5 {x:MXw}(h:PSXw X st x):yy2 X [st] x:=fun pins W=>E7 (h pins W)
theorem zb9 {x:MXw}(h:PSXw X st x):yy2 X (st::rest) x:=fun pins W=>by
 have hn:PSs (X.rx pins W) rest (fun _ _ _=>False):=fun _ _ _ _ _ _ z=>z.elim
 exact(W6 (h pins W) hn).imp fun _ _ _ q=>q
theorem E4 {x:MXw}(h:PEXw X e x)(hs:swapsWith e none pos.line X.env=pure false:=by rfl):PSXw X (.Expr e pos) x:=fun pins W=>N9 (h pins W) hs
theorem yj3 {x:MXw}{i:Nat}{y:Str}{pos':Pos}(G:X.N.Nodup)(hi:X.N[i]? =some y)(j:Loc X.env.scope y)(h:PEXw X e x)(hs:swapsWith e (some (.Name y pos')) pos.line X.env=pure false:=by rfl)(z:X.fn y=true\/X.env.scope.names.lookup y=some .local:=by first|exact .inl rfl|exact .inr rfl|assumption):
  PSXw X (.Assign [.Name y pos'] e pos) x:=fun pins W=>(zy5 (X:=X.rx pins W) G hi j (h pins W) hs z).imp fun _ _ _ q=>q
theorem yw4 {ca:MB}{a b:List Stmt}{I G:MXw}(nx:X.xe=noE)(N:PC' X c ca)(ha:yy2 X a I)(O:yy2 X b G):PSXw X (.If c a b pos) (xifW ca I G):=fun pins W=>
 (zj0 (PT.bear nx (pcw N)) (ha pins W) (O pins W)).imp fun D σ H j=>by
  obtain⟨F0,H0,F,ρ,β,c,i,e,w⟩:=j
  unfold xifW at e
  split at e
  .rename_i h1
   exact⟨F0,H0,F,ρ,β,_,i,h1,fun F1 H1 z s1=>iteT ⟨F0,H0,F1,ρ,β,c,z,e,fun F' H' r2 s2=>w F' H' r2 (s1.trans s2)⟩⟩
  .rename_i h1
   exact⟨F0,H0,F,ρ,β,_,i,h1,fun F1 H1 z s1=>iteF ⟨F0,H0,F1,ρ,β,c,z,e,fun F' H' r2 s2=>w F' H' r2 (s1.trans s2)⟩⟩
  .cases e
noncomputable abbrev MFXW:=List D->Bx->Option Str
def spXW (K:W.Frag)(n:Nat)(x:MFXW):Sp:=fun vs H _ E=>vs.length=n/\∃ F B fp ds β c,Same F H/\Same B H/\BxOk K F (cut H B) F B fp β/\Reps K F vs ds/\x ds β=some c/\
 ∀ C F' H' B' fp',XC K c C->Ext F (jn (cut H B) B') F' H'->BxOk K F (cut H B) F' B' fp' β->E (.ref C) none H'
noncomputable def G8 (x:MFXW)(m:ML):MXw:=fun ρ β=>(m ρ).bind fun ds=>x ds β
theorem yv6 {k n:Nat}{f:Addr}{fd:FuncData}{ps:List Str}{U:MFXW}{m:ML}{x:Str}{p:Pos}(nx:X.xe=noE)(T:Top X)(F:FnOk X.prog X.w X.K X.mg X.base (CXx X.prog X.w) k f fd ps (spXW X.K n U))(hr:Room k X.A)(hg:Gl X x)(hm:X.mg x=some (.ref f))
  (hk:PySem.W.keepIn X.K (.ref f)=true) (hb:Binds X.K fd ps []) (hl:(e::es).length=n) (ha:PAs X (e::es) m) (a1:∀ ρ ds,m ρ=some ds->ds.length=(e::es).length)
  (a3:(x==("__debug__":Str))=false:=by decide) (he:starEach (e::es) X.env=(false,eval e X.env)::starEach es X.env:=by rfl) (Z:(backTo pos (starEach es X.env)).any (·.1)=false:=by rfl):
  PEXw X (.Call (.Name x p) (e::es) [] pos) (G8 U m):=by
 intro pins W pins' s σ H Q I h
 obtain⟨F0,H0,F1,ρ,β,c,⟨B,fp,rl,ok⟩,e1,w⟩:=h
 unfold G8 at e1
 cases h1:m ρ with
 |none=>rw[h1]at e1;cases e1
 |some ds=>
  rw[h1]at e1
  have e1:U ds β=some c:=e1
  have a4:PA (X.rx pins W) (e::es) (TAs X.K m):=PA.bear nx ha
  refine wpAny_Call_Name_kw (P1 I hg hm ?_ a3)
  refine PySem.W.callWith_K (h₀:=X.base) I.ok.mod.kin hk (thn (a4 pos pins' s σ H (fun vs H1=>vs.length=n/\∃ F2,Ext F1 H F2 H1/\Reps X.K F2 vs ds) I ⟨F0,jn H0 B,F1,ρ,ds,rl,h1,fun vs F2 H2 i r2=>⟨by rw[r2.length,a1 ρ ds h1,hl],F2,i,r2⟩⟩) fun us s1 ⟨vs,H1,Y,r,hn,F2,i,r2⟩=>⟨Y.kIn,?_⟩) he Z
  have G:=rl.go i
  have N:=ok.mono i.ff
  obtain⟨bh,k2⟩:=N.call G
  have j:spXW X.K n U vs H1 (fun _ _=>False) (fun v _ H'=>∃ c C,v= .ref C/\XC X.K c C/\W c σ H'):=
   ⟨hn,F2,B,fp,ds,β,c,i.fh,bh,k2,r2,e1,fun C F' H' B' a5 xc x3 k3=>⟨c,C,rfl,xc,w F' H' (RlW.back G N x3 k3) (i.ff.trans x3.ff)⟩⟩
  have a2:us.length=ps.length:=by rw[<-r.length];exact F.len _ _ _ _ j
  have R:=hb s1 us Y.kIn (by rw[append_nil];exact a2)
  rw[append_nil]at R
  refine wpAny_call (codeAny_mono (F.run X.A X.stack s1 H1 ⟨us,[]⟩ us vs _ _ hr Y.env0 R r j) fun r' s' O=>?_)
  cases r' with
  |error ev=>exact zk2 (E:=fun v _ H'=>∃ c C,v= .ref C/\XC X.K c C/\W c σ H') T Y.unbear.fewer O fun v o H' z=>z
  |ok fl=>
   cases fl with
   |ret u=>obtain⟨_,_,_,_,_,_,_,z⟩:=O;exact z.elim
   |next=>exact False.elim O
   |brk=>exact False.elim O
   |cont=>exact False.elim O
end
noncomputable def xy0 (n:Nat)(x:MXw):MFXW:=fun ds β=>x (v7 n ds) β
theorem Fun.okXWT {P:Program}{w:World}{K:PySem.W.Frag}{mg:Str->Option Value}{base:Heap}{x qual:Str}{st:Stmt}{f:Addr}{fd:FuncData}{N ps:List Str}{k:Nat}{m:MXw}(Fn:Fun K x qual st f fd)(Sc:FnScope N ps (y8 st))
  (i:∀(cdv:Value)(A:Around)(outer:List Env)(s:Shared)(H:Hp)(E:XK),fd.code=cdv->Room k (A.deeper (envOfC qual (y8 st) s.heap.objs.size f cdv))->yy2 (cxOf (CXx P w) P w K mg base N qual (y8 st) f cdv A outer s H E).nox (p0 st) m):
  FnOk P w K mg base (CXx P w) (k+1) f fd ps (spXW K ps.length (xy0 N.length m)):=by
 obtain⟨oc,od,kV,doc,pm,an,cdv,ct,osl,rfl,lk,j⟩:=Fn.ex
 refine ye2 lk j Sc (fun vs H Q E h=>h.1) fun A outer s H vs Q E hr h=>?_
 obtain⟨hl,F,B,fp,ds,β,c,R,U,bo,Y,e,O⟩:=h
 have hb:=i cdv A outer s H E rfl hr
 let W:WX:=fun c _ H'=>∀ C,XC K c C->E (.ref C) none H'
 have start:RlW K F (cut H B) F H (start N vs) (v7 N.length ds) β:=⟨B,fp,by rw[yq3 U];exact S6 R Y,bo⟩
 refine⟨fun _ σ H=>TXw K m W σ H,fun pins s1 σ H1 D I q=>?_,F,cut H B,F,v7 N.length ds,β,c,start,e,fun F' H' Z _ C G=>?_⟩
 .have I1:Inv (cxOf (CXx P w) P w K mg base N qual (y8 st) f cdv A outer s H E).nox (pins++[]) σ H1 s1:=by rw[append_nil];exact I.wish _
  refine wpAny_mono (hb pins W [] s1 σ H1 D I1.bear q) (fun fl s' z=>?_) fun ev s' z=>?_
  .have:=z.unbear
   rw[append_nil]at this
   exact this.unwish
  .exact E3 (X:=(cxOf (CXx P w) P w K mg base N qual (y8 st) f cdv A outer s H E).nox) ⟨rfl,rfl,rfl⟩ z
 .obtain⟨B',fp',rl',k'⟩:=Z
  exact O C F' H' B' fp' G rl'.ext k'
open Classical in
@[irreducible] noncomputable def xlam (mw:Str)(pos:Pos)(q:Str)(ds:List D)(src:List (Option Nat))(xb:MXe):MXw:=fun ρ β=>
 if ∃ P,β.lookup P=some (.tb P mw pos q)then (match ds with |d::_=>xb ((Y2 src ρ).set 0 (some (.sh d)))|[]=>none)else none
section
variable {X:Cx}
theorem yi1 {x tn mw q:Str}{T:Addr}{xs:List Str}{N:List Str}{src:List (Option Nat)}{params:Arguments}{body:Expr}{sc:Scope}{xb:MXe}{pm pt j kp cpos:Pos}(nx:X.xe=noE)(Tp:Top X)
  (ht:KTup X.K T xs) (af:Gl X tn) (ae:X.mg tn=some (.ref T)) (hg:Gl X "min") (hm:X.mg "min"=none) (ah:∀ P,TabF X.K mw P->Mod X.K X.mg X.base->CodeT X.K X.env.code P/\X.base.BuiltinsAt X.mg P)
  (B:Blk X sc N src) (h0:N[0]? =some x) (ad:src[0]? =some none) (hl:sc.names.lookup x=some .local) (hb:∀ cl pm cdv ctv u,bindArgs (PySem.W.kla_fn (Str.ofString "<lambda>") q params body sc cl pm cdv ctv) ⟨[u],[]⟩=pure [(x,u)])
  (Z:∀ f c s H,PEX (zt3 X N sc q f c X.A.in1 s H) body xb) (ai:sc.isCoroutine=false) (a6:sc.isGenerator=false) (hr:X.A.in1.depth<recursionLimit) (hh:X.A.in1.handled=none) (hc:X.calm=true)
  (hd:defaultsOf params X.env=([],[]):=by rfl) (hq:X.env.qual++Str.ofString "<lambda>"=q:=by rfl) (ag:(tn==("__debug__":Str))=false:=by decide) (hs:starEach (.Name tn pt::[]) X.env=(false,eval (.Name tn pt) X.env)::starEach [] X.env:=by rfl):
  PEXw X (.Call (.Name "min" pm) [.Name tn pt] [⟨some "key",.Lambda params body sc j,kp⟩] cpos) (xlam mw j q (xs.map .str) src xb):=by
 intro G W pins s σ H Q I ⟨F0,H0,F,ρ,β,c0,⟨Bh,fp,rl,ok⟩,e,k⟩
 unfold xlam at e
 split at e
 .rename_i hP
  obtain⟨P,hP⟩:=hP
  split at e
  .rename_i dd d ds hds
   obtain⟨fq,Y,nq,as,up⟩:=ok.bx.upd ok.nd hP
   cases Y with
   |@tb _ _ _ _ ps T1 b1 tr hcd=>
    obtain⟨ct,bt⟩:=ah P T1 I.mod
    have a1:H P=some (.tbl ps):=rl.ext.hh _ _ (f6 b1)
    refine wpAny_Call_Name_kw (L9 I hg hm PyProof.Rows.boot_min ?_ (by decide) (by decide))
    have A:=j9 (X:=X.rx G W) (M3 (v:=.ref T) (pos:=pt) af ae rfl ag) pa_nil hs cpos pins s σ H (fun vs H1=>vs=[.ref T]/\H1=H) I ⟨rfl,rfl⟩
    refine callWith_kw (thn A fun us s1 a5=>?_) (by rw[hs];rfl) (by rw[hs];rfl)
    obtain⟨vs,H1,I1,r1,ev,eH⟩:=a5
    subst ev eH
    obtain⟨u,rfl,ru⟩:=K5 r1
    cases ru
    have a4:=yv2 (X:=X.rx G W) (nm:=some "key") (kpos:=kp) (yc6 (pos:=j) (body:=body) ct bt B.free hd hq) yc4 cpos pins s1 σ H1 (fun vs H2=>∃ f c pv ctv F2 B2 a2,vs=[.ref f]/\Rl X.K F0 (jn H0 B2) F2 H2 σ ρ/\BxOk X.K F0 H0 F2 B2 a2 β/\Same F F2/\F2 c=some (.ext (c5 c q))/\F2 f=some (.ext (R3 f (lamO X q params body sc pv c ctv)))) I1 ?_
    .refine thn a4 fun us s2 ⟨vs,H2,I2,r2,f,c,pv,ctv,F2,B2,a2,ev,U,ab,sf,O,ak⟩=>?_
     subst ev
     obtain⟨u1,rfl,aa⟩:=K5 r2
     cases aa
     obtain⟨o,its,n,k1,k2,k3,k4,k5,k6⟩:=ht
     have rs:=P7 (K:=X.K) (F:=F2) xs
     rw[hds]at rs
     exact yg2 (W:=W) (yf4 B h0 ad hl hb Z ai a6 hr hh (pm:=pv) (ctv:=ctv) (ρ:=ρ)) Tp hc I2.unbear ⟨⟨_,_,U⟩,O,ak⟩ U.fh (.inr ⟨o,its,n,k1,k2,k3,k4,k5⟩) rs e fun F' H' x3=>k F' H' ⟨B2,a2,U.go x3,ab.mono x3.ff⟩ (sf.trans x3.ff)
    .refine⟨ps,a1,tr,?_⟩
     rcases hcd with hn|⟨c,aj,a7⟩
     .refine .inl ⟨hn,fun c f pv ctv i cf Hc Hf a9 cm=>?_⟩
      obtain⟨a3,fP,al,ao⟩:=rl.putB (a:=P) (o:=.tbl i) ok.out (.inl (by rw[b1];simp))
      have cP:c≠P:=fun z=>by rw[z,a1]at Hc;cases Hc
      have an:f≠P:=fun z=>by rw[z,a1]at Hf;cases Hf
      have aq:upd H1 P (.tbl i) c=none:=by rw[w5 cP];exact Hc
      have ap:upd (upd H1 P (.tbl i)) c (.ext (c5 c q)) f=none:=by rw[w5 (Ne.symm cf),w5 an];exact Hf
      have x1:Ext F (upd H1 P (.tbl i)) (upd F c (.ext (c5 c q))) (upd (upd H1 P (.tbl i)) c (.ext (c5 c q))):=Ext.laid a3.fh aq
      have R:=Ext.laid (o:=.ext (R3 f (lamO X q params body sc pv c ctv))) x1.fh ap
      have sf:Same F (upd (upd F c (.ext (c5 c q))) f (.ext (R3 f (lamO X q params body sc pv c ctv)))):=x1.ff.trans R.ff
      have O:upd (upd F c (.ext (c5 c q))) f (.ext (R3 f (lamO X q params body sc pv c ctv))) c=some (.ext (c5 c q)):=by rw[w5 cf,w4]
      obtain⟨am,a8,ac,ar⟩:=up (.tb P mw j q) [P] (upd Bh P (.tbl i)) _ sf (.tb T1 w4 a9 (.inr ⟨c,cm,O⟩)) (by simp) (fun a ha hn=>w5 fun z=>hn (by rw[z];simp)) fun a ha=>.inl ha
      rw[F7 hP]at a8
      exact⟨f,c,pv,ctv,_,upd Bh P (.tbl i),am,rfl,(a3.go x1).go R,⟨zk0 ok.out ⟨al,ao⟩,a8,ac,G9 ok.plain fun _ _ z=>by cases z⟩,sf,O,w4⟩
     .refine .inr ⟨c,aj,rl.fh _ _ a7,fun f pv ctv Hf=>?_⟩
      have R:=Ext.laid (o:=.ext (R3 f (lamO X q params body sc pv c ctv))) rl.fh Hf
      exact⟨f,c,pv,ctv,_,Bh,fp,rfl,rl.go R,ok.mono R.ff,R.ff,R.ff _ _ a7,w4⟩
  .cases e
 .cases e
end
end
end L2
namespace L2
open List
open PySem PySem.Spec PyProof.Rows
section
@[irreducible] noncomputable def zp1 (names:List Str)(mb:MW)(xb:MXw)(i:Nat)(ms:MS):MW:=fun ρ β=>match mb ρ β with
 |some o=>some o
 |none=>match xb ρ β with
  |some c=>if c∈names then (match ms (ρ.set i (some (.sh (.exc c))))with |some (.nx ρ2)=>some (.nx (ρ2.set i none),β)|_=>none)else none
  |none=>none
section
variable {X:Cx}{pos np hpos:Pos}
theorem yj5 {body O:List Stmt}{b0:Stmt}{mb:MW}{ms:MS}{xb:MXw}{names:List Str}{x n:Str}{Wa:Addr}{i:Nat}(nx:X.xe=noE)(T:Top X)(hg:Gl X x)(hm:X.mg x=some (.ref Wa))
  (aj:∀ c∈names,∀ C,XC X.K c C->PySem.W.exmOne X.K (.ref C) (.ref Wa)=some true) (hN:X.N.Nodup) (hi:X.N[i]? =some n) (hl:X.env.scope.names.lookup n=some .local)
  (hb:PSsw X body mb) (hx:yy2 X body xb) (hs:∀ a,PSsd (X.inX a) (b0::O) ms) (ah:(x==("__debug__":Str))=false:=by decide):
  PSw X (.Try body [.ExceptHandler (some (.Name x np)) (some n) (b0::O) hpos] [] [] pos) (zp1 names mb xb i ms):=by
 intro pins s σ H D I ⟨F0,H0,F,ρ,β,o,β',a2,e,ok⟩
 unfold zp1 at e
 refine wpAny_Try_except ?_
 cases h1:mb ρ β with
 |some o1=>
  rw[h1]at e;cases e
  refine wpAny_mono (hb pins s σ H D I ⟨F0,H0,F,ρ,β,o,β',a2,h1,ok⟩) (fun f s1 h=>?_) fun _ _ z=>by rw[nx]at z;exact z.elim
  cases f with
  |next=>
   obtain⟨G,H1,I1,q⟩:=h
   exact pss_nil pins s1 G H1 D I1 q
  |brk=>exact h
  |cont=>exact h
  |ret u=>exact h
 |none=>
  rw[h1]at e
  cases h2:xb ρ β with
  |none=>rw[h2]at e;cases e
  |some c=>
   rw[h2]at e
   dsimp only at e
   split at e
   .rename_i hc
    cases h3:ms (ρ.set i (some (.sh (.exc c))))with
    |none=>rw[h3]at e;cases e
    |some o3=>
     rw[h3]at e
     cases o3 with
     |nx ρ2=>
      cases e
      let W:WX:=fun c' a6 H'=>c'=c/\a6=σ/\∃ F',RlW X.K F0 H0 F' H' σ ρ β/\Same F F'
      have I0:Inv X (pins++[]) σ H s:=by rw[append_nil];exact I
      refine wpAny_mono (hx pins W [] s σ H { nx:=fun _ _=>False,rt:=fun _ _=>False } I0.bear ⟨F0,H0,F,ρ,β,c,a2,h2,fun F' H' r' s'=>⟨rfl,rfl,F',r',s'⟩⟩) (fun f s1 h=>?_) fun ev s1 h=>?_
      .cases f with
       |next=>obtain⟨_,_,_,z⟩:=h;exact z.elim
       |brk=>obtain⟨_,_,_,z⟩:=h;exact z.elim
       |cont=>obtain⟨_,_,_,z⟩:=h;exact z.elim
       |ret u=>obtain⟨_,_,_,_,_,z⟩:=h;exact z.elim
      refine wpAny_mono h (fun _ s2 h2=>wpAny_mono h2 (fun _ s3 h3=>?_) fun _ _ z=>z.elim) fun _ _ z=>z.elim
      obtain⟨a,C,a0,G,H1,sa,H',B0,c',rfl,Y,os,bare,f,fl,xc,rfl,rfl,F1,⟨B,fp,a3,bo⟩,sF⟩:=h3
      have I3:Inv X pins G H' s3:=f.inv Y os bare
      have LT:∀ M:Model,PySem.W.Looks M s3.heap (typeOf (.ref a)) (.ref C):=fun M=>by
       obtain⟨ob,e1,e2⟩:=fl.there
       exact e2 ▸ (PySem.W.Looks.ld e1).andThen .now
      refine wpAny_handleBy_cons (codeAny_handlers_test (P1 (X:=X.inX a) I3.inX hg hm ((PySem.W.exm_one I3.kIn (LT _) (aj _ hc C xc)).here ?_) ah)) (by intro z;cases z)
      refine codeAny_handlers_suite_as ?_
      refine lands_againW fl fun h4 U a8=>?_
      have f4:=f.on fl.2.2.1 U.1 a8
      have I4:Inv X pins G H' { s3 with heap:=h4 }:=f4.inv Y os bare
      obtain⟨oe,vs,he,ag,a4,_⟩:=U.first
      have ad:a∉frs X.stack:=fun z=>by
       obtain⟨_,o',e',ai⟩:=U.2.2.1.mem z
       rw[he]at e';cases e'
       exact ai vs a4
      have j:sa.heap.get? a=none:=by
       cases z:sa.heap.get? a with
       |none=>rfl
       |some o'=>
        obtain⟨ob,eb⟩:=f4.old a o' z ad
        have:=U.2.1
        rw[eb]at this;cases this
      have Ha:H' a=none:=by
       cases z:H' a with
       |none=>rfl
       |some o'=>
        obtain⟨ob,eb⟩:=f4.trk a o' z
        have:=U.2.1
        rw[eb]at this;cases this
      have y0:X.s₀.heap.get? a=none:=by
       cases z:X.s₀.heap.get? a with
       |none=>rfl
       |some o'=>
        obtain⟨o2,e2⟩:=Y.base.there a o' z (by rw[T.ex];simp)
        rw[j]at e2;cases e2
      have yL:a≠X.env.locals:=fun z=>by
       obtain⟨m,⟨o',_,_,R,_⟩,_⟩:=Y.loc
       rw[<-z,j]at R;cases R
      have yC:∀ y c,X.env.cells.lookup y=some c->c≠a:=fun y c e z=>by
       obtain⟨v,o',R,_⟩:=Y.cell y c e
       rw[z,j]at R;cases R
      have yP:∀ p∈X.pn++pins,p.1≠a:=fun p hp z=>by
       have:=(Y.pin p hp).1
       rw[z,j]at this;cases this
      have xat:XAt a C h4:=⟨oe,vs,he,ag,a4⟩
      have I5:Inv X pins G (upd H' a (.ext (XAt a C))) { s3 with heap:=h4 }:=I4.track y0 yL yC yP Ha ⟨xat,⟨oe,he⟩,fun g1 g2 z k=>by
       obtain⟨o',a7,z1,z2,z3⟩:=z
       exact⟨o',a7,k o' z1,z2,z3⟩⟩
      have x5:Ext F1 H' (upd F1 a (.ext (XAt a C))) (upd H' a (.ext (XAt a C))):=Ext.laid a3.fh Ha
      have ab:=(a3.go x5).set (i:=i) (v:=.ref a) (d:=.exc c') (.exc xc w4)
      refine zw4 (X:=X.inX a) I5.inX hN hi (.inl hl) (v:=.ref a) rfl (fun s5 I6=>?_) (.inr hl)
      let D2:Ends:={ nx:=fun Z H2=>∃ F2,Rl X.K F0 (jn H0 B) F2 H2 Z ρ2/\Same F1 F2,rt:=fun _ _=>False }
      refine wpAny_mono (hs a pins s5 _ _ D2 I6 ⟨F0,jn H0 B,_,_,_,ab,h3,fun F2 H2 Z ac a9=>⟨F2,ac,x5.ff.trans a9⟩⟩) (fun ak s6 h6=>?_) fun _ _ z=>by rw[show (X.inX a).xe=X.xe from rfl,nx]at z;exact z.elim
      cases ak with
      |next=>
       obtain⟨a5,H6,I7,F6,aa,a1⟩:=h6
       have I8:Inv X pins a5 H6 s6:=I7.outX I.ok
       obtain⟨m,hn,al⟩:=id I8.loc
       refine wpAny_nameGoes_keeps hl hn (by rw[I.ok.kind];rfl) fun h7 v af ae=>?_
       exact⟨_,H6,I8.gone hN hi hn af ae,ok F6 H6 _ ⟨B,fp,aa.drop i,bo.mono a1⟩ (sF.trans a1)⟩
      |brk=>obtain⟨_,_,_,z⟩:=h6;exact z.elim
      |cont=>obtain⟨_,_,_,z⟩:=h6;exact z.elim
      |ret u=>obtain⟨_,_,_,_,_,z⟩:=h6;exact z.elim
     |_=>cases e
   .cases e
end
end
section
noncomputable def ixSD:D->D->Option D
 | .str z,.int i=>if z.length<=sizeLine then (atI z.cps.toList i).map fun c=>.str ⟨#[c]⟩else none
 |_,_=>none
theorem xv8 {K:W.Frag}:OpD K rIxS ixSD:=by
 intro F H x y d e w Q s j r2 h q
 cases d with
 |str z=>
  cases e with
  |int i=>
   cases j
   cases r2
   have h:(if z.length<=sizeLine then (atI z.cps.toList i).map fun c=>D.str ⟨#[c]⟩else none)=some w:=h
   split at h
   .rename_i hz
    cases h1:atI z.cps.toList i with
    |none=>rw[h1]at h;cases h
    |some c=>rw[h1]at h;cases h;exact⟨z,i,c,rfl,rfl,hz,h1,q _ F H (.refl s) (.str _)⟩
   .cases h
  |_=>cases h
 |_=>cases h
section
variable {X:Cx}{a b:Expr}{ma mb:ME}{na nb:MEm}{pos:Pos}
theorem xw3 (ha:PDm X a na)(i:PDm X b nb)(hs:A8 b:=by exact fun _ _=>rfl):PDm X (.Subscript a b pos) (m2m ixSD na nb):=(K7 xi8 ha i hs).imp fun σ H Q h=>yt0 xv8 h
end
noncomputable def corX (x y:Ro->Bx->Option (Bool×Bx)):Ro->Bx->Option (Bool×Bx):=fun ρ β=>match x ρ β with |some (true,β')=>some (true,β')|some (false,β')=>y ρ β'|none=>none
section
variable {X:Cx}{a b:Expr}{ca cb:Ro->Bx->Option (Bool×Bx)}{pos:Pos}
theorem xv1 (ha:PT X a (TCx X.K ca))(z:PT X b (TCx X.K cb)):PT X (.BoolOp .Or [a,b] pos) (TCx X.K (corX ca cb)):=PT.imp (PW.pt (xn3 ha (yc0 z))) fun σ H Q i=>by
 obtain⟨F0,H0,F,ρ,β,k,β',r,e,q⟩:=i
 unfold corX at e
 split at e
 .rename_i β1 h1
  cases e
  exact⟨F0,H0,F,ρ,β,true,_,r,h1,fun F1 H1 j s1=>iteT (q F1 H1 j s1)⟩
 .rename_i β1 h1
  exact⟨F0,H0,F,ρ,β,false,_,r,h1,fun F1 H1 j s1=>iteF ⟨F0,H0,F1,ρ,β1,k,β',j,e,fun F2 H2 r2 s2=>q F2 H2 r2 (s1.trans s2)⟩⟩
 .cases e
end
end
section
noncomputable def U2 (f:MFW)(m:ML):MW:=fun ρ β=>(m ρ).bind fun ds=>match f ds β with
 |some (.fr _,β')=>some (.nx ρ,β')
 |_=>none
section
variable {X:Cx}{e:Expr}{es:List Expr}{st:Stmt}{E:XK}{mf:MFW}{m:ML}
theorem zb8 {n:Nat}(h:∀ t,PA X es t->PE X e (zr4 (spW X.K n mf) [] E t))(Z:∀ te,PE X e te->PS X st (xo0 te))(hl:es.length=n)(ha:PAs X es m)(hm:∀ ρ ds,m ρ=some ds->ds.length=es.length):
  PSw X st (U2 mf m):=PS.imp (Z _ (h _ ha)) fun Dn σ H ⟨F0,H0,F,ρ,β,o,β',⟨B,fp,O,ok⟩,e,k⟩=>by
 unfold U2 at e
 cases h1:m ρ with
 |none=>rw[h1]at e;cases e
 |some ds=>
  rw[h1,Option.bind_some]at e
  split at e
  .rename_i es' β1 h2
   cases e
   refine⟨F0,jn H0 B,F,ρ,ds,O,h1,fun vs F1 H1 z R=>?_⟩
   show spW X.K n mf (vs++[]) H1 _ E
   rw[append_nil]
   have i:=O.go z
   have j:=ok.mono z.ff
   obtain⟨bh,U⟩:=j.call i
   refine⟨by rw[R.length,hm ρ ds h1,hl],F1,B,fp,ds,β,_,_,i.fh,bh,U,R,h2,fun p xs F' H' B' N x Y e1 e2 e3 rp=>?_⟩
   obtain⟨G,I⟩:=RlW.back' i j x Y
   exact k F' H' _ ⟨B',N,G,I⟩ (z.ff.trans x.ff)
  .cases e
end
end
end L2
set_option maxHeartbeats 4000000
namespace Lw
open List
open PySem L2
abbrev k0a (r:List Int):Option S:=some (.sh (.lst (r.map .int)))
abbrev k0b (k:Nat):Option S:=some (.sh (.int (k:Int)))
abbrev k0c (k:Int):Option S:=some (.sh (.int k))
section
noncomputable section
noncomputable def b_Z9:MS:=(mif (v0 (m2 ltD (mvar 0) (mc (.int 1)))) zx4 n9)
noncomputable def m_Z9:MF:=runB 1 b_Z9
noncomputable def xr4:MXs:=(xif (v0 (m2 ltD (mvar 0) (mc (.int 1)))) (zy1 "NoStep" (z5 (mc (.str "a least step is 1 or more")) anil)) ya2)
noncomputable def zc1:MFX:=runX 1 xr4
noncomputable def b_Z11:MS:=(mseq (mset 2 (ys6 "up" "down" (mvar 1))) (za5 (W0 [none,none,some 2] (i7 P2 (z5 (mvar 0) anil)) (.tp [0,1]) cyes (mite (v0 (m2 eqSD (m2 modD (mvar 0) (mc (.int 2))) (mvar 2))) (m1 negD (mvar 1)) (mvar 1)))))
noncomputable def K9:MF:=runB 3 b_Z11
noncomputable def zd7:MS:=(mif (cor (v0 (meqB true (mcut (bvar 2) (j4 (m1 negD (mc (.int 1)))) W3) (l6 (z5 (m2 subD (mvar 3) (mc (.int 1))) anil)))) (v0 (m2 geD (m2 addD (mix (bvar 0) (m2 subD (mvar 3) (mc (.int 1)))) (mvar 4)) (mvar 1)))) (mapp 2 (mvar 3)) n9)
noncomputable def b_Z16:MS:=(mseq (C0 2 (l6 anil)) (mseq (mfor (i7 P2 (z5 (mvar 0) anil)) (.tp [3,4]) zd7) (yt9 2)))
noncomputable def yz0:MF:=runB 5 b_Z16
noncomputable def b_Z0:MS:=(mseq (mif (v0 (m2 (inD true) (mvar 2) (mc (.tup ((["up","down"]:List Str).map .str))))) zx4 n9) (mseq (P0 (l7 m_Z9 (z5 (mvar 1) anil))) (mseq (C0 3 (O7 yz0 (z5 (l7 K9 (z5 (mvar 0) (z5 (mvar 2) anil))) (z5 (mvar 1) anil)))) (yh8 (m2 subD (mlen (bvar 0)) (mlen (bvar 3))) 3))))
noncomputable def m_Z0:MF:=runB 4 b_Z0
noncomputable def xr6:MXs:=(xseq (mif (v0 (m2 (inD true) (mvar 2) (mc (.tup ((["up","down"]:List Str).map .str))))) zx4 n9) (xif (v0 (m2 (inD true) (mvar 2) (mc (.tup ((["up","down"]:List Str).map .str))))) (zy1 "NoText" (z5 (mc (.str "the word is up or down")) anil)) ya2) (xE (T3 zc1 (z5 (mvar 1) anil))))
noncomputable def Q0:MFX:=runX 4 xr6
noncomputable def b_Z2:MS:=(zx3 (W0 [none,some 0,some 1] (zh9 (mc (.tup ((["up","down"]:List Str).map .str)))) (.nm 0) cyes (V4 m_Z0 (z5 (mvar 1) (z5 (mvar 2) (z5 (mvar 0) anil))))))
noncomputable def m_Z2:MF:=runB 2 b_Z2
noncomputable def xr5:MXs:=(xE (ym6 [none,some 0,some 1] (zh9 (mc (.tup ((["up","down"]:List Str).map .str)))) (.nm 0) (T3 Q0 (z5 (mvar 1) (z5 (mvar 2) (z5 (mvar 0) anil))))))
noncomputable def zm7:MFX:=runX 2 xr5
noncomputable def b_made_wavy:MW:=(i9 (za4 2 (za6 "made_wavy" ⟨42,26,42,72⟩ "made_wavy.<locals>.<lambda>" ((["up","down"]:List Str).map .str) [none,some 0,some 1] (l7 m_Z0 (z5 (mvar 1) (z5 (mvar 2) (z5 (mvar 0) anil)))))) (i9 (wS (masg (.tp [3,4]) (l7 m_Z0 (z5 (mvar 0) (z5 (mvar 1) (z5 (mvar 2) anil)))))) (i9 (wS (mset 5 (l7 K9 (z5 (mvar 0) (z5 (mvar 2) anil))))) (i9 (wS (mset 6 (mlst (W0 [none,none,some 4,some 1,some 5] (i7 P2 (z5 (mvar 5) anil)) (.tp [0,1]) cyes (mite (v0 (m2 (inD false) (mvar 0) (mvar 2))) (mvar 1) (m2 subD (mvar 3) (zu7 (zz4 (bvar 4) (j4 (m2 subD (mvar 0) (mc (.int 1)))) (j4 (m2 addD (mvar 0) (mc (.int 2)))) (j4 (mc (.int 2))))))))))) (zp5 (O7 K9 (z5 (mvar 6) (z5 (mvar 2) anil))))))))
noncomputable def g6:MFW:=runW 7 b_made_wavy
noncomputable def S4:MXw:=(xlam "made_wavy" ⟨42,26,42,72⟩ "made_wavy.<locals>.<lambda>" ((["up","down"]:List Str).map .str) [none,some 0,some 1] (T3 Q0 (z5 (mvar 1) (z5 (mvar 2) (z5 (mvar 0) anil)))))
noncomputable def e9:MFXW:=xy0 7 S4
noncomputable def b_Z12:MS:=(za5 (l6 (z5 (i5 absF (z5 (mvar 0) anil)) (z5 (m2 modD (m2 mulD (m2 addD (m2 modD (mvar 0) (mc (.int 2147483647))) (mc (.int 1))) (mc (.int 742938285))) (mc (.int 2147483647))) anil))))
noncomputable def yr0:MF:=runB 1 b_Z12
noncomputable def b_Z10:MS:=(mseq (mif (v0 (m2 geD (mix (bvar 0) (mc (.int 0))) (m2 powD (mc (.int 10)) (mc (.int 18))))) (mseq (mset 2 (m2 modD (mix (bvar 0) (mc (.int 0))) (mvar 1))) (mseq (zp2 0 (mc (.int 0)) (m2 zi9 (mix (bvar 0) (mc (.int 0))) (mvar 1))) (zz3 0 (mpu (mvar 2))))) n9) (mseq (zp2 0 (mc (.int 1)) (m2 modD (m2 addD (m2 mulD (mix (bvar 0) (mc (.int 1))) (mc (.int 48271))) (mc (.int 11))) (mc (.int 2147483647)))) (mseq (mset 3 (m2 modD (m2 mulD (mix (bvar 0) (mc (.int 1))) (mix (bvar 0) (mc (.int 1)))) (mc (.int 2147483629)))) (zz3 0 (mpu (m2 modD (m2 zi9 (m2 modD (m2 mulD (mvar 3) (mc (.int 69621))) (mc (.int 2147483587))) (mc (.int 8))) (mvar 1)))))))
noncomputable def d9:MG:=runG 4 b_Z10
noncomputable def xr7:MS:=zx4
noncomputable def b_Z7:MS:=(mseq (mif (v0 (m2 (isND false) (mvar 1) (mc .non))) (mret (m2 (isND false) (mvar 0) (mc .non))) n9) (mseq (mif (mtru (misi "bool" (mvar 1))) (mret (mand (misi "bool" (mvar 0)) (m2 eqSD (mvar 0) (mvar 1)))) n9) (mseq (mif (mtru (misi "int" (mvar 1))) (mret (mand (misi "int" (mvar 0)) (mand (m1 notD (misi "bool" (mvar 0))) (m2 eqSD (mvar 0) (mvar 1))))) n9) (mseq (mif (mtru (misi "str" (mvar 1))) (mret (mand (misi "str" (mvar 0)) (m2 eqSD (mvar 0) (mvar 1)))) n9) (mseq (mif (mtru (misi "tuple" (mvar 1))) (mif (cnot (mtru (misi "tuple" (mvar 0)))) (mret (mc (.bl false))) n9) (mif (cnot (mtru (misi "list" (mvar 0)))) (mret (mc (.bl false))) n9)) (mseq (mif (v0 (m2 neSD (i5 lenF (z5 (mvar 0) anil)) (i5 lenF (z5 (mvar 1) anil)))) (mret (mc (.bl false))) n9) (mseq (mfor (i7 rng1 (z5 (i5 lenF (z5 (mvar 1) anil)) anil)) (.nm 2) xr7) (mret (mc (.bl true))))))))))
noncomputable def m_Z7:MF:=runB 3 b_Z7
noncomputable def yn6:MS:=(mif (cnot (mtru (l7 m_Z7 (z5 (m2 ixAD (mvar 0) (mvar 2)) (z5 (m2 ixAD (mvar 1) (mvar 2)) anil))))) (mret (mc (.bl false))) n9)
noncomputable def b_Z5:MS:=(mseq (mif (v0 (m2 (isND false) (mvar 1) (mc .non))) (mret (m2 (isND false) (mvar 0) (mc .non))) n9) (mseq (mif (mtru (misi "bool" (mvar 1))) (mret (mand (misi "bool" (mvar 0)) (m2 eqSD (mvar 0) (mvar 1)))) n9) (mseq (mif (mtru (misi "int" (mvar 1))) (mret (mand (misi "int" (mvar 0)) (mand (m1 notD (misi "bool" (mvar 0))) (m2 eqSD (mvar 0) (mvar 1))))) n9) (mseq (mif (mtru (misi "str" (mvar 1))) (mret (mand (misi "str" (mvar 0)) (m2 eqSD (mvar 0) (mvar 1)))) n9) (mseq (mif (mtru (misi "tuple" (mvar 1))) (mif (cnot (mtru (misi "tuple" (mvar 0)))) (mret (mc (.bl false))) n9) (mif (cnot (mtru (misi "list" (mvar 0)))) (mret (mc (.bl false))) n9)) (mseq (mif (v0 (m2 neSD (i5 lenF (z5 (mvar 0) anil)) (i5 lenF (z5 (mvar 1) anil)))) (mret (mc (.bl false))) n9) (mseq (mfor (i7 rng1 (z5 (i5 lenF (z5 (mvar 1) anil)) anil)) (.nm 2) yn6) (mret (mc (.bl true))))))))))
noncomputable def m_Z5:MF:=runB 3 b_Z5
noncomputable def yn7:MS:=(mif (cnot (mtru (l7 m_Z5 (z5 (m2 ixAD (mvar 0) (mvar 2)) (z5 (m2 ixAD (mvar 1) (mvar 2)) anil))))) (mret (mc (.bl false))) n9)
noncomputable def b_Z4:MS:=(mseq (mif (v0 (m2 (isND false) (mvar 1) (mc .non))) (mret (m2 (isND false) (mvar 0) (mc .non))) n9) (mseq (mif (mtru (misi "bool" (mvar 1))) (mret (mand (misi "bool" (mvar 0)) (m2 eqSD (mvar 0) (mvar 1)))) n9) (mseq (mif (mtru (misi "int" (mvar 1))) (mret (mand (misi "int" (mvar 0)) (mand (m1 notD (misi "bool" (mvar 0))) (m2 eqSD (mvar 0) (mvar 1))))) n9) (mseq (mif (mtru (misi "str" (mvar 1))) (mret (mand (misi "str" (mvar 0)) (m2 eqSD (mvar 0) (mvar 1)))) n9) (mseq (mif (mtru (misi "tuple" (mvar 1))) (mif (cnot (mtru (misi "tuple" (mvar 0)))) (mret (mc (.bl false))) n9) (mif (cnot (mtru (misi "list" (mvar 0)))) (mret (mc (.bl false))) n9)) (mseq (mif (v0 (m2 neSD (i5 lenF (z5 (mvar 0) anil)) (i5 lenF (z5 (mvar 1) anil)))) (mret (mc (.bl false))) n9) (mseq (mfor (i7 rng1 (z5 (i5 lenF (z5 (mvar 1) anil)) anil)) (.nm 2) yn7) (mret (mc (.bl true))))))))))
noncomputable def m_Z4:MF:=runB 3 b_Z4
noncomputable def G5:MS:=(mseq (V3 7 (l0 d9 0 (apu (z5 (mvar 4) anil)))) (mseq (mif (v0 (m2 eqSD (mvar 3) (mc (.int 1)))) (mset 7 (m2 subD (mvar 7) (m2 zi9 (mvar 4) (mc (.int 2))))) n9) (mseq (mif (v0 (m2 eqSD (mvar 3) (mc (.int 2)))) (mset 7 (m2 subD (m2 mulD (mvar 7) (m2 powD (mc (.int 10)) (mc (.int 27)))) (m2 mulD (mvar 4) (m2 powD (mc (.int 10)) (mc (.int 26)))))) n9) (mseq (mif (v0 (m2 eqSD (mvar 3) (mc (.int 3)))) (mset 7 (mix (l6 (z5 (mvar 7) (z5 (m2 addD (mvar 4) (mvar 7)) anil))) (m2 modD (mvar 6) (mc (.int 2))))) n9) (mseq (mif (v0 (m2 eqSD (mvar 3) (mc (.int 4)))) (mset 7 (m2 addD (mvar 7) (mvar 6))) n9) (mseq (mif (v0 (m2 eqSD (mvar 3) (mc (.int 5)))) (V3 7 (m2m mulD (K3 intF (Y1 (m2m eqSD (l0 d9 0 (apu (z5 (mc (.int 4)) anil))) (mpu (mc (.int 0)))) (apu anil))) (mpu (mvar 7)))) n9) (mapp 5 (mvar 7))))))))
noncomputable def b_Z15:MS:=(mseq (V3 2 (m2m ixLD (zp7 (Y1 (l0 d9 0 (apu (z5 (m2 addD (mvar 1) (mc (.int 1))) anil))) (Y1 (mpu (mvar 1)) (Y1 (l0 d9 0 (apu (z5 (m2 addD (i5 za7 (z5 (mvar 1) (z5 (mc (.int 4)) anil))) (mc (.int 1))) anil))) (apu anil))))) (l0 d9 0 (apu (z5 (mc (.int 3)) anil))))) (mseq (V3 3 (l0 d9 0 (apu (z5 (mc (.int 6)) anil)))) (mseq (V3 4 (m2m ixLD (mpu (mlst (l6 (z5 (mc (.int 2)) (z5 (mc (.int 4)) (z5 (mc (.int 10)) (z5 (mc (.int 100)) anil))))))) (l0 d9 0 (apu (z5 (mc (.int 4)) anil))))) (mseq (C0 5 (l6 anil)) (mseq (mfor (i7 rng1 (z5 (mvar 2) anil)) (.nm 6) G5) (zf7 0 5))))))
noncomputable def yg8:MG:=runG 8 b_Z15
noncomputable def b_Z14:MS:=(mseq (V3 2 (zp7 (Y1 (mpu (mc (.int 1))) (Y1 (mpu (mc (.int 1))) (Y1 (m2m addD (mpu (mc (.int 1))) (l0 d9 0 (apu (z5 (mc (.int 4)) anil)))) (Y1 (m2m addD (mpu (mc (.int 1))) (l0 d9 0 (apu (z5 (mc (.int 100)) anil)))) (apu (z5 (m2 powD (mc (.int 10)) (mc (.int 27))) (z5 (m2 powD (mc (.int 10)) (mc (.int 29))) anil))))))))) (mseq (mif (v0 (meqB true (bvar 1) (l6 anil))) (mseq (V3 3 (K3 absF (Y1 (m2m subD (m2m ixLD (mpu (mvar 1)) (l0 d9 0 (apu (z5 (mlen (bvar 1)) anil)))) (m2m ixLD (mpu (mvar 1)) (l0 d9 0 (apu (z5 (mlen (bvar 1)) anil))))) (apu anil)))) (mset 2 (mlst (mcat (bvar 2) (l6 (z5 (i5 za8 (z5 (mc (.int 1)) (z5 (mvar 3) anil))) (z5 (m2 addD (mvar 3) (mc (.int 1))) anil))))))) n9) (zz3 0 (m2m ixLD (mpu (mvar 2)) (l0 d9 0 (apu (z5 (mlen (bvar 2)) anil)))))))
noncomputable def yg9:MG:=runG 4 b_Z14
noncomputable def b_Z1:MS:=(mret (m2 geD (m2 mulD (m2 mulD (m2 subD (mix (bvar 0) (m2 addD (mvar 2) (mc (.int 1)))) (mix (bvar 0) (mvar 2))) (mvar 3)) (mix (l6 (z5 (mc (.int 1)) (z5 (m1 negD (mc (.int 1))) anil))) (m2 modD (mvar 2) (mc (.int 2))))) (mvar 1)))
noncomputable def m_Z1:MF:=runB 4 b_Z1
noncomputable def Y0:MW:=(i9 (zp3 4 (mvar 5) (mc (.int 0)) (yz1 (i5 za8 (z5 (m2 addD (mc (.int 1)) (mix (Z1 (mix (bvar 4) (m2 addD (mvar 5) (mc (.int 1))))) (mc (.int 1)))) (z5 (mix (Z1 (mix (bvar 4) (m2 addD (mvar 5) (mc (.int 1))))) (mc (.int 0))) anil))))) (i9 (zp3 4 (mvar 5) (mc (.int 1)) (mixR 4 (m2 addD (mvar 5) (mc (.int 1))) (mc (.int 0)))) (mifW (wE (cor (v0 (m2 eqSD (mvar 5) (mc (.int 0)))) (mtru (l7 m_Z1 (z5 (mvar 0) (z5 (mvar 1) (z5 (m2 subD (mvar 5) (mc (.int 1))) (z5 (mvar 2) anil)))))))) (zp3 4 (mvar 5) (mc (.int 1)) (mixR 4 (mvar 5) (mc (.int 0)))) (wS n9))))
noncomputable def Z9:MW:=(i9 (wS (mset 7 (i5 intF (z5 (meqB false (mcut (bvar 6) (j4 (m1 negD (mc (.int 1)))) W3) (l6 (z5 (m2 subD (mvar 5) (mc (.int 1))) anil))) anil)))) (i9 (wS (mset 8 (mor (m2 eqSD (mvar 7) (mc (.int 0))) (l7 m_Z1 (z5 (mvar 0) (z5 (mvar 1) (z5 (m2 subD (mvar 5) (mc (.int 1))) (z5 (mvar 2) anil)))))))) (mifW (yf2 (cand (mtru (mvar 8)) (v0 (m2 geD (m2 addD (mc (.int 1)) (mix (Z1 (mix (bvar 4) (m2 addD (mvar 5) (mc (.int 1))))) (mc (.int 1)))) (mix (Z1 (mix (bvar 4) (m2 addD (mvar 5) (mc (.int 1))))) (mc (.int 0))))))) (wS (mapp 6 (mvar 5))) (wS n9))))
noncomputable def N2:MW:=(yt8 6)
noncomputable def N1:MW:=(i9 (wS (C0 6 (l6 anil))) (i9 (Q9 (i7 rng1 (z5 (mvar 3) anil)) (.nm 5) Z9) N2))
noncomputable def Z8:MW:=(i9 (Q9 (i7 rng3 (z5 (m2 subD (mvar 3) (mc (.int 1))) (z5 (m1 negD (mc (.int 1))) (z5 (m1 negD (mc (.int 1))) anil)))) (.nm 5) Y0) N1)
noncomputable def b_law_kept:MW:=(i9 (wS (mset 3 (mlen (bvar 0)))) (ys1 4 (L8 [none] (i7 rng1 (z5 (m2 addD (mvar 3) (mc (.int 1))) anil)) (.nm 0) (l6 (z5 (mc (.int 0)) (z5 (mc (.int 0)) anil)))) Z8))
noncomputable def V5:MF:=plainW (runW 9 b_law_kept)
noncomputable def b_Z8:MS:=(mseq (mset 3 (l7 V5 (z5 (mvar 0) (z5 (mvar 1) (z5 (mvar 2) anil))))) (mret (mtup (z5 (m2 subD (mlen (bvar 0)) (mlen (bvar 3))) (z5 (mvar 3) anil)))))
noncomputable def m_Z8:MF:=runB 4 b_Z8
noncomputable def B9:MS:=(mif (cand (v0 (m2 (inD false) (m2 addD (mvar 7) (mc (.int 1))) (mvar 5))) (cnot (mtru (l7 m_Z1 (z5 (mvar 0) (z5 (mvar 1) (z5 (mvar 7) (z5 (mvar 2) anil)))))))) (mset 6 (m2 addD (mvar 6) (mc (.int 1)))) n9)
noncomputable def zs4:MS:=(mseq (mset 5 (mlst (W0 [none,some 4] (i7 rng1 (z5 (mlen (bvar 0)) anil)) (.nm 0) (v0 (m2 eqSD (m2 andD (m2 shrD (mvar 1) (mvar 0)) (mc (.int 1))) (mc (.int 1)))) (mvar 0)))) (mseq (mset 6 (mc (.int 0))) (mseq (mfor (Z1 (mvar 5)) (.nm 7) B9) (mif (v0 (m2 eqSD (mvar 6) (mc (.int 0)))) (mset 3 (i5 zp8 (z5 (mvar 3) (z5 (mtup (z5 (m2 subD (mlen (bvar 0)) (mlen (bvar 5))) (z5 (mvar 5) anil))) anil)))) n9))))
noncomputable def b_Z6:MS:=(mseq (mset 3 (mtup (z5 (m2 addD (mlen (bvar 0)) (mc (.int 1))) (z5 (mlst (l6 anil)) anil)))) (mseq (mfor (i7 rng1 (z5 (m2 shlD (mc (.int 1)) (mlen (bvar 0))) anil)) (.nm 4) zs4) (yt9 3)))
noncomputable def m_Z6:MF:=runB 8 b_Z6
noncomputable def b_Z13:MS:=(mseq (mif (v0 (m2 (isND false) (mvar 0) (mc .non))) (mret (mc (.int 0))) n9) (mseq (mif (cor (mtru (misX [("NoStep",false),("NoText",false)] (mvar 0))) (cnot (mtru (misX [("NoStep",true),("NoText",true)] (mvar 0))))) (mret (mc (.int 3))) n9) (mseq (mif (v0 (m2 neSD (misX [("NoStep",true),("NoText",false)] (mvar 0)) (misX [("NoStep",false),("NoText",true)] (mvar 0)))) (mret (m2 addD (mc (.int 1)) (i5 intF (z5 (misX [("NoStep",false),("NoText",true)] (mvar 0)) anil)))) n9) (mret (mc (.int 3))))))
noncomputable def zo0:MF:=runB 1 b_Z13
noncomputable def b_law_asked:MW:=(i9 (wS (mset 4 (mc .non))) (i9 (zp1 ["NoStep","NoText"] (mifW (wE (v0 (m2 eqSD (mvar 0) (mc (.int 0))))) (wS (P0 (l7 m_Z0 (z5 (mvar 1) (z5 (mvar 2) (z5 (mvar 3) anil)))))) (mifW (wE (v0 (m2 eqSD (mvar 0) (mc (.int 1))))) (wS (P0 (l7 m_Z2 (z5 (mvar 1) (z5 (mvar 2) anil))))) (U2 g6 (z5 (mvar 1) (z5 (mvar 2) anil))))) (xifW (v0 (m2 eqSD (mvar 0) (mc (.int 0)))) (zm8 (T3 Q0 (z5 (mvar 1) (z5 (mvar 2) (z5 (mvar 3) anil))))) (xifW (v0 (m2 eqSD (mvar 0) (mc (.int 1)))) (zm8 (T3 zm7 (z5 (mvar 1) (z5 (mvar 2) anil)))) (G8 e9 (z5 (mvar 1) (z5 (mvar 2) anil))))) 5 (mset 4 (mvar 5))) (K8 (wE (l7 zo0 (z5 (mvar 4) anil))))))
noncomputable def m5:MFW:=runW 6 b_law_asked
noncomputable def zs5:MS:=(mseq (mset 4 (l7 m_Z8 (z5 (mvar 0) (z5 (mvar 1) (z5 (mvar 3) anil))))) (mseq (mif (cand (v0 (m2 ltD (mlen (bvar 0)) (mc (.int 9)))) (v0 (m2 (eqFD true) (mvar 4) (l7 m_Z6 (z5 (mvar 0) (z5 (mvar 1) (z5 (mvar 3) anil))))))) (mret (mc (.bl false))) n9) (zp4 5 m_Z0 (z5 (mvar 0) (z5 (mvar 1) (z5 (mvar 2) anil))) (cnot (mtru (l7 m_Z4 (z5 (mvar 5) (z5 (mvar 4) anil))))) (mret (mc (.bl false))) (.int 0))))
noncomputable def b_Z3:MS:=(mseq (mfor (Z1 (mlst (l6 (z5 (mtup (z5 (mc (.str "up")) (z5 (mc (.int 1)) anil))) (z5 (mtup (z5 (mc (.str "down")) (z5 (m1 negD (mc (.int 1))) anil))) (z5 (mtup (z5 (mc (.str "up")) (z5 (mc (.int 1)) anil))) anil)))))) (.tp [2,3]) zs5) (mret (mc (.bl true))))
noncomputable def m_Z3:MF:=runB 6 b_Z3
noncomputable def G4:MW:=(i9 (wS (mset 13 (m2 (inD true) (mvar 12) (mlst (l6 (z5 (mc (.str "up")) (z5 (mc (.str "down")) anil))))))) (i9 (mifX (zz6 (eqFD true) (T9 m5 (z5 (mc (.int 0)) (z5 (mvar 8) (z5 (mvar 6) (z5 (mvar 12) anil))))) (m2 mulD (mc (.int 2)) (i5 intF (z5 (mvar 13) anil)))) (K8 (wE (mc (.bl false)))) (wS n9)) (mifX (zz6 (eqFD true) (T9 m5 (z5 (mc (.int 0)) (z5 (mvar 8) (z5 (mvar 7) (z5 (mvar 12) anil))))) (m2 addD (mc (.int 1)) (i5 intF (z5 (mvar 13) anil)))) (K8 (wE (mc (.bl false)))) (wS n9))))
noncomputable def zs3:MW:=(mifX (corX (zz6 (eqFD true) (T9 m5 (z5 (mvar 14) (z5 (mvar 8) (z5 (mvar 6) (z5 (mc (.str "up")) anil))))) (mc (.int 0))) (zz6 (eqFD true) (T9 m5 (z5 (mvar 14) (z5 (mvar 8) (z5 (mvar 7) (z5 (mc (.str "up")) anil))))) (mc (.int 1)))) (K8 (wE (mc (.bl false)))) (wS n9))
noncomputable def zd6:MW:=(mifW (wE (v0 (meqB true (bvar 8) (bvar 5)))) (K8 (wE (mc (.bl false)))) (wS n9))
noncomputable def zs2:MW:=(i9 (Q9 (Z1 (mlst (l6 (z5 (mc (.int 1)) (z5 (mc (.int 2)) anil))))) (.nm 14) zs3) zd6)
noncomputable def N3:MW:=(i9 (wS (C0 3 (O7 yr0 (z5 (mvar 2) anil)))) (i9 (wS (V3 4 (m2m ixLD (mpu (mlst (l6 (z5 (mc (.int 40)) (z5 (mc (.int 8)) anil))))) (l0 d9 3 (apu (z5 (mc (.int 2)) anil)))))) (i9 (zi1 (zh4 (cpu (v0 (m2 eqSD (mvar 1) (mc (.int 0))))) (D9 (m2m eqSD (l0 d9 3 (apu (z5 (mc (.int 8)) anil))) (mpu (mc (.int 0)))))) (wS (mset 4 (mc (.int 300)))) (wS n9)) (i9 (wS (V3 5 (l0 yg8 3 (apu (z5 (mvar 4) anil))))) (i9 (wS (V3 6 (l0 yg9 3 (apu (z5 (mvar 5) anil))))) (i9 (wS (V3 7 (m2m subD (mpu (mc (.int 1))) (m2m ixLD (zp7 (Y1 (mpu (mc (.int 1))) (Y1 (mpu (mc (.int 2))) (Y1 (m2m addD (mpu (mc (.int 1))) (l0 d9 3 (apu (z5 (m2 powD (mc (.int 10)) (mc (.int 9))) anil)))) (apu (z5 (m2 powD (mc (.int 10)) (mc (.int 29))) anil)))))) (l0 d9 3 (apu (z5 (mc (.int 4)) anil))))))) (i9 (wS (mset 8 (mlst (bvar 5)))) (i9 (mifW (wE (cnot (mtru (l7 m_Z3 (z5 (mvar 8) (z5 (mvar 6) anil)))))) (K8 (wE (mc (.bl false)))) (wS n9)) (i9 (wS (V3 9 (m2m ixSD (mpu (mc (.str "abcdefghijklmnopqrstuvwxyz"))) (l0 d9 3 (apu (z5 (mc (.int 26)) anil)))))) (i9 (wS (V3 10 (l0 d9 3 (apu (z5 (mc (.int 4)) anil))))) (i9 (wS (mset 11 (mlst (l6 (z5 (m2 M9 (m2 M9 (C4 (mc (.str "down")) W3 (j4 (mvar 10))) (mvar 9)) (C4 (mc (.str "down")) (j4 (m2 addD (mvar 10) (mc (.int 1)))) W3)) (z5 (m2 M9 (C4 (mc (.str "up")) W3 (j4 (mvar 10))) (mvar 9)) (z5 (mvar 9) (z5 (m2 M9 (mvar 9) (mc (.str "own"))) (z5 (mc (.str "up")) (z5 (mc (.str "down")) anil)))))))))) (i9 (Q9 (Z1 (mlst (mcat (bvar 11) (l6 (z5 (mc (.str "")) (z5 (mc (.str "Up")) (z5 (mc (.str "UP")) (z5 (mc (.str "u")) (z5 (mc (.str "p")) (z5 (mc (.str "dow")) (z5 (mc (.str "downs")) (z5 (mc (.str " up")) (z5 (mc (.str "up ")) (z5 (mc (.str "up\n")) (z5 (mc (.str "updown")) (z5 (mc (.str "none")) anil)))))))))))))))) (.nm 12) G4) zs2))))))))))))
noncomputable def yd1:MW:=(K8 (wE (mc (.bl true))))
noncomputable def yd2:MW:=(i9 (Q9 (i7 P2 (z5 (mlst (mcat (mcut (bvar 0) W3 (j4 (mc (.int 4)))) (l6 (z5 (mlen (bvar 0)) anil)))) anil)) (.tp [1,2]) N3) yd1)
noncomputable def zi3:MFW:=runW 15 yd2
end
end
section
theorem yp5 (i j:Int):eqS (.int i) (.int j)=some (i==j):=rfl
theorem xg0 (i j:Bool):eqS (.bl i) (.bl j)=some (i==j):=rfl
theorem xh4 (i j:Str):eqS (.str i) (.str j)=some (i==j):=rfl
theorem xh5:eqS .non .non=some true:=rfl
theorem xh7 (j:Bool):eqS .non (.bl j)=some false:=rfl
theorem xh9 (j:Bool):eqS (.bl j) .non=some false:=rfl
theorem xh6 (j:Int):eqS .non (.int j)=some false:=rfl
theorem xh8 (j:Int):eqS (.int j) .non=some false:=rfl
local macro_rules|`(tactic|simp_arith [$ls,*])=>`(tactic|simp(config:={decide:=true,implicitDefEqProofs:=false}) only[runB,v7,map_cons,map_nil,length_cons,length_nil,List.replicate,cons_append,nil_append,mvar,bvar,mc,mlst,Z1,m2,v0,subD,mulD,zi9,modD,powD,shlD,shrD,andD,ltD,leD,gtD,geD,eqSD,neSD,yp5,xg0,xh4,xh5,xh7,xh9,xh6,xh8,m1,negD,notD,mand,mor,mtru,truD,cand,cor,cnot,mite,anil,z5,l6,mtup,mlen,mix,W3,j4,mcut,mcat,addD,i5,lenF,absF,za8,za7,two2,intF,n9,mseq,mif,zx4,mset,C0,P0,mret,za5,yt9,mapp,zp2,masg,C4,M9,i7,P2,cyes,l7,O7,meqB,misi,tyD,int2,bl2,tgD,E2,Option.bind_some,Option.map_some,Option.bind_none,Option.map_none,getElem?_cons_zero,getElem?_cons_succ,set_cons_zero,set_cons_succ,isEmpty_cons,isEmpty_nil,Bool.not_true,Bool.not_false,$ls,*])
noncomputable def stir (c k:Int):Int:=if 10^18<=c then (c-10^18) / 2^(28*k).toNat % 2^28 else
 (((c+1013*k+1)*16807 % 2147483647)*((c+1013*k+1)*16807 % 2147483647) % 2147483629)*39373 % 2147483587 / 8
theorem D7 (i j:Int)(h1:-(2^64)<j)(h2:j<2^64):R1 i j=true:=by
 unfold R1;simp only[h1,h2,decide_true,Bool.and_self,Bool.or_true]
theorem zu4 (i j:Int)(h1:-(2^64)<i)(h2:i<2^64):R1 i j=true:=by
 unfold R1;simp only[h1,h2,decide_true,Bool.and_self,Bool.true_or]
theorem X5 (i j:Int)(h:0<j):zz5 i j=true:=by unfold zz5;simp only[h,decide_true]
theorem seqI {x y:MS}{ρ ρ':Ro}{o:Option Out}(h:x ρ=some (.nx ρ'))(h2:y ρ'=o):mseq x y ρ=o:=by
 unfold mseq;rw[h];exact h2
noncomputable def yx5 {α:Type}(I:List α->Ro->Prop)(Q:Out->Prop)(ds:List α):Out->Prop
 | .nx ρ=>I ds ρ| .ct ρ=>I ds ρ| .bk ρ=>Q (.nx ρ)| .rt d=>Q (.rt d)| .rf es=>Q (.rf es)| .rp d es=>Q (.rp d es)| .rg d p r=>Q (.rg d p r)| .rgf d p r=>Q (.rgf d p r)
theorem V7 {z:Type}{g:Tg}{body:MS}{f:z->D}(I:List z->Ro->Prop)(Q:Out->Prop)
  (hs:∀ d ds ρ,I (d::ds) ρ->∃ j o,tgD g (f d) ρ=some j/\body j=some o/\yx5 I Q ds o) (hd:∀ ρ,I [] ρ->Q (.nx ρ)):
  ∀(ds:List z)(ρ:Ro),I ds ρ->∃ o,forD g body (ds.map f) ρ=some o/\Q o
 |[],ρ,h=>⟨.nx ρ,rfl,hd ρ h⟩
 |d::ds,ρ,h=>by
  obtain⟨j,o,h1,h2,i⟩:=hs d ds ρ h
  rw[map_cons]
  unfold forD
  rw[h1]
  simp only[h2]
  cases o with
  |nx ρ2=>exact V7 I Q hs hd ds ρ2 i
  |ct ρ2=>exact V7 I Q hs hd ds ρ2 i
  |bk ρ2=>exact⟨_,rfl,i⟩
  |rt d=>exact⟨_,rfl,i⟩
  |rf d=>exact⟨_,rfl,i⟩
  |rp d es=>exact⟨_,rfl,i⟩
  |rg d p r=>exact⟨_,rfl,i⟩
  |rgf d p r=>exact⟨_,rfl,i⟩
theorem O9 {z:Type}{g:Tg}{c:MB}{j:ME}{f:z->D}{G:z->D}(I:List z->Ro->Prop)
  (hs:∀ d ds ρ,I (d::ds) ρ->∃ i,tgD g (f d) ρ=some i/\c i=some true/\j i=some (G d)/\I ds i):
  ∀(ds:List z)(ρ:Ro)(acc:List D),I ds ρ->acc.length+ds.length<=sizeLine->V8 g c j (ds.map f) ρ acc=some (acc++ds.map G)
 |[],ρ,acc,h,hl=>by simp[V8]
 |d::ds,ρ,acc,h,hl=>by
  obtain⟨i,h1,h2,O,N⟩:=hs d ds ρ h
  rw[map_cons]
  unfold V8
  rw[h1]
  simp only[h2,O]
  rw[length_cons]at hl
  rw[if_pos (by omega),O9 I hs ds i _ N (by simp;omega)]
  simp
noncomputable def cutI {α:Type}(xs:List α)(lo hi:Option Int):List α:=(xs.drop (HT.sIx xs.length 0 lo)).take (HT.sIx xs.length xs.length hi-HT.sIx xs.length 0 lo)
theorem zt8 {i:Type}(f:i->D)(xs:List i)(lo hi:Option Int):cutL (xs.map f) lo hi=(cutI xs lo hi).map f:=by
 unfold cutL cutI;rw[length_map,<-map_drop,<-map_take]
theorem xr0 {i:Type}(xs:List i)(k:Nat):cutI xs none (some (k:Int))=xs.take k:=by
 unfold cutI
 rw[HT.sIx_nat,HT.sIx_none]
 simp
theorem zh7 {i:Type}(f:i->D)(xs:List i)(k:Int)(j:0<=k)(h1:k<xs.length)(dflt:i):atI (xs.map f) k=some (f (xs.getD k.toNat dflt)):=by
 unfold atI ixN
 rw[length_map,if_pos j,if_pos h1]
 have hl:k.toNat<xs.length:=by omega
 simp[getElem?_map,hl]
theorem Q2 {n:Nat}{m:MS}{ds:List D}{d:D}(h:m (v7 n ds)=some (.rt d)):runB n m ds=some (.sh d):=by unfold runB;rw[h]
theorem zk4 {n:Nat}{m:MS}{ds:List D}{d:List D}(h:m (v7 n ds)=some (.rf d)):runB n m ds=some (.fr d):=by unfold runB;rw[h]
noncomputable def after (rest:MS):Out->Option Out
 | .nx ρ=>rest ρ| .bk ρ=>some (.bk ρ)| .ct ρ=>some (.ct ρ)| .rt d=>some (.rt d)| .rf d=>some (.rf d)| .rp d es=>some (.rp d es)| .rg d p r=>some (.rg d p r)| .rgf d p r=>some (.rgf d p r)
theorem Y8 {x y:MS}{ρ:Ro}{o:Out}(h:x ρ=some o):mseq x y ρ=after y o:=by
 unfold mseq;rw[h];cases o <;> rfl
theorem xz6 {j:Type}{z:ML}{g:Tg}{body rest:MS}{ρ:Ro}{res:Option Out}{f:j->D}(ds:List j)(hi:z ρ=some (ds.map f))(I:List j->Ro->Prop)(Q:Out->Prop)(N:I ds ρ)
  (hs:∀ d ds ρ,I (d::ds) ρ->∃ i o,tgD g (f d) ρ=some i/\body i=some o/\yx5 I Q ds o) (hd:∀ ρ,I [] ρ->Q (.nx ρ)) (G:∀ o,Q o->after rest o=res):mseq (mfor z g body) rest ρ=res:=by
 obtain⟨o,e,q⟩:=V7 (g:=g) (body:=body) I Q hs hd ds ρ N
 rw[Y8 (o:=o) (by unfold mfor;rw[hi];exact e)]
 exact G o q
theorem xj6 (i j:Int):(if j>i then j else i)=max i j:=by omega
theorem yb1 (i j:Int):(if j<i then j else i)=min i j:=by omega
theorem c7:1000000<=sizeLine:=by rw[show sizeLine=2^24 from rfl];decide
theorem t8 {n:Nat}(h:n<=1000000):n<=sizeLine:=Nat.le_trans h c7
theorem Z2 (j n:Nat)(h:j<n):List.range' j (n-j)=j::List.range' (j+1) (n-(j+1)):=by
 have:n-j=(n-(j+1))+1:=by omega
 rw[this,range'_succ]
theorem zg6 {O:ML}{g:Tg}{body rest:MS}{ρ:Ro}{res:Option Out}{f:Nat->D}(n:Nat)(hi:O ρ=some ((List.range n).map f))(I:Nat->Ro->Prop)(Q:Out->Prop)(Y:I 0 ρ)
  (hs:∀ j ρ,j<n->I j ρ->∃ i o,tgD g (f j) ρ=some i/\body i=some o/\yx5 (fun(_:List Unit) ρ=>I (j+1) ρ) Q [] o) (hd:∀ ρ,I n ρ->Q (.nx ρ)) (U:∀ o,Q o->after rest o=res):mseq (mfor O g body) rest ρ=res:=by
 refine xz6 (List.range n) hi (I:=fun ks ρ=>∃ j,j<=n/\ks=List.range' j (n-j)/\I j ρ) (Q:=Q) ⟨0,by omega,by rw[range_eq_range'];rfl,Y⟩ ?_ ?_ U
 .rintro d ds ρ ⟨j,hj,e,h⟩
  have N:j<n:=by
   rcases Nat.lt_or_ge j n with z|z
   .exact z
   .rw[show n-j=0 by omega]at e;cases e
  rw[Z2 j n N]at e
  obtain⟨e1,e2⟩:=List.cons.inj e
  subst e1
  obtain⟨i,o,a1,Z,G⟩:=hs d ρ N h
  refine⟨i,o,a1,Z,?_⟩
  cases o with
  |nx r=>exact⟨d+1,by omega,e2,G⟩
  |ct r=>exact⟨d+1,by omega,e2,G⟩
  |bk r=>exact G
  |rt r=>exact G
  |rf r=>exact G
  |rp r r2=>exact G
  |rg r r2 R=>exact G
  |rgf r r2 R=>exact G
 .rintro ρ ⟨j,hj,e,h⟩
  have:n-j=0:=by
   rcases Nat.eq_zero_or_pos (n-j)with z|z
   .exact z
   .rw[Z2 j n (by omega)]at e;cases e
  have:j=n:=by omega
  subst this
  exact hd ρ h
theorem zp6 {x n:Int}(hn:0<n):0<=x % n/\x % n<n:=⟨Int.emod_nonneg _ (by omega),Int.emod_lt_of_pos _ hn⟩
def Run (m:MS)(ρ:Ro)(R:Out->Prop):Prop:=∃ o,m ρ=some o/\R o
noncomputable def xf3 (rest:MS)(R:Out->Prop):Out->Prop
 | .nx ρ=>Run rest ρ R| .bk ρ=>R (.bk ρ)| .ct ρ=>R (.ct ρ)| .rt d=>R (.rt d)| .rf d=>R (.rf d)| .rp d es=>R (.rp d es)| .rg d p r=>R (.rg d p r)| .rgf d p r=>R (.rgf d p r)
theorem d3 {x y:MS}{ρ ρ':Ro}{R:Out->Prop}(h:x ρ=some (.nx ρ'))(h2:Run y ρ' R):Run (mseq x y) ρ R:=by
 obtain⟨o,e,r⟩:=h2
 exact⟨o,seqI h e,r⟩
theorem J0 {x y:MS}{ρ:Ro}{R:Out->Prop}(h:Run x ρ (xf3 y R)):Run (mseq x y) ρ R:=by
 obtain⟨o,e,r⟩:=h
 cases o with
 |nx ρ'=>exact d3 e r
 |bk ρ'=>exact⟨_,Y8 e,r⟩
 |ct ρ'=>exact⟨_,Y8 e,r⟩
 |rt d=>exact⟨_,Y8 e,r⟩
 |rf d=>exact⟨_,Y8 e,r⟩
 |rp d es=>exact⟨_,Y8 e,r⟩
 |rg d j i=>exact⟨_,Y8 e,r⟩
 |rgf d j i=>exact⟨_,Y8 e,r⟩
theorem xz9 {j:Type}{z:ML}{g:Tg}{body:MS}{ρ:Ro}{f:j->D}(ds:List j)(hi:z ρ=some (ds.map f))(I:List j->Ro->Prop)(Q:Out->Prop)(G:I ds ρ)
  (hs:∀ d ds ρ,I (d::ds) ρ->∃ i,tgD g (f d) ρ=some i/\Run body i (yx5 I Q ds)) (hd:∀ ρ,I [] ρ->Q (.nx ρ)):Run (mfor z g body) ρ Q:=by
 obtain⟨o,e,q⟩:=V7 (g:=g) (body:=body) I Q (fun d ds ρ h=>by obtain⟨i,a,o,b,c⟩:=hs d ds ρ h;exact⟨i,o,a,b,c⟩) hd ds ρ G
 exact⟨o,by unfold mfor;rw[hi];exact e,q⟩
theorem zg8 {O:ML}{g:Tg}{body:MS}{ρ:Ro}{f:Nat->D}(n:Nat)(hi:O ρ=some ((List.range n).map f))(I:Nat->Ro->Prop)(Q:Out->Prop)(U:I 0 ρ)
  (hs:∀ j ρ,j<n->I j ρ->∃ i,tgD g (f j) ρ=some i/\Run body i (yx5 (fun(_:List Unit) ρ=>I (j+1) ρ) Q [])) (hd:∀ ρ,I n ρ->Q (.nx ρ)):Run (mfor O g body) ρ Q:=by
 refine xz9 (List.range n) hi (I:=fun ks ρ=>∃ j,j<=n/\ks=List.range' j (n-j)/\I j ρ) (Q:=Q) ⟨0,by omega,by rw[range_eq_range'];rfl,U⟩ ?_ ?_
 .rintro d ds ρ ⟨j,hj,e,h⟩
  have N:j<n:=by
   rcases Nat.lt_or_ge j n with z|z
   .exact z
   .rw[show n-j=0 by omega]at e;cases e
  rw[Z2 j n N]at e
  obtain⟨e1,e2⟩:=List.cons.inj e
  subst e1
  obtain⟨i,Z,o,Y,G⟩:=hs d ρ N h
  refine⟨i,Z,o,Y,?_⟩
  cases o with
  |nx r=>exact⟨d+1,by omega,e2,G⟩
  |ct r=>exact⟨d+1,by omega,e2,G⟩
  |bk r=>exact G
  |rt r=>exact G
  |rf r=>exact G
  |rp r r2=>exact G
  |rg r r2 R=>exact G
  |rgf r r2 R=>exact G
 .rintro ρ ⟨j,hj,e,h⟩
  have:n-j=0:=by
   rcases Nat.eq_zero_or_pos (n-j)with z|z
   .exact z
   .rw[Z2 j n (by omega)]at e;cases e
  have:j=n:=by omega
  subst this
  exact hd ρ h
theorem yd9 {c:MB}{x y:MS}{ρ:Ro}{R:Out->Prop}{b:Bool}(h:c ρ=some b)(h2:Run (if b then x else y) ρ R):Run (mif c x y) ρ R:=by
 obtain⟨o,e,r⟩:=h2
 refine⟨o,?_,r⟩
 unfold mif;rw[h]
 cases b <;> exact e
theorem zg7 {ρ:Ro}{R:Out->Prop}(h:R (.nx ρ)):Run n9 ρ R:=⟨_,rfl,h⟩
theorem xj3 {x:Int}(h:0<=x):∃ n:Nat,x=n:=⟨x.toNat,by omega⟩
theorem zb7 (lo:Int)(n:Nat):U7 lo n=(List.range n).map fun(i:Nat)=>D.int (lo+(i:Int)):=rfl
theorem X7 (n:Nat):U7 0 n=((List.range n).map fun(i:Nat)=>(i:Int)).map .int:=by
 rw[zb7,map_map]
 apply map_congr_left
 intro i _
 simp
theorem zx2 {j:Int}(h1:-(2^62)<=j)(h2:j<2^62):okR j=true:=by unfold okR;simp only[h1,h2,decide_true,Bool.and_self]
theorem Q3 {j:Int}(h:okR j=true):rng1 [.int j]=some (U7 0 j.toNat):=by
 unfold rng1
 simp only[h,if_true]
theorem B7 (i j:Int)(h:0<j)(h2:j<1073741824):zo6 i j=true:=by unfold zo6;simp only[h,h2,decide_true,Bool.and_self]
theorem at4 (a b c d:Int)(k:Int)(i:0<=k)(h1:k<4):∃ x,atI [D.int a,.int b,.int c,.int d] k=some (.int x)/\(x=a\/x=b\/x=c\/x=d):=by
 have:k=0\/k=1\/k=2\/k=3:=by omega
 rcases this with h|h|h|h <;> subst h
 .exact⟨_,rfl,by simp⟩
 .exact⟨_,rfl,by simp⟩
 .exact⟨_,rfl,by simp⟩
 .exact⟨_,rfl,by simp⟩
theorem at2 (a b:Int)(k:Int)(i:0<=k)(h1:k<2):∃ x,atI [D.int a,.int b] k=some (.int x):=by
 have:k=0\/k=1:=by omega
 rcases this with h|h <;> subst h <;> exact⟨_,rfl⟩
theorem S0:∀(η:List Int)(k:Nat),zz9 k (η.map .int)=(List.range η.length).map fun(i:Nat)=>D.tup [.int ((k+i:Nat):Int),.int (η.getD i 0)]
 |[],k=>rfl
 |x::η,k=>by
  rw[map_cons,zz9,S0 η (k+1),length_cons,range_succ_eq_map,map_cons,map_map]
  congr 1
  apply map_congr_left
  intro i _
  simp only[Function.comp,Nat.succ_eq_add_one,getD_cons_succ]
  rw[show k+1+i=k+(i+1)by omega]
theorem xs4 (ds:List D):eqFD true (.lst ds) (.lst [])=some (.bl (!ds.isEmpty)):=by
 unfold eqFD eqF
 cases ds with
 |nil=>rfl
 |cons d ds=>rfl
theorem yq5 {n:Nat}{k:Int}(i:0<=k)(h1:k<n):ixN n k=some k.toNat:=by unfold ixN;rw[if_pos i,if_pos h1]
theorem zg3 (n:Nat):∀ xs:List Int,zipE (eqF (n+1)) (xs.map .int) (xs.map .int)=some true
 |[]=>rfl
 |x::xs=>by
  rw[map_cons,zipE,zg3 n xs]
  show (some (x==x)).bind _=_
  rw[beq_self_eq_true];rfl
theorem yb8 (n:Nat)(xs:List Int):eqF (n+2) (.lst (xs.map .int)) (.lst (xs.map .int))=some true:=by
 show (if _=_ then zipE (eqF (n+1)) (xs.map .int) (xs.map .int)else some false)=_
 rw[if_pos rfl,zg3]
theorem J1 {n:Nat}{m:MS}{ds:List D}{d:D}(h:Run m (v7 n ds) (fun o=>o= .rt d)):runB n m ds=some (.sh d):=by
 obtain⟨o,e,rfl⟩:=h
 exact Q2 e
theorem zt2 {f:MF}{m:ML}{ρ:Ro}{ds es:List D}(h:m ρ=some ds)(h2:f ds=some (.fr es)):l7 f m ρ=some (.lst es):=by
 unfold l7;rw[h];show (match f ds with |some (.sh d)=>some d|some (.fr es)=>some (D.lst es)|some (.pr d es)=>some (.tup [d,.lst es])|none=>none)=_;rw[h2]
theorem b9 {f:MF}{m:ML}{ρ:Ro}{ds:List D}{d:D}(h:m ρ=some ds)(h2:f ds=some (.sh d)):l7 f m ρ=some d:=by
 unfold l7;rw[h];show (match f ds with |some (.sh d)=>some d|some (.fr es)=>some (D.lst es)|some (.pr d es)=>some (.tup [d,.lst es])|none=>none)=_;rw[h2]
theorem J8 {f:MF}{m:ML}{ρ:Ro}{ds es:List D}{d:D}(h:m ρ=some ds)(h2:f ds=some (.pr d es)):l7 f m ρ=some (.tup [d,.lst es]):=by
 unfold l7;rw[h];show (match f ds with |some (.sh d)=>some d|some (.fr es)=>some (D.lst es)|some (.pr d es)=>some (.tup [d,.lst es])|none=>none)=_;rw[h2]
theorem z7 {x:ME}{r:ML}{ρ:Ro}{d:D}{ds:List D}(h:x ρ=some d)(h2:r ρ=some ds):z5 x r ρ=some (d::ds):=by
 unfold z5;rw[h,h2];rfl
theorem w6 {ρ:Ro}:anil ρ=some []:=rfl
theorem zd8 (η:List Int)(i:Nat)(h:i<η.length):atI (η.map D.int) (i:Int)=some (.int (η.getD i 0)):=by
 have:=zh7 D.int η (i:Int) (by omega) (by omega) 0
 rw[Int.toNat_natCast]at this
 exact this
theorem W2 (η:List Int)(i:Nat)(h:i<η.length):η.drop i=η.getD i 0::η.drop (i+1):=by
 rw[drop_eq_getElem_cons h]
 simp[h]
theorem zo5:∀ ps:List Int,flVs (ps.map D.int)=some (ps.map V.int)
 |[]=>rfl
 |p::ps=>by
  rw[map_cons,flVs,zo5 ps];rfl
theorem zf8 {m:ML}{ρ:Ro}{x:Int}{r:List Int}(h:m ρ=some ((x::r).map .int)):zu7 m ρ=some (.int (minI (x::r))):=by
 unfold zu7;rw[h];simp only[zo3]
theorem S2 {j:Type}{g:Tg}{c:MB}{z:ME}{f:j->D}{p:j->Bool}{G:j->D}(I:List j->Ro->Prop)
  (hs:∀ d ds ρ,I (d::ds) ρ->∃ i,tgD g (f d) ρ=some i/\c i=some (p d)/\(p d=true->z i=some (G d))/\I ds i):
  ∀(ds:List j)(ρ:Ro)(acc:List D),I ds ρ->acc.length+ds.length<=sizeLine->V8 g c z (ds.map f) ρ acc=some (acc++(ds.filter p).map G)
 |[],ρ,acc,h,hl=>by simp[V8]
 |d::ds,ρ,acc,h,hl=>by
  obtain⟨i,h1,h2,O,N⟩:=hs d ds ρ h
  rw[length_cons]at hl
  rw[map_cons]
  unfold V8
  rw[h1]
  simp only[h2]
  cases hp:p d with
  |false=>
   simp only
   rw[S2 I hs ds i acc N (by omega),filter_cons,hp]
   rfl
  |true=>
   simp only[O hp]
   rw[if_pos (by omega),S2 I hs ds i _ N (by simp;omega),filter_cons,hp]
   simp
theorem xs8 {m:ML}{ρ:Ro}{ds:List D}(h:m ρ=some ds):v0 (meqB true m (l6 anil)) ρ=some (!ds.isEmpty):=by
 have i:0<=sizeLine:=Nat.zero_le _
 have e:l6 anil ρ=some []:=by simp_arith [i,if_true]
 unfold v0 meqB
 rw[h,e]
 simp only[Option.bind_some,xs4]
theorem xg4 {x y:MB}{ρ:Ro}{a b:Bool}(h1:x ρ=some a)(h2:y ρ=some b):cor x y ρ=some (a || b):=by
 unfold cor;rw[h1];cases a <;> simp[h2]
theorem zh5 {x y:MB}{ρ:Ro}{a b:Bool}(h1:x ρ=some a)(h2:y ρ=some b):cand x y ρ=some (a&&b):=by
 unfold cand;rw[h1];cases a <;> simp[h2]
theorem j5 {i:Nat}{x:ME}{ρ:Ro}{d:D}(h:x ρ=some d):mset i x ρ=some (.nx (ρ.set i (some (.sh d)))):=by unfold mset;rw[h];rfl
theorem X1 {m:ML}{ρ:Ro}{ds:List D}(h:m ρ=some ds):mlst m ρ=some (.lst ds):=by unfold mlst;rw[h];rfl
theorem d6 {m:ML}{ρ:Ro}{ds:List D}(h:m ρ=some ds)(i:ds.length<=sizeLine):l6 m ρ=some ds:=by
 unfold l6;rw[h];show (if ds.length<=sizeLine then some ds else none)=_;rw[if_pos i]
theorem C3 {m:ML}{i:ME}{ρ:Ro}{ds:List D}{k:Int}{d:D}(h1:m ρ=some ds)(h2:i ρ=some (.int k))(j:atI ds k=some d):mix m i ρ=some d:=by
 unfold mix;rw[h1,h2];exact j
theorem zd9 {m:ME}{ρ:Ro}{ds:List D}(h:m ρ=some (.lst ds)):Z1 m ρ=some ds:=by unfold Z1;rw[h]
theorem zi2 {x y:ML}{ρ:Ro}{ds es:List D}(h1:x ρ=some ds)(h2:y ρ=some es)(i:ds.length+es.length<=sizeLine):mcat x y ρ=some (ds++es):=by
 unfold mcat;rw[h1,h2];show (if ds.length+es.length<=sizeLine then some (ds++es)else none)=_;rw[if_pos i]
theorem zu5 {m:ML}{ρ:Ro}{ds:List D}(h:m ρ=some ds)(i:ds.length<=sizeLine):mtup m ρ=some (.tup ds):=by
 unfold mtup;rw[d6 h i];rfl
theorem zj9 {x:ME}{ρ:Ro}{d:D}(h:x ρ=some d):mret x ρ=some (.rt d):=by unfold mret;rw[h];rfl
theorem xi1:kitB "int" "int"=some true:=by decide +kernel
theorem yf3:kitB "int" "bool"=some false:=by decide +kernel
section
open PySem L2
theorem R7 {c:MB}{x y:MS}{ρ:Ro}{b:Bool}(h:c ρ=some b):mif c x y ρ=(if b then x else y) ρ:=by unfold mif;rw[h];cases b <;> rfl
theorem yd6 {c:MB}{x y:MXs}{ρ:Ro}{b:Bool}(h:c ρ=some b):xif c x y ρ=(if b then x else y) ρ:=by unfold xif;rw[h];cases b <;> rfl
theorem ze0 {x:ME}{ρ:Ro}{d:D}(h:x ρ=some d):P0 x ρ=some (.nx ρ):=by unfold P0;rw[h];rfl
theorem zt0 {x:ME}{ρ:Ro}(h:x ρ=none):P0 x ρ=none:=by unfold P0;rw[h];rfl
theorem J9 {f:MF}{m:ML}{ρ:Ro}{ds:List D}(h:m ρ=some ds)(h2:f ds=none):l7 f m ρ=none:=by unfold l7;rw[h];show (match f ds with |some (.sh d)=>some d|some (.fr es)=>some (.lst es)|some (.pr d es)=>some (.tup [d,.lst es])|none=>none)=_;rw[h2]
theorem P4 {x:MFX}{m:ML}{ρ:Ro}{ds:List D}{c:Str}(h:m ρ=some ds)(h2:x ds=some c):T3 x m ρ=some c:=by unfold T3;rw[h];exact h2
theorem xq8 {x:MXe}{ρ:Ro}{c:Str}(h:x ρ=some c):xE x ρ=some (c,ρ):=by unfold xE;rw[h];rfl
theorem zk3 {n:Nat}{x:MXs}{ds:List D}{c:Str}{ρ:Ro}(h:x (v7 n ds)=some (c,ρ)):runX n x ds=some c:=by unfold runX;rw[h];rfl
theorem zs7 {c:Str}{m:ML}{ρ:Ro}{ds:List D}(h:m ρ=some ds):zy1 c m ρ=some (c,ρ):=by unfold zy1;rw[h];rfl
theorem ya1 {m:MS}{j i:MXs}{ρ ρ':Ro}(h:m ρ=some (.nx ρ')):xseq m j i ρ=i ρ':=by unfold xseq;rw[h]
theorem xq6 {m:MS}{i j:MXs}{ρ:Ro}(h:m ρ=none):xseq m i j ρ=i ρ:=by unfold xseq;rw[h]
theorem yt7 {x y:MS}{ρ:Ro}(h:x ρ=none):mseq x y ρ=none:=by unfold mseq;rw[h]
theorem zk5 {n:Nat}{m:MS}{ds:List D}(h:m (v7 n ds)=none):runB n m ds=none:=by unfold runB;rw[h]
theorem xu6 {tab:List (Str×Bool)}{m:ME}{ρ:Ro}{c:Str}{k:Bool}(h:m ρ=some (.exc c))(h2:tab.lookup c=some k):misX tab m ρ=some (.bl k):=by unfold misX;rw[h];simp only[h2];rfl
theorem yx4 {x:ME}{ρ:Ro}{i k:Int}(h:x ρ=some (.int i)):v0 (m2 eqSD x (mc (.int k))) ρ=some (i==k):=by unfold v0 m2 mc;rw[h];rfl
theorem yx3 {x y:ME}{ρ:Ro}{i k:Int}(h:x ρ=some (.int i))(h2:y ρ=some (.int k)):v0 (m2 ltD x y) ρ=some (decide (i<k)):=by unfold v0 m2;rw[h,h2];rfl
end
section
open PySem L2
noncomputable def lx:List Nat->List Nat->Bool
 |[],[]=>false
 |[],_::_=>true
 |_::_,[]=>false
 |a::l,b::m=>decide (a<b) || (a==b&&lx l m)
noncomputable def U4 (l m:List Nat):Bool:=decide (m.length<l.length) || (l.length==m.length&&lx l m)
theorem yr2:∀ l,lx l l=false
 |[]=>rfl
 |a::l=>by unfold lx;simp[yr2 l]
theorem ze1:∀{a b c:List Nat},lx a b=true->lx b c=true->lx a c=true
 |[],[],_,h,_=>by cases h
 |[],_::_,[],_,h=>by cases h
 |[],_::_,_::_,_,_=>rfl
 |_::_,[],_,h,_=>by cases h
 |_::_,_::_,[],_,h=>by cases h
 |a::l,b::m,c::k,h1,h2=>by
  unfold lx at*
  simp only[Bool.or_eq_true,Bool.and_eq_true,decide_eq_true_eq,beq_iff_eq]at*
  rcases h1 with h1|⟨rfl,h1⟩ <;> rcases h2 with h2|⟨rfl,h2⟩
  .exact .inl (by omega)
  .exact .inl h1
  .exact .inl h2
  .exact .inr ⟨rfl,ze1 h1 h2⟩
theorem yb3:∀(a b:List Nat),a=b\/lx a b=true\/lx b a=true
 |[],[]=>.inl rfl
 |[],_::_=>.inr (.inl rfl)
 |_::_,[]=>.inr (.inr rfl)
 |a::l,b::m=>by
  unfold lx
  simp only[Bool.or_eq_true,Bool.and_eq_true,decide_eq_true_eq,beq_iff_eq]
  rcases Nat.lt_trichotomy a b with h|h|h
  .exact .inr (.inl (.inl h))
  .subst h
   rcases yb3 l m with h|h|h
   .exact .inl (by rw[h])
   .exact .inr (.inl (.inr ⟨rfl,h⟩))
   .exact .inr (.inr (.inr ⟨rfl,h⟩))
  .exact .inr (.inr (.inl h))
theorem A7 (l m:List Nat):U4 l m=true↔m.length<l.length\/(l.length=m.length/\lx l m=true):=by
 unfold U4
 simp only[Bool.or_eq_true,Bool.and_eq_true,decide_eq_true_eq,beq_iff_eq]
theorem zg0 {a b c:List Nat}(h1:U4 a b=true)(h2:U4 b c=true):U4 a c=true:=by
 rw[A7]at*
 rcases h1 with h1|⟨h1,j⟩ <;> rcases h2 with h2|⟨h2,i⟩
 .exact .inl (by omega)
 .exact .inl (by omega)
 .exact .inl (by omega)
 .exact .inr ⟨by omega,ze1 j i⟩
theorem ym3 (a b:List Nat):a=b\/U4 a b=true\/U4 b a=true:=by
 rw[A7,A7]
 rcases Nat.lt_trichotomy a.length b.length with h|h|h
 .exact .inr (.inr (.inl h))
 .rcases yb3 a b with z|z|z
  .exact .inl z
  .exact .inr (.inl (.inr ⟨h,z⟩))
  .exact .inr (.inr (.inr ⟨h.symm,z⟩))
 .exact .inr (.inl (.inl h))
theorem zm5 (a:List Nat):U4 a a=false:=by
 unfold U4;simp[yr2]
def far (s:Int)(d:Bool)(a b:Int):Prop:=if d then s<=b-a else s<=a-b
noncomputable instance (s:Int) (d:Bool) (a b:Int):Decidable (far s d a b):=by unfold far;exact inferInstance
variable {x:Nat->Int}{n:Nat}{s:Int}
end
section
open PySem L2
noncomputable def dN (p:Nat):D:=.int (p:Int)
noncomputable def L (l:List Nat):D:=.lst (l.map dN)
theorem yb7 (k:Nat)(a b:Nat):eqF (k+1) (dN a) (dN b)=some (a==b):=by
 show some ((a:Int)==(b:Int))=_
 congr 1
 rw[Bool.eq_iff_iff,beq_iff_eq,beq_iff_eq]
 omega
theorem yy4 (k:Nat):∀(l m:List Nat),l.length=m.length->zipE (eqF (k+1)) (l.map dN) (m.map dN)=some (l==m)
 |[],[],_=>rfl
 |[],_::_,h=>by cases h
 |_::_,[],h=>by cases h
 |a::l,b::m,h=>by
  rw[map_cons,map_cons,zipE,yb7,yy4 k l m (by simpa using h)]
  rfl
theorem zi6 (k:Nat):∀(l m:List Nat),lexF (eqF (k+1)) (ltF (k+1)) (l.map dN) (m.map dN)=some (lx l m)
 |[],[]=>rfl
 |[],_::_=>rfl
 |_::_,[]=>rfl
 |a::l,b::m=>by
  rw[map_cons,map_cons,lexF,yb7]
  unfold lx
  by_cases h:a=b
  .subst h
   simp only[beq_self_eq_true,Nat.lt_irrefl,decide_false,Bool.true_and,Bool.false_or]
   exact zi6 k l m
  .have e:(a==b)=false:=by simpa using h
   rw[e]
   simp only[Bool.false_and,Bool.or_false]
   show some (decide ((a:Int)<(b:Int)))=_
   congr 1
   apply decide_eq_decide.mpr
   omega
theorem T8 {m:ML}{ρ:Ro}{ds:List D}(h:m ρ=some ds):mlen m ρ=some (.int ds.length):=by unfold mlen;rw[h];rfl
theorem xt6 (n p:Nat)(h:p<n):ixN n (p:Int)=some p:=by
 unfold ixN
 rw[if_pos (by omega),if_pos (by omega),Int.toNat_natCast]
end
section
open PySem L2
theorem zz0 (step:Int)(h:1<=step):m_Z9 [.int step]=some (.sh .non):=by
 have:¬ step<1:=by omega
 unfold m_Z9 b_Z9
 simp_arith [this,decide_false]
noncomputable def turn (t:Int×Int×Int):Bool:=decide (max t.1 t.2.2<t.2.1) || decide (t.2.1<min t.1 t.2.2)
noncomputable def NI (cs:List Nat):List Int:=cs.map fun(c:Nat)=>(c:Int)
end
section
open PySem L2
theorem Y3 {m:ME}{ρ:Ro}{d:D}(h:m ρ=some d):mpu m ρ=some (d,ρ):=by unfold mpu;rw[h]
theorem N4 {m:ML}{ρ:Ro}{d:List D}(h:m ρ=some d):apu m ρ=some (d,ρ):=by unfold apu;rw[h]
theorem X2 {f:D->D->Option D}{x y:MEm}{ρ i ρ2:Ro}{d e g:D}(h1:x ρ=some (d,i))(h2:y i=some (e,ρ2))(j:f d e=some g):m2m f x y ρ=some (g,ρ2):=by
 unfold m2m;rw[h1];simp only;rw[h2];simp only;rw[j]
theorem g8 {x:MEm}{r:MLm}{ρ i ρ2:Ro}{d:D}{ds:List D}(h1:x ρ=some (d,i))(h2:r i=some (ds,ρ2)):Y1 x r ρ=some (d::ds,ρ2):=by
 unfold Y1;rw[h1];simp only;rw[h2]
theorem zu8 {m:MLm}{ρ i:Ro}{ds:List D}(h:m ρ=some (ds,i))(j:ds.length<=sizeLine):zp7 m ρ=some (.lst ds,i):=by
 unfold zp7;rw[h];simp only[j,if_true]
theorem zn9 {f:List D->Option D}{m:MLm}{ρ i:Ro}{ds:List D}{d:D}(h:m ρ=some (ds,i))(h2:f ds=some d):K3 f m ρ=some (d,i):=by
 unfold K3;rw[h];simp only;rw[h2]
theorem d8 {i:Nat}{x:MEm}{ρ j:Ro}{d:D}(h:x ρ=some (d,j)):V3 i x ρ=some (.nx (j.set i (some (.sh d)))):=by unfold V3;rw[h]
theorem yh9 {i:Nat}{x:MEm}{ρ j:Ro}{d:D}{p:Addr}{r:List D}(h:x ρ=some (d,j))(h2:j[i]? =some (some (.ob p r))):zz3 i x ρ=some (.rg d p r):=by unfold zz3;rw[h];simp only;rw[h2]
theorem ys9 {f:MG}{i:Nat}{m:MLm}{ρ j:Ro}{p:Addr}{r0 z r2 ds:List D}{t:Rt}{d:D}(N:ρ[i]? =some (some (.ob p r2)))(h1:m ρ=some (ds,j))(h2:j[i]? =some (some (.ob p r0)))(I:f p r0 ds=some (t,z))(G:rtD t=some d):l0 f i m ρ=some (d,j.set i (some (.ob p z))):=by
 unfold l0;rw[N];simp only;rw[h1];simp only;rw[h2];simp only;rw[I];simp only;rw[G]
theorem M6 {f:MG}{i:Nat}{m:MLm}{ρ j:Ro}{r0 z r2 ds:List D}{t:Rt}{d:D}(N:ρ[i]? =some (some (.own r2)))(h1:m ρ=some (ds,j))(h2:j[i]? =some (some (.own r0)))(I:∀ p,f p r0 ds=some (t,z))(G:rtD t=some d):l0 f i m ρ=some (d,j.set i (some (.own z))):=by
 unfold l0;rw[N];simp only;rw[h1];simp only;rw[h2];simp only;rw[xr8 I];simp only;rw[G]
def URun (m:MS)(ρ:Addr->Ro)(R:(Addr->Out)->Prop):Prop:=∃ o,(∀ p,m (ρ p)=some (o p))/\R o
theorem Z5 {x y:MS}{ρ ρ':Addr->Ro}{R:(Addr->Out)->Prop}(h:∀ p,x (ρ p)=some (.nx (ρ' p)))(h2:URun y ρ' R):URun (mseq x y) ρ R:=by
 obtain⟨o,e,r⟩:=h2
 exact⟨o,fun p=>seqI (h p) (e p),r⟩
theorem yy7 {x y:MS}{ρ:Addr->Ro}{R:(Addr->Out)->Prop}(h:URun x ρ (fun o=>∃ ρ',(o=fun p=>.nx (ρ' p))/\URun y ρ' R)):URun (mseq x y) ρ R:=by
 obtain⟨o,e,ρ',rfl,h2⟩:=h
 exact Z5 e h2
theorem xf8 {c:MB}{x y:MS}{ρ:Addr->Ro}{R:(Addr->Out)->Prop}{b:Bool}(h:∀ p,c (ρ p)=some b)(h2:URun (if b then x else y) ρ R):URun (mif c x y) ρ R:=by
 obtain⟨o,e,r⟩:=h2
 refine⟨o,fun p=>?_,r⟩
 unfold mif
 rw[h p]
 cases b <;> exact e p
theorem ya5 {ρ:Addr->Ro}{R:(Addr->Out)->Prop}(h:R fun p=>.nx (ρ p)):URun n9 ρ R:=⟨_,fun _=>rfl,h⟩
theorem yy8 {x:MS}{ρ ρ':Addr->Ro}{R:(Addr->Out)->Prop}(h:∀ p,x (ρ p)=some (.nx (ρ' p)))(h2:R fun p=>.nx (ρ' p)):URun x ρ R:=⟨_,h,h2⟩
theorem ya6 {O:ML}{g:Tg}{body:MS}{ρ:Addr->Ro}{f:Nat->D}{R:(Addr->Out)->Prop}(n:Nat)(hi:∀ p,O (ρ p)=some ((List.range n).map f))(I:Nat->(Addr->Ro)->Prop)(h0:I 0 ρ)
  (hs:∀ j ρ,j<n->I j ρ->∃ i,(∀ p,tgD g (f j) (ρ p)=some (i p))/\URun body i (fun o=>∃ ρ2,(o=fun p=>.nx (ρ2 p))/\I (j+1) ρ2)) (hd:∀ ρ,I n ρ->R (fun p=>.nx (ρ p))):URun (mfor O g body) ρ R:=by
 have z:∀(k j:Nat)(ρ:Addr->Ro),n-j=k->j<=n->I j ρ->∃ ρ',(∀ p,forD g body ((List.range' j k).map f) (ρ p)=some (.nx (ρ' p)))/\I n ρ':=by
  intro k
  induction k with
  |zero=>
   intro j ρ Y Z h
   have:j=n:=by omega
   subst this
   exact⟨ρ,fun _=>rfl,h⟩
  |succ k U=>
   intro j ρ Y Z h
   obtain⟨i,a1,o,a2,ρ2,rfl,a3⟩:=hs j ρ (by omega) h
   obtain⟨ρ',N,G⟩:=U (j+1) ρ2 (by omega) (by omega) a3
   refine⟨ρ',fun p=>?_,G⟩
   rw[range'_succ,map_cons]
   unfold forD
   rw[a1 p]
   simp only[a2 p]
   exact N p
 obtain⟨ρ',N,G⟩:=z n 0 ρ (by omega) (by omega) h0
 refine⟨_,fun p=>?_,hd ρ' G⟩
 unfold mfor
 rw[hi p,range_eq_range']
 exact N p
theorem yx8 {n:Nat}{m:MS}{p:Addr}{r i ds:List D}{d:D}(h:m (W4 n p r ds)=some (.rg d p i)):runG n m p r ds=some (.sh d,i):=by unfold runG;rw[h];simp only[if_true]
theorem yk7 {n:Nat}{m:MS}{p:Addr}{r i ds es:List D}(h:m (W4 n p r ds)=some (.rgf es p i)):runG n m p r ds=some (.fr es,i):=by unfold runG;rw[h];simp only[if_true]
noncomputable def RL (a b:Int):List D:=[.int a,.int b]
noncomputable def tkX (a b m:Int):Int:=if 10^18<=a then a % m else ((((b*48271+11) % 2147483647)*((b*48271+11) % 2147483647) % 2147483629)*69621 % 2147483587 / 8) % m
noncomputable def tkA (a m:Int):Int:=if 10^18<=a then a / m else a
noncomputable def tkB (a b:Int):Int:=if 10^18<=a then b else (b*48271+11) % 2147483647
theorem T4 (a b m:Int)(h:0<m):0<=tkX a b m:=by unfold tkX;split <;> exact Int.emod_nonneg _ (by omega)
theorem N5 (a b m:Int)(h:0<m):tkX a b m<m:=by unfold tkX;split <;> exact Int.emod_lt_of_pos _ h
theorem yx2 (p:Addr)(a b m:Int)(h:0<m)(h2:m<1073741824):d9 p (RL a b) [.int m]=some (.sh (.int (tkX a b m)),RL (tkA a m) (tkB a b)):=by
 unfold d9
 refine yx8 ?_
 have hp:((10:Int)^(18:Int).toNat)=10^18:=rfl
 have o1:M0 10 18=true:=by decide
 have z:∀ x y:Int,atI [D.int x,D.int y] 0=some (.int x):=fun _ _=>rfl
 have Z:∀ x y:Int,atI [D.int x,D.int y] 1=some (.int y):=fun _ _=>rfl
 have R:ixN (0+1+1) 0=some 0:=rfl
 have O:ixN (0+1+1) 1=some 1:=rfl
 unfold b_Z10
 by_cases j:10^18<=a
 .have e:b_Z10 (W4 4 p (RL a b) [.int m])=some (.rg (.int (a % m)) p (RL (a / m) b)):=by
   unfold b_Z10 W4 RL
   simp_arith [hp,o1,z,j,decide_true,if_true,X5 a m h,B7 a m h h2,R,zz3,mpu,set_cons_zero]
  unfold b_Z10 at e
  rw[e]
  unfold tkX tkA tkB
  rw[if_pos j,if_pos j,if_pos j]
 .have q3:∀ i,zz5 i 2147483647=true:=fun i=>X5 _ _ (by decide)
  have N:∀ i,zz5 i 2147483629=true:=fun i=>X5 _ _ (by decide)
  have I:∀ i,zz5 i 2147483587=true:=fun i=>X5 _ _ (by decide)
  have G:∀ i,zz5 i m=true:=fun i=>X5 _ _ h
  have Y:∀ i,zo6 i 8=true:=fun i=>B7 _ _ (by decide) (by decide)
  have m1:R1 b 48271=true:=D7 _ _ (by decide) (by decide)
  have bb:=zp6 (x:=b*48271+11) (show (0:Int)<2147483647 by decide)
  have m2:R1 ((b*48271+11) % 2147483647) ((b*48271+11) % 2147483647)=true:=zu4 _ _ (by omega) (by omega)
  have U:∀ i,R1 i 69621=true:=fun i=>D7 _ _ (by decide) (by decide)
  have e:b_Z10 (W4 4 p (RL a b) [.int m])=some (.rg (.int (((((b*48271+11) % 2147483647)*((b*48271+11) % 2147483647) % 2147483629)*69621 % 2147483587 / 8) % m)) p (RL a ((b*48271+11) % 2147483647))):=by
   unfold b_Z10 W4 RL
   simp_arith [hp,o1,z,Z,j,decide_false,if_true,q3,N,I,G,Y,m1,m2,U,O,zz3,mpu,set_cons_zero,set_cons_succ]
  unfold b_Z10 at e
  rw[e]
  unfold tkX tkA tkB
  rw[if_neg j,if_neg j,if_neg j]
theorem ya9 {ρ:Ro}{x:ME}{p:Addr}{a b m:Int}(i:ρ[0]? =some (some (.ob p (RL a b))))(j:x ρ=some (.int m))(h:0<m)(h2:m<1073741824):l0 d9 0 (apu (z5 x anil)) ρ=some (.int (tkX a b m),ρ.set 0 (some (.ob p (RL (tkA a m) (tkB a b))))):=
 ys9 i (N4 (z7 j w6)) i (yx2 p a b m h h2) rfl
end
section
open PySem L2
theorem c6 {p:Addr}{a b m:Int}{x:ME}{tl:List (Option S)}(i:x (some (.ob p (RL a b))::tl)=some (.int m))(h:0<m)(h2:m<1073741824):l0 d9 0 (apu (z5 x anil)) (some (.ob p (RL a b))::tl)=some (.int (tkX a b m),some (.ob p (RL (tkA a m) (tkB a b)))::tl):=
 ya9 (ρ:=some (.ob p (RL a b))::tl) rfl i h h2
noncomputable def envR (p:Addr)(a b most many kind span:Int)(f:List Int)(o6 o7:Option S):Ro:=[some (.ob p (RL a b)),k0c most,k0c many,k0c kind,k0c span,some (.own (f.map .int)),o6,o7]
theorem at3 (x y z:Int)(k:Int)(i:0<=k)(h1:k<3):∃ w,atI [D.int x,.int y,.int z] k=some (.int w)/\(w=x\/w=y\/w=z):=by
 have:k=0\/k=1\/k=2:=by omega
 rcases this with h|h|h <;> subst h
 .exact⟨_,rfl,by simp⟩
 .exact⟨_,rfl,by simp⟩
 .exact⟨_,rfl,by simp⟩
theorem zv7 {c:Int}{E:ME}{kind:Int}{env:Addr->Int->Ro}{x:Int}(P:Int->Prop)(z:∀ p x,mvar 3 (env p x)=some (.int kind))(i:∀ p x y,(env p x).set 7 (k0c y)=env p y)(j:kind≠c->P x)(G:kind=c->∃ y,P y/\∀ p,E (env p x)=some (.int y)):
  ∃ y,P y/\∀ p,mif (v0 (m2 eqSD (mvar 3) (mc (.int c)))) (mset 7 E) n9 (env p x)=some (.nx (env p y)):=by
 have ht:∀ p,v0 (m2 eqSD (mvar 3) (mc (.int c))) (env p x)=some (kind==c):=fun p=>by
  unfold v0 m2
  rw[z p x];rfl
 by_cases h:kind=c
 .obtain⟨y,py,hy⟩:=G h
  refine⟨y,py,fun p=>?_⟩
  unfold mif
  rw[ht p,show (kind==c)=true by rw[h];exact beq_self_eq_true _]
  show mset 7 E (env p x)=_
  rw[j5 (hy p),i]
 .refine⟨x,j h,fun p=>?_⟩
  unfold mif
  rw[ht p,beq_eq_false_iff_ne.mpr h]
  rfl
theorem yk8 (a b i many kind span:Int)(f:List Int)(k:Nat)(o7:Option S)(hs:0<span)(ac:span<=100)(hf:f.length<1000):
  ∃ a' b' x,URun G5 (fun p=>envR p a b i many kind span f (k0b k) o7) (fun o=>o=fun p=>.nx (envR p a' b' i many kind span (f++[x]) (k0b k) (k0c x))):=by
 have ad:=c7
 have I:=T4 a b span hs
 have N:=N5 a b span hs
 generalize ab:tkA a span=a1
 generalize aa:tkB a b=b1
 have G:∀ p,V3 7 (l0 d9 0 (apu (z5 (mvar 4) anil))) (envR p a b i many kind span f (k0b k) o7)=some (.nx (envR p a1 b1 i many kind span f (k0b k) (some (.sh (.int (tkX a b span)))))):=fun p=>by
  rw[<-ab,<-aa]
  exact(d8 (c6 (x:=mvar 4) (m:=span) rfl hs (by omega))).trans rfl
 generalize tkX a b span=x0 at I N G
 let env:Addr->Int->Ro:=fun p x=>envR p a1 b1 i many kind span f (k0b k) (k0c x)
 have U:∀ p x,mvar 3 (env p x)=some (.int kind):=fun _ _=>rfl
 have j:∀ p x y,(env p x).set 7 (k0c y)=env p y:=fun _ _ _=>rfl
 have i2:0+1+1<=sizeLine:=t8 (by decide)
 have a3:(10:Int)^(27:Int).toNat=1000000000000000000000000000:=by decide
 have a4:(10:Int)^(26:Int).toNat=100000000000000000000000000:=by decide
 have a5:M0 10 27=true:=by decide
 have a6:M0 10 26=true:=by decide
 obtain⟨x1,⟨l1,u1⟩,s1⟩:=zv7 (c:=1) (E:=m2 subD (mvar 7) (m2 zi9 (mvar 4) (mc (.int 2)))) (env:=env) (x:=x0) (fun y=>-1000<=y/\y<=1000) U j (fun _=>by omega)
  (fun _=>⟨x0-span / 2,by omega,fun p=>by show m2 subD _ _ (envR _ _ _ _ _ _ _ _ _ _)=_;unfold envR;simp_arith [B7 span 2 (by decide) (by decide),if_true]⟩)
 have a9:R1 x1 1000000000000000000000000000=true:=zu4 _ _ (by omega) (by omega)
 have a8:R1 span 100000000000000000000000000=true:=zu4 _ _ (by omega) (by omega)
 obtain⟨x2,_,s2⟩:=zv7 (c:=2) (E:=m2 subD (m2 mulD (mvar 7) (m2 powD (mc (.int 10)) (mc (.int 27)))) (m2 mulD (mvar 4) (m2 powD (mc (.int 10)) (mc (.int 26))))) (env:=env) (x:=x1) (fun _=>True) U j (fun _=>True.intro)
  (fun _=>⟨x1*1000000000000000000000000000-span*100000000000000000000000000,True.intro,fun p=>by show m2 subD _ _ (envR _ _ _ _ _ _ _ _ _ _)=_;unfold envR;simp_arith [a3,a4,a5,a6,a9,a8,if_true]⟩)
 have O:=zp6 (x:=(k:Int)) (show (0:Int)<2 by decide)
 obtain⟨y3,e3⟩:=at2 x2 (span+x2) ((k:Int) % 2) O.1 O.2
 obtain⟨x3,_,s3⟩:=zv7 (c:=3) (E:=mix (l6 (z5 (mvar 7) (z5 (m2 addD (mvar 4) (mvar 7)) anil))) (m2 modD (mvar 6) (mc (.int 2)))) (env:=env) (x:=x2) (fun _=>True) U j (fun _=>True.intro)
  (fun _=>⟨y3,True.intro,fun p=>by show mix _ _ (envR _ _ _ _ _ _ _ _ _ _)=_;unfold envR;simp_arith [i2,if_true,X5 (k:Int) 2 (by decide),e3]⟩)
 obtain⟨z,_,s4⟩:=zv7 (c:=4) (E:=m2 addD (mvar 7) (mvar 6)) (env:=env) (x:=x3) (fun _=>True) U j (fun _=>True.intro)
  (fun _=>⟨x3+k,True.intro,fun p=>by show m2 addD _ _ (envR _ _ _ _ _ _ _ _ _ _)=_;unfold envR;simp_arith []⟩)
 have lf:(f.map D.int).length<sizeLine:=by simp;omega
 have fin:∀ Z Y x,URun (mapp 5 (mvar 7)) (fun p=>envR p Z Y i many kind span f (k0b k) (k0c x)) (fun o=>o=fun p=>.nx (envR p Z Y i many kind span (f++[x]) (k0b k) (k0c x))):=fun Z Y x=>
  yy8 (ρ':=fun p=>envR p Z Y i many kind span (f++[x]) (k0b k) (k0c x)) (fun p=>by unfold envR;simp_arith [lf,if_true,map_append]) rfl
 have R:∀ p,v0 (m2 eqSD (mvar 3) (mc (.int 5))) (env p z)=some (kind==5):=fun p=>by
  unfold v0 m2
  rw[U p z];rfl
 by_cases h5:kind=5
 .have t4lo:=T4 a1 b1 4 (by decide)
  have a7:R1 (if (tkX a1 b1 4==0)=true then 1 else 0) z=true:=zu4 _ _ (by split <;> decide) (by split <;> decide)
  refine⟨tkA a1 4,tkB a1 b1,(if (tkX a1 b1 4==0)=true then 1 else 0)*z,?_⟩
  unfold G5
  refine Z5 G (Z5 s1 (Z5 s2 (Z5 s3 (Z5 s4 (Z5 (ρ':=fun p=>envR p (tkA a1 4) (tkB a1 b1) i many kind span f (k0b k) (some (.sh (.int ((if (tkX a1 b1 4==0)=true then 1 else 0)*z))))) (fun p=>?_) (fin _ _ _))))))
  unfold mif
  rw[R p,show (kind==5)=true by rw[h5];rfl]
  show V3 7 _ (env p z)=_
  refine(d8 (X2 (zn9 (g8 (X2 (c6 (x:=mc (.int 4)) (m:=4) rfl (by decide) (by decide)) (Y3 (d:=.int 0) rfl) (g:=.bl (tkX a1 b1 4==0)) rfl) (N4 (d:=[]) rfl)) (d:=.int (if (tkX a1 b1 4==0)=true then 1 else 0)) rfl) (Y3 (d:=.int z) rfl) (g:=.int ((if (tkX a1 b1 4==0)=true then 1 else 0)*z)) ?_)).trans rfl
  show (if R1 _ _=true then _ else none)=_
  rw[if_pos a7]
 .refine⟨a1,b1,z,?_⟩
  unfold G5
  refine Z5 G (Z5 s1 (Z5 s2 (Z5 s3 (Z5 s4 (Z5 (ρ':=fun p=>env p z) (fun p=>?_) (fin a1 b1 z))))))
  unfold mif
  rw[R p,beq_eq_false_iff_ne.mpr h5]
  rfl
theorem xn0 (a b:Int)(i:Nat)(hm:i<=300):∃(f:List Int)(G b':Int),f.length<=300/\∀ p,yg8 p (RL a b) [.int i]=some (.fr (f.map .int),RL G b'):=by
 suffices h:URun b_Z15 (fun p=>W4 8 p (RL a b) [.int i]) (fun o=>∃(f:List Int)(G b':Int),f.length<=300/\o=fun p=>.rgf (f.map .int) p (RL G b'))by
  obtain⟨o,e,f,G,b',N,rfl⟩:=h
  exact⟨f,G,b',N,fun p=>yk7 (e p)⟩
 have i0:0<=sizeLine:=Nat.zero_le _
 have i3:[D.int (tkX a b ((i:Int)+1)),D.int (i:Int),D.int (tkX (tkA a ((i:Int)+1)) (tkB a b) (min (i:Int) 4+1))].length<=sizeLine:=t8 (by simp)
 have i4:0+1+1+1+1<=sizeLine:=t8 (by decide)
 have R:(0:Int)<(i:Int)+1:=by omega
 have O:(0:Int)<min (i:Int) 4+1:=by omega
 have l1:=T4 a b ((i:Int)+1) R
 have u1:=N5 a b ((i:Int)+1) R
 generalize a7:tkA a ((i:Int)+1)=A1 at i3
 generalize a2:tkB a b=B1 at i3
 have l2:=T4 A1 B1 (min (i:Int) 4+1) O
 have u2:=N5 A1 B1 (min (i:Int) 4+1) O
 generalize a6:tkA A1 (min (i:Int) 4+1)=A2
 generalize a1:tkB A1 B1=B2
 have l3:=T4 A2 B2 3 (by decide)
 have u3:=N5 A2 B2 3 (by decide)
 obtain⟨many,em,a9⟩:=at3 (tkX a b ((i:Int)+1)) (i:Int) (tkX A1 B1 (min (i:Int) 4+1)) (tkX A2 B2 3) l3 u3
 have z:0<=many/\many<=i:=by omega
 unfold b_Z15
 generalize a5:tkA A2 3=A3
 generalize Z:tkB A2 B2=B3
 refine Z5 (ρ':=fun p=>[some (.ob p (RL A3 B3)),k0b i,k0c many,none,none,none,none,none]) (fun p=>?_) ?_
 .have e2:(i5 za7 (z5 (mvar 1) (z5 (mc (.int 4)) anil))) [some (.ob p (RL A1 B1)),k0b i,none,none,none,none,none,none]=some (.int (min (i:Int) 4)):=by simp_arith [yb1]
  have e3:m2 addD (i5 za7 (z5 (mvar 1) (z5 (mc (.int 4)) anil))) (mc (.int 1)) [some (.ob p (RL A1 B1)),k0b i,none,none,none,none,none,none]=some (.int (min (i:Int) 4+1)):=by unfold m2;rw[e2];rfl
  have t1:=c6 (p:=p) (a:=a) (b:=b) (m:=(i:Int)+1) (x:=m2 addD (mvar 1) (mc (.int 1))) (tl:=[k0b i,none,none,none,none,none,none]) (by simp_arith []) R (by omega)
  rw[a7,a2]at t1
  have t2:=c6 (p:=p) (a:=A1) (b:=B1) (m:=min (i:Int) 4+1) (x:=m2 addD (i5 za7 (z5 (mvar 1) (z5 (mc (.int 4)) anil))) (mc (.int 1))) (tl:=[k0b i,none,none,none,none,none,none]) e3 O (by omega)
  rw[a6,a1]at t2
  have t3:=c6 (p:=p) (a:=A2) (b:=B2) (m:=3) (x:=mc (.int 3)) (tl:=[k0b i,none,none,none,none,none,none]) rfl (by decide) (by decide)
  rw[a5,Z]at t3
  exact(d8 (X2 (zu8 (g8 t1 (g8 (Y3 (d:=.int (i:Int)) rfl) (g8 t2 (N4 (d:=[]) rfl)))) i3) t3 (g:=.int many) em)).trans rfl
 have l4:=T4 A3 B3 6 (by decide)
 have u4:=N5 A3 B3 6 (by decide)
 generalize a4:tkA A3 6=A4
 generalize Y:tkB A3 B3=B4
 refine Z5 (ρ':=fun p=>[some (.ob p (RL A4 B4)),k0b i,k0c many,some (.sh (.int (tkX A3 B3 6))),none,none,none,none]) (fun p=>?_) ?_
 .have t:=c6 (p:=p) (a:=A3) (b:=B3) (m:=6) (x:=mc (.int 6)) (tl:=[k0b i,k0c many,none,none,none,none,none]) rfl (by decide) (by decide)
  rw[a4,Y]at t
  exact(d8 t).trans rfl
 generalize tkX A3 B3 6=kind
 have l5:=T4 A4 B4 4 (by decide)
 have u5:=N5 A4 B4 4 (by decide)
 obtain⟨span,es,a8⟩:=at4 2 4 10 100 (tkX A4 B4 4) l5 u5
 generalize a3:tkA A4 4=A5
 generalize U:tkB A4 B4=B5
 refine Z5 (ρ':=fun p=>[some (.ob p (RL A5 B5)),k0b i,k0c many,k0c kind,k0c span,none,none,none]) (fun p=>?_) ?_
 .have t:=c6 (p:=p) (a:=A4) (b:=B4) (m:=4) (x:=mc (.int 4)) (tl:=[k0b i,k0c many,k0c kind,none,none,none,none]) rfl (by decide) (by decide)
  rw[a3,U]at t
  exact(d8 (X2 (Y3 (d:=.lst [.int 2,.int 4,.int 10,.int 100]) (by simp_arith [i4,if_true])) t (g:=.int span) es)).trans rfl
 refine Z5 (ρ':=fun p=>envR p A5 B5 i many kind span [] none none) (fun p=>by unfold envR;simp_arith [i0,if_true]) ?_
 obtain⟨n,en⟩:=xj3 z.1
 subst en
 have k1:okR (n:Int)=true:=zx2 (by omega) (by omega)
 refine yy7 (ya6 n (f:=fun(j:Nat)=>D.int (j:Int)) (fun p=>by unfold envR;simp_arith [Q3 k1,Int.toNat_natCast];rw[X7,map_map];rfl)
  (I:=fun j ρ=>∃(f:List Int)(a b:Int)(o6 o7:Option S),f.length=j/\ρ=fun p=>envR p a b i n kind span f o6 o7) ⟨[],A5,B5,none,none,rfl,rfl⟩ ?_ ?_)
 .rintro j ρ hj ⟨f,a,b,o6,o7,N,rfl⟩
  obtain⟨G,b',x,o,e,rfl⟩:=yk8 a b i n kind span f j o7 (by omega) (by omega) (by omega)
  exact⟨fun p=>envR p a b i n kind span f (k0b j) o7,fun p=>rfl,_,e,_,rfl,f++[x],G,b',_,_,by simp[N],rfl⟩
 .rintro ρ ⟨f,a,b,o6,o7,N,rfl⟩
  refine⟨_,rfl,fun p=>.rgf (f.map .int) p (RL a b),fun p=>?_,f,a,b,by omega,rfl⟩
  unfold zf7 envR
  rfl
end
section
open PySem L2
theorem ym2 {ds:List Int}{P:Int->Prop}(h:∀ x∈ds,P x)(k:Int)(i:0<=k)(h1:k<ds.length):∃ x,atI (ds.map D.int) k=some (.int x)/\P x:=by
 have hl:k.toNat<ds.length:=by omega
 refine⟨ds.getD k.toNat 0,zh7 D.int ds k i h1 0,h _ ?_⟩
 rw[getD_eq_getElem?_getD,getElem?_eq_getElem hl]
 exact getElem_mem hl
theorem xz2 (a b:Int)(η:List Int)(hr:η.length<=300):∃(s I b':Int),1<=s/\∀ p,yg9 p (RL a b) [.lst (η.map .int)]=some (.sh (.int s),RL I b'):=by
 suffices h:URun b_Z14 (fun p=>W4 4 p (RL a b) [.lst (η.map .int)]) (fun o=>∃(s I b':Int),1<=s/\o=fun p=>.rg (.int s) p (RL I b'))by
  obtain⟨o,e,s,I,b',hs,rfl⟩:=h
  exact⟨s,I,b',hs,fun p=>yx8 (e p)⟩
 have i0:0<=sizeLine:=Nat.zero_le _
 have U:(10:Int)^(27:Int).toNat=1000000000000000000000000000:=by decide
 have R:(10:Int)^(29:Int).toNat=100000000000000000000000000000:=by decide
 have Z:M0 10 27=true:=by decide
 have Y:M0 10 29=true:=by decide
 have l1:=T4 a b 4 (by decide)
 generalize ac:tkA a 4=A1
 generalize a8:tkB a b=B1
 have l2:=T4 A1 B1 100 (by decide)
 generalize ab:tkA A1 100=A2
 generalize a7:tkB A1 B1=B2
 generalize a2:tkX a b 4=x1 at l1
 generalize a1:tkX A1 B1 100=x2 at l2
 let i:List Int:=[1,1,1+x1,1+x2,1000000000000000000000000000,100000000000000000000000000000]
 have N:∀ x∈i,1<=x:=by
  intro x O
  simp only[i,mem_cons,mem_nil_iff,or_false]at O
  rcases O with h|h|h|h|h|h <;> omega
 unfold b_Z14
 refine Z5 (ρ':=fun p=>[some (.ob p (RL A2 B2)),k0a η,k0a i,none]) (fun p=>?_) ?_
 .have t1:=c6 (p:=p) (a:=a) (b:=b) (m:=4) (x:=mc (.int 4)) (tl:=[k0a η,none,none]) rfl (by decide) (by decide)
  rw[ac,a8,a2]at t1
  have t2:=c6 (p:=p) (a:=A1) (b:=B1) (m:=100) (x:=mc (.int 100)) (tl:=[k0a η,none,none]) rfl (by decide) (by decide)
  rw[ab,a7,a1]at t2
  refine(d8 (zu8 (ds:=i.map .int) (g8 (Y3 (d:=.int 1) rfl) (g8 (Y3 (d:=.int 1) rfl) (g8 (X2 (Y3 (d:=.int 1) rfl) t1 (g:=.int (1+x1)) rfl) (g8 (X2 (Y3 (d:=.int 1) rfl) t2 (g:=.int (1+x2)) rfl) (N4 (d:=[.int 1000000000000000000000000000,.int 100000000000000000000000000000]) ?_))))) (t8 (by simp[i])))).trans rfl
  simp_arith [U,R,Z,Y,if_true]
 have G:∀(A B:Int)(zs:List Int)(o3:Option S),zs≠[]->zs.length<=1000->(∀ x∈zs,1<=x)->URun (zz3 0 (m2m ixLD (mpu (mvar 2)) (l0 d9 0 (apu (z5 (mlen (bvar 2)) anil))))) (fun p=>[some (.ob p (RL A B)),k0a η,k0a zs,o3]) (fun o=>∃(s I b':Int),1<=s/\o=fun p=>.rg (.int s) p (RL I b')):=by
  intro A B zs o3 a3 hl hz
  have hpos:(0:Int)<(zs.length:Int):=by
   cases zs with
   |nil=>exact absurd rfl a3
   |cons x r=>rw[length_cons];omega
  obtain⟨s,e,hs⟩:=ym2 hz (tkX A B zs.length) (T4 A B _ hpos) (N5 A B _ hpos)
  refine⟨fun p=>.rg (.int s) p (RL (tkA A zs.length) (tkB A B)),fun p=>?_,s,_,_,hs,rfl⟩
  exact yh9 (X2 (Y3 (d:=.lst (zs.map .int)) rfl) (c6 (m:=(zs.length:Int)) (by simp_arith [length_map]) hpos (by omega)) (g:=.int s) e) rfl
 refine yy7 (xf8 (b:=!(η.map D.int).isEmpty) (fun p=>xs8 (ds:=η.map .int) rfl) ?_)
 cases hrow:η with
 |nil=>
  subst hrow
  exact ya5 ⟨_,rfl,G A2 B2 i none (by simp[i]) (by simp[i]) N⟩
 |cons r0 rs=>
  rw[<-hrow]
  have hpos:(0:Int)<(η.length:Int):=by rw[hrow,length_cons];omega
  rw[show (!(η.map D.int).isEmpty)=true by rw[hrow];rfl]
  show URun (mseq _ _) _ _
  obtain⟨z,e1,_⟩:=ym2 (ds:=η) (P:=fun _=>True) (fun _ _=>True.intro) (tkX A2 B2 η.length) (T4 _ _ _ hpos) (N5 _ _ _ hpos)
  generalize aa:tkA A2 η.length=A3
  generalize a6:tkB A2 B2=B3
  obtain⟨j,e2,_⟩:=ym2 (ds:=η) (P:=fun _=>True) (fun _ _=>True.intro) (tkX A3 B3 η.length) (T4 _ _ _ hpos) (N5 _ _ _ hpos)
  generalize a9:tkA A3 η.length=A4
  generalize a5:tkB A3 B3=B4
  refine Z5 (ρ':=fun p=>[some (.ob p (RL A4 B4)),k0a η,k0a i,some (.sh (.int (if z-j<0 then -(z-j)else z-j)))]) (fun p=>?_) ?_
  .have t1:=c6 (p:=p) (a:=A2) (b:=B2) (m:=(η.length:Int)) (x:=mlen (bvar 1)) (tl:=[k0a η,k0a i,none]) (by simp_arith [length_map]) hpos (by omega)
   rw[aa,a6]at t1
   have t2:=c6 (p:=p) (a:=A3) (b:=B3) (m:=(η.length:Int)) (x:=mlen (bvar 1)) (tl:=[k0a η,k0a i,none]) (by simp_arith [length_map]) hpos (by omega)
   rw[a9,a5]at t2
   exact(d8 (zn9 (g8 (X2 (X2 (Y3 (d:=.lst (η.map .int)) rfl) t1 (g:=.int z) e1) (X2 (Y3 (d:=.lst (η.map .int)) rfl) t2 (g:=.int j) e2) (g:=.int (z-j)) rfl) (N4 (d:=[]) rfl)) rfl)).trans rfl
  generalize a4:(if z-j<0 then -(z-j)else z-j)=ap
  have ad:0<=ap:=by rw[<-a4];split <;> omega
  have i2:0+1+1<=sizeLine:=t8 (by decide)
  refine yy8 (ρ':=fun p=>[some (.ob p (RL A4 B4)),k0a η,some (.sh (.lst ((i++[max 1 ap,ap+1]).map .int))),k0c ap]) (fun p=>?_) ⟨_,rfl,G A4 B4 (i++[max 1 ap,ap+1]) _ (by simp) (by simp[i]) ?_⟩
  .have e:mcat (bvar 2) (l6 (z5 (i5 za8 (z5 (mc (.int 1)) (z5 (mvar 3) anil))) (z5 (m2 addD (mvar 3) (mc (.int 1))) anil))) [some (.ob p (RL A4 B4)),k0a η,k0a i,k0c ap]=some (i.map .int++[.int (max 1 ap),.int (ap+1)]):=
    zi2 (ds:=i.map .int) rfl (d6 (z7 (d:=.int (max 1 ap)) (by simp_arith [xj6]) (z7 (d:=.int (ap+1)) (by simp_arith []) w6)) i2) (t8 (by simp[i]))
   rw[j5 (X1 e),map_append]
   rfl
  .intro x O
   rcases List.mem_append.mp O with h|h
   .exact N x h
   .simp only[mem_cons,mem_nil_iff,or_false]at h
    rcases h with h|h <;> omega
end
section
open PySem L2
noncomputable def mirF:Bool->List Int->List Int
 |_,[]=>[]
 |b,x::r=>(if b then -x else x)::mirF (!b) r
noncomputable def stG (s:Int):Nat->Option Int->List Int->List Nat
 |_,_,[]=>[]
 |k,none,h::r=>k::stG s (k+1) (some h) r
 |k,some g,h::r=>if s<=g+h then k::stG s (k+1) (some h) r else stG s (k+1) none r
noncomputable def cN (s:Int):Option Int->List Int->Nat
 |_,[]=>0
 |none,h::r=>cN s (some h) r
 |some g,h::r=>if s<=g+h then cN s (some h) r else 1+cN s none r
noncomputable def okp (s:Int):Option Int->List Int->Prop
 |_,[]=>True
 |none,h::r=>okp s (some h) r
 |some g,h::r=>s<=g+h/\okp s (some h) r
noncomputable def mkH (s:Int):Option Int->List Int->List Int
 |_,[]=>[]
 |none,h::r=>h::mkH s (some h) r
 |some g,h::r=>if s<=g+h then h::mkH s (some h) r else (s-(match r with |[]=>g|h2::_=>min g h2))::mkH s none r
theorem X6:∀(b:Bool)(r:List Int),(mirF b r).length=r.length
 |_,[]=>rfl
 |b,x::r=>by simp[mirF,X6]
variable {s t:Int}
theorem V9:∀(k:Nat)(o:Option Int)(h:List Int),(stG s k o h).length+cN s o h=h.length
 |_,none,[]=>rfl
 |_,some _,[]=>rfl
 |k,none,a::r=>by have:=V9 (k+1) (some a) r;simp[stG,cN];omega
 |k,some g,a::r=>by
  simp only[stG,cN]
  split
  .have:=V9 (k+1) (some a) r;simp;omega
  .have:=V9 (k+1) none r;simp;omega
theorem yn1:∀(h:List Int)(g:Int),cN s none h<=cN s (some g) h/\cN s (some g) h<=cN s none h+1
 |[],g=>by simp[cN]
 |a::r,g=>by
  have:=yn1 r a
  simp only[cN]
  split <;> omega
theorem C2:∀(o:Option Int)(h:List Int),(mkH s o h).length=h.length
 |none,[]=>rfl
 |some _,[]=>rfl
 |none,a::r=>by simp[mkH,C2 (some a) r]
 |some g,a::r=>by
  simp only[mkH]
  split
  .simp[C2 (some a) r]
  .simp[C2 none r]
theorem J7:∀(o:Option Int)(h:List Int),okp s o (mkH s o h)
 |none,[]=>trivial
 |some _,[]=>trivial
 |none,a::r=>J7 (some a) r
 |some g,a::r=>by
  simp only[mkH]
  split
  .rename_i h;exact⟨h,J7 (some a) r⟩
  .cases r with
   |nil=>exact⟨by simp;omega,trivial⟩
   |cons b r=>
    simp only[mkH]
    exact⟨by omega,by omega,J7 (some b) r⟩
end
section
open PySem L2
theorem u9 {f:D->D->Option D}{x y:ME}{ρ:Ro}{a b:D}(h1:x ρ=some a)(h2:y ρ=some b):m2 f x y ρ=f a b:=by
 unfold m2;rw[h1,h2];rfl
noncomputable def wd (b:Bool):Str:=if b then "up" else "down"
noncomputable def lowN (b:Bool):Nat:=if b then 0 else 1
theorem xh2 (b:Bool):idxS (wd b) ["up","down"]=some (lowN b):=by cases b <;> decide +kernel
theorem yg6 {x:ME}{ρ:Ro}{b:Bool}(h:x ρ=some (.str (wd b))):ys6 "up" "down" x ρ=some (.int (lowN b:Int)):=by
 unfold ys6
 rw[h]
 simp only
 rw[xh2 b];rfl
theorem zu9:∀(b:Bool)(η:List Int),mirF b η=(List.range η.length).map fun i=>if i % 2=lowN b then -(η.getD i 0)else η.getD i 0
 |_,[]=>rfl
 |b,x::r=>by
  rw[length_cons,range_succ_eq_map,map_cons,map_map,mirF,zu9 (!b) r]
  congr 1
  .cases b <;> simp[lowN]
  .apply map_congr_left
   intro i _
   simp only[Function.comp_apply,getD_cons_succ]
   have:(i % 2=lowN (!b))↔(Nat.succ i % 2=lowN b):=by cases b <;> simp[lowN] <;> omega
   by_cases q:i % 2=lowN (!b)
   .rw[if_pos q,if_pos (this.mp q)]
   .rw[if_neg q,if_neg fun z=>q (this.mpr z)]
noncomputable def RI (xs:List Int):D:=.lst (xs.map .int)
theorem Q8 (b:Bool)(η:List Int)(hl:η.length<=1000):K9 [RI η,.str (wd b)]=some (.fr ((mirF b η).map .int)):=by
 unfold K9 b_Z11
 refine zk4 ?_
 refine seqI (ρ':=[some (.sh (RI η)),some (.sh (.str (wd b))),some (.sh (.int (lowN b:Int)))]) ((j5 (yg6 (b:=b) rfl)).trans rfl) ?_
 have z:i7 P2 (z5 (mvar 0) anil) [some (.sh (RI η)),some (.sh (.str (wd b))),some (.sh (.int (lowN b:Int)))]=some ((List.range η.length).map fun(i:Nat)=>D.tup [.int (i:Int),.int (η.getD i 0)]):=by
  have:=S0 η 0
  simp only[Nat.zero_add]at this
  unfold RI
  simp_arith [this]
 have j:W0 [none,none,some 2] (i7 P2 (z5 (mvar 0) anil)) (.tp [0,1]) cyes (mite (v0 (m2 eqSD (m2 modD (mvar 0) (mc (.int 2))) (mvar 2))) (m1 negD (mvar 1)) (mvar 1)) [some (.sh (RI η)),some (.sh (.str (wd b))),some (.sh (.int (lowN b:Int)))]=some ((mirF b η).map .int):=by
  unfold W0
  rw[z,Option.bind_some]
  refine(O9 (f:=fun(i:Nat)=>D.tup [.int (i:Int),.int (η.getD i 0)]) (G:=fun(i:Nat)=>D.int (if i % 2=lowN b then -(η.getD i 0)else η.getD i 0)) (fun _ ρ=>∃ x y,ρ=[x,y,some (.sh (.int (lowN b:Int)))]) (by
   rintro i is ρ ⟨x,y,rfl⟩
   refine⟨[k0b i,some (.sh (.int (η.getD i 0))),some (.sh (.int (lowN b:Int)))],rfl,rfl,?_,_,_,rfl⟩
   have em:v0 (m2 eqSD (m2 modD (mvar 0) (mc (.int 2))) (mvar 2)) [k0b i,some (.sh (.int (η.getD i 0))),some (.sh (.int (lowN b:Int)))]=some (decide (i % 2=lowN b)):=by
    have h2:zz5 (i:Int) 2=true:=X5 _ _ (by decide)
    simp_arith [h2,if_true]
    congr 1
    rw[Bool.eq_iff_iff]
    simp only[beq_iff_eq,decide_eq_true_eq]
    omega
   unfold mite
   rw[em]
   by_cases q:i % 2=lowN b
   .rw[decide_eq_true q,if_pos q];rfl
   .rw[decide_eq_false q,if_neg q];rfl) (List.range η.length) _ [] ⟨none,none,rfl⟩ (t8 (by simp;omega))).trans ?_
  rw[zu9 b η,map_map]
  rfl
 unfold za5
 rw[j];rfl
theorem G2 {i:Type}(A:List i)(x:i):cutI (A++[x]) (some (-1)) none=[x]:=by
 unfold cutI HT.sIx
 simp
 have:((-1:Int)+((A.length:Int)+1)).toNat=A.length:=by omega
 rw[this]
 simp
theorem zo9 {i:Type}:cutI ([]:List i) (some (-1)) none=[]:=by unfold cutI;simp
theorem yp6 (a b:Int):eqFD true (.lst [.int a]) (.lst [.int b])=some (.bl (!(a==b))):=by
 unfold eqFD eqF
 simp only[length_cons,length_nil,if_true,zipE]
 unfold eqF
 simp[eqS]
theorem ye6 (b:Int):eqFD true (.lst []) (.lst [.int b])=some (.bl true):=by
 unfold eqFD eqF
 simp
def xf7 (i:Nat)(A:List Nat):Prop:=A=[]\/∃ A' l,A=A'++[l]/\l+1<i
noncomputable def envS (h:List Int)(s:Int)(A:List Nat)(o3 o4:Option S):Ro:=[some (.sh (RI h)),k0c s,some (.own ((NI A).map .int)),o3,o4]
theorem xs9 (h:List Int)(s:Int)(A:List Nat)(i o4:Option S):mcut (bvar 2) (j4 (m1 negD (mc (.int 1)))) W3 (envS h s A i o4)=some ((cutI (NI A) (some (-1)) none).map .int):=by
 unfold envS
 simp_arith [zt8]
theorem L5 (A:List Nat)(x:Nat):NI (A++[x])=NI A++[(x:Int)]:=by unfold NI;simp
theorem zc9 (h:List Int)(s:Int)(hl:h.length<=1000):yz0 [RI h,.int s]=some (.fr ((NI (stG s 0 none h)).map .int)):=by
 have a1:=c7
 have i1:0+1<=sizeLine:=t8 (by decide)
 have R:0<=sizeLine:=Nat.zero_le _
 unfold yz0 b_Z16
 refine zk4 ?_
 refine seqI (ρ':=envS h s [] none none) (by unfold envS RI;simp_arith [R,if_true];rfl) ?_
 have e0:i7 P2 (z5 (mvar 0) anil) (envS h s [] none none)=some ((List.range h.length).map fun(i:Nat)=>D.tup [.int (i:Int),.int (h.getD i 0)]):=by
  have:=S0 h 0
  simp only[Nat.zero_add]at this
  unfold envS RI
  simp_arith [this]
 refine zg6 h.length e0 (I:=fun i ρ=>∃ A o x y,ρ=envS h s A x y/\A++stG s i o (h.drop i)=stG s 0 none h/\A.length<=i/\((o=none/\xf7 i A)\/(∃ z j,A=z++[j]/\j+1=i/\o=some (h.getD j 0))))
  (Q:=fun o=>∃ x y,o= .nx (envS h s (stG s 0 none h) x y)) ⟨[],none,none,none,rfl,rfl,Nat.le_refl _,.inl ⟨rfl,.inl rfl⟩⟩ ?_ ?_ ?_
 .rintro i ρ hi ⟨A,o,x,y,rfl,e,hA,ho⟩
  rw[W2 h i hi]at e
  refine⟨envS h s A (k0b i) (some (.sh (.int (h.getD i 0)))),?_⟩
  have N:zd7 (envS h s A (k0b i) (some (.sh (.int (h.getD i 0)))))=(mif (cor (v0 (meqB true (mcut (bvar 2) (j4 (m1 negD (mc (.int 1)))) W3) (l6 (z5 (m2 subD (mvar 3) (mc (.int 1))) anil)))) (v0 (m2 geD (m2 addD (mix (bvar 0) (m2 subD (mvar 3) (mc (.int 1)))) (mvar 4)) (mvar 1)))) (mapp 2 (mvar 3)) n9) (envS h s A (k0b i) (some (.sh (.int (h.getD i 0))))):=rfl
  have e1:l6 (z5 (m2 subD (mvar 3) (mc (.int 1))) anil) (envS h s A (k0b i) (some (.sh (.int (h.getD i 0)))))=some [.int ((i:Int)-1)]:=by
   unfold envS;simp_arith [i1,if_true]
  have e2:v0 (meqB true (mcut (bvar 2) (j4 (m1 negD (mc (.int 1)))) W3) (l6 (z5 (m2 subD (mvar 3) (mc (.int 1))) anil))) (envS h s A (k0b i) (some (.sh (.int (h.getD i 0)))))=(match eqFD true (.lst ((cutI (NI A) (some (-1)) none).map .int)) (.lst [.int ((i:Int)-1)])with |some (.bl b)=>some b|_=>none):=by
   unfold v0 meqB
   rw[xs9,e1]
   rfl
  have G:mapp 2 (mvar 3) (envS h s A (k0b i) (some (.sh (.int (h.getD i 0)))))=some (.nx (envS h s (A++[i]) (k0b i) (some (.sh (.int (h.getD i 0)))))):=by
   have U:(NI A).length<sizeLine:=by unfold NI;rw[length_map];omega
   unfold envS
   rw[L5]
   simp_arith [length_map,U,if_true,map_append]
  rcases ho with⟨rfl,Z⟩|⟨z,j,rfl,hj,rfl⟩
  .have e3:v0 (meqB true (mcut (bvar 2) (j4 (m1 negD (mc (.int 1)))) W3) (l6 (z5 (m2 subD (mvar 3) (mc (.int 1))) anil))) (envS h s A (k0b i) (some (.sh (.int (h.getD i 0)))))=some true:=by
    rw[e2]
    rcases Z with rfl|⟨z,l,rfl,Y⟩
    .rw[show NI []=[]from rfl,zo9,map_nil,ye6]
    .rw[L5,G2,map_cons,map_nil,yp6]
     have:((l:Int)==(i:Int)-1)=false:=by simp;omega
     rw[this];rfl
   refine⟨.nx (envS h s (A++[i]) (k0b i) (some (.sh (.int (h.getD i 0))))),rfl,?_,?_⟩
   .rw[N]
    unfold mif cor
    rw[e3]
    exact G
   .exact⟨A++[i],some (h.getD i 0),_,_,rfl,by rw[<-e,append_assoc];rfl,by simp;omega,.inr ⟨A,i,rfl,rfl,rfl⟩⟩
  .have e3:v0 (meqB true (mcut (bvar 2) (j4 (m1 negD (mc (.int 1)))) W3) (l6 (z5 (m2 subD (mvar 3) (mc (.int 1))) anil))) (envS h s (z++[j]) (k0b i) (some (.sh (.int (h.getD i 0)))))=some false:=by
    rw[e2,L5,G2,map_cons,map_nil,yp6]
    have:((j:Int)==(i:Int)-1)=true:=by simp;omega
    rw[this];rfl
   have O:v0 (m2 geD (m2 addD (mix (bvar 0) (m2 subD (mvar 3) (mc (.int 1)))) (mvar 4)) (mvar 1)) (envS h s (z++[j]) (k0b i) (some (.sh (.int (h.getD i 0)))))=some (decide (s<=h.getD j 0+h.getD i 0)):=by
    have em:mix (bvar 0) (m2 subD (mvar 3) (mc (.int 1))) (envS h s (z++[j]) (k0b i) (some (.sh (.int (h.getD i 0)))))=some (.int (h.getD j 0)):=by
     refine C3 (ds:=h.map .int) (k:=(j:Int)) rfl ?_ (zd8 h j (by omega))
     unfold envS
     simp_arith []
     rw[show (i:Int)-1=(j:Int)by omega]
    have ea:m2 addD (mix (bvar 0) (m2 subD (mvar 3) (mc (.int 1)))) (mvar 4) (envS h s (z++[j]) (k0b i) (some (.sh (.int (h.getD i 0)))))=some (.int (h.getD j 0+h.getD i 0)):=(u9 em (b:=.int (h.getD i 0)) rfl).trans rfl
    unfold v0
    rw[u9 ea (b:=.int s) rfl]
    rfl
   simp only[stG]at e
   by_cases q:s<=h.getD j 0+h.getD i 0
   .rw[if_pos q]at e
    refine⟨.nx (envS h s ((z++[j])++[i]) (k0b i) (some (.sh (.int (h.getD i 0))))),rfl,?_,?_⟩
    .rw[N]
     unfold mif cor
     rw[e3,O,decide_eq_true q]
     exact G
    .exact⟨(z++[j])++[i],some (h.getD i 0),_,_,rfl,by rw[<-e,append_assoc (z++[j])];rfl,by simp at hA ⊢;omega,.inr ⟨_,i,rfl,rfl,rfl⟩⟩
   .rw[if_neg q]at e
    refine⟨.nx (envS h s (z++[j]) (k0b i) (some (.sh (.int (h.getD i 0))))),rfl,?_,?_⟩
    .rw[N]
     unfold mif cor
     rw[e3,O,decide_eq_false q]
     rfl
    .exact⟨z++[j],none,_,_,rfl,e,by omega,.inl ⟨rfl,.inr ⟨z,j,rfl,by omega⟩⟩⟩
 .rintro ρ ⟨A,o,x,y,rfl,e,_,_⟩
  rw[drop_length]at e
  have:stG s h.length o []=[]:=by cases o <;> rfl
  rw[this,append_nil]at e
  exact⟨x,y,by rw[e]⟩
 .rintro o ⟨x,y,rfl⟩
  rfl
noncomputable def FB (b:Bool)(η:List Int)(s:Int):D:=.tup [.int (cN s none (mirF b η):Int),RI (NI (stG s 0 none (mirF b η)))]
theorem C5 {f:MF}{m:ML}{ρ:Ro}{ds es:List D}(h:m ρ=some ds)(h2:f ds=some (.fr es)):O7 f m ρ=some es:=by
 unfold O7;rw[h];show (match f ds with |some (.fr es)=>some es|_=>none)=_;rw[h2]
theorem ys8 {f:MF}{m:ML}{ρ:Ro}{ds es:List D}{d:D}(h:m ρ=some ds)(h2:f ds=some (.pr d es)):V4 f m ρ=some (.tup [d,.lst es]):=by
 unfold V4;rw[h,Option.bind_some,h2]
theorem zf6 {i:Nat}{m:ML}{ρ:Ro}{ds:List D}(h:m ρ=some ds):C0 i m ρ=some (.nx (ρ.set i (some (.own ds)))):=by unfold C0;rw[h];rfl
theorem yx9 {n:Nat}{m:MS}{ds es:List D}{d:D}(h:m (v7 n ds)=some (.rp d es)):runB n m ds=some (.pr d es):=by unfold runB;rw[h]
theorem j7 (b:Bool)(η:List Int)(s:Int)(hs:1<=s)(hl:η.length<=1000):m_Z0 [RI η,.int s,.str (wd b)]=some (.pr (.int (cN s none (mirF b η):Int)) ((NI (stG s 0 none (mirF b η))).map .int)):=by
 have hm:=X6 b η
 unfold m_Z0 b_Z0
 refine yx9 ?_
 have i:v0 (m2 (inD true) (mvar 2) (mc (.tup ((["up","down"]:List Str).map .str)))) [some (.sh (RI η)),k0c s,some (.sh (.str (wd b))),none]=some false:=by
  unfold v0
  rw[u9 (a:=.str (wd b)) (b:=.tup ((["up","down"]:List Str).map .str)) rfl rfl]
  cases b <;> rfl
 refine seqI (ρ':=[some (.sh (RI η)),k0c s,some (.sh (.str (wd b))),none]) (by unfold mif;rw[show v7 4 [RI η,.int s,.str (wd b)]=[some (.sh (RI η)),k0c s,some (.sh (.str (wd b))),none]from rfl,i];rfl) ?_
 refine seqI (ρ':=[some (.sh (RI η)),k0c s,some (.sh (.str (wd b))),none]) (by unfold P0;rw[b9 (z7 (d:=.int s) rfl w6) (zz0 s hs)];rfl) ?_
 refine seqI (ρ':=[some (.sh (RI η)),k0c s,some (.sh (.str (wd b))),some (.own ((NI (stG s 0 none (mirF b η))).map .int))]) ((zf6 (C5 (z7 (zt2 (z7 (d:=RI η) rfl (z7 (d:=.str (wd b)) rfl w6)) (Q8 b η hl)) (z7 (d:=.int s) rfl w6)) (zc9 (mirF b η) s (by omega)))).trans rfl) ?_
 have e:=V9 (s:=s) 0 none (mirF b η)
 have ex:m2 subD (mlen (bvar 0)) (mlen (bvar 3)) [some (.sh (RI η)),k0c s,some (.sh (.str (wd b))),some (.own ((NI (stG s 0 none (mirF b η))).map .int))]=some (.int (cN s none (mirF b η):Int)):=by
  unfold RI
  simp_arith [length_map]
  unfold NI
  rw[length_map]
  congr 2
  omega
 unfold yh8
 rw[ex]
 rfl
theorem zg4 (n:Nat):∀ a b:List Int,∃ k,zipE (eqF (n+1)) (a.map .int) (b.map .int)=some k
 |[],_=>⟨true,rfl⟩
 |_::_,[]=>⟨true,rfl⟩
 |x::a,y::b=>by
  obtain⟨k,h⟩:=zg4 n a b
  refine⟨(x==y)&&k,?_⟩
  rw[map_cons,map_cons,zipE,h]
  rfl
theorem xs7 (n:Nat)(a b:List Int):∃ k,eqF (n+2) (RI a) (RI b)=some k:=by
 unfold RI
 show ∃ k,(if (a.map D.int).length=(b.map D.int).length then zipE (eqF (n+1)) (a.map .int) (b.map .int)else some false)=some k
 split
 .exact zg4 n a b
 .exact⟨_,rfl⟩
theorem xc7 (η:List Int)(s:Int):∃ k,ltF 8 (FB false η s) (FB true η s)=some k/\(k=true->cN s none (mirF false η)<=cN s none (mirF true η))/\(k=false->cN s none (mirF true η)<=cN s none (mirF false η)):=by
 have i:ltF 7 (RI (NI (stG s 0 none (mirF false η)))) (RI (NI (stG s 0 none (mirF true η))))=some (lx (stG s 0 none (mirF false η)) (stG s 0 none (mirF true η))):=by
  have:=zi6 5 (stG s 0 none (mirF false η)) (stG s 0 none (mirF true η))
  unfold RI NI
  rw[map_map,map_map]
  exact this
 obtain⟨k1,j⟩:=xs7 5 (NI (stG s 0 none (mirF false η))) (NI (stG s 0 none (mirF true η)))
 unfold FB
 generalize RI (NI (stG s 0 none (mirF false η)))=l1 at i j ⊢
 generalize RI (NI (stG s 0 none (mirF true η)))=l2 at i j ⊢
 generalize cN s none (mirF false η)=c1
 generalize cN s none (mirF true η)=c2
 show ∃ k,(match (some ((c1:Int)==(c2:Int)):Option Bool)with |some true=>lexF (eqF 7) (ltF 7) [l1] [l2]|some false=>some (decide ((c1:Int)<(c2:Int)))|none=>none)=some k/\_
 cases hc:((c1:Int)==(c2:Int))with
 |true=>
  have:c1=c2:=by simp at hc;omega
  subst this
  show ∃ k,(match eqF 7 l1 l2 with |some true=>lexF (eqF 7) (ltF 7) [] []|some false=>ltF 7 l1 l2|none=>none)=some k/\_
  rw[j]
  cases k1 with
  |true=>exact⟨false,rfl,fun _=>Nat.le_refl _,fun _=>Nat.le_refl _⟩
  |false=>exact⟨_,i,fun _=>Nat.le_refl _,fun _=>Nat.le_refl _⟩
 |false=>
  refine⟨_,rfl,fun h=>?_,fun h=>?_⟩
  .have:=of_decide_eq_true h;omega
  .have:=of_decide_eq_false h;omega
noncomputable def bw (η:List Int)(s:Int):Bool:=match ltF 8 (FB false η s) (FB true η s)with |some true=>false|_=>true
theorem xg5 (η:List Int)(s:Int):ltF 8 (FB false η s) (FB true η s)=some (!bw η s):=by
 obtain⟨k,h,_⟩:=xc7 η s
 unfold bw
 rw[h]
 cases k <;> rfl
theorem yn2 {i:ML}{src:List (Option Nat)}{ρ:Ro}{η:List Int}{s:Int}(hs:1<=s)(hl:η.length<=1000)(hi:i ρ=some [.str (wd true),.str (wd false)])(j:Y2 src ρ=[none,some (.sh (RI η)),k0c s]):W0 src i (.nm 0) cyes (V4 m_Z0 (z5 (mvar 1) (z5 (mvar 2) (z5 (mvar 0) anil)))) ρ=some [FB true η s,FB false η s]:=by
 unfold W0
 rw[hi,Option.bind_some,j]
 refine(O9 (f:=fun(b:Bool)=>D.str (wd b)) (G:=fun b=>FB b η s) (fun _ ρ=>∃ x,ρ=[x,some (.sh (RI η)),k0c s]) (by
  rintro c z ρ ⟨x,rfl⟩
  exact⟨[some (.sh (.str (wd c))),some (.sh (RI η)),k0c s],rfl,rfl,ys8 (z7 (d:=RI η) rfl (z7 (d:=.int s) rfl (z7 (d:=.str (wd c)) rfl w6))) (j7 c η s hs hl),_,rfl⟩) [true,false] _ [] ⟨none,rfl⟩ (t8 (by simp))).trans rfl
theorem xc5 (η:List Int)(s:Int):minP [FB false η s] (FB true η s)=some (FB (bw η s) η s):=by
 show (match ltF 8 (FB false η s) (FB true η s)with |some true=>minP [] (FB false η s)|some false=>minP [] (FB true η s)|none=>none)=_
 rw[xg5]
 cases bw η s <;> rfl
theorem ys0 {m:ML}{ρ:Ro}{d:D}{ds:List D}{n:Int}{es:List Int}(h:m ρ=some (d::ds))(h2:minP ds d=some (.tup [.int n,RI es])):zx3 m ρ=some (.rp (.int n) (es.map .int)):=by
 unfold zx3
 rw[h]
 dsimp only
 rw[h2]
 show (if zj8 (.int n::es.map .int)=true then some (Out.rp (.int n) (es.map .int))else none)=_
 rw[if_pos (show zj8 (.int n::es.map .int)=true from yh6 es)]
theorem M7 (η:List Int)(s:Int)(hs:1<=s)(hl:η.length<=1000):m_Z2 [RI η,.int s]=some (.pr (.int (cN s none (mirF (bw η s) η):Int)) ((NI (stG s 0 none (mirF (bw η s) η))).map .int)):=by
 unfold m_Z2 b_Z2
 exact yx9 (ys0 (yn2 hs hl rfl rfl) (xc5 η s))
end
section
open PySem L2
noncomputable def sg (b:Bool):Int:=if b then 1 else -1
noncomputable def pm (p:Nat):Int:=if p % 2=0 then 1 else -1
theorem yb0 (b:Bool)(η:List Int)(i:Nat)(hi:i<η.length):(mirF b η).getD i 0=if i % 2=lowN b then -(η.getD i 0)else η.getD i 0:=by
 rw[zu9]
 simp[getD_eq_getElem?_getD,hi]
theorem xu7 (b:Bool)(η:List Int)(p:Nat)(hp:p+1<η.length):(η.getD (p+1) 0-η.getD p 0)*sg b*pm p=(mirF b η).getD p 0+(mirF b η).getD (p+1) 0:=by
 rw[yb0 b η p (by omega),yb0 b η (p+1) hp]
 unfold sg pm
 rcases Nat.mod_two_eq_zero_or_one p with h|h
 .have h2:(p+1) % 2=1:=by omega
  rw[h,h2]
  cases b <;> simp[lowN] <;> omega
 .have h2:(p+1) % 2=0:=by omega
  rw[h,h2]
  cases b <;> simp[lowN] <;> omega
theorem zw8 (b:Bool)(η:List Int)(s:Int)(p:Nat)(hp:p+1<η.length):m_Z1 [RI η,.int s,.int (p:Int),.int (sg b)]=some (.sh (.bl (decide (s<=(mirF b η).getD p 0+(mirF b η).getD (p+1) 0)))):=by
 have i2:0+1+1<=sizeLine:=t8 (by decide)
 unfold m_Z1 b_Z1
 refine Q2 (zj9 ?_)
 have e1:mix (bvar 0) (m2 addD (mvar 2) (mc (.int 1))) (v7 4 [RI η,.int s,.int (p:Int),.int (sg b)])=some (.int (η.getD (p+1) 0)):=C3 (ds:=η.map .int) (k:=((p+1:Nat):Int)) rfl ((u9 (a:=.int (p:Int)) (b:=.int 1) rfl rfl).trans rfl) (zd8 η (p+1) hp)
 have e2:mix (bvar 0) (mvar 2) (v7 4 [RI η,.int s,.int (p:Int),.int (sg b)])=some (.int (η.getD p 0)):=C3 (ds:=η.map .int) (k:=(p:Int)) rfl rfl (zd8 η p (by omega))
 have e3:=(u9 (f:=subD) e1 e2).trans (show subD (.int (η.getD (p+1) 0)) (.int (η.getD p 0))=some (.int (η.getD (p+1) 0-η.getD p 0))from rfl)
 have z:m2 mulD (m2 subD (mix (bvar 0) (m2 addD (mvar 2) (mc (.int 1)))) (mix (bvar 0) (mvar 2))) (mvar 3) (v7 4 [RI η,.int s,.int (p:Int),.int (sg b)])=some (.int ((η.getD (p+1) 0-η.getD p 0)*sg b)):=by
  rw[u9 e3 (b:=.int (sg b)) rfl]
  show (if R1 _ (sg b)=true then some (D.int _)else none)=_
  rw[if_pos (D7 _ _ (by cases b <;> decide) (by cases b <;> decide))]
 have j:mix (l6 (z5 (mc (.int 1)) (z5 (m1 negD (mc (.int 1))) anil))) (m2 modD (mvar 2) (mc (.int 2))) (v7 4 [RI η,.int s,.int (p:Int),.int (sg b)])=some (.int (pm p)):=by
  have em:m2 modD (mvar 2) (mc (.int 2)) (v7 4 [RI η,.int s,.int (p:Int),.int (sg b)])=some (.int ((p % 2:Nat):Int)):=by
   rw[u9 (a:=.int (p:Int)) (b:=.int 2) rfl rfl]
   show (if zz5 (p:Int) 2=true then some (D.int ((p:Int) % 2))else none)=_
   rw[if_pos (X5 _ _ (by decide))]
   rfl
  refine C3 (ds:=[.int 1,.int (-1)]) (d6 (z7 rfl (z7 rfl w6)) i2) em ?_
  unfold pm
  rcases Nat.mod_two_eq_zero_or_one p with h|h
  .rw[h];rfl
  .rw[h];rfl
 have i:m2 mulD (m2 mulD (m2 subD (mix (bvar 0) (m2 addD (mvar 2) (mc (.int 1)))) (mix (bvar 0) (mvar 2))) (mvar 3)) (mix (l6 (z5 (mc (.int 1)) (z5 (m1 negD (mc (.int 1))) anil))) (m2 modD (mvar 2) (mc (.int 2)))) (v7 4 [RI η,.int s,.int (p:Int),.int (sg b)])=some (.int ((η.getD (p+1) 0-η.getD p 0)*sg b*pm p)):=by
  rw[u9 z j]
  show (if R1 _ (pm p)=true then some (D.int _)else none)=_
  rw[if_pos (D7 _ _ (by unfold pm;split <;> decide) (by unfold pm;split <;> decide))]
 rw[u9 i (b:=.int s) rfl,xu7 b η p hp]
 rfl
noncomputable def PR (ps:List (Int×Int)):List Fl:=ps.map fun q=>.l [.int q.1,.int q.2]
noncomputable def PDn (ps:List (Int×Int)):D:=.lst (ps.map fun q=>.lst [.int q.1,.int q.2])
theorem xz5 (ps:List (Int×Int))(p:Nat)(v:Int)(hp:p<ps.length):setR (p:Int) 0 (.int v) (PR ps)=some (PR (ps.set p (v,(ps.getD p (0,0)).2))):=by
 unfold setR PR
 rw[length_map,yq5 (by omega) (by omega)]
 simp only[Int.toNat_natCast]
 rw[getElem?_map,getElem?_eq_getElem hp]
 simp only[Option.map_some]
 show some (List.set _ p (Fl.l [D.int v,.int (ps[p]).2]))=_
 rw[map_set]
 simp[getD_eq_getElem?_getD,hp]
theorem yx6 (ps:List (Int×Int))(p:Nat)(v:Int)(hp:p<ps.length):setR (p:Int) 1 (.int v) (PR ps)=some (PR (ps.set p ((ps.getD p (0,0)).1,v))):=by
 unfold setR PR
 rw[length_map,yq5 (by omega) (by omega)]
 simp only[Int.toNat_natCast]
 rw[getElem?_map,getElem?_eq_getElem hp]
 simp only[Option.map_some]
 show some (List.set _ p (Fl.l [D.int (ps[p]).1,.int v]))=_
 rw[map_set]
 simp[getD_eq_getElem?_getD,hp]
theorem yu9 {ps:List (Int×Int)}{p:Nat}(hp:p<ps.length){i:ME}{ρ:Ro}(j:bvar 4 ρ=some (ps.map fun q=>.lst [.int q.1,.int q.2]))(hi:i ρ=some (.int (p:Int))):Z1 (mix (bvar 4) i) ρ=some [.int (ps.getD p (0,0)).1,.int (ps.getD p (0,0)).2]:=by
 refine zd9 (C3 j hi ?_)
 have:=zh7 (fun q:Int×Int=>D.lst [.int q.1,.int q.2]) ps (p:Int) (by omega) (by omega) (0,0)
 rw[Int.toNat_natCast]at this
 exact this
theorem yb5 {ps:List (Int×Int)}{p:Nat}(hp:p<ps.length){i:ME}{ρ:Ro}(j:bvar 4 ρ=some (ps.map fun q=>.lst [.int q.1,.int q.2]))(hi:i ρ=some (.int (p:Int))):mix (Z1 (mix (bvar 4) i)) (mc (.int 0)) ρ=some (.int (ps.getD p (0,0)).1):=C3 (yu9 hp j hi) (k:=0) rfl rfl
theorem yd8 {ps:List (Int×Int)}{p:Nat}(hp:p<ps.length){i:ME}{ρ:Ro}(j:bvar 4 ρ=some (ps.map fun q=>.lst [.int q.1,.int q.2]))(hi:i ρ=some (.int (p:Int))):mix (Z1 (mix (bvar 4) i)) (mc (.int 1)) ρ=some (.int (ps.getD p (0,0)).2):=C3 (yu9 hp j hi) (k:=1) rfl rfl
theorem zt7 {z:Type}{g:Tg}{body:MW}{f:z->D}(I:List z->Ro->Bx->Prop)(hs:∀ d ds ρ β,I (d::ds) ρ β->∃ j ρ2 i,tgD g (f d) ρ=some j/\body j β=some (.nx ρ2,i)/\I ds ρ2 i):
  ∀(ds:List z)(ρ:Ro)(β:Bx),I ds ρ β->∃ ρ' β',forW g body (ds.map f) ρ β=some (.nx ρ',β')/\I [] ρ' β'
 |[],ρ,β,h=>⟨ρ,β,rfl,h⟩
 |d::ds,ρ,β,h=>by
  obtain⟨j,ρ2,i,h1,h2,N⟩:=hs d ds ρ β h
  obtain⟨ρ',β',e,G⟩:=zt7 I hs ds ρ2 i N
  refine⟨ρ',β',?_,G⟩
  rw[map_cons,forW,h1]
  simp only
  rw[h2]
  exact e
end
section
open PySem L2
def Gd (q:Int×Int):Prop:=q.2<=q.1/\q.1<=q.2+1
noncomputable def eK (η:List Int)(s:Int)(b:Bool)(d4:D)(o5 o6 o7 o8:Option S):Ro:=[some (.sh (RI η)),k0c s,some (.sh (.int (sg b))),some (.sh (.int (η.length:Int))),some (.sh d4),o5,o6,o7,o8]
theorem PR_D (ps:List (Int×Int)):xr3 (.row (PR ps))=PDn ps:=by
 show D.lst ((PR ps).map flD)=PDn ps
 unfold PR PDn
 rw[map_map]
 rfl
theorem yd7 (η:List Int)(s:Int)(b:Bool)(x:Addr)(ps:List (Int×Int))(o5 o6 o7 o8:Option S)(G:N6 [(x,.row (PR ps))] o5=o5)(z:N6 [(x,.row (PR ps))] o6=o6)(j:N6 [(x,.row (PR ps))] o7=o7)(i:N6 [(x,.row (PR ps))] o8=o8):thaw (eK η s b (.ptr x) o5 o6 o7 o8) [(x,.row (PR ps))]=eK η s b (PDn ps) o5 o6 o7 o8:=by
 unfold thaw eK
 simp only[map_cons,map_nil,G,z,j,i]
 have:N6 [(x,Cell.row (PR ps))] (some (.sh (.ptr x)))=some (.sh (PDn ps)):=by
  unfold N6
  simp only[lookup_cons,beq_self_eq_true]
  rw[PR_D]
 rw[this]
 rfl
theorem yf1 {m:ME}{ρ:Ro}{β:Bx}{v:Int}(h:m (thaw ρ β)=some (.int v)):yz1 m ρ β=some (.int v):=by
 unfold yz1;rw[h];rfl
theorem yk2 (x:Addr)(c i:Cell):updB x i [(x,c)]=[(x,i)]:=by unfold updB;rw[if_pos rfl]
theorem zu6 {η:List Int}{s:Int}{b:Bool}{x:Addr}{ps i:List (Int×Int)}{o5 o6 o7 o8:Option S}{k1 k2:ME}{v:Ro->Bx->Option D}{d:D}{a c:Int}(j:v (eK η s b (.ptr x) o5 o6 o7 o8) [(x,.row (PR ps))]=some d)(h1:k1 (eK η s b (.ptr x) o5 o6 o7 o8)=some (.int a))(h2:k2 (eK η s b (.ptr x) o5 o6 o7 o8)=some (.int c))(z:setR a c d (PR ps)=some (PR i)):
  zp3 4 k1 k2 v (eK η s b (.ptr x) o5 o6 o7 o8) [(x,.row (PR ps))]=some (.nx (eK η s b (.ptr x) o5 o6 o7 o8),[(x,.row (PR i))]):=by
 unfold zp3
 rw[j,h1,h2]
 show (match List.lookup x [(x,Cell.row (PR ps))]with |some (.row fs)=>(setR a c d fs).map fun fs'=>((Out.nx (eK η s b (.ptr x) o5 o6 o7 o8)),updB x (.row fs') [(x,Cell.row (PR ps))])|_=>none)=_
 simp only[lookup_cons,beq_self_eq_true]
 rw[z]
 simp only[Option.map_some,yk2]
theorem seqW {x y:MW}{ρ ρ':Ro}{β β':Bx}{r:Option (Out×Bx)}(h:x ρ β=some (.nx ρ',β'))(h2:y ρ' β'=r):i9 x y ρ β=r:=by
 unfold i9;rw[h];exact h2
theorem V2 {m:MS}{ρ ρ':Ro}{β:Bx}(h:m ρ=some (.nx ρ')):wS m ρ β=some (.nx ρ',β):=by unfold wS;rw[h]
theorem zt6 (ps:List (Int×Int))(p q:Nat)(v:Int×Int)(hp:p<ps.length):(ps.set p v).getD q (0,0)=if q=p then v else ps.getD q (0,0):=by
 simp only[getD_eq_getElem?_getD,getElem?_set]
 by_cases h:p=q
 .subst h;simp[hp]
 .rw[if_neg h,if_neg (Ne.symm h)]
theorem xj4 {η:List Int}{s:Int}{b:Bool}{x:Addr}{ps:List (Int×Int)}{o5 o6 o7 o8:Option S}{k1:ME}{q:Nat}(i:q<ps.length)(j:k1 (eK η s b (.ptr x) o5 o6 o7 o8)=some (.int (q:Int))):mixR 4 k1 (mc (.int 0)) (eK η s b (.ptr x) o5 o6 o7 o8) [(x,.row (PR ps))]=some (.int (ps.getD q (0,0)).1):=by
 unfold mixR
 have G:(eK η s b (.ptr x) o5 o6 o7 o8)[4]? =some (some (.sh (.ptr x))):=rfl
 have h1:mc (.int 0) (eK η s b (.ptr x) o5 o6 o7 o8)=some (.int 0):=rfl
 have hl:(PR ps).length=ps.length:=by unfold PR;exact length_map ..
 have z:(PR ps)[q]? =some (.l [.int (ps.getD q (0,0)).1,.int (ps.getD q (0,0)).2]):=by
  unfold PR
  rw[getElem?_map,getElem?_eq_getElem i,getD_eq_getElem?_getD,getElem?_eq_getElem i]
  rfl
 simp only[G,h1,j,lookup_cons,beq_self_eq_true,hl]
 rw[xt6 _ q i]
 simp only[z]
 rfl
theorem yn5 (η:List Int)(s:Int)(b:Bool)(x:Addr)(ps:List (Int×Int))(p:Nat)(hp:p<η.length)(hl:ps.length=η.length+1)(hg:∀ q,p<q->q<=η.length->Gd (ps.getD q (0,0))):
  ∃ i,i.length=η.length+1/\(∀ q,p<=q->q<=η.length->Gd (i.getD q (0,0)))/\Y0 (eK η s b (.ptr x) (k0b p) none none none) [(x,.row (PR ps))]=some (.nx (eK η s b (.ptr x) (k0b p) none none none),[(x,.row (PR i))]):=by
 have th:∀ ps:List (Int×Int),thaw (eK η s b (.ptr x) (k0b p) none none none) [(x,.row (PR ps))]=eK η s b (PDn ps) (k0b p) none none none:=fun ps=>yd7 η s b x ps _ _ _ _ rfl rfl rfl rfl
 have bv:∀ ps:List (Int×Int),bvar 4 (eK η s b (PDn ps) (k0b p) none none none)=some (ps.map fun q=>.lst [.int q.1,.int q.2]):=fun _=>rfl
 have Y:∀ d4,mvar 5 (eK η s b d4 (k0b p) none none none)=some (.int (p:Int)):=fun _=>rfl
 have iq:∀ d4,m2 addD (mvar 5) (mc (.int 1)) (eK η s b d4 (k0b p) none none none)=some (.int ((p+1:Nat):Int)):=fun _=>(u9 (a:=.int (p:Int)) (b:=.int 1) rfl rfl).trans rfl
 obtain⟨g1,g2⟩:=hg (p+1) (by omega) (by omega)
 generalize hA:(ps.getD (p+1) (0,0)).1=A at g1 g2
 generalize hB:(ps.getD (p+1) (0,0)).2=C at g1 g2
 have e1:yz1 (i5 za8 (z5 (m2 addD (mc (.int 1)) (mix (Z1 (mix (bvar 4) (m2 addD (mvar 5) (mc (.int 1))))) (mc (.int 1)))) (z5 (mix (Z1 (mix (bvar 4) (m2 addD (mvar 5) (mc (.int 1))))) (mc (.int 0))) anil))) (eK η s b (.ptr x) (k0b p) none none none) [(x,.row (PR ps))]=some (.int (1+C)):=by
  refine yf1 ?_
  rw[th ps]
  have a1:=yd8 (by omega) (bv ps) (iq (PDn ps))
  have G:=yb5 (by omega) (bv ps) (iq (PDn ps))
  rw[hB]at a1
  rw[hA]at G
  unfold i5
  rw[z7 ((u9 (a:=.int 1) rfl a1).trans (show addD (.int 1) (.int C)=some (.int (1+C))from rfl)) (z7 G w6)]
  show some (D.int (if A>1+C then A else 1+C))=_
  rw[if_neg (by omega)]
 have s1:=zu6 (o6:=none) (o7:=none) (o8:=none) (k1:=mvar 5) (k2:=mc (.int 0)) e1 (Y _) (c:=0) rfl (xz5 ps p (1+C) (by omega))
 generalize U:ps.set p (1+C,(ps.getD p (0,0)).2)=ps1 at s1
 have l1:ps1.length=η.length+1:=by rw[<-U,length_set,hl]
 have d1:∀ q,ps1.getD q (0,0)=if q=p then (1+C,(ps.getD p (0,0)).2)else ps.getD q (0,0):=fun q=>by rw[<-U];exact zt6 ps p q _ (by omega)
 have e2:mixR 4 (m2 addD (mvar 5) (mc (.int 1))) (mc (.int 0)) (eK η s b (.ptr x) (k0b p) none none none) [(x,.row (PR ps1))]=some (.int A):=by
  have G:=xj4 (ps:=ps1) (q:=p+1) (by omega) (iq (.ptr x))
  rw[d1,if_neg (by omega),hA]at G
  exact G
 have s2:=zu6 (o6:=none) (o7:=none) (o8:=none) (k1:=mvar 5) (k2:=mc (.int 1)) e2 (Y _) (c:=1) rfl (yx6 ps1 p A (by omega))
 rw[d1 p,if_pos rfl]at s2
 generalize R:ps1.set p (1+C,A)=ps2 at s2
 have l2:ps2.length=η.length+1:=by rw[<-R,length_set,l1]
 have d2:∀ q,ps2.getD q (0,0)=if q=p then (1+C,A)else ps.getD q (0,0):=fun q=>by
  rw[<-R,zt6 ps1 p q _ (by omega),d1]
  split <;> rfl
 have j:∀ q,p<=q->q<=η.length->Gd (ps2.getD q (0,0)):=fun q h1 h2=>by
  rw[d2]
  split
  .exact⟨by show A<=1+C;omega,by show 1+C<=A+1;omega⟩
  .exact hg q (by omega) h2
 have e3:mixR 4 (mvar 5) (mc (.int 0)) (eK η s b (.ptr x) (k0b p) none none none) [(x,.row (PR ps2))]=some (.int (1+C)):=by
  have G:=xj4 (ps:=ps2) (q:=p) (by omega) (Y (.ptr x))
  rw[d2,if_pos rfl]at G
  exact G
 have s3:=zu6 (o6:=none) (o7:=none) (o8:=none) (k1:=mvar 5) (k2:=mc (.int 1)) e3 (Y _) (c:=1) rfl (yx6 ps2 p (1+C) (by omega))
 rw[d2 p,if_pos rfl]at s3
 generalize O:ps2.set p (1+C,1+C)=ps3 at s3
 have l3:ps3.length=η.length+1:=by rw[<-O,length_set,l2]
 have I:∀ q,p<=q->q<=η.length->Gd (ps3.getD q (0,0)):=fun q h1 h2=>by
  rw[<-O,zt6 ps2 p q _ (by omega)]
  split
  .exact⟨by show 1+C<=1+C;omega,by show 1+C<=1+C+1;omega⟩
  .exact j q h1 h2
 have Z:∃ t,cor (v0 (m2 eqSD (mvar 5) (mc (.int 0)))) (mtru (l7 m_Z1 (z5 (mvar 0) (z5 (mvar 1) (z5 (m2 subD (mvar 5) (mc (.int 1))) (z5 (mvar 2) anil)))))) (eK η s b (.ptr x) (k0b p) none none none)=some t:=by
  have t1:v0 (m2 eqSD (mvar 5) (mc (.int 0))) (eK η s b (.ptr x) (k0b p) none none none)=some ((p:Int)==0):=by
   unfold v0;rw[u9 (a:=.int (p:Int)) (b:=.int 0) rfl rfl];rfl
  cases hz:((p:Int)==0)with
  |true=>exact⟨true,by unfold cor;rw[t1,hz]⟩
  |false=>
   have hpos:1<=p:=by
    rcases Nat.eq_zero_or_pos p with z|z
    .subst z;simp at hz
    .exact z
   refine⟨decide (s<=(mirF b η).getD (p-1) 0+(mirF b η).getD (p-1+1) 0),?_⟩
   .unfold cor
    rw[t1,hz]
    show mtru _ _=_
    unfold mtru
    rw[b9 (z7 (d:=RI η) rfl (z7 (d:=.int s) rfl (z7 (d:=.int ((p-1:Nat):Int)) ((u9 (a:=.int (p:Int)) (b:=.int 1) rfl rfl).trans (by show some (D.int ((p:Int)-1))=_;rw[show (p:Int)-1=((p-1:Nat):Int)by omega])) (z7 (d:=.int (sg b)) rfl w6)))) (zw8 b η s (p-1) (by omega))]
    rfl
 obtain⟨t,Z⟩:=Z
 have N:∃ i,i.length=η.length+1/\(∀ q,p<=q->q<=η.length->Gd (i.getD q (0,0)))/\mifW (wE (cor (v0 (m2 eqSD (mvar 5) (mc (.int 0)))) (mtru (l7 m_Z1 (z5 (mvar 0) (z5 (mvar 1) (z5 (m2 subD (mvar 5) (mc (.int 1))) (z5 (mvar 2) anil)))))))) (zp3 4 (mvar 5) (mc (.int 1)) (mixR 4 (mvar 5) (mc (.int 0)))) (wS n9) (eK η s b (.ptr x) (k0b p) none none none) [(x,.row (PR ps2))]=some (.nx (eK η s b (.ptr x) (k0b p) none none none),[(x,.row (PR i))]):=by
  cases t with
  |true=>exact⟨ps3,l3,I,by unfold mifW wE;rw[Z];exact s3⟩
  |false=>exact⟨ps2,l2,j,by unfold mifW wE;rw[Z];rfl⟩
 obtain⟨i,h1,h2,h3⟩:=N
 refine⟨i,h1,h2,?_⟩
 unfold Y0
 exact seqW s1 (seqW s2 h3)
theorem zn0 (n:Nat):∀(is:List Int)(o:Option S)(acc:List (List D)),acc.length+is.length<=1000->zy0 (.nm 0) (l6 (z5 (mc (.int 0)) (z5 (mc (.int 0)) anil))) (is.map .int) [o] acc=some (acc++List.replicate is.length [.int 0,.int 0])
 |[],o,acc,_=>by simp[zy0]
 |i::is,o,acc,h=>by
  have i2:0+1+1<=sizeLine:=t8 (by decide)
  have j:=c7
  rw[map_cons,zy0]
  have e1:tgD (.nm 0) (.int i) [o]=some [k0c i]:=rfl
  rw[e1]
  simp only
  rw[d6 (z7 (d:=.int 0) rfl (z7 (d:=.int 0) rfl w6)) i2]
  simp only
  rw[if_pos (by simp at h;omega),zn0 n is _ _ (by simp at h ⊢;omega)]
  simp[replicate_succ]
end
section
open PySem L2
theorem ye5 (a b:Int):eqFD false (.lst [.int a]) (.lst [.int b])=some (.bl (a==b)):=by
 unfold eqFD eqF
 simp only[length_cons,length_nil,if_true,zipE]
 unfold eqF
 simp[eqS]
theorem yp7 (b:Int):eqFD false (.lst []) (.lst [.int b])=some (.bl false):=by
 unfold eqFD eqF
 simp
noncomputable def eF (η:List Int)(s:Int)(b:Bool)(d4:D)(o5:Option S)(A:List Nat)(o7 o8:Option S):Ro:=eK η s b d4 o5 (some (.own ((NI A).map .int))) o7 o8
theorem ze9 (η:List Int)(s:Int)(b:Bool)(x:Addr)(ps:List (Int×Int))(i:Nat)(hi:i<η.length)(hn:η.length<=900)(hl:ps.length=η.length+1)(U:Gd (ps.getD (i+1) (0,0)))(A:List Nat)(hA:A.length<=i)(j free:Bool)(o7 o8:Option S)
  (h1:(match cutI (NI A) (some (-1)) none with |[l]=>j=(l==(i:Int)-1)|[]=>j=false|_=>False)) (h2:j=false->free=true) (Y:j=true->1<=i/\free=decide (s<=(mirF b η).getD (i-1) 0+(mirF b η).getD i 0)):
  ∃ G z,Z9 (eF η s b (.ptr x) (k0b i) A o7 o8) [(x,.row (PR ps))]=some (.nx (eF η s b (.ptr x) (k0b i) (if free then A++[i]else A) G z),[(x,.row (PR ps))]):=by
 have a3:=c7
 have i1:0+1<=sizeLine:=t8 (by decide)
 have e1:l6 (z5 (m2 subD (mvar 5) (mc (.int 1))) anil) (eF η s b (.ptr x) (k0b i) A o7 o8)=some [.int ((i:Int)-1)]:=d6 (z7 ((u9 (a:=.int (i:Int)) (b:=.int 1) rfl rfl).trans rfl) w6) i1
 have ec:mcut (bvar 6) (j4 (m1 negD (mc (.int 1)))) W3 (eF η s b (.ptr x) (k0b i) A o7 o8)=some ((cutI (NI A) (some (-1)) none).map .int):=by
  unfold eF eK
  simp_arith [zt8]
 have e2:meqB false (mcut (bvar 6) (j4 (m1 negD (mc (.int 1)))) W3) (l6 (z5 (m2 subD (mvar 5) (mc (.int 1))) anil)) (eF η s b (.ptr x) (k0b i) A o7 o8)=some (.bl j):=by
  unfold meqB
  rw[ec,e1]
  show eqFD false (.lst ((cutI (NI A) (some (-1)) none).map .int)) (.lst [.int ((i:Int)-1)])=_
  split at h1
  .rename_i l hc
   rw[hc,map_cons,map_nil,ye5,h1]
  .rename_i hc
   rw[hc,map_nil,yp7,h1]
  .exact h1.elim
 have s1:wS (mset 7 (i5 intF (z5 (meqB false (mcut (bvar 6) (j4 (m1 negD (mc (.int 1)))) W3) (l6 (z5 (m2 subD (mvar 5) (mc (.int 1))) anil))) anil))) (eF η s b (.ptr x) (k0b i) A o7 o8) [(x,.row (PR ps))]=some (.nx (eF η s b (.ptr x) (k0b i) A (some (.sh (.int (if j then 1 else 0)))) o8),[(x,.row (PR ps))]):=by
  refine V2 ((j5 (d:=.int (if j then 1 else 0)) ?_).trans rfl)
  unfold i5
  rw[z7 e2 w6]
  rfl
 have e3:mor (m2 eqSD (mvar 7) (mc (.int 0))) (l7 m_Z1 (z5 (mvar 0) (z5 (mvar 1) (z5 (m2 subD (mvar 5) (mc (.int 1))) (z5 (mvar 2) anil))))) (eF η s b (.ptr x) (k0b i) A (some (.sh (.int (if j then 1 else 0)))) o8)=some (.bl free):=by
  have t:m2 eqSD (mvar 7) (mc (.int 0)) (eF η s b (.ptr x) (k0b i) A (some (.sh (.int (if j then 1 else 0)))) o8)=some (.bl (!j)):=by
   rw[u9 (a:=.int (if j then 1 else 0)) (b:=.int 0) rfl rfl]
   cases j <;> rfl
  unfold mor
  rw[t]
  cases hb:j with
  |false=>rw[h2 hb];rfl
  |true=>
   obtain⟨Z,N⟩:=Y hb
   show l7 _ _ _=_
   rw[N,b9 (z7 (d:=RI η) rfl (z7 (d:=.int s) rfl (z7 (d:=.int ((i-1:Nat):Int)) ((u9 (a:=.int (i:Int)) (b:=.int 1) rfl rfl).trans (by show some (D.int ((i:Int)-1))=_;rw[show (i:Int)-1=((i-1:Nat):Int)by omega])) (z7 (d:=.int (sg b)) rfl w6)))) (zw8 b η s (i-1) (by omega)),show i-1+1=i by omega]
 have s2:wS (mset 8 (mor (m2 eqSD (mvar 7) (mc (.int 0))) (l7 m_Z1 (z5 (mvar 0) (z5 (mvar 1) (z5 (m2 subD (mvar 5) (mc (.int 1))) (z5 (mvar 2) anil))))))) (eF η s b (.ptr x) (k0b i) A (some (.sh (.int (if j then 1 else 0)))) o8) [(x,.row (PR ps))]=some (.nx (eF η s b (.ptr x) (k0b i) A (some (.sh (.int (if j then 1 else 0)))) (some (.sh (.bl free)))),[(x,.row (PR ps))]):=V2 ((j5 e3).trans rfl)
 refine⟨some (.sh (.int (if j then 1 else 0))),some (.sh (.bl free)),?_⟩
 unfold Z9
 refine seqW s1 (seqW s2 ?_)
 have th:thaw (eF η s b (.ptr x) (k0b i) A (some (.sh (.int (if j then 1 else 0)))) (some (.sh (.bl free)))) [(x,.row (PR ps))]=eF η s b (PDn ps) (k0b i) A (some (.sh (.int (if j then 1 else 0)))) (some (.sh (.bl free))):=yd7 η s b x ps _ _ _ _ rfl rfl rfl rfl
 have I:m2 addD (mvar 5) (mc (.int 1)) (eF η s b (PDn ps) (k0b i) A (some (.sh (.int (if j then 1 else 0)))) (some (.sh (.bl free))))=some (.int ((i+1:Nat):Int)):=(u9 (a:=.int (i:Int)) (b:=.int 1) rfl rfl).trans rfl
 have O:bvar 4 (eF η s b (PDn ps) (k0b i) A (some (.sh (.int (if j then 1 else 0)))) (some (.sh (.bl free))))=some (ps.map fun q=>.lst [.int q.1,.int q.2]):=rfl
 have a1:=yd8 (by omega) O I
 have a2:=yb5 (by omega) O I
 have et:yf2 (cand (mtru (mvar 8)) (v0 (m2 geD (m2 addD (mc (.int 1)) (mix (Z1 (mix (bvar 4) (m2 addD (mvar 5) (mc (.int 1))))) (mc (.int 1)))) (mix (Z1 (mix (bvar 4) (m2 addD (mvar 5) (mc (.int 1))))) (mc (.int 0)))))) (eF η s b (.ptr x) (k0b i) A (some (.sh (.int (if j then 1 else 0)))) (some (.sh (.bl free)))) [(x,.row (PR ps))]=some free:=by
  unfold yf2
  rw[th]
  have t2:v0 (m2 geD (m2 addD (mc (.int 1)) (mix (Z1 (mix (bvar 4) (m2 addD (mvar 5) (mc (.int 1))))) (mc (.int 1)))) (mix (Z1 (mix (bvar 4) (m2 addD (mvar 5) (mc (.int 1))))) (mc (.int 0)))) (eF η s b (PDn ps) (k0b i) A (some (.sh (.int (if j then 1 else 0)))) (some (.sh (.bl free))))=some true:=by
   unfold v0
   rw[u9 ((u9 (a:=.int 1) rfl a1).trans (show addD (.int 1) (.int _)=some (.int (1+_))from rfl)) a2]
   obtain⟨Z,N⟩:=U
   show some (decide ((ps.getD (i+1) (0,0)).1<=1+(ps.getD (i+1) (0,0)).2))=_
   rw[decide_eq_true (by omega)]
  have t1:mtru (mvar 8) (eF η s b (PDn ps) (k0b i) A (some (.sh (.int (if j then 1 else 0)))) (some (.sh (.bl free))))=some free:=rfl
  rw[zh5 t1 t2,Bool.and_true]
 unfold mifW
 rw[et]
 cases hf:free with
 |false=>rfl
 |true=>
  refine V2 ?_
  have R:(NI A).length<sizeLine:=by unfold NI;rw[length_map];omega
  show mapp 6 (mvar 5) _=_
  simp only[if_true]
  unfold eF eK
  rw[L5]
  simp_arith [length_map,R,if_true,map_append]
end
section
open PySem L2
theorem yw0 (n:Nat)(h:n<=900):rng3 [.int ((n:Int)-1),.int (-1),.int (-1)]=some (yz5 n):=by
 unfold rng3
 dsimp only
 rw[if_pos ⟨by omega,by omega,rfl,rfl⟩,show (((n:Int)-1)+1).toNat=n by omega]
noncomputable def L1:=Q9 (i7 rng3 (z5 (m2 subD (mvar 3) (mc (.int 1))) (z5 (m1 negD (mc (.int 1))) (z5 (m1 negD (mc (.int 1))) anil)))) (.nm 5) Y0
theorem yq2 (η:List Int)(s:Int)(b:Bool)(hn:η.length<=900)(x:Addr):∃ ps o5,ps.length=η.length+1/\(∀ q,q<=η.length->Gd (ps.getD q (0,0)))/\L1 (eK η s b (.ptr x) none none none none) [(x,.row (PR (List.replicate (η.length+1) (0,0))))]=some (.nx (eK η s b (.ptr x) o5 none none none),[(x,.row (PR ps))]):=by
 have Y:=zt7 (g:=.nm 5) (body:=Y0) (f:=fun(t:Nat)=>D.int ((η.length:Int)-1-(t:Int))) (fun ds ρ β=>∃ k ps o5,ds=List.range' k (η.length-k)/\k<=η.length/\ρ=eK η s b (.ptr x) o5 none none none/\β=[(x,.row (PR ps))]/\ps.length=η.length+1/\∀ q,η.length-k<=q->q<=η.length->Gd (ps.getD q (0,0)))
  (by
   rintro d ds ρ β ⟨k,ps,o5,e,U,rfl,rfl,hl,G⟩
   have j:k<η.length:=by
    rcases Nat.lt_or_ge k η.length with z|z
    .exact z
    .rw[show η.length-k=0 by omega]at e;cases e
   rw[Z2 k η.length j]at e
   obtain⟨e1,e2⟩:=List.cons.inj e
   subst e1
   obtain⟨i,l',g',Z⟩:=yn5 η s b x ps (η.length-1-d) (by omega) hl (fun q h1 h2=>G q (by omega) h2)
   refine⟨_,_,_,?_,Z,d+1,i,_,e2,by omega,rfl,rfl,l',fun q h1 h2=>g' q (by omega) h2⟩
   show some (eK η s b (.ptr x) (some (.sh (.int ((η.length:Int)-1-(d:Int))))) none none none)=_
   rw[show (η.length:Int)-1-(d:Int)=((η.length-1-d:Nat):Int)by omega]) (List.range η.length) (eK η s b (.ptr x) none none none none) [(x,.row (PR (List.replicate (η.length+1) (0,0))))]
  ⟨0,_,none,by rw[range_eq_range'];rfl,by omega,rfl,rfl,by simp,fun q h1 h2=>by
   have:(List.replicate (η.length+1) ((0:Int),(0:Int))).getD q (0,0)=(0,0):=by
    simp only[getD_eq_getElem?_getD,getElem?_replicate]
    split <;> rfl
   rw[this];exact⟨by decide,by decide⟩⟩
 obtain⟨N,O,e1,k,ps,o5,I,U,rfl,rfl,hl,G⟩:=Y
 have R:k=η.length:=by
  rcases Nat.lt_or_ge k η.length with z|z
  .rw[Z2 k η.length z]at I;cases I
  .omega
 refine⟨ps,o5,hl,fun q h=>G q (by omega) h,?_⟩
 unfold L1 Q9 i7
 rw[z7 ((u9 (a:=.int (η.length:Int)) (b:=.int 1) rfl rfl).trans rfl) (z7 (d:=.int (-1)) rfl (z7 (d:=.int (-1)) rfl w6)),Option.bind_some]
 rw[yw0 _ hn,Option.bind_some]
 exact e1
noncomputable def L2f:=Q9 (i7 rng1 (z5 (mvar 3) anil)) (.nm 5) Z9
theorem yf6 (η:List Int)(s:Int)(b:Bool)(hn:η.length<=900)(x:Addr)(ps:List (Int×Int))(o5:Option S)(hl:ps.length=η.length+1)(hg:∀ q,q<=η.length->Gd (ps.getD q (0,0)))(h:List Int)(hh:mirF b η=h)(hm:h.length=η.length):∃ Y U R,L2f (eF η s b (.ptr x) o5 [] none none) [(x,.row (PR ps))]=some (.nx (eF η s b (.ptr x) Y (stG s 0 none h) U R),[(x,.row (PR ps))]):=by
 have f2:=zt7 (g:=.nm 5) (body:=Z9) (f:=fun(i:Nat)=>D.int (i:Int)) (fun ds ρ β=>∃ i A o o5 o7 o8,ds=List.range' i (η.length-i)/\i<=η.length/\ρ=eF η s b (.ptr x) o5 A o7 o8/\β=[(x,.row (PR ps))]/\A++stG s i o (h.drop i)=stG s 0 none h/\A.length<=i/\((o=none/\xf7 i A)\/(∃ I j,A=I++[j]/\j+1=i/\o=some (h.getD j 0))))
  (by
   rintro d ds ρ β ⟨i,A,o,o5,o7,o8,e,hk,rfl,rfl,G,hA,ho⟩
   have N:i<η.length:=by
    rcases Nat.lt_or_ge i η.length with z|z
    .exact z
    .rw[show η.length-i=0 by omega]at e;cases e
   rw[Z2 i η.length N]at e
   obtain⟨e1,e2⟩:=List.cons.inj e
   subst e1
   have O:=hg (d+1) (by omega)
   rw[W2 h d (by omega)]at G
   rcases ho with⟨rfl,hL⟩|⟨I,j,rfl,hj,rfl⟩
   .obtain⟨o7',o8',eb⟩:=ze9 η s b x ps d N hn hl O A hA false true o7 o8 (by
     rcases hL with rfl|⟨I,l,rfl,a2⟩
     .rw[show NI []=[]from rfl,zo9]
     .rw[L5,G2]
      show false=_
      symm
      simp
      omega) (fun _=>rfl) (fun z=>by cases z)
    refine⟨_,_,_,rfl,eb,d+1,A++[d],some (h.getD d 0),_,_,_,e2,by omega,rfl,rfl,by rw[<-G,append_assoc];rfl,by simp;omega,.inr ⟨A,d,rfl,rfl,rfl⟩⟩
   .obtain⟨o7',o8',eb⟩:=ze9 η s b x ps d N hn hl O (I++[j]) hA true (decide (s<=h.getD j 0+h.getD d 0)) o7 o8 (by
     rw[L5,G2]
     show true=_
     symm
     simp
     omega) (fun z=>by cases z) (fun _=>⟨by omega,by rw[hh,show d-1=j by omega]⟩)
    simp only[stG]at G
    by_cases q:s<=h.getD j 0+h.getD d 0
    .rw[if_pos q]at G
     rw[decide_eq_true q]at eb
     exact⟨_,_,_,rfl,eb,d+1,(I++[j])++[d],some (h.getD d 0),_,_,_,e2,by omega,rfl,rfl,by rw[<-G,append_assoc (I++[j])];rfl,by simp at hA ⊢;omega,.inr ⟨_,d,rfl,rfl,rfl⟩⟩
    .rw[if_neg q]at G
     rw[decide_eq_false q]at eb
     exact⟨_,_,_,rfl,eb,d+1,I++[j],none,_,_,_,e2,by omega,rfl,rfl,G,by omega,.inl ⟨rfl,.inr ⟨I,j,rfl,by omega⟩⟩⟩) (List.range η.length) (eF η s b (.ptr x) o5 [] none none) [(x,.row (PR ps))]
  ⟨0,[],none,o5,none,none,by rw[range_eq_range'];rfl,by omega,rfl,rfl,rfl,Nat.le_refl _,.inl ⟨rfl,.inl rfl⟩⟩
 obtain⟨ρ2,a1,e2,i,A,o,Y,U,R,ei,hi,rfl,rfl,G,_,_⟩:=f2
 have Z:i=η.length:=by
  rcases Nat.lt_or_ge i η.length with z|z
  .rw[Z2 i η.length z]at ei;cases ei
  .omega
 subst Z
 rw[<-hm,drop_length]at G
 have:stG s h.length o []=[]:=by cases o <;> rfl
 rw[this,append_nil]at G
 rw[<-G]
 refine⟨Y,U,R,?_⟩
 unfold L2f Q9 i7
 rw[z7 (d:=.int (η.length:Int)) rfl w6,Option.bind_some,Q3 (zx2 (by omega) (by omega)),Option.bind_some,Int.toNat_natCast,X7,map_map]
 exact e2
end
section
open PySem L2
theorem yr9 (η:List Int)(s:Int)(b:Bool)(hn:η.length<=900)(x:Addr):∃ β,Z8 (eK η s b (.ptr x) none none none none) [(x,.row (PR (List.replicate (η.length+1) (0,0))))]=some (.rf ((NI (stG s 0 none (mirF b η))).map .int),β):=by
 have z:0<=sizeLine:=Nat.zero_le _
 obtain⟨ps,o5,hl,G,j⟩:=yq2 η s b hn x
 obtain⟨O,N,I,i⟩:=yf6 η s b hn x ps o5 hl G _ rfl (X6 b η)
 generalize stG s 0 none (mirF b η)=A at*
 refine⟨[(x,.row (PR ps))],?_⟩
 unfold Z8 N1 N2
 refine seqW j (seqW (ρ':=eF η s b (.ptr x) o5 [] none none) (V2 ?_) (seqW i ?_))
 .unfold eF eK
  simp_arith [z,if_true]
  rfl
 .rfl
theorem yq0 (η:List Int)(s:Int)(b:Bool)(hn:η.length<=900):L8 [none] (i7 rng1 (z5 (m2 addD (mvar 3) (mc (.int 1))) anil)) (.nm 0) (l6 (z5 (mc (.int 0)) (z5 (mc (.int 0)) anil))) [some (.sh (RI η)),k0c s,some (.sh (.int (sg b))),some (.sh (.int (η.length:Int))),none,none,none,none,none]=some (List.replicate (η.length+1) [.int 0,.int 0]):=by
 have i:=c7
 unfold L8 i7
 rw[z7 (d:=.int ((η.length+1:Nat):Int)) ((u9 (a:=.int (η.length:Int)) (b:=.int 1) rfl rfl).trans rfl) w6,Option.bind_some,Q3 (zx2 (by omega) (by omega)),Option.bind_some,Int.toNat_natCast,X7]
 show zy0 (.nm 0) _ _ [none] []=_
 rw[zn0 0 _ none [] (by simp;omega)]
 simp
theorem xt4 (η:List Int)(s:Int)(b:Bool):wS (mset 3 (mlen (bvar 0))) (v7 9 [RI η,.int s,.int (sg b)]) []=some (.nx [some (.sh (RI η)),k0c s,some (.sh (.int (sg b))),some (.sh (.int (η.length:Int))),none,none,none,none,none],[]):=V2 ((j5 (d:=.int (η.length:Int)) (by rw[T8 (show bvar 0 _=some (η.map .int)from rfl),length_map])).trans rfl)
theorem xt3 (η:List Int)(s:Int)(b:Bool)(hn:η.length<=900):ys1 4 (L8 [none] (i7 rng1 (z5 (m2 addD (mvar 3) (mc (.int 1))) anil)) (.nm 0) (l6 (z5 (mc (.int 0)) (z5 (mc (.int 0)) anil)))) Z8 [some (.sh (RI η)),k0c s,some (.sh (.int (sg b))),some (.sh (.int (η.length:Int))),none,none,none,none,none] []=some (.rf ((NI (stG s 0 none (mirF b η))).map .int),[]):=by
 unfold ys1
 rw[yq0 η s b hn,Option.bind_some]
 refine xr9 fun x _=>?_
 obtain⟨β,i⟩:=yr9 η s b hn x
 have:(List.replicate (η.length+1) [D.int 0,D.int 0]).map Fl.l=PR (List.replicate (η.length+1) (0,0)):=by unfold PR;simp
 rw[this]
 show (Z8 (eK η s b (.ptr x) none none none none) _).map _=_
 rw[i]
 show some (L2.letGo 4 0 (Out.rf _,β))=_
 unfold L2.letGo
 simp
theorem yv1 {m:MW}{n:Nat}{ds es:List D}{β:Bx}(e:m (v7 n ds) []=some (.rf es,β)):plainW (runW n m) ds=some (.fr es):=by
 unfold plainW runW
 rw[e]
theorem xt2 (η:List Int)(s:Int)(b:Bool)(hn:η.length<=900):b_law_kept (v7 9 [RI η,.int s,.int (sg b)]) []=some (.rf ((NI (stG s 0 none (mirF b η))).map .int),[]):=by
 unfold b_law_kept
 exact seqW (xt4 η s b) (xt3 η s b hn)
theorem xt1 (η:List Int)(s:Int)(b:Bool)(hn:η.length<=900):V5 [RI η,.int s,.int (sg b)]=some (.fr ((NI (stG s 0 none (mirF b η))).map .int)):=by
 unfold V5
 exact yv1 (xt2 η s b hn)
end
section
open PySem L2
variable {s:Int}
noncomputable def VL (s:Int):Nat->Option Int->List Int->List Nat->Prop
 |_,_,[],K=>K=[]
 |k,o,a::r,K=>(∃ K',K=k::K'/\(∀ g,o=some g->s<=g+a)/\VL s (k+1) (some a) r K')\/VL s (k+1) none r K
theorem yd4:∀(h:List Int)(k:Nat)(o:Option Int)(K:List Nat),VL s k o h K->∀ x∈K,k<=x
 |[],k,o,K,v,x,i=>by rw[show K=[]from v]at i;cases i
 |a::r,k,o,K,v,x,i=>by
  rcases v with⟨j,rfl,_,v⟩|v
  .rcases List.mem_cons.mp i with rfl|i
   .exact Nat.le_refl _
   .have:=yd4 r (k+1) _ j v x i;omega
  .have:=yd4 r (k+1) _ K v x i;omega
theorem zm6:∀(h:List Int)(k:Nat)(o:Option Int)(K:List Nat),VL s k o h K->K.length<=(stG s k o h).length
 |[],k,o,K,v=>by rw[show K=[]from v];exact Nat.zero_le _
 |a::r,k,o,K,v=>by
  have i:∀ K,VL s (k+1) none r K->K.length<=(stG s (k+1) (some a) r).length+1:=fun K v=>by
   have h1:=zm6 r (k+1) none K v
   have h2:=V9 (s:=s) (k+1) none r
   have G:=V9 (s:=s) (k+1) (some a) r
   have z:=(yn1 (s:=s) r a).2
   omega
  cases o with
  |none=>
   simp only[stG,length_cons]
   rcases v with⟨j,rfl,_,v⟩|v
   .have:=zm6 r (k+1) _ j v;simp only[length_cons];omega
   .exact i K v
  |some g=>
   simp only[stG]
   by_cases q:s<=g+a
   .rw[if_pos q,length_cons]
    rcases v with⟨j,rfl,_,v⟩|v
    .have:=zm6 r (k+1) _ j v;simp only[length_cons];omega
    .exact i K v
   .rw[if_neg q]
    rcases v with⟨j,rfl,h,v⟩|v
    .exact absurd (h g rfl) q
    .exact zm6 r (k+1) _ K v
theorem ze2 {k:Nat}{K G:List Nat}(h:∀ x∈K,k+1<=x)(hl:K.length=(k::G).length):lx K (k::G)=false:=by
 cases K with
 |nil=>cases hl
 |cons x K=>
  have:=h x (by simp)
  unfold lx
  rw[decide_eq_false (by omega),beq_eq_false_iff_ne.mpr (by omega)]
  rfl
theorem yr3 (k:Nat)(K G:List Nat):lx (k::K) (k::G)=lx K G:=by
 conv=>lhs;unfold lx
 simp
theorem yd3:∀(h:List Int)(k:Nat)(o:Option Int)(K:List Nat),VL s k o h K->K.length=(stG s k o h).length->lx K (stG s k o h)=false
 |[],k,o,K,v,_=>by
  rw[show K=[]from v]
  cases o <;> rfl
 |a::r,k,o,K,v,hl=>by
  cases o with
  |none=>
   simp only[stG]at hl ⊢
   rcases v with⟨i,rfl,_,v⟩|v
   .rw[yr3];exact yd3 r (k+1) _ i v (by simpa using hl)
   .exact ze2 (yd4 r (k+1) none K v) hl
  |some g=>
   simp only[stG]at hl ⊢
   by_cases q:s<=g+a
   .rw[if_pos q]at hl ⊢
    rcases v with⟨i,rfl,_,v⟩|v
    .rw[yr3];exact yd3 r (k+1) _ i v (by simpa using hl)
    .exact ze2 (yd4 r (k+1) none K v) hl
   .rw[if_neg q]at hl ⊢
    rcases v with⟨i,rfl,h,v⟩|v
    .exact absurd (h g rfl) q
    .exact yd3 r (k+1) _ K v hl
theorem xq4 {h:List Int}{K:List Nat}(v:VL s 0 none h K):U4 K (stG s 0 none h)=false:=by
 have h1:=zm6 h 0 none K v
 unfold U4
 rw[decide_eq_false (by omega)]
 by_cases q:K.length=(stG s 0 none h).length
 .rw[yd3 h 0 none K v q];simp
 .rw[beq_eq_false_iff_ne.mpr q];rfl
noncomputable def KF (n:Nat)(f:Nat->Bool):List Nat:=(List.range n).filter f
def Vd (s:Int)(h:List Int)(f:Nat->Bool):Prop:=∀ p,p+1<h.length->f p=true->f (p+1)=true->s<=h.getD p 0+h.getD (p+1) 0
theorem xq3 {h:List Int}{f:Nat->Bool}(G:Vd s h f):∀(r:List Int)(k:Nat)(o:Option Int),h.drop k=r->(∀ g,o=some g->∃ j,k=j+1/\f j=true/\g=h.getD j 0)->VL s k o r ((List.range' k r.length).filter f)
 |[],k,o,_,_=>rfl
 |a::r,k,o,hd,ho=>by
  have I:k<h.length:=by
   rcases Nat.lt_or_ge k h.length with z|z
   .exact z
   .rw[drop_eq_nil_of_le z]at hd;cases hd
  rw[W2 h k I]at hd
  obtain⟨O,N⟩:=List.cons.inj hd
  rw[length_cons,range'_succ,filter_cons]
  cases hf:f k with
  |true=>
   rw[if_pos rfl]
   refine .inl ⟨_,rfl,fun g i=>?_,xq3 G r (k+1) (some a) N fun g i=>⟨k,rfl,hf,by cases i;exact O.symm⟩⟩
   obtain⟨j,rfl,h1,rfl⟩:=ho g i
   rw[<-O]
   exact G j I h1 hf
  |false=>
   rw[if_neg (by simp)]
   exact .inr (xq3 G r (k+1) none N fun g i=>by cases i)
theorem xq5 {h:List Int}{f:Nat->Bool}(i:Vd s h f):U4 (KF h.length f) (stG s 0 none h)=false:=by
 have:=xq3 i h 0 none rfl fun g j=>by cases j
 rw[<-range_eq_range']at this
 exact xq4 this
noncomputable def bitF (j p:Nat):Bool:=j.testBit p
theorem yn3 (f:Nat->Bool):∀ n,∃ j,j<2^n/\∀ p,p<n->bitF j p=f p
 |0=>⟨0,by decide,fun p hp=>by omega⟩
 |n+1=>by
  obtain⟨j,i,h⟩:=yn3 f n
  cases hf:f n with
  |false=>
   refine⟨j,by rw[Nat.pow_succ];omega,fun p hp=>?_⟩
   rcases Nat.lt_or_ge p n with z|z
   .exact h p z
   .rw[show p=n by omega,hf]
    exact Nat.testBit_lt_two_pow i
  |true=>
   refine⟨2^n+j,by rw[Nat.pow_succ];omega,fun p hp=>?_⟩
   rcases Nat.lt_or_ge p n with z|z
   .rw[<-h p z]
    exact Nat.testBit_two_pow_add_gt z j
   .rw[show p=n by omega,hf]
    show (2^n+j).testBit n=true
    rw[Nat.testBit_two_pow_add_eq,Nat.testBit_lt_two_pow i]
    rfl
theorem yd5 {n:Nat}{f g:Nat->Bool}(h:∀ p,p<n->f p=g p):KF n f=KF n g:=filter_congr fun p hp=>h p (List.mem_range.mp hp)
end
section
open PySem L2
theorem xs0 (i:Int)(ps:List Int):inV (V.int i) (ps.map V.int)=decide (i∈ps):=by
 unfold inV
 rw[any_map,Bool.eq_iff_iff,any_eq_true,decide_eq_true_eq]
 constructor
 .rintro⟨x,hx,e⟩
  have e:(x==i)=true:=e
  rw[<-beq_iff_eq.mp e];exact hx
 .intro h
  exact⟨i,h,by show (i==i)=true;simp⟩
theorem ze7 (i:Int)(ps:List Int):inD false (.int i) (RI ps)=some (.bl (decide (i∈ps))):=by
 unfold RI
 show inDs false (.int i) (ps.map .int)=_
 unfold inDs
 rw[zo5]
 show some (D.bl (inV (V.int i) (ps.map V.int)))=_
 rw[xs0]
theorem yb2 (i:Nat)(L:List Nat):((i:Int)∈NI L)↔i∈L:=by
 unfold NI
 rw[mem_map]
 constructor
 .rintro⟨a,h,e⟩
  have:a=i:=by omega
  rw[<-this];exact h
 .exact fun h=>⟨i,h,rfl⟩
theorem yz7 (η:List Int)(s:Int)(b:Bool)(hn:η.length<=900):m_Z8 [RI η,.int s,.int (sg b)]=some (.sh (FB b η s)):=by
 have i2:0+1+1<=sizeLine:=t8 (by decide)
 have hm:=X6 b η
 unfold m_Z8 b_Z8
 refine Q2 ?_
 refine seqI (ρ':=[some (.sh (RI η)),k0c s,some (.sh (.int (sg b))),some (.sh (RI (NI (stG s 0 none (mirF b η)))))]) ((j5 (zt2 (z7 (d:=RI η) rfl (z7 (d:=.int s) rfl (z7 (d:=.int (sg b)) rfl w6))) (xt1 η s b hn))).trans rfl) ?_
 refine zj9 (zu5 (z7 ?_ (z7 (d:=RI (NI (stG s 0 none (mirF b η)))) rfl w6)) i2)
 have e:=V9 (s:=s) 0 none (mirF b η)
 unfold RI
 simp_arith [length_map]
 unfold NI
 rw[length_map]
 congr 2
 omega
theorem zr8 (s:Int):∀(h:List Int)(o:Option Int)(k:Nat),((List.range h.length).filter fun i=>((mkH s o h).getD i 0==h.getD i 0)).map (fun i=>i+k)=stG s k o h
 |[],none,k=>rfl
 |[],some _,k=>rfl
 |a::r,o,k=>by
  have ad:∀(o':Option Int)(x:Int),((List.range (a::r).length).filter fun i=>((x::mkH s o' r).getD i 0==(a::r).getD i 0)).map (fun i=>i+k)=(if x=a then [k]else [])++stG s (k+1) o' r:=by
   intro o' x
   have j:=zr8 s r o' (k+1)
   rw[length_cons,range_succ_eq_map,filter_cons,filter_map,<-j]
   have e:((fun i=>((x::mkH s o' r).getD i 0==(a::r).getD i 0))∘Nat.succ)=fun i=>((mkH s o' r).getD i 0==r.getD i 0):=by funext i;simp
   rw[e]
   have e2:∀ l:List Nat,(l.map Nat.succ).map (fun i=>i+k)=l.map (fun i=>i+(k+1)):=by
    intro l;rw[map_map];apply map_congr_left;intro i _;show i+1+k=_;omega
   by_cases q:x=a
   .simp only[q,getD_cons_zero,beq_self_eq_true,if_true,map_cons,e2,Nat.zero_add,singleton_append]
   .rw[if_neg (by simp[q]),if_neg q,e2,nil_append]
  cases o with
  |none=>
   have:=ad (some a) a
   rw[if_pos rfl]at this
   exact this
  |some g=>
   simp only[mkH,stG]
   by_cases q:s<=g+a
   .rw[if_pos q,if_pos q]
    have:=ad (some a) a
    rw[if_pos rfl]at this
    exact this
   .rw[if_neg q,if_neg q,ad]
    rw[if_neg]
    .rfl
    .cases r with
     |nil=>simp only;omega
     |cons b r=>simp only;omega
theorem yc9 {s:Int}:∀(h:List Int)(o:Option Int),okp s o h->∀ p,p+1<h.length->s<=h.getD p 0+h.getD (p+1) 0
 |[],_,_,p,hp=>by simp at hp
 |a::r,o,hk,p,hp=>by
  have h2:okp s (some a) r:=by cases o with |none=>exact hk|some g=>exact hk.2
  cases p with
  |zero=>
   cases r with
   |nil=>simp at hp
   |cons c r=>exact h2.1
  |succ p=>exact yc9 r (some a) h2 p (by simpa using hp)
theorem X4 {x:ME}{ρ:Ro}{b:Bool}(h:x ρ=some (.bl b)):v0 x ρ=some b:=by unfold v0;rw[h]
theorem D8 {m:ME}{ρ:Ro}{k:Bool}(h:m ρ=some (.bl k)):mtru m ρ=some k:=by unfold mtru;rw[h];rfl
theorem zt9 {c:MB}{ρ:Ro}{k:Bool}(h:c ρ=some k):cnot c ρ=some (!k):=by unfold cnot;rw[h];rfl
theorem xg7 (j p:Nat):(Builtin.bitAnd ((j:Int) / 2^p) 1==1)=bitF j p:=by
 have e:(j:Int) / 2^p=((j / 2^p:Nat):Int):=by norm_cast
 rw[e]
 have e2:Builtin.bitAnd ((j / 2^p:Nat):Int) 1=((j / 2^p % 2:Nat):Int):=by
  unfold Builtin.bitAnd
  rw[show decide ((0:Int)<=((j / 2^p:Nat):Int))=true from decide_eq_true (Int.natCast_nonneg _)]
  show (((((j / 2^p:Nat):Int).toNat&&& (1:Int).toNat:Nat)):Int)=_
  rw[Int.toNat_natCast,show (1:Int).toNat=1 from rfl,Nat.and_one_is_mod]
 rw[e2]
 unfold bitF
 rw[Nat.testBit_eq_decide_div_mod_eq,Bool.eq_iff_iff,beq_iff_eq,decide_eq_true_eq]
 omega
noncomputable def TK (n:Nat)(K:List Nat):D:=.tup [.int ((n:Int)-K.length),RI (NI K)]
theorem xf5 (l:List Nat):RI (NI l)=L l:=by unfold RI NI L dN;rw[map_map];rfl
theorem xc6 (n:Nat)(l m:List Nat):ltF 8 (TK n l) (TK n m)=some (U4 l m):=by
 unfold TK
 rw[xf5,xf5]
 show lexF (eqF 7) (ltF 7) [.int ((n:Int)-l.length),L l] [.int ((n:Int)-m.length),L m]=_
 rw[lexF,show eqF 7 (.int ((n:Int)-l.length)) (.int ((n:Int)-m.length))=some ((n:Int)-l.length==(n:Int)-m.length)from rfl]
 unfold U4
 by_cases h:l.length=m.length
 .rw[h]
  simp only[beq_self_eq_true,Nat.lt_irrefl,decide_false,Bool.true_and,Bool.false_or]
  have e:eqF 7 (L l) (L m)=some (l==m):=by
   show (if (l.map dN).length=(m.map dN).length then zipE (eqF 6) (l.map dN) (m.map dN)else some false)=_
   rw[if_pos (by simpa using h),yy4 5 l m h]
  rw[lexF,e]
  by_cases i:l=m
  .subst i
   simp only[beq_self_eq_true]
   rw[yr2];rfl
  .have e2:(l==m)=false:=by simpa using i
   rw[e2]
   exact zi6 5 l m
 .have e:((n:Int)-l.length==(n:Int)-m.length)=false:=by
   rw[beq_eq_false_iff_ne];omega
  have e2:(l.length==m.length)=false:=by simpa using h
  rw[e,e2]
  simp only[Bool.false_and,Bool.or_false]
  show some (decide ((n:Int)-l.length<(n:Int)-m.length))=_
  congr 1
  apply decide_eq_decide.mpr
  omega
theorem yf0 (n:Nat)(l:List Nat):ltF 8 (TK n l) (.tup [.int ((n:Int)+1),.lst []])=some true:=by
 show lexF (eqF 7) (ltF 7) [.int ((n:Int)-l.length),RI (NI l)] [.int ((n:Int)+1),.lst []]=_
 rw[lexF,show eqF 7 (.int ((n:Int)-l.length)) (.int ((n:Int)+1))=some ((n:Int)-l.length==(n:Int)+1)from rfl,beq_eq_false_iff_ne.mpr (by omega)]
 show some (decide ((n:Int)-l.length<(n:Int)+1))=_
 rw[decide_eq_true (by omega)]
theorem xj5 (n:Nat)(l m:List Nat):zp8 [TK n m,TK n l]=some (TK n (if U4 l m then l else m)):=by
 show (match ltF 8 (TK n l) (TK n m)with |some true=>minP [] (TK n l)|some false=>minP [] (TK n m)|none=>none)=_
 rw[xc6]
 cases U4 l m <;> rfl
theorem ys5 (n:Nat)(l:List Nat):zp8 [.tup [.int ((n:Int)+1),.lst []],TK n l]=some (TK n l):=by
 show (match ltF 8 (TK n l) (.tup [.int ((n:Int)+1),.lst []])with |some true=>minP [] (TK n l)|some false=>minP [] (.tup [.int ((n:Int)+1),.lst []])|none=>none)=_
 rw[yf0]
 rfl
end
section
open PySem L2
theorem zs1 {f:List D->Option D}{m:ML}{ρ:Ro}{ds:List D}(h:m ρ=some ds):i5 f m ρ=f ds:=by unfold i5;rw[h];rfl
noncomputable def eB (η:List Int)(s:Int)(b:Bool)(o3 o4 o5 o6 o7:Option S):Ro:=[some (.sh (RI η)),k0c s,some (.sh (.int (sg b))),o3,o4,o5,o6,o7]
def VK (s:Int)(h:List Int)(K:List Nat):Prop:=∀ p∈K,p+1∈K->s<=h.getD p 0+h.getD (p+1) 0
theorem zc3 (η:List Int)(s:Int)(b:Bool)(K:List Nat)(G:∀ p∈K,p<η.length)(j o4:Option S)(p:Nat)(w:Int):B9 (eB η s b j o4 (some (.sh (RI (NI K)))) (k0c w) (k0b p))=some (.nx (eB η s b j o4 (some (.sh (RI (NI K)))) (some (.sh (.int (if p+1∈K/\¬ s<=(mirF b η).getD p 0+(mirF b η).getD (p+1) 0 then w+1 else w)))) (k0b p))):=by
 generalize i:eB η s b j o4 (some (.sh (RI (NI K)))) (k0c w) (k0b p)=ρ
 have t1:v0 (m2 (inD false) (m2 addD (mvar 7) (mc (.int 1))) (mvar 5)) ρ=some (decide (p+1∈K)):=by
  refine X4 ?_
  rw[u9 (a:=.int ((p+1:Nat):Int)) (b:=RI (NI K)) (by rw[<-i];exact(u9 (a:=.int (p:Int)) (b:=.int 1) rfl rfl).trans rfl) (by rw[<-i];rfl),ze7]
  congr 2
  exact decide_eq_decide.mpr (yb2 (p+1) K)
 have tc:cand (v0 (m2 (inD false) (m2 addD (mvar 7) (mc (.int 1))) (mvar 5))) (cnot (mtru (l7 m_Z1 (z5 (mvar 0) (z5 (mvar 1) (z5 (mvar 7) (z5 (mvar 2) anil))))))) ρ=some (decide (p+1∈K/\¬ s<=(mirF b η).getD p 0+(mirF b η).getD (p+1) 0)):=by
  by_cases q:p+1∈K
  .rw[decide_eq_true q]at t1
   have t2:=b9 (m:=z5 (mvar 0) (z5 (mvar 1) (z5 (mvar 7) (z5 (mvar 2) anil)))) (ρ:=ρ) (by rw[<-i];exact z7 (d:=RI η) rfl (z7 (d:=.int s) rfl (z7 (d:=.int (p:Int)) rfl (z7 (d:=.int (sg b)) rfl w6)))) (zw8 b η s p (G _ q))
   rw[zh5 t1 (zt9 (D8 t2))]
   congr 1
   by_cases z:s<=(mirF b η).getD p 0+(mirF b η).getD (p+1) 0
   .rw[decide_eq_true z,decide_eq_false (by rintro⟨_,h⟩;exact h z)];rfl
   .rw[decide_eq_false z,decide_eq_true ⟨q,z⟩];rfl
  .rw[decide_eq_false q]at t1
   unfold cand
   rw[t1,decide_eq_false (by rintro⟨h,_⟩;exact q h)]
 unfold B9 mif
 rw[tc]
 by_cases q:p+1∈K/\¬ s<=(mirF b η).getD p 0+(mirF b η).getD (p+1) 0
 .rw[decide_eq_true q,if_pos q]
  show mset 6 _ ρ=_
  rw[<-i]
  exact(j5 (d:=.int (w+1)) ((u9 (a:=.int w) (b:=.int 1) rfl rfl).trans rfl)).trans rfl
 .rw[decide_eq_false q,if_neg q]
  show n9 ρ=_
  rw[<-i]
  rfl
theorem zc2 (η:List Int)(s:Int)(b:Bool)(K:List Nat)(O:∀ p∈K,p<η.length)(j o4 o7:Option S):∃ w i,mfor (Z1 (mvar 5)) (.nm 7) B9 (eB η s b j o4 (some (.sh (RI (NI K)))) (some (.sh (.int 0))) o7)=some (.nx (eB η s b j o4 (some (.sh (RI (NI K)))) (k0c w) i))/\(w=0↔VK s (mirF b η) K):=by
 obtain⟨o,e,w,i,rfl,_,hw⟩:=V7 (g:=.nm 7) (body:=B9) (f:=fun(p:Nat)=>D.int (p:Int))
  (fun ds ρ=>∃ pre w i,K=pre++ds/\ρ=eB η s b j o4 (some (.sh (RI (NI K)))) (k0c w) i/\0<=w/\(w=0↔∀ p∈pre,p+1∈K->s<=(mirF b η).getD p 0+(mirF b η).getD (p+1) 0))
  (fun o=>∃ w i,o= .nx (eB η s b j o4 (some (.sh (RI (NI K)))) (k0c w) i)/\0<=w/\(w=0↔VK s (mirF b η) K))
  (by
   rintro p ds ρ ⟨pre,w,i,I,rfl,N,hw⟩
   refine⟨eB η s b j o4 (some (.sh (RI (NI K)))) (k0c w) (k0b p),_,rfl,zc3 η s b K O j o4 p w,pre++[p],_,_,by rw[I];simp,rfl,by split <;> omega,?_⟩
   by_cases q:p+1∈K/\¬ s<=(mirF b η).getD p 0+(mirF b η).getD (p+1) 0
   .rw[if_pos q]
    constructor
    .intro z;omega
    .intro z
     exact absurd (z p (by simp) q.1) q.2
   .rw[if_neg q,hw]
    constructor
    .intro z x G h1
     rcases List.mem_append.mp G with G|G
     .exact z x G h1
     .rw[List.mem_singleton.mp G]at h1 ⊢
      by_cases y:s<=(mirF b η).getD p 0+(mirF b η).getD (p+1) 0
      .exact y
      .exact absurd ⟨h1,y⟩ q
    .exact fun z x G=>z x (by simp[G]))
  (by
   rintro ρ ⟨pre,w,i,I,rfl,N,hw⟩
   rw[append_nil]at I
   subst I
   exact⟨w,i,rfl,N,hw⟩) K (eB η s b j o4 (some (.sh (RI (NI K)))) (some (.sh (.int 0))) o7)
  ⟨[],0,o7,rfl,rfl,Int.le_refl _,by simp⟩
 refine⟨w,i,?_,hw⟩
 unfold mfor
 rw[zd9 (ds:=(NI K).map .int) rfl,Option.bind_some]
 unfold NI
 rw[map_map]
 exact e
theorem zw2 {n:Nat}{f:Nat->Bool}(p:Nat):p∈KF n f↔p<n/\f p=true:=by unfold KF;rw[mem_filter,mem_range]
theorem xf4 {s:Int}{h:List Int}{f:Nat->Bool}:VK s h (KF h.length f)↔Vd s h f:=by
 constructor
 .intro v p hp h1 h2
  exact v p ((zw2 p).mpr ⟨by omega,h1⟩) ((zw2 _).mpr ⟨hp,h2⟩)
 .intro v p h1 h2
  exact v p ((zw2 _).mp h2).1 ((zw2 p).mp h1).2 ((zw2 _).mp h2).2
theorem yq1 (η:List Int)(s:Int)(b:Bool)(hl:η.length<=900)(z o5 o6 o7:Option S)(j:Nat):W0 [none,some 4] (i7 rng1 (z5 (mlen (bvar 0)) anil)) (.nm 0) (v0 (m2 eqSD (m2 andD (m2 shrD (mvar 1) (mvar 0)) (mc (.int 1))) (mc (.int 1)))) (mvar 0) (eB η s b z (k0b j) o5 o6 o7)=some ((NI (KF η.length (bitF j))).map .int):=by
 have I:=c7
 unfold W0 i7
 rw[z7 (d:=.int (η.length:Int)) (by rw[T8 (show bvar 0 (eB η s b z (k0b j) o5 o6 o7)=some (η.map .int)from rfl),length_map]) w6,Option.bind_some,Q3 (zx2 (by omega) (by omega)),Option.bind_some,Int.toNat_natCast,X7,map_map]
 refine(S2 (f:=D.int∘fun(i:Nat)=>(i:Int)) (p:=bitF j) (G:=fun(i:Nat)=>D.int (i:Int)) (fun is ρ=>∃ x,ρ=[x,k0b j]) (by
  rintro i is ρ ⟨x,rfl⟩
  refine⟨[k0b i,k0b j],rfl,X4 ?_,fun _=>rfl,_,rfl⟩
  have e1:m2 shrD (mvar 1) (mvar 0) [k0b i,k0b j]=some (.int ((j:Int) / 2^i)):=by
   rw[u9 (a:=.int (j:Int)) (b:=.int (i:Int)) rfl rfl]
   show (if xz4 (j:Int) (i:Int)=true then some (D.int ((j:Int) / 2^(i:Int).toNat))else none)=_
   rw[if_pos (by unfold xz4;exact decide_eq_true (Int.natCast_nonneg i)),Int.toNat_natCast]
  rw[u9 ((u9 e1 (b:=.int 1) rfl).trans (show andD (.int ((j:Int) / 2^i)) (.int 1)=some (.int (Builtin.bitAnd ((j:Int) / 2^i) 1))from rfl)) (b:=.int 1) rfl]
  unfold eqSD
  rw[yp5,xg7]
  rfl) (List.range η.length) _ [] ⟨none,rfl⟩ (t8 (by simp;omega))).trans ?_
 rw[nil_append]
 unfold NI KF
 rw[map_map]
 rfl
end
section
open PySem L2
theorem zc8 (η:List Int)(s:Int)(b:Bool)(hl:η.length<=900)(j:Nat)(i G:D)(hm:zp8 [i,TK η.length (KF η.length (bitF j))]=some G)(o5 o6 o7:Option S):∃ I p5 Z N,zs4 (eB η s b (some (.sh i)) (k0b j) o5 o6 o7)=some (.nx (eB η s b (some (.sh I)) (k0b j) p5 Z N))/\((Vd s (mirF b η) (bitF j)/\I=G)\/(¬ Vd s (mirF b η) (bitF j)/\I=i)):=by
 have i2:0+1+1<=sizeLine:=t8 (by decide)
 have O:=X6 b η
 generalize U:KF η.length (bitF j)=K at hm
 have R:∀ p∈K,p<η.length:=fun p hp=>by rw[<-U]at hp;exact((zw2 p).mp hp).1
 have hv:VK s (mirF b η) K↔Vd s (mirF b η) (bitF j):=by rw[<-U,<-O];exact xf4
 obtain⟨w,N,Y,hw⟩:=zc2 η s b K R (some (.sh i)) (k0b j) o7
 rw[hv]at hw
 have e1:mset 5 (mlst (W0 [none,some 4] (i7 rng1 (z5 (mlen (bvar 0)) anil)) (.nm 0) (v0 (m2 eqSD (m2 andD (m2 shrD (mvar 1) (mvar 0)) (mc (.int 1))) (mc (.int 1)))) (mvar 0))) (eB η s b (some (.sh i)) (k0b j) o5 o6 o7)=some (.nx (eB η s b (some (.sh i)) (k0b j) (some (.sh (RI (NI K)))) o6 o7)):=by
  rw[j5 (X1 (yq1 η s b hl _ _ _ _ j)),U]
  rfl
 have t:v0 (m2 eqSD (mvar 6) (mc (.int 0))) (eB η s b (some (.sh i)) (k0b j) (some (.sh (RI (NI K)))) (k0c w) N)=some (w==0):=X4 ((u9 (a:=.int w) (b:=.int 0) rfl rfl).trans rfl)
 by_cases q:w=0
 .have hvd:=hw.mp q
  refine⟨G,some (.sh (RI (NI K))),k0c w,N,?_,.inl ⟨hvd,rfl⟩⟩
  unfold zs4
  refine seqI e1 (seqI (ρ':=eB η s b (some (.sh i)) (k0b j) (some (.sh (RI (NI K)))) (some (.sh (.int 0))) o7) ((j5 (d:=.int 0) rfl).trans rfl) (seqI Y ?_))
  unfold mif
  rw[t,beq_iff_eq.mpr q]
  refine(j5 (d:=G) ?_).trans rfl
  have et:mtup (z5 (m2 subD (mlen (bvar 0)) (mlen (bvar 5))) (z5 (mvar 5) anil)) (eB η s b (some (.sh i)) (k0b j) (some (.sh (RI (NI K)))) (k0c w) N)=some (TK η.length K):=by
   refine zu5 (z7 (d:=.int ((η.length:Int)-K.length)) ?_ (z7 (d:=RI (NI K)) rfl w6)) i2
   rw[u9 (T8 (show bvar 0 (eB η s b (some (.sh i)) (k0b j) (some (.sh (RI (NI K)))) (k0c w) N)=some (η.map .int)from rfl)) (T8 (show bvar 5 (eB η s b (some (.sh i)) (k0b j) (some (.sh (RI (NI K)))) (k0c w) N)=some ((NI K).map .int)from rfl)),length_map,length_map]
   unfold NI
   rw[length_map]
   rfl
  rw[zs1 (z7 (d:=i) rfl (z7 et w6))]
  exact hm
 .refine⟨i,some (.sh (RI (NI K))),k0c w,N,?_,.inr ⟨fun z=>q (hw.mpr z),rfl⟩⟩
  unfold zs4
  refine seqI e1 (seqI (ρ':=eB η s b (some (.sh i)) (k0b j) (some (.sh (RI (NI K)))) (some (.sh (.int 0))) o7) ((j5 (d:=.int 0) rfl).trans rfl) (seqI Y ?_))
  unfold mif
  rw[t,beq_eq_false_iff_ne.mpr q]
  rfl
def ym5 (s:Int)(h:List Int)(i:Nat)(best:D):Prop:=(i=0/\best= .tup [.int ((h.length:Int)+1),.lst []])\/∃ f,best=TK h.length (KF h.length f)/\Vd s h f/\∀ j,j<i->Vd s h (bitF j)->U4 (KF h.length (bitF j)) (KF h.length f)=false
theorem yn4 {s:Int}{h:List Int}{i:Nat}{I:D}(Z:ym5 s h i I):∃ G,zp8 [I,TK h.length (KF h.length (bitF i))]=some G/\(Vd s h (bitF i)->ym5 s h (i+1) G)/\(¬ Vd s h (bitF i)->ym5 s h (i+1) I):=by
 have zero:∀ f:Nat->Bool,(∀ p,f p=false)->Vd s h f:=fun f Y p _ h1 _=>by rw[Y]at h1;cases h1
 rcases Z with⟨rfl,rfl⟩|⟨f,rfl,U,R⟩
 .refine⟨_,ys5 _ _,fun v=>.inr ⟨bitF 0,rfl,v,fun j R N=>?_⟩,fun v=>absurd (zero _ fun p=>by unfold bitF;exact Nat.zero_testBit p) v⟩
  rw[show j=0 by omega]
  exact zm5 _
 .refine⟨_,xj5 _ _ _,fun v=>?_,fun v=>.inr ⟨f,rfl,U,fun j O N=>?_⟩⟩
  .cases ha:U4 (KF h.length (bitF i)) (KF h.length f)with
   |true=>
    rw[if_pos rfl]
    refine .inr ⟨bitF i,rfl,v,fun j O N=>?_⟩
    rcases Nat.lt_or_ge j i with z|z
    .cases hc:U4 (KF h.length (bitF j)) (KF h.length (bitF i))with
     |false=>rfl
     |true=>rw[<-R j z N,zg0 hc ha]
    .rw[show j=i by omega];exact zm5 _
   |false=>
    rw[if_neg (by simp)]
    refine .inr ⟨f,rfl,U,fun j O N=>?_⟩
    rcases Nat.lt_or_ge j i with z|z
    .exact R j z N
    .rw[show j=i by omega];exact ha
  .rcases Nat.lt_or_ge j i with z|z
   .exact R j z N
   .rw[show j=i by omega]at N;exact absurd N v
theorem yd0 {s:Int}{h:List Int}{I:D}(hb:ym5 s h (2^h.length) I):I=TK h.length (stG s 0 none h):=by
 have hpos:0<2^h.length:=Nat.pow_pos (by decide)
 rcases hb with⟨z,_⟩|⟨f,rfl,Y,Z⟩
 .omega
 .have hG:=zr8 s h none 0
  simp only[Nat.add_zero,map_id']at hG
  have gv:Vd s h (fun i=>(mkH s none h).getD i 0==h.getD i 0):=fun p hp h1 h2=>by
   have h1:=beq_iff_eq.mp h1
   have h2:=beq_iff_eq.mp h2
   have:=yc9 _ none (J7 (s:=s) none h) p (by rw[C2];exact hp)
   rw[h1,h2]at this
   exact this
  obtain⟨j,N,G⟩:=yn3 (fun i=>(mkH s none h).getD i 0==h.getD i 0) h.length
  have O:KF h.length (bitF j)=stG s 0 none h:=by rw[yd5 G];exact hG
  have U:Vd s h (bitF j):=fun p hp h1 h2=>gv p hp ((G p (by omega)).symm.trans h1) ((G (p+1) hp).symm.trans h2)
  have R:=Z j N U
  rw[O]at R
  have a2:=xq5 Y
  rcases ym3 (KF h.length f) (stG s 0 none h)with e|e|e
  .rw[e]
  .rw[a2]at e;cases e
  .rw[R]at e;cases e
theorem xa5 (b:Bool)(η:List Int)(s:Int):FB b η s=TK η.length (stG s 0 none (mirF b η)):=by
 have e:=V9 (s:=s) 0 none (mirF b η)
 have hm:=X6 b η
 unfold FB TK
 rw[show (cN s none (mirF b η):Int)=(η.length:Int)-(stG s 0 none (mirF b η)).length by omega]
theorem zh6 (η:List Int)(s:Int)(b:Bool)(hl:η.length<=8):m_Z6 [RI η,.int s,.int (sg b)]=some (.sh (FB b η s)):=by
 have i2:0+1+1<=sizeLine:=t8 (by decide)
 have hm:=X6 b η
 unfold m_Z6 b_Z6
 refine Q2 ?_
 show mseq _ _ (eB η s b none none none none none)=_
 refine seqI (ρ':=eB η s b (some (.sh (.tup [.int ((η.length:Int)+1),.lst []]))) none none none none) ((j5 (zu5 (z7 (d:=.int ((η.length:Int)+1)) ?_ (z7 (d:=.lst []) (X1 (d6 w6 (Nat.zero_le _))) w6)) i2)).trans rfl) ?_
 .rw[u9 (T8 (show bvar 0 (eB η s b none none none none none)=some (η.map .int)from rfl)) (b:=.int 1) rfl,length_map]
  rfl
 have a1:2^η.length<=256:=by
  have:2^η.length<=2^8:=Nat.pow_le_pow_right (by decide) hl
  exact this
 have e0:i7 rng1 (z5 (m2 shlD (mc (.int 1)) (mlen (bvar 0))) anil) (eB η s b (some (.sh (.tup [.int ((η.length:Int)+1),.lst []]))) none none none none)=some ((List.range (2^η.length)).map fun(i:Nat)=>D.int (i:Int)):=by
  have es:m2 shlD (mc (.int 1)) (mlen (bvar 0)) (eB η s b (some (.sh (.tup [.int ((η.length:Int)+1),.lst []]))) none none none none)=some (.int ((2^η.length:Nat):Int)):=by
   rw[u9 (a:=.int 1) rfl (T8 (show bvar 0 (eB η s b (some (.sh (.tup [.int ((η.length:Int)+1),.lst []]))) none none none none)=some (η.map .int)from rfl)),length_map]
   show (if M0 1 (η.length:Int)=true then some (D.int (1*2^(η.length:Int).toNat))else none)=_
   rw[if_pos (by unfold M0;rw[decide_eq_true (by omega),decide_eq_true (by omega)];rfl),Int.toNat_natCast,Int.one_mul]
   norm_cast
  have Z:okR ((2^η.length:Nat):Int)=true:=by
   generalize 2^η.length=N at a1 ⊢
   exact zx2 (by omega) (by omega)
  unfold i7
  rw[z7 es w6,Option.bind_some,Q3 Z,Int.toNat_natCast,X7,map_map]
  rfl
 refine zg6 (2^η.length) e0 (I:=fun i ρ=>∃ j R O G z,ρ=eB η s b (some (.sh j)) R O G z/\ym5 s (mirF b η) i j) (Q:=fun o=>∃ R O G z,o= .nx (eB η s b (some (.sh (FB b η s))) R O G z)) ⟨_,none,none,none,none,rfl,.inl ⟨rfl,by rw[hm]⟩⟩ ?_ ?_ ?_
 .rintro i ρ hi ⟨j,R,O,G,z,rfl,hb⟩
  obtain⟨U,e2,hy,hn⟩:=yn4 hb
  rw[hm]at e2
  obtain⟨Y,q5,q6,q7,eb,hc⟩:=zc8 η s b (by omega) i j U e2 O G z
  refine⟨eB η s b (some (.sh j)) (k0b i) O G z,_,rfl,eb,Y,_,_,_,_,rfl,?_⟩
  rcases hc with⟨v,rfl⟩|⟨v,rfl⟩
  .exact hy v
  .exact hn v
 .rintro ρ ⟨j,R,O,G,z,rfl,hb⟩
  rw[<-hm]at hb
  rw[yd0 hb,hm,<-xa5]
  exact⟨R,O,G,z,rfl⟩
 .rintro o ⟨R,O,G,z,rfl⟩
  rfl
end
section
open PySem L2
theorem zf9 {f:List D->Option (List D)}{m:ML}{ρ:Ro}{ds es:List D}(h:m ρ=some ds)(h2:f ds=some es):i7 f m ρ=some es:=by
 unfold i7;rw[h];exact h2
theorem kk1:kitB "tuple" "bool"=some false:=by decide +kernel
theorem kk2:kitB "tuple" "int"=some false:=by decide +kernel
theorem kk3:kitB "tuple" "str"=some false:=by decide +kernel
theorem kk4:kitB "tuple" "tuple"=some true:=by decide +kernel
theorem kk5:kitB "list" "bool"=some false:=by decide +kernel
theorem kk6:kitB "list" "int"=some false:=by decide +kernel
theorem kk7:kitB "list" "str"=some false:=by decide +kernel
theorem kk8:kitB "list" "tuple"=some false:=by decide +kernel
theorem kk9:kitB "list" "list"=some true:=by decide +kernel
theorem xi9 (i:Int):isND false (.int i) .non=some (.bl false):=rfl
theorem xc8 (ds:List D):isND false (.tup ds) .non=some (.bl false):=rfl
theorem xc9 (ds:List D):isND false (.lst ds) .non=some (.bl false):=rfl
theorem xf2 (a:Int):m_Z7 [.int a,.int a]=some (.sh (.bl true)):=by
 unfold m_Z7 b_Z7
 refine J1 ?_
 ((apply d3;focus (simp_arith [xi9];rfl)))
 ((apply d3;focus (simp_arith [yf3];rfl)))
 refine J0 ⟨.rt (.bl true),?_,rfl⟩
 simp_arith [xi1,yf3,beq_self_eq_true,Bool.not_false]
theorem xq2 (a:Int):m_Z5 [.int a,.int a]=some (.sh (.bl true)):=by
 unfold m_Z5 b_Z5
 refine J1 ?_
 ((apply d3;focus (simp_arith [xi9];rfl)))
 ((apply d3;focus (simp_arith [yf3];rfl)))
 refine J0 ⟨.rt (.bl true),?_,rfl⟩
 simp_arith [xi1,yf3,beq_self_eq_true,Bool.not_false]
theorem xq1 (P:List Int)(hl:P.length<=900):m_Z5 [.lst (P.map D.int),.lst (P.map D.int)]=some (.sh (.bl true)):=by
 unfold m_Z5 b_Z5
 refine J1 ?_
 ((apply d3;focus (simp_arith [xc9];rfl)))
 ((apply d3;focus (simp_arith [kk5];rfl)))
 ((apply d3;focus (simp_arith [kk6];rfl)))
 ((apply d3;focus (simp_arith [kk7];rfl)))
 ((apply d3;focus (simp_arith [kk8,kk9,Bool.not_true];rfl)))
 ((apply d3;focus (simp_arith [beq_self_eq_true,Bool.not_true];rfl)))
 have k1:okR (P.length:Int)=true:=zx2 (by omega) (by omega)
 refine J0 (zg8 P.length (f:=fun(j:Nat)=>D.int (j:Int)) ?_
  (I:=fun _ ρ=>∃ o2,ρ=[some (.sh (.lst (P.map D.int))),some (.sh (.lst (P.map D.int))),o2]) _ ⟨none,rfl⟩ ?_ (fun ρ _=>⟨_,rfl,rfl⟩))
 .have e:i5 lenF (z5 (mvar 1) anil) [some (.sh (.lst (P.map D.int))),some (.sh (.lst (P.map D.int))),none]=some (.int (P.length:Int)):=by
   unfold i5;rw[z7 (d:=.lst (P.map D.int)) rfl w6]
   show some (D.int ((P.map D.int).length:Int))=_
   rw[length_map]
  have e2:i7 rng1 (z5 (i5 lenF (z5 (mvar 1) anil)) anil) [some (.sh (.lst (P.map D.int))),some (.sh (.lst (P.map D.int))),none]=some (U7 0 (P.length:Int).toNat):=zf9 (z7 e w6) (Q3 k1)
  rw[Int.toNat_natCast,X7,map_map]at e2
  exact e2
 .rintro j ρ hj ⟨o2,rfl⟩
  refine⟨_,rfl,?_⟩
  unfold yn6
  have z:=zd8 P j hj
  refine yd9 (b:=false) ?_ (zg7 ⟨_,rfl⟩)
  have e1:∀ i,(i=0\/i=1)->m2 ixAD (mvar i) (mvar 2) [some (.sh (.lst (P.map D.int))),some (.sh (.lst (P.map D.int))),k0b j]=some (.int (P.getD j 0)):=fun i hi=>by
   unfold m2
   rcases hi with h|h <;> subst h <;> exact z
  unfold cnot mtru
  show Option.map _ (Option.bind (l7 _ _ [some (.sh (.lst (P.map D.int))),some (.sh (.lst (P.map D.int))),k0b j]) truD)=_
  rw[b9 (z7 (e1 0 (.inl rfl)) (z7 (e1 1 (.inr rfl)) w6)) (xf2 _)]
  rfl
theorem xf1 (n:Int)(P:List Int)(hl:P.length<=900):m_Z4 [.tup [.int n,RI P],.tup [.int n,RI P]]=some (.sh (.bl true)):=by
 unfold m_Z4 b_Z4
 refine J1 ?_
 ((apply d3;focus (simp_arith [xc8];rfl)))
 ((apply d3;focus (simp_arith [kk1];rfl)))
 ((apply d3;focus (simp_arith [kk2];rfl)))
 ((apply d3;focus (simp_arith [kk3];rfl)))
 ((apply d3;focus (simp_arith [kk4,Bool.not_true];rfl)))
 ((apply d3;focus (simp_arith [beq_self_eq_true,Bool.not_true];rfl)))
 have k1:okR (2:Int)=true:=by decide
 have N:U7 0 (2:Int).toNat=(List.range 2).map fun(j:Nat)=>D.int (j:Int):=by
  show U7 0 2=_
  rw[X7,map_map];rfl
 refine J0 (zg8 2 (f:=fun(j:Nat)=>D.int (j:Int)) ?_
  (I:=fun _ ρ=>∃ o2,ρ=[some (.sh (.tup [.int n,RI P])),some (.sh (.tup [.int n,RI P])),o2]) _ ⟨none,rfl⟩ ?_ (fun ρ _=>⟨_,rfl,rfl⟩))
 .have e:i5 lenF (z5 (mvar 1) anil) [some (.sh (.tup [.int n,RI P])),some (.sh (.tup [.int n,RI P])),none]=some (.int 2):=by unfold i5;rw[z7 (d:=.tup [.int n,RI P]) rfl w6];rfl
  have e2:i7 rng1 (z5 (i5 lenF (z5 (mvar 1) anil)) anil) [some (.sh (.tup [.int n,RI P])),some (.sh (.tup [.int n,RI P])),none]=some (U7 0 (2:Int).toNat):=zf9 (z7 e w6) (Q3 k1)
  rw[<-N]
  exact e2
 .rintro j ρ hj ⟨o2,rfl⟩
  refine⟨_,rfl,?_⟩
  unfold yn7
  have z:∃ x,atI [D.int n,RI P] (j:Int)=some x/\m_Z5 [x,x]=some (.sh (.bl true)):=by
   have:j=0\/j=1:=by omega
   rcases this with h|h <;> subst h
   .exact⟨.int n,rfl,xq2 n⟩
   .exact⟨RI P,rfl,xq1 P hl⟩
  obtain⟨x,z,G⟩:=z
  refine yd9 (b:=false) ?_ (zg7 ⟨_,rfl⟩)
  have e1:∀ i,(i=0\/i=1)->m2 ixAD (mvar i) (mvar 2) [some (.sh (.tup [.int n,RI P])),some (.sh (.tup [.int n,RI P])),k0b j]=some x:=fun i hi=>by
   unfold m2
   rcases hi with h|h <;> subst h <;> exact z
  unfold cnot mtru
  show Option.map _ (Option.bind (l7 _ _ [some (.sh (.tup [.int n,RI P])),some (.sh (.tup [.int n,RI P])),k0b j]) truD)=_
  rw[b9 (z7 (e1 0 (.inl rfl)) (z7 (e1 1 (.inr rfl)) w6)) G]
  rfl
end
section
open PySem L2
theorem zg5 {s:Int}:∀(k:Nat)(o:Option Int)(h:List Int),∀ x∈stG s k o h,k<=x
 |_,none,[],x,i=>by simp[stG]at i
 |_,some _,[],x,i=>by simp[stG]at i
 |k,none,a::r,x,i=>by
  simp only[stG,mem_cons]at i
  rcases i with rfl|i
  .exact Nat.le_refl _
  .have:=zg5 (k+1) (some a) r x i;omega
 |k,some g,a::r,x,i=>by
  simp only[stG]at i
  split at i
  .rcases List.mem_cons.mp i with rfl|i
   .exact Nat.le_refl _
   .have:=zg5 (k+1) (some a) r x i;omega
  .have:=zg5 (k+1) none r x i;omega
noncomputable def nxv (g:Int):List Int->Int
 |[]=>g
 |h2::_=>min g h2
theorem yg1 (s g a:Int)(r:List Int):mkH s (some g) (a::r)=if s<=g+a then a::mkH s (some a) r else (s-nxv g r)::mkH s none r:=by
 simp only[mkH]
 cases r <;> rfl
noncomputable def newv (s:Int)(h:List Int)(i:Nat):Int:=s-(if i+1<h.length then min (h.getD (i-1) 0) (h.getD (i+1) 0)else h.getD (i-1) 0)
theorem G0 (s:Int)(h:List Int)(L:List Nat):∀(r:List Int)(k:Nat)(o:Option Int),h.drop k=r->(∀ i,k<=i->(i∈L↔i∈stG s k o r))->(∀ g,o=some g->1<=k/\h.getD (k-1) 0=g)->
  (List.range' k r.length).map (fun i=>if i∈L then h.getD i 0 else newv s h i)=mkH s o r
 |[],k,none,_,_,_=>rfl
 |[],k,some _,_,_,_=>rfl
 |a::r,k,none,hd,hm,ho=>by
  have I:k<h.length:=by
   rcases Nat.lt_or_ge k h.length with z|z
   .exact z
   .rw[drop_eq_nil_of_le z]at hd;cases hd
  rw[W2 h k I]at hd
  obtain⟨e1,e2⟩:=List.cons.inj hd
  rw[length_cons,range'_succ,map_cons,mkH]
  have j:k∈L:=(hm k (Nat.le_refl _)).mpr (by simp[stG])
  rw[if_pos j,e1,G0 s h L r (k+1) (some a) e2 (fun i hi=>by
   rw[hm i (by omega)]
   simp only[stG,mem_cons]
   constructor
   .rintro(z|z)
    .omega
    .exact z
   .exact .inr) (fun g G=>by cases G;exact⟨by omega,by simpa using e1⟩)]
 |a::r,k,some g,hd,hm,ho=>by
  have I:k<h.length:=by
   rcases Nat.lt_or_ge k h.length with z|z
   .exact z
   .rw[drop_eq_nil_of_le z]at hd;cases hd
  rw[W2 h k I]at hd
  obtain⟨e1,e2⟩:=List.cons.inj hd
  obtain⟨k1,N⟩:=ho g rfl
  rw[length_cons,range'_succ,map_cons]
  rw[yg1]
  by_cases q:s<=g+a
  .have j:k∈L:=(hm k (Nat.le_refl _)).mpr (by simp[stG,q])
   rw[if_pos j,e1,if_pos q,G0 s h L r (k+1) (some a) e2 (fun i hi=>by
    rw[hm i (by omega)]
    simp only[stG,if_pos q,mem_cons]
    constructor
    .rintro(z|z)
     .omega
     .exact z
    .exact .inr) (fun g G=>by cases G;exact⟨by omega,by simpa using e1⟩)]
  .have hn:k∉L:=fun z=>by
    have z:=(hm k (Nat.le_refl _)).mp z
    simp only[stG,if_neg q]at z
    have:=zg5 _ _ _ _ z
    omega
   rw[if_neg hn,if_neg q,G0 s h L r (k+1) none e2 (fun i hi=>by
    rw[hm i (by omega)]
    simp only[stG,if_neg q]) (fun g G=>by cases G)]
   congr 1
   unfold newv
   rw[N]
   cases r with
   |nil=>
    have:¬ k+1<h.length:=fun z=>by rw[W2 h (k+1) z]at e2;cases e2
    rw[if_neg this]
    rfl
   |cons b r=>
    have:k+1<h.length:=by
     rcases Nat.lt_or_ge (k+1) h.length with z|z
     .exact z
     .rw[drop_eq_nil_of_le z]at e2;cases e2
    rw[if_pos this]
    rw[W2 h (k+1) this]at e2
    rw[(List.cons.inj e2).1]
    rfl
theorem yg7 (s:Int)(h:List Int):(List.range h.length).map (fun i=>if i∈stG s 0 none h then h.getD i 0 else newv s h i)=mkH s none h:=by
 rw[range_eq_range']
 exact G0 s h (stG s 0 none h) h 0 none rfl (fun i _=>Iff.rfl) (fun g j=>by cases j)
theorem yk5 (s:Int)(h:List Int)(i:Nat)(hi:i<h.length)(hn:i∉stG s 0 none h):1<=i:=by
 rcases Nat.eq_zero_or_pos i with z|z
 .subst z
  cases h with
  |nil=>simp at hi
  |cons a r=>simp[stG]at hn
 .exact z
theorem yi0 (h:List Int)(i:Nat)(h1:1<=i)(h2:i<h.length):R0 (h.map D.int) (some ((i:Int)-1)) (some ((i:Int)+2)) (some 2)=(if i+1<h.length then [h.getD (i-1) 0,h.getD (i+1) 0]else [h.getD (i-1) 0]).map .int:=by
 have G:sliceBounds (some ((i:Int)-1)) (some ((i:Int)+2)) (some 2) (h.map D.int).length=((i:Int)-1,min ((i:Int)+2) (h.length:Int),2):=by
  unfold sliceBounds
  simp only[Option.getD_some,length_map]
  have z:¬ ((i:Int)-1<0):=by omega
  have j:¬ ((i:Int)+2<0):=by omega
  have p:(2:Int)>0:=by decide
  simp only[z,j,p,if_true,if_false,Prod.mk.injEq,and_true]
  constructor <;> omega
 unfold R0
 rw[G]
 simp only
 by_cases q:i+1<h.length
 .have hr:sliceRange ((i:Int)-1) (min ((i:Int)+2) (h.length:Int)) 2=[i-1,i+1]:=by
   unfold sliceRange
   rw[show min ((i:Int)+2) (h.length:Int)=(i:Int)+2 by omega,if_pos (by decide),if_pos (by omega),show ((i:Int)+2-((i:Int)-1)+2-1) / 2=2 by omega]
   show [((i:Int)-1+2*((0:Nat):Int)).toNat,((i:Int)-1+2*((1:Nat):Int)).toNat]=_
   congr 1
   .omega
   .congr 1
    omega
  rw[hr,if_pos q]
  unfold zz1
  simp[getD_eq_getElem?_getD,q,show i-1<h.length by omega]
 .have hr:sliceRange ((i:Int)-1) (min ((i:Int)+2) (h.length:Int)) 2=[i-1]:=by
   unfold sliceRange
   rw[show min ((i:Int)+2) (h.length:Int)=(i:Int)+1 by omega,if_pos (by decide),if_pos (by omega),show ((i:Int)+1-((i:Int)-1)+2-1) / 2=1 by omega]
   show [((i:Int)-1+2*((0:Nat):Int)).toNat]=_
   congr 1
   omega
  rw[hr,if_neg q]
  unfold zz1
  simp[getD_eq_getElem?_getD,show i-1<h.length by omega]
theorem yg0 {la:ML}{lo hi k:MO}{ρ:Ro}{ds:List D}{l h st:Option Int}(h1:la ρ=some ds)(h2:lo ρ=some l)(z:hi ρ=some h)(j:k ρ=some st)(i:st≠some 0/\(R0 ds l h st).length<=sizeLine):zz4 la lo hi k ρ=some (R0 ds l h st):=by
 unfold zz4
 rw[h1,h2,z,j]
 exact if_pos i
theorem C6 (T:Addr)(mw:Str)(pos:Pos)(q:Str):List.lookup T [(T,Cell.tb T mw pos q)]=some (.tb T mw pos q):=by simp[lookup_cons]
noncomputable abbrev Bt (T:Addr):Bx:=[(T,.tb T "made_wavy" ⟨42,26,42,72⟩ "made_wavy.<locals>.<lambda>")]
theorem zp9 (T:Addr)(η:List Int)(s:Int)(hs:1<=s)(hl:η.length<=1000):g6 [RI η,.int s] (Bt T)=some (.fr ((mirF (bw η s) (mkH s none (mirF (bw η s) η))).map .int),Bt T):=by
 have a3:=c7
 have i2:0+1+1<=sizeLine:=t8 (by decide)
 generalize hb:bw η s=b
 have hm:=X6 b η
 have hk:=C2 (s:=s) none (mirF b η)
 have e1:za4 2 (za6 "made_wavy" ⟨42,26,42,72⟩ "made_wavy.<locals>.<lambda>" ((["up","down"]:List Str).map .str) [none,some 0,some 1] (l7 m_Z0 (z5 (mvar 1) (z5 (mvar 2) (z5 (mvar 0) anil))))) (v7 7 [RI η,.int s]) (Bt T)=some (.nx [some (.sh (RI η)),k0c s,some (.sh (.str (wd b))),none,none,none,none],Bt T):=by
  unfold za4 za6
  rw[if_pos ⟨T,C6 _ _ _ _⟩]
  have mk:∀ c:Bool,l7 m_Z0 (z5 (mvar 1) (z5 (mvar 2) (z5 (mvar 0) anil))) ((Y2 [none,some 0,some 1] (v7 7 [RI η,.int s])).set 0 (some (.sh (.str (wd c)))))=some (FB c η s):=fun c=>
   J8 (z7 (d:=RI η) rfl (z7 (d:=.int s) rfl (z7 (d:=.str (wd c)) rfl w6))) (j7 c η s hs hl)
  have R:minN (fun d=>l7 m_Z0 (z5 (mvar 1) (z5 (mvar 2) (z5 (mvar 0) anil))) ((Y2 [none,some 0,some 1] (v7 7 [RI η,.int s])).set 0 (some (.sh d)))) ((["up","down"]:List Str).map .str)=some (.str (wd b)):=by
   have h1:=mk true
   have h2:=mk false
   have Y:=xg5 η s
   rw[hb]at Y
   show (match l7 m_Z0 (z5 (mvar 1) (z5 (mvar 2) (z5 (mvar 0) anil))) ((Y2 [none,some 0,some 1] (v7 7 [RI η,.int s])).set 0 (some (.sh (.str (wd true)))))with |some U=>minF _ [.str (wd false)] (.str (wd true)) U|none=>none)=_
   rw[h1]
   show (match l7 m_Z0 (z5 (mvar 1) (z5 (mvar 2) (z5 (mvar 0) anil))) ((Y2 [none,some 0,some 1] (v7 7 [RI η,.int s])).set 0 (some (.sh (.str (wd false)))))with |some U=>(match ltF 8 U (FB true η s)with |some true=>minF _ [] (.str (wd false)) U|some false=>minF _ [] (.str (wd true)) (FB true η s)|none=>none)|none=>none)=_
   rw[h2]
   simp only
   rw[Y]
   cases b <;> rfl
  rw[R]
  rfl
 have a1:bw η s=b:=hb
 have e2:masg (.tp [3,4]) (l7 m_Z0 (z5 (mvar 0) (z5 (mvar 1) (z5 (mvar 2) anil)))) [some (.sh (RI η)),k0c s,some (.sh (.str (wd b))),none,none,none,none]=some (.nx [some (.sh (RI η)),k0c s,some (.sh (.str (wd b))),some (.sh (.int (cN s none (mirF b η):Int))),some (.sh (RI (NI (stG s 0 none (mirF b η))))),none,none]):=by
  unfold masg
  rw[J8 (z7 (d:=RI η) rfl (z7 (d:=.int s) rfl (z7 (d:=.str (wd b)) rfl w6))) (j7 b η s hs hl)]
  rfl
 generalize a2:(cN s none (mirF b η):Int)=cn at e2
 generalize hh:mirF b η=h at*
 have e3:mset 5 (l7 K9 (z5 (mvar 0) (z5 (mvar 2) anil))) [some (.sh (RI η)),k0c s,some (.sh (.str (wd b))),k0c cn,some (.sh (RI (NI (stG s 0 none h)))),none,none]=some (.nx [some (.sh (RI η)),k0c s,some (.sh (.str (wd b))),k0c cn,some (.sh (RI (NI (stG s 0 none h)))),some (.sh (RI h)),none]):=by
  rw[j5 (zt2 (z7 (d:=RI η) rfl (z7 (d:=.str (wd b)) rfl w6)) (Q8 b η hl)),hh]
  rfl
 have e0:i7 P2 (z5 (mvar 5) anil) [some (.sh (RI η)),k0c s,some (.sh (.str (wd b))),k0c cn,some (.sh (RI (NI (stG s 0 none h)))),some (.sh (RI h)),none]=some ((List.range h.length).map fun(i:Nat)=>D.tup [.int (i:Int),.int (h.getD i 0)]):=by
  have:=S0 h 0
  simp only[Nat.zero_add]at this
  unfold RI
  simp_arith [this]
 have e4:W0 [none,none,some 4,some 1,some 5] (i7 P2 (z5 (mvar 5) anil)) (.tp [0,1]) cyes (mite (v0 (m2 (inD false) (mvar 0) (mvar 2))) (mvar 1) (m2 subD (mvar 3) (zu7 (zz4 (bvar 4) (j4 (m2 subD (mvar 0) (mc (.int 1)))) (j4 (m2 addD (mvar 0) (mc (.int 2)))) (j4 (mc (.int 2))))))) [some (.sh (RI η)),k0c s,some (.sh (.str (wd b))),k0c cn,some (.sh (RI (NI (stG s 0 none h)))),some (.sh (RI h)),none]=some ((mkH s none h).map .int):=by
  unfold W0
  rw[e0,Option.bind_some]
  have key:∀ i,i<h.length->mite (v0 (m2 (inD false) (mvar 0) (mvar 2))) (mvar 1) (m2 subD (mvar 3) (zu7 (zz4 (bvar 4) (j4 (m2 subD (mvar 0) (mc (.int 1)))) (j4 (m2 addD (mvar 0) (mc (.int 2)))) (j4 (mc (.int 2)))))) [k0b i,some (.sh (.int (h.getD i 0))),some (.sh (RI (NI (stG s 0 none h)))),k0c s,some (.sh (RI h))]=some (.int (if i∈stG s 0 none h then h.getD i 0 else newv s h i)):=by
   intro i hi
   have et:v0 (m2 (inD false) (mvar 0) (mvar 2)) [k0b i,some (.sh (.int (h.getD i 0))),some (.sh (RI (NI (stG s 0 none h)))),k0c s,some (.sh (RI h))]=some (decide (i∈stG s 0 none h)):=by
    unfold v0
    rw[u9 (a:=.int (i:Int)) (b:=RI (NI (stG s 0 none h))) rfl rfl,ze7]
    show some (decide ((i:Int)∈NI (stG s 0 none h)))=_
    rw[decide_eq_decide.mpr (yb2 i _)]
   unfold mite
   rw[et]
   by_cases q:i∈stG s 0 none h
   .rw[decide_eq_true q,if_pos q];rfl
   .rw[decide_eq_false q,if_neg q]
    have i1:=yk5 s h i hi q
    have hp:=yi0 h i i1 hi
    have ep:zz4 (bvar 4) (j4 (m2 subD (mvar 0) (mc (.int 1)))) (j4 (m2 addD (mvar 0) (mc (.int 2)))) (j4 (mc (.int 2))) [k0b i,some (.sh (.int (h.getD i 0))),some (.sh (RI (NI (stG s 0 none h)))),k0c s,some (.sh (RI h))]=some ((if i+1<h.length then [h.getD (i-1) 0,h.getD (i+1) 0]else [h.getD (i-1) 0]).map .int):=by
     rw[<-hp]
     refine yg0 rfl (by unfold j4;rw[u9 (a:=.int (i:Int)) (b:=.int 1) rfl rfl];rfl) (by unfold j4;rw[u9 (a:=.int (i:Int)) (b:=.int 2) rfl rfl];rfl) rfl ⟨by simp,?_⟩
     rw[hp]
     split <;> exact t8 (by simp)
    have em:∃ v,zu7 (zz4 (bvar 4) (j4 (m2 subD (mvar 0) (mc (.int 1)))) (j4 (m2 addD (mvar 0) (mc (.int 2)))) (j4 (mc (.int 2)))) [k0b i,some (.sh (.int (h.getD i 0))),some (.sh (RI (NI (stG s 0 none h)))),k0c s,some (.sh (RI h))]=some (.int v)/\s-v=newv s h i:=by
     unfold newv
     by_cases z:i+1<h.length
     .rw[if_pos z]at ep ⊢
      refine⟨_,zf8 ep,?_⟩
      show s-(if h.getD (i+1) 0<h.getD (i-1) 0 then h.getD (i+1) 0 else h.getD (i-1) 0)=_
      rw[yb1]
     .rw[if_neg z]at ep ⊢
      exact⟨_,zf8 ep,rfl⟩
    obtain⟨v,em,ev⟩:=em
    simp only
    rw[u9 (a:=.int s) rfl em,<-ev]
    rfl
  refine(O9 (f:=fun(i:Nat)=>D.tup [.int (i:Int),.int (h.getD i 0)]) (G:=fun(i:Nat)=>D.int (if i∈stG s 0 none h then h.getD i 0 else newv s h i)) (fun is ρ=>(∀ i∈is,i<h.length)/\∃ x y,ρ=[x,y,some (.sh (RI (NI (stG s 0 none h)))),k0c s,some (.sh (RI h))]) (by
   rintro i is ρ ⟨hi,x,y,rfl⟩
   exact⟨[k0b i,some (.sh (.int (h.getD i 0))),some (.sh (RI (NI (stG s 0 none h)))),k0c s,some (.sh (RI h))],rfl,rfl,key i (hi i (by simp)),fun j hj=>hi j (by simp[hj]),_,_,rfl⟩) (List.range h.length) _ [] ⟨fun i hi=>List.mem_range.mp hi,none,none,rfl⟩ (t8 (by simp;omega))).trans ?_
  rw[<-yg7 s h,map_map]
  rfl
 have e5:mset 6 (mlst (W0 [none,none,some 4,some 1,some 5] (i7 P2 (z5 (mvar 5) anil)) (.tp [0,1]) cyes (mite (v0 (m2 (inD false) (mvar 0) (mvar 2))) (mvar 1) (m2 subD (mvar 3) (zu7 (zz4 (bvar 4) (j4 (m2 subD (mvar 0) (mc (.int 1)))) (j4 (m2 addD (mvar 0) (mc (.int 2)))) (j4 (mc (.int 2))))))))) [some (.sh (RI η)),k0c s,some (.sh (.str (wd b))),k0c cn,some (.sh (RI (NI (stG s 0 none h)))),some (.sh (RI h)),none]=some (.nx [some (.sh (RI η)),k0c s,some (.sh (.str (wd b))),k0c cn,some (.sh (RI (NI (stG s 0 none h)))),some (.sh (RI h)),some (.sh (RI (mkH s none h)))]):=(j5 (X1 e4)).trans rfl
 have e6:O7 K9 (z5 (mvar 6) (z5 (mvar 2) anil)) [some (.sh (RI η)),k0c s,some (.sh (.str (wd b))),k0c cn,some (.sh (RI (NI (stG s 0 none h)))),some (.sh (RI h)),some (.sh (RI (mkH s none h)))]=some ((mirF b (mkH s none h)).map .int):=
  C5 (z7 (d:=RI (mkH s none h)) rfl (z7 (d:=.str (wd b)) rfl w6)) (Q8 b (mkH s none h) (by omega))
 unfold g6 b_made_wavy
 have all:∀{x1 x2 x3 x4 Z:MW}{ρ O ρ2 N I:Ro}{β:Bx}{d:List D},x1 ρ β=some (.nx O,β)->x2 O β=some (.nx ρ2,β)->x3 ρ2 β=some (.nx N,β)->x4 N β=some (.nx I,β)->Z I β=some (.rf d,β)->i9 x1 (i9 x2 (i9 x3 (i9 x4 Z))) ρ β=some (.rf d,β):=by
  intro x1 x2 x3 x4 Z ρ O ρ2 N I β d h1 h2 Y h4 h5
  simp only[i9,h1,h2,Y,h4,h5]
 unfold runW
 rw[all e1 (show wS _ _ _=_ by unfold wS;rw[e2]) (show wS _ _ _=_ by unfold wS;rw[e3]) (show wS _ _ _=_ by unfold wS;rw[e5]) (show zp5 _ _ _=some (.rf ((mirF b (mkH s none h)).map .int),Bt T)by unfold zp5;rw[e6];rfl)]
 simp
end
section
open PySem L2
noncomputable def nw (w:Str):Bool:=!((("up":Str)==w) || ((("down":Str)==w) || false))
theorem xb0 (w:Str):inD true (.str w) (.tup ((["up","down"]:List Str).map .str))=some (.bl (nw w)):=rfl
theorem xh0 (w:Str):inD true (.str w) (.lst [.str "up",.str "down"])=some (.bl (nw w)):=rfl
theorem xc3 {w:Str}(h:nw w=false):∃ b,w=wd b:=by
 unfold nw at h
 cases h1:(("up":Str)==w)with
 |true=>exact⟨true,(beq_iff_eq.mp h1).symm⟩
 |false=>
  rw[h1]at h
  cases h2:(("down":Str)==w)with
  |true=>exact⟨false,(beq_iff_eq.mp h2).symm⟩
  |false=>rw[h2]at h;simp at h
theorem xp0 (b:Bool):nw (wd b)=false:=by cases b <;> decide +kernel
theorem xz1 (s:Int)(h:s<1):m_Z9 [.int s]=none:=by
 unfold m_Z9 b_Z9
 refine zk5 ?_
 rw[R7 (yx3 (i:=s) (k:=1) rfl rfl),decide_eq_true h];rfl
theorem xo1 (s:Int)(h:s<1):zc1 [.int s]=some "NoStep":=by
 unfold zc1 xr4
 refine zk3 (ρ:=v7 1 [.int s]) ?_
 rw[yd6 (yx3 (i:=s) (k:=1) rfl rfl),decide_eq_true h]
 exact zs7 (z7 rfl w6)
theorem B8 (η:List Int)(s:Int)(w:Str):v0 (m2 (inD true) (mvar 2) (mc (.tup ((["up","down"]:List Str).map .str)))) (v7 4 [RI η,.int s,.str w])=some (nw w):=by
 refine X4 ?_
 rw[u9 (a:=.str w) (b:=.tup ((["up","down"]:List Str).map .str)) rfl rfl]
 exact xb0 w
theorem xs3 (η:List Int)(s:Int)(w:Str)(h:nw w=true\/s<1):m_Z0 [RI η,.int s,.str w]=none:=by
 unfold m_Z0 b_Z0
 refine zk5 ?_
 cases hw:nw w with
 |true=>
  refine yt7 ?_
  rw[R7 (B8 η s w),hw];rfl
 |false=>
  have hs:s<1:=by rcases h with h|h;rw[hw]at h;cases h;exact h
  refine seqI (ρ':=v7 4 [RI η,.int s,.str w]) (by rw[R7 (B8 η s w),hw];rfl) ?_
  exact yt7 (zt0 (J9 (z7 (d:=.int s) rfl w6) (xz1 s hs)))
theorem fb_x (η:List Int)(s:Int)(w:Str)(h:nw w=true\/s<1):Q0 [RI η,.int s,.str w]=some (if nw w then "NoText" else "NoStep"):=by
 unfold Q0 xr6
 refine zk3 (ρ:=v7 4 [RI η,.int s,.str w]) ?_
 cases hw:nw w with
 |true=>
  rw[xq6 (by rw[R7 (B8 η s w),hw];rfl),yd6 (B8 η s w),hw]
  exact zs7 (z7 rfl w6)
 |false=>
  have hs:s<1:=by rcases h with h|h;rw[hw]at h;cases h;exact h
  rw[ya1 (ρ':=v7 4 [RI η,.int s,.str w]) (by rw[R7 (B8 η s w),hw];rfl)]
  exact xq8 (P4 (z7 (d:=.int s) rfl w6) (xo1 s hs))
theorem xb4 (η:List Int)(s:Int)(hs:s<1):m_Z2 [RI η,.int s]=none:=by
 unfold m_Z2 b_Z2
 refine zk5 ?_
 have e:W0 [none,some 0,some 1] (zh9 (mc (.tup ((["up","down"]:List Str).map .str)))) (.nm 0) cyes (V4 m_Z0 (z5 (mvar 1) (z5 (mvar 2) (z5 (mvar 0) anil)))) (v7 2 [RI η,.int s])=none:=by
  unfold W0
  rw[show zh9 (mc (.tup ((["up","down"]:List Str).map .str))) (v7 2 [RI η,.int s])=some [.str "up",.str "down"]from rfl,Option.bind_some]
  unfold V8
  rw[show tgD (.nm 0) (.str "up") (Y2 [none,some 0,some 1] (v7 2 [RI η,.int s]))=some [some (.sh (.str "up")),some (.sh (RI η)),k0c s]from rfl]
  simp only
  rw[show cyes [some (.sh (.str "up")),some (.sh (RI η)),k0c s]=some true from rfl]
  simp only
  rw[show V4 m_Z0 (z5 (mvar 1) (z5 (mvar 2) (z5 (mvar 0) anil))) [some (.sh (.str "up")),some (.sh (RI η)),k0c s]=none by
   unfold V4;rw[z7 (d:=RI η) rfl (z7 (d:=.int s) rfl (z7 (d:=.str "up") rfl w6)),Option.bind_some,xs3 η s "up" (.inr hs)]]
 unfold zx3
 rw[e]
theorem fc_x (η:List Int)(s:Int)(hs:s<1):zm7 [RI η,.int s]=some "NoStep":=by
 unfold zm7 xr5
 refine zk3 (ρ:=v7 2 [RI η,.int s]) (xq8 ?_)
 unfold ym6
 rw[show zh9 (mc (.tup ((["up","down"]:List Str).map .str))) (v7 2 [RI η,.int s])=some [.str "up",.str "down"]from rfl]
 show T3 Q0 _ [some (.sh (.str "up")),some (.sh (RI η)),k0c s]=_
 refine(P4 (z7 (d:=RI η) rfl (z7 (d:=.int s) rfl (z7 (d:=.str "up") rfl w6))) (fb_x η s "up" (.inr hs))).trans ?_
 rw[show nw "up"=false from xp0 true];rfl
theorem xz7 {x y:MW}{ρ:Ro}{β:Bx}(h:x ρ β=none):i9 x y ρ β=none:=by unfold i9;rw[h]
theorem xp1 {m:MS}{ρ:Ro}{β:Bx}(h:m ρ=none):wS m ρ β=none:=by unfold wS;rw[h]
theorem xy1 {n:Nat}{m:MW}{ds:List D}{β:Bx}(h:m (v7 n ds) β=none):runW n m ds β=none:=by unfold runW;rw[h]
theorem xc4 (T:Addr)(η:List Int)(s:Int)(hs:s<1):g6 [RI η,.int s] (Bt T)=none:=by
 unfold g6 b_made_wavy
 refine xy1 (xz7 ?_)
 unfold za4 za6
 rw[if_pos ⟨T,C6 _ _ _ _⟩]
 have h1:l7 m_Z0 (z5 (mvar 1) (z5 (mvar 2) (z5 (mvar 0) anil))) ((Y2 [none,some 0,some 1] (v7 7 [RI η,.int s])).set 0 (some (.sh (.str "up"))))=none:=J9 (z7 (d:=RI η) rfl (z7 (d:=.int s) rfl (z7 (d:=.str "up") rfl w6))) (xs3 η s "up" (.inr hs))
 have h2:minN (fun d=>l7 m_Z0 (z5 (mvar 1) (z5 (mvar 2) (z5 (mvar 0) anil))) ((Y2 [none,some 0,some 1] (v7 7 [RI η,.int s])).set 0 (some (.sh d)))) ((["up","down"]:List Str).map .str)=none:=by
  show (match l7 m_Z0 (z5 (mvar 1) (z5 (mvar 2) (z5 (mvar 0) anil))) ((Y2 [none,some 0,some 1] (v7 7 [RI η,.int s])).set 0 (some (.sh (.str "up"))))with |some i=>minF _ [.str "down"] (.str "up") i|none=>none)=_
  rw[h1]
 rw[h2]
 rfl
theorem mw_x (T:Addr)(η:List Int)(s:Int)(hs:s<1):e9 [RI η,.int s] (Bt T)=some "NoStep":=by
 unfold e9 xy0 S4 xlam
 rw[if_pos ⟨T,C6 _ _ _ _⟩]
 show T3 Q0 _ ((Y2 [none,some 0,some 1] (v7 7 [RI η,.int s])).set 0 (some (.sh (.str "up"))))=_
 refine(P4 (z7 (d:=RI η) rfl (z7 (d:=.int s) rfl (z7 (d:=.str "up") rfl w6))) (fb_x η s "up" (.inr hs))).trans ?_
 rw[show nw "up"=false from xp0 true];rfl
theorem yy5:zo0 [.non]=some (.sh (.int 0)):=by
 have n:v0 (m2 (isND false) (mvar 0) (mc .non)) (v7 1 [.non])=some true:=X4 ((u9 (a:=.non) (b:=.non) rfl rfl).trans rfl)
 unfold zo0 b_Z13
 refine Q2 ?_
 unfold mseq
 rw[R7 n]
 rfl
noncomputable def xN (t:Bool):Str:=if t then "NoText" else "NoStep"
theorem xq9 (t:Bool):zo0 [.exc (xN t)]=some (.sh (.int (if t then 2 else 1))):=by
 have x:∀{t1 t2:Bool},misX [("NoStep",t1),("NoText",t2)] (mvar 0) [some (.sh (.exc (xN t)))]=some (.bl (if t then t2 else t1)):=fun{t1 t2}=>by
  refine xu6 (c:=xN t) rfl ?_
  cases t <;> rfl
 have n:v0 (m2 (isND false) (mvar 0) (mc .non)) [some (.sh (.exc (xN t)))]=some false:=X4 ((u9 (a:=.exc (xN t)) (b:=.non) rfl rfl).trans rfl)
 unfold zo0 b_Z13
 refine Q2 ?_
 show mseq _ _ [some (.sh (.exc (xN t)))]=_
 refine seqI (ρ':=[some (.sh (.exc (xN t)))]) (by rw[R7 n];rfl) ?_
 refine seqI (ρ':=[some (.sh (.exc (xN t)))]) ?_ ?_
 .rw[R7 ((xg4 (D8 x) (zt9 (D8 x))))]
  cases t <;> rfl
 have t2:v0 (m2 neSD (misX [("NoStep",true),("NoText",false)] (mvar 0)) (misX [("NoStep",false),("NoText",true)] (mvar 0))) [some (.sh (.exc (xN t)))]=some true:=by
  refine X4 ?_
  rw[u9 x x]
  cases t <;> rfl
 have r:mret (m2 addD (mc (.int 1)) (i5 intF (z5 (misX [("NoStep",false),("NoText",true)] (mvar 0)) anil))) [some (.sh (.exc (xN t)))]=some (.rt (.int (if t then 2 else 1))):=by
  refine zj9 ?_
  refine(u9 (a:=.int 1) rfl (zs1 (z7 x w6) |>.trans (show intF [.bl (if t then true else false)]=some (.int (if t then 1 else 0))by cases t <;> rfl))).trans ?_
  cases t <;> rfl
 unfold mseq
 rw[R7 t2]
 simp only[if_true]
 rw[r]
end
section
open PySem L2
theorem ya7 {names:List Str}{mb:MW}{z:MS}{j:MXw}{i:Nat}{ρ:Ro}{β:Bx}{o:Out×Bx}(h:mb ρ β=some o):zp1 names mb j i z ρ β=some o:=by unfold zp1;rw[h]
theorem xp6 {names:List Str}{mb:MW}{z:MS}{j:MXw}{i:Nat}{ρ ρ2:Ro}{β:Bx}{c:Str}(h:mb ρ β=none)(G:j ρ β=some c)(I:c∈names)(hs:z (ρ.set i (some (.sh (.exc c))))=some (.nx ρ2)):zp1 names mb j i z ρ β=some (.nx (ρ2.set i none),β):=by
 unfold zp1
 rw[h,G]
 dsimp only
 rw[if_pos I,hs]
noncomputable def eA (door:Int)(η:List Int)(s:Int)(w:Str)(f:D):Ro:=[k0c door,some (.sh (RI η)),k0c s,some (.sh (.str w)),some (.sh f),none]
noncomputable def bA:MW:=mifW (wE (v0 (m2 eqSD (mvar 0) (mc (.int 0))))) (wS (P0 (l7 m_Z0 (z5 (mvar 1) (z5 (mvar 2) (z5 (mvar 3) anil)))))) (mifW (wE (v0 (m2 eqSD (mvar 0) (mc (.int 1))))) (wS (P0 (l7 m_Z2 (z5 (mvar 1) (z5 (mvar 2) anil))))) (U2 g6 (z5 (mvar 1) (z5 (mvar 2) anil))))
noncomputable def xA:MXw:=xifW (v0 (m2 eqSD (mvar 0) (mc (.int 0)))) (zm8 (T3 Q0 (z5 (mvar 1) (z5 (mvar 2) (z5 (mvar 3) anil))))) (xifW (v0 (m2 eqSD (mvar 0) (mc (.int 1)))) (zm8 (T3 zm7 (z5 (mvar 1) (z5 (mvar 2) anil)))) (G8 e9 (z5 (mvar 1) (z5 (mvar 2) anil))))
theorem A0:b_law_asked=i9 (wS (mset 4 (mc .non))) (i9 (zp1 ["NoStep","NoText"] bA xA 5 (mset 4 (mvar 5))) (K8 (wE (l7 zo0 (z5 (mvar 4) anil))))):=rfl
theorem zc0 {door:Int}{η:List Int}{s:Int}{w:Str}{T:Addr}(h:bA (eA door η s w .non) (Bt T)=some (.nx (eA door η s w .non),Bt T)):m5 [.int door,RI η,.int s,.str w] (Bt T)=some (.sh (.int 0),Bt T):=by
 have key:b_law_asked (v7 6 [.int door,RI η,.int s,.str w]) (Bt T)=some (.rt (.int 0),Bt T):=by
  rw[A0]
  refine seqW (ρ':=eA door η s w .non) (V2 ((j5 (d:=.non) rfl).trans rfl)) (seqW (ya7 h) ?_)
  unfold K8 wE
  rw[b9 (z7 (d:=.non) rfl w6) yy5]
  rfl
 unfold m5 runW
 rw[key]
 simp only[Nat.sub_self,drop_zero]
theorem yn8 {door:Int}{η:List Int}{s:Int}{w:Str}{T:Addr}(t:Bool)(h:bA (eA door η s w .non) (Bt T)=none)(i:xA (eA door η s w .non) (Bt T)=some (xN t)):m5 [.int door,RI η,.int s,.str w] (Bt T)=some (.sh (.int (if t then 2 else 1)),Bt T):=by
 have key:b_law_asked (v7 6 [.int door,RI η,.int s,.str w]) (Bt T)=some (.rt (.int (if t then 2 else 1)),Bt T):=by
  rw[A0]
  refine seqW (ρ':=eA door η s w .non) (V2 ((j5 (d:=.non) rfl).trans rfl)) (seqW (ρ':=eA door η s w (.exc (xN t))) ((xp6 h i (ρ2:=(eA door η s w (.exc (xN t))).set 5 (some (.sh (.exc (xN t))))) ?_ ((j5 (d:=.exc (xN t)) rfl).trans rfl)).trans rfl) ?_)
  .cases t
   .exact mem_cons_self ..
   .exact mem_cons_of_mem _ (mem_cons_self ..)
  unfold K8 wE
  rw[b9 (z7 (d:=.exc (xN t)) rfl w6) (xq9 t)]
  rfl
 unfold m5 runW
 rw[key]
 simp only[Nat.sub_self,drop_zero]
theorem ze8 {c:Ro->Bx->Option Bool}{x y:MW}{ρ:Ro}{β:Bx}{b:Bool}(h:c ρ β=some b):mifW c x y ρ β=(if b then x else y) ρ β:=by unfold mifW;rw[h];cases b <;> rfl
theorem zm9 {c:MB}{x y:MXw}{ρ:Ro}{β:Bx}{b:Bool}(h:c ρ=some b):xifW c x y ρ β=(if b then x else y) ρ β:=by unfold xifW;rw[h];cases b <;> rfl
theorem ya4 {x:ME}{ρ:Ro}{β:Bx}{i k:Int}(h:x ρ=some (.int i)):wE (v0 (m2 eqSD x (mc (.int k)))) ρ β=some (i==k):=yx4 h
theorem ya0 (T:Addr)(η:List Int)(s:Int)(w:Str)(hl:η.length<=1000):m5 [.int 0,RI η,.int s,.str w] (Bt T)=some (.sh (.int (if nw w then 2 else if s<1 then 1 else 0)),Bt T):=by
 have j:z5 (mvar 1) (z5 (mvar 2) (z5 (mvar 3) anil)) (eA 0 η s w .non)=some [RI η,.int s,.str w]:=z7 (d:=RI η) rfl (z7 (d:=.int s) rfl (z7 (d:=.str w) rfl w6))
 have G:bA (eA 0 η s w .non) (Bt T)=wS (P0 (l7 m_Z0 (z5 (mvar 1) (z5 (mvar 2) (z5 (mvar 3) anil))))) (eA 0 η s w .non) (Bt T):=by
  unfold bA;rw[ze8 (ya4 (i:=0) (k:=0) rfl)];rfl
 have ex:xA (eA 0 η s w .non) (Bt T)=T3 Q0 (z5 (mvar 1) (z5 (mvar 2) (z5 (mvar 3) anil))) (eA 0 η s w .non):=by
  unfold xA;rw[zm9 (yx4 (i:=0) (k:=0) rfl)];rfl
 by_cases h:nw w=true\/s<1
 .have:=yn8 (door:=0) (η:=η) (s:=s) (w:=w) (T:=T) (nw w) (by rw[G];exact xp1 (zt0 (J9 j (xs3 η s w h)))) (by rw[ex,P4 j (fb_x η s w h)];cases nw w <;> rfl)
  rw[this]
  cases hw:nw w with
  |true=>rfl
  |false=>
   rw[hw]at h
   have:s<1:=by rcases h with h|h;cases h;exact h
   simp[this]
 .have h1:nw w=false:=by cases hw:nw w;rfl;exact absurd (.inl hw) h
  have h2:1<=s:=by have:¬ s<1:=fun z=>h (.inr z);omega
  obtain⟨b,rfl⟩:=xc3 h1
  rw[zc0 (by rw[G];exact V2 (ze0 (J8 j (j7 b η s h2 hl)))),h1,if_neg (by simp),if_neg (by omega)]
theorem yn9 (T:Addr)(η:List Int)(s:Int)(w:Str)(hl:η.length<=1000)(door:Int)(hd:door=1\/door=2):m5 [.int door,RI η,.int s,.str w] (Bt T)=some (.sh (.int (if s<1 then 1 else 0)),Bt T):=by
 have j:z5 (mvar 1) (z5 (mvar 2) anil) (eA door η s w .non)=some [RI η,.int s]:=z7 (d:=RI η) rfl (z7 (d:=.int s) rfl w6)
 have G:(door==0)=false:=by rcases hd with rfl|rfl <;> rfl
 have z:bA (eA door η s w .non) (Bt T)=(if door==1 then wS (P0 (l7 m_Z2 (z5 (mvar 1) (z5 (mvar 2) anil))))else U2 g6 (z5 (mvar 1) (z5 (mvar 2) anil))) (eA door η s w .non) (Bt T):=by
  unfold bA
  rw[ze8 (ya4 (i:=door) (k:=0) rfl),G]
  show mifW _ _ _ _ _=_
  rw[ze8 (ya4 (i:=door) (k:=1) rfl)]
 have ex:xA (eA door η s w .non) (Bt T)=(if door==1 then zm8 (T3 zm7 (z5 (mvar 1) (z5 (mvar 2) anil)))else G8 e9 (z5 (mvar 1) (z5 (mvar 2) anil))) (eA door η s w .non) (Bt T):=by
  unfold xA
  rw[zm9 (yx4 (i:=door) (k:=0) rfl),G]
  show xifW _ _ _ _ _=_
  rw[zm9 (yx4 (i:=door) (k:=1) rfl)]
 by_cases hs:s<1
 .rw[if_pos hs]
  refine(yn8 (T:=T) false ?_ ?_).trans rfl
  .rw[z]
   rcases hd with rfl|rfl
   .exact xp1 (zt0 (J9 j (xb4 η s hs)))
   .show U2 _ _ _ _=_
    unfold U2
    rw[j,Option.bind_some,xc4 T η s hs]
  .rw[ex]
   rcases hd with rfl|rfl
   .exact P4 j (fc_x η s hs)
   .show G8 _ _ _ _=_
    unfold G8
    rw[j,Option.bind_some,mw_x T η s hs]
    rfl
 .rw[if_neg hs]
  refine zc0 ?_
  rw[z]
  rcases hd with rfl|rfl
  .exact V2 (ze0 (J8 j (M7 η s (by omega) hl)))
  .show U2 _ _ _ _=_
   unfold U2
   rw[j,Option.bind_some,zp9 T η s (by omega) hl]
end
section
open PySem L2
theorem xs5 (l:List Int):eqFD true (.lst (l.map .int)) (.lst (l.map .int))=some (.bl false):=by
 unfold eqFD;rw[yb8 6 l];rfl
theorem xb5 (z:Bool)(i j:Int):eqFD z (.int i) (.int j)=some (.bl (if z then !(i==j)else i==j)):=by
 unfold eqFD eqF;rfl
theorem ye4 (n:Nat)(c:Int)(l:List Int):eqF (n+3) (.tup [.int c,RI l]) (.tup [.int c,RI l])=some true:=by
 show (zipE (eqF (n+2)) [.int c,RI l] [.int c,RI l]).map _=_
 have e1:eqF (n+2) (RI l) (RI l)=some true:=yb8 n l
 have e2:eqF (n+2) (.int c) (.int c)=some true:=by show eqS (.int c) (.int c)=_;rw[yp5];simp
 unfold zipE zipE zipE
 rw[e1,e2];rfl
theorem ye3 (c:Int)(l:List Int):eqFD true (.tup [.int c,RI l]) (.tup [.int c,RI l])=some (.bl false):=by
 unfold eqFD;rw[ye4 5 c l];rfl
theorem yk6 {i:Nat}{f:MF}{m:ML}{c:MB}{mx:MS}{y:D}{ρ:Ro}{ds es:List D}{d:D}(h1:m ρ=some ds)(h2:f ds=some (.pr d es))(z:c (ρ.set i (some (.sh (.tup [d,.lst es]))))=some false)(j:es.length<sizeLine/\i<ρ.length):zp4 i f m c mx y ρ=some (.nx (ρ.set i none)):=by
 unfold zp4
 rw[h1]
 simp only[h2,z,j,and_self,if_true]
noncomputable def eT (η:List Int)(s:Int)(o2 o3 o4:Option S):Ro:=[some (.sh (RI η)),k0c s,o2,o3,o4,none]
theorem yx1 (η:List Int)(s:Int)(hs:1<=s)(hl:η.length<=900)(b:Bool)(o4:Option S):zs5 (eT η s (some (.sh (.str (wd b)))) (some (.sh (.int (sg b)))) o4)=some (.nx (eT η s (some (.sh (.str (wd b)))) (some (.sh (.int (sg b)))) (some (.sh (FB b η s))))):=by
 have z:=c7
 have i:=V9 (s:=s) 0 none (mirF b η)
 have hm:=X6 b η
 have j:z5 (mvar 0) (z5 (mvar 1) (z5 (mvar 3) anil)) (eT η s (some (.sh (.str (wd b)))) (some (.sh (.int (sg b)))) (some (.sh (FB b η s))))=some [RI η,.int s,.int (sg b)]:=z7 (d:=RI η) rfl (z7 (d:=.int s) rfl (z7 (d:=.int (sg b)) rfl w6))
 unfold zs5
 refine seqI (ρ':=eT η s (some (.sh (.str (wd b)))) (some (.sh (.int (sg b)))) (some (.sh (FB b η s)))) ((j5 (b9 (z7 (d:=RI η) rfl (z7 (d:=.int s) rfl (z7 (d:=.int (sg b)) rfl w6))) (yz7 η s b hl))).trans rfl) ?_
 have t:v0 (m2 ltD (mlen (bvar 0)) (mc (.int 9))) (eT η s (some (.sh (.str (wd b)))) (some (.sh (.int (sg b)))) (some (.sh (FB b η s))))=some (decide ((η.length:Int)<9)):=by
  refine yx3 ?_ rfl
  rw[T8 (show bvar 0 _=some (η.map .int)from rfl),length_map]
 refine seqI (ρ':=eT η s (some (.sh (.str (wd b)))) (some (.sh (.int (sg b)))) (some (.sh (FB b η s)))) ?_ ?_
 .have c:cand (v0 (m2 ltD (mlen (bvar 0)) (mc (.int 9)))) (v0 (m2 (eqFD true) (mvar 4) (l7 m_Z6 (z5 (mvar 0) (z5 (mvar 1) (z5 (mvar 3) anil)))))) (eT η s (some (.sh (.str (wd b)))) (some (.sh (.int (sg b)))) (some (.sh (FB b η s))))=some false:=by
   by_cases q:(η.length:Int)<9
   .refine(zh5 t (b:=false) (X4 ?_)).trans (by simp)
    rw[u9 (a:=FB b η s) rfl (b9 j (zh6 η s b (by omega)))]
    exact ye3 _ _
   .unfold cand
    rw[t,decide_eq_false q]
  rw[R7 c];rfl
 refine(yk6 (z7 (d:=RI η) rfl (z7 (d:=.int s) rfl (z7 (d:=.str (wd b)) rfl w6))) (j7 b η s hs (by omega)) ?_ ⟨by rw[length_map];unfold NI;rw[length_map];omega,by show 5<6;decide⟩).trans rfl
 refine(zt9 (k:=true) (D8 (b9 (z7 (d:=FB b η s) rfl (z7 (d:=FB b η s) rfl w6)) ?_))).trans rfl
 exact xf1 _ _ (by unfold NI;rw[length_map];omega)
theorem ya8 (η:List Int)(s:Int)(hs:1<=s)(hl:η.length<=900):m_Z3 [RI η,.int s]=some (.sh (.bl true)):=by
 have i2:0+1+1<=sizeLine:=t8 (by decide)
 have i3:0+1+1+1<=sizeLine:=t8 (by decide)
 unfold m_Z3 b_Z3
 refine Q2 ?_
 show mseq _ _ (eT η s none none none)=_
 have z:∀ b:Bool,∀ x y:ME,x (eT η s none none none)=some (.str (wd b))->y (eT η s none none none)=some (.int (sg b))->mtup (z5 x (z5 y anil)) (eT η s none none none)=some (.tup [.str (wd b),.int (sg b)]):=fun b x y I G=>zu5 (z7 I (z7 G w6)) i2
 have N:Z1 (mlst (l6 (z5 (mtup (z5 (mc (.str "up")) (z5 (mc (.int 1)) anil))) (z5 (mtup (z5 (mc (.str "down")) (z5 (m1 negD (mc (.int 1))) anil))) (z5 (mtup (z5 (mc (.str "up")) (z5 (mc (.int 1)) anil))) anil))))) (eT η s none none none)=some (([true,false,true]:List Bool).map fun b=>D.tup [.str (wd b),.int (sg b)]):=by
  unfold Z1
  rw[X1 (d6 (z7 (z true _ _ rfl rfl) (z7 (z false _ _ rfl rfl) (z7 (z true _ _ rfl rfl) w6))) i3)]
  rfl
 obtain⟨o,e,p2,j,i,rfl⟩:=V7 (g:=.tp [2,3]) (body:=zs5) (f:=fun(b:Bool)=>D.tup [.str (wd b),.int (sg b)]) (fun _ ρ=>∃ p2 j i,ρ=eT η s p2 j i) (fun o=>∃ p2 j i,o= .nx (eT η s p2 j i))
  (by
   rintro b bs ρ ⟨p2,j,i,rfl⟩
   exact⟨_,_,rfl,yx1 η s hs hl b i,_,_,_,rfl⟩) (fun ρ h=>by obtain⟨p2,j,i,rfl⟩:=h;exact⟨_,_,_,rfl⟩) [true,false,true] _ ⟨none,none,none,rfl⟩
 refine seqI (ρ':=eT η s p2 j i) ?_ rfl
 unfold mfor
 rw[N,Option.bind_some]
 exact e
end
section
open PySem L2
noncomputable def eC (scr:D)(k c:Int)(r:List D)(η:List Int)(s t:Int)(o4 o9 o10 o11 o12 o13 o14:Option S):Ro:=[some (.sh scr),k0c k,k0c c,some (.own r),o4,some (.sh (RI η)),k0c s,k0c t,some (.sh (RI η)),o9,o10,o11,o12,o13,o14]
theorem zs0 {f:MFW}{m:ML}{y:ME}{ρ:Ro}{β:Bx}{ds:List D}{i j:Int}(h:m ρ=some ds)(h2:f ds β=some (.sh (.int i),β))(z:y ρ=some (.int j))(e:i=j):zz6 (eqFD true) (T9 f m) y ρ β=some (false,β):=by
 subst e
 have e1:T9 f m ρ β=some (.int i,β):=by unfold T9;rw[h,Option.bind_some,h2];rfl
 unfold zz6
 rw[e1]
 simp only
 rw[z]
 simp only
 rw[xb5]
 simp
theorem yq9 {c:Ro->Bx->Option (Bool×Bx)}{x y:MW}{ρ:Ro}{β:Bx}(h:c ρ β=some (false,β)):mifX c x y ρ β=y ρ β:=by unfold mifX;rw[h]
variable (T:Addr)(scr:D)(k c:Int)(r:List D)(η:List Int)(s t:Int)(hs:1<=s)(ht:t<1)(hl:η.length<=1000)
include hs ht hl
theorem yy6 (w:Str)(o4 o9 o10 o11 o13 o14:Option S):G4 (eC scr k c r η s t o4 o9 o10 o11 (some (.sh (.str w))) o13 o14) (Bt T)=some (.nx (eC scr k c r η s t o4 o9 o10 o11 (some (.sh (.str w))) (some (.sh (.bl (nw w)))) o14),Bt T):=by
 have i2:0+1+1<=sizeLine:=t8 (by decide)
 have i:∀ x:ME,i5 intF (z5 (mvar 13) anil) (eC scr k c r η s t o4 o9 o10 o11 (some (.sh (.str w))) (some (.sh (.bl (nw w)))) o14)=some (.int (if nw w then 1 else 0)):=fun _=>(zs1 (z7 (d:=.bl (nw w)) rfl w6)).trans (by cases nw w <;> rfl)
 have i:=i (mc .non)
 unfold G4
 refine seqW (ρ':=eC scr k c r η s t o4 o9 o10 o11 (some (.sh (.str w))) (some (.sh (.bl (nw w)))) o14) (V2 ((j5 (d:=.bl (nw w)) ?_).trans rfl)) ?_
 .exact(u9 (a:=.str w) rfl (X1 (d6 (z7 (d:=.str "up") rfl (z7 (d:=.str "down") rfl w6)) i2))).trans (xh0 w)
 refine seqW (ρ':=eC scr k c r η s t o4 o9 o10 o11 (some (.sh (.str w))) (some (.sh (.bl (nw w)))) o14) ((yq9 (zs0 (z7 (d:=.int 0) rfl (z7 (d:=RI η) rfl (z7 (d:=.int s) rfl (z7 (d:=.str w) rfl w6)))) (ya0 T η s w hl) ((u9 (a:=.int 2) rfl i).trans (show _=some (D.int (if nw w then 2 else 0))by cases nw w <;> rfl)) ?_)).trans rfl) ?_
 .rw[if_neg (show ¬ s<1 by omega)]
 refine(yq9 (zs0 (z7 (d:=.int 0) rfl (z7 (d:=RI η) rfl (z7 (d:=.int t) rfl (z7 (d:=.str w) rfl w6)))) (ya0 T η t w hl) ((u9 (a:=.int 1) rfl i).trans (show _=some (D.int (if nw w then 2 else 1))by cases nw w <;> rfl)) ?_)).trans rfl
 rw[if_pos ht]
theorem zs8 (o4 o9 o10 o11 o14:Option S):∀(ws:List Str)(o12 o13:Option S),∃ j i,forW (.nm 12) G4 (ws.map .str) (eC scr k c r η s t o4 o9 o10 o11 o12 o13 o14) (Bt T)=some (.nx (eC scr k c r η s t o4 o9 o10 o11 j i o14),Bt T)
 |[],o12,o13=>⟨o12,o13,rfl⟩
 |w::ws,o12,o13=>by
  obtain⟨j,i,e⟩:=zs8 o4 o9 o10 o11 o14 ws (some (.sh (.str w))) (some (.sh (.bl (nw w))))
  refine⟨j,i,?_⟩
  rw[map_cons,forW]
  rw[show tgD (.nm 12) (.str w) (eC scr k c r η s t o4 o9 o10 o11 o12 o13 o14)=some (eC scr k c r η s t o4 o9 o10 o11 (some (.sh (.str w))) o13 o14)from rfl]
  simp only
  rw[yy6 T scr k c r η s t hs ht hl]
  exact e
theorem zo8 (d:Int)(hd:d=1\/d=2)(o4 o9 o10 o11 o12 o13:Option S):zs3 (eC scr k c r η s t o4 o9 o10 o11 o12 o13 (k0c d)) (Bt T)=some (.nx (eC scr k c r η s t o4 o9 o10 o11 o12 o13 (k0c d)),Bt T):=by
 unfold zs3
 refine(yq9 ?_).trans rfl
 have e1:zz6 (eqFD true) (T9 m5 (z5 (mvar 14) (z5 (mvar 8) (z5 (mvar 6) (z5 (mc (.str "up")) anil))))) (mc (.int 0)) (eC scr k c r η s t o4 o9 o10 o11 o12 o13 (k0c d)) (Bt T)=some (false,Bt T):=
  zs0 (z7 (d:=.int d) rfl (z7 (d:=RI η) rfl (z7 (d:=.int s) rfl (z7 (d:=.str "up") rfl w6)))) (yn9 T η s "up" hl d hd) (j:=0) rfl (if_neg (by omega))
 have e2:zz6 (eqFD true) (T9 m5 (z5 (mvar 14) (z5 (mvar 8) (z5 (mvar 7) (z5 (mc (.str "up")) anil))))) (mc (.int 1)) (eC scr k c r η s t o4 o9 o10 o11 o12 o13 (k0c d)) (Bt T)=some (false,Bt T):=
  zs0 (z7 (d:=.int d) rfl (z7 (d:=RI η) rfl (z7 (d:=.int t) rfl (z7 (d:=.str "up") rfl w6)))) (yn9 T η t "up" hl d hd) (j:=1) rfl (if_pos ht)
 unfold corX
 rw[e1]
 exact e2
theorem xb6 (o4 o9 o10 o11 o12 o13 o14:Option S):zs2 (eC scr k c r η s t o4 o9 o10 o11 o12 o13 o14) (Bt T)=some (.nx (eC scr k c r η s t o4 o9 o10 o11 o12 o13 (some (.sh (.int 2)))),Bt T):=by
 have i2:0+1+1<=sizeLine:=t8 (by decide)
 unfold zs2
 refine seqW (ρ':=eC scr k c r η s t o4 o9 o10 o11 o12 o13 (some (.sh (.int 2)))) (β':=Bt T) ?_ ?_
 .unfold Q9
  rw[show Z1 (mlst (l6 (z5 (mc (.int 1)) (z5 (mc (.int 2)) anil)))) (eC scr k c r η s t o4 o9 o10 o11 o12 o13 o14)=some [.int 1,.int 2]by unfold Z1;rw[X1 (d6 (z7 (d:=.int 1) rfl (z7 (d:=.int 2) rfl w6)) i2)],Option.bind_some,forW]
  rw[show tgD (.nm 14) (.int 1) (eC scr k c r η s t o4 o9 o10 o11 o12 o13 o14)=some (eC scr k c r η s t o4 o9 o10 o11 o12 o13 (some (.sh (.int 1))))from rfl]
  simp only
  rw[zo8 T scr k c r η s t hs ht hl 1 (.inl rfl)]
  simp only
  rw[forW]
  rw[show tgD (.nm 14) (.int 2) (eC scr k c r η s t o4 o9 o10 o11 o12 o13 (some (.sh (.int 1))))=some (eC scr k c r η s t o4 o9 o10 o11 o12 o13 (some (.sh (.int 2))))from rfl]
  simp only
  rw[zo8 T scr k c r η s t hs ht hl 2 (.inr rfl)]
  rfl
 .unfold zd6
  have e:wE (v0 (meqB true (bvar 8) (bvar 5))) (eC scr k c r η s t o4 o9 o10 o11 o12 o13 (some (.sh (.int 2)))) (Bt T)=some false:=X4 (by unfold meqB;exact xs5 η)
  rw[ze8 e]
  rfl
end
section
open PySem L2
theorem xy2 (c:Int):∃ a b:Int,yr0 [.int c]=some (.fr (RL a b)):=by
 have i2:0+1+1<=sizeLine:=t8 (by decide)
 have m1:∀ i,R1 i 742938285=true:=fun i=>D7 _ _ (by decide) (by decide)
 have q:∀ i,zz5 i 2147483647=true:=fun i=>X5 _ _ (by decide)
 refine⟨(if c<0 then -c else c),(c % 2147483647+1)*742938285 % 2147483647,?_⟩
 unfold yr0 b_Z12
 refine zk4 ?_
 unfold RL
 simp_arith [m1,q,i2,if_true]
theorem S5 {tl:List (Option S)}{o0 o1 o2:Option S}{x:ME}{a b m:Int}(i:x (o0::o1::o2::some (.own (RL a b))::tl)=some (.int m))(h:0<m)(h2:m<1073741824):l0 d9 3 (apu (z5 x anil)) (o0::o1::o2::some (.own (RL a b))::tl)=some (.int (tkX a b m),o0::o1::o2::some (.own (RL (tkA a m) (tkB a b)))::tl):=
 M6 (ρ:=o0::o1::o2::some (.own (RL a b))::tl) rfl (N4 (z7 i w6)) rfl (fun p=>yx2 p a b m h h2) rfl
theorem yt6 {x:MEm}{ρ i:Ro}{b:Bool}(h:x ρ=some (.bl b,i)):D9 x ρ=some (b,i):=by unfold D9;rw[h]
noncomputable def eG (scr:D)(k c:Int)(r:List D)(o4 o5 o6 o7 o8 o9 o10 o11 o12 o13 o14:Option S):Ro:=[some (.sh scr),k0c k,k0c c,some (.own r),o4,o5,o6,o7,o8,o9,o10,o11,o12,o13,o14]
section
variable (scr:D)(k c:Int)(o5 o6 o7 o8 o9 o10 o11 o12 o13 o14:Option S)
theorem xu5 (a b j:Int)(β:Bx):∃ z O b',(z=j\/z=300)/\zi1 (zh4 (cpu (v0 (m2 eqSD (mvar 1) (mc (.int 0))))) (D9 (m2m eqSD (l0 d9 3 (apu (z5 (mc (.int 8)) anil))) (mpu (mc (.int 0)))))) (wS (mset 4 (mc (.int 300)))) (wS n9) (eG scr k c (RL a b) (k0c j) o5 o6 o7 o8 o9 o10 o11 o12 o13 o14) β=some (.nx (eG scr k c (RL O b') (k0c z) o5 o6 o7 o8 o9 o10 o11 o12 o13 o14),β):=by
 have G:cpu (v0 (m2 eqSD (mvar 1) (mc (.int 0)))) (eG scr k c (RL a b) (k0c j) o5 o6 o7 o8 o9 o10 o11 o12 o13 o14)=some (k==0,eG scr k c (RL a b) (k0c j) o5 o6 o7 o8 o9 o10 o11 o12 o13 o14):=by unfold cpu;rw[yx4 (i:=k) rfl]
 cases hk:(k==0)with
 |false=>
  refine⟨j,a,b,.inl rfl,?_⟩
  unfold zi1 zh4
  rw[G,hk]
  rfl
 |true=>
  have tk:l0 d9 3 (apu (z5 (mc (.int 8)) anil)) (eG scr k c (RL a b) (k0c j) o5 o6 o7 o8 o9 o10 o11 o12 o13 o14)=some (.int (tkX a b 8),eG scr k c (RL (tkA a 8) (tkB a b)) (k0c j) o5 o6 o7 o8 o9 o10 o11 o12 o13 o14):=S5 (m:=8) rfl (by decide) (by decide)
  have N:=yt6 (X2 (f:=eqSD) tk (Y3 (m:=mc (.int 0)) (d:=.int 0) rfl) (g:=.bl (tkX a b 8==0)) rfl)
  have I:zh4 (cpu (v0 (m2 eqSD (mvar 1) (mc (.int 0))))) (D9 (m2m eqSD (l0 d9 3 (apu (z5 (mc (.int 8)) anil))) (mpu (mc (.int 0))))) (eG scr k c (RL a b) (k0c j) o5 o6 o7 o8 o9 o10 o11 o12 o13 o14)=some (tkX a b 8==0,eG scr k c (RL (tkA a 8) (tkB a b)) (k0c j) o5 o6 o7 o8 o9 o10 o11 o12 o13 o14):=by
   unfold zh4
   rw[G,hk]
   exact N
  cases hz:(tkX a b 8==0)with
  |true=>
   refine⟨300,tkA a 8,tkB a b,.inr rfl,?_⟩
   unfold zi1
   rw[I,hz]
   exact V2 ((j5 (d:=.int 300) rfl).trans rfl)
  |false=>
   refine⟨j,tkA a 8,tkB a b,.inl rfl,?_⟩
   unfold zi1
   rw[I,hz]
   rfl
end
theorem zt1 {m:ME}{lo hi:MO}{ρ:Ro}{z:Str}{l h:Option Int}(h1:m ρ=some (.str z))(h2:lo ρ=some l)(j:hi ρ=some h)(i:z.length<=sizeLine):C4 m lo hi ρ=some (.str (Txt.slice z l h)):=by
 unfold C4;rw[h1,h2,j]
 show (if z.length<=sizeLine then some (D.str (Txt.slice z l h))else none)=_
 rw[if_pos i]
theorem zs6 {x y:ME}{ρ:Ro}{u v:Str}(h1:x ρ=some (.str u))(h2:y ρ=some (.str v))(h:u.length+v.length<=100):m2 M9 x y ρ=some (.str (u++v)):=by
 rw[u9 h1 h2]
 unfold M9;simp only;rw[if_pos (t8 (Nat.le_trans h (by decide)))]
theorem xt0 (x y:Str):(x++y).length=x.length+y.length:=by
 show (x.cps++y.cps).size=_
 rw[Array.size_append];rfl
theorem xj9 (x:Int)(j:0<=x)(h1:x<26):∃ z:Str,z.length=1/\ixSD (.str "abcdefghijklmnopqrstuvwxyz") (.int x)=some (.str z):=by
 have hl:("abcdefghijklmnopqrstuvwxyz":Str).cps.toList.length=26:=by decide +kernel
 have i:("abcdefghijklmnopqrstuvwxyz":Str).length<=sizeLine:=t8 (by decide +kernel)
 unfold ixSD
 simp only
 rw[if_pos i]
 generalize G:("abcdefghijklmnopqrstuvwxyz":Str).cps.toList=L at hl
 have:∃ q,atI L x=some q:=by
  unfold atI
  rw[yq5 j (by rw[hl];omega)]
  exact⟨_,getElem?_eq_getElem (by rw[hl];omega)⟩
 obtain⟨q,e⟩:=this
 rw[e]
 exact⟨⟨#[q]⟩,rfl,rfl⟩
theorem xo2 (n:Int)(i:0<=n)(h1:n<4):(Txt.slice "down" none (some n)).length<=4/\(Txt.slice "down" (some (n+1)) none).length<=4/\(Txt.slice "up" none (some n)).length<=4:=by
 have:n=0\/n=1\/n=2\/n=3:=by omega
 rcases this with h|h|h|h <;> subst h <;> decide +kernel
theorem yk1 {x:ME}{y:ME}{ρ:Ro}{z:Str}{n:Int}(i:y ρ=some (.str z))(I:x ρ=some (.int n))(U:z.length=1)(O:0<=n)(h1:n<4):∃ ws:List Str,ws.length=6/\mlst (l6 (z5 (m2 M9 (m2 M9 (C4 (mc (.str "down")) W3 (j4 x)) y) (C4 (mc (.str "down")) (j4 (m2 addD x (mc (.int 1)))) W3)) (z5 (m2 M9 (C4 (mc (.str "up")) W3 (j4 x)) y) (z5 y (z5 (m2 M9 y (mc (.str "own"))) (z5 (mc (.str "up")) (z5 (mc (.str "down")) anil))))))) ρ=some (.lst (ws.map .str)):=by
 obtain⟨s1,s2,R⟩:=xo2 n O h1
 have N:0+1+1+1+1+1+1<=sizeLine:=t8 (by decide)
 have G:("down":Str).length<=sizeLine:=t8 (by decide +kernel)
 have l2:("up":Str).length<=sizeLine:=t8 (by decide +kernel)
 have l3:("own":Str).length=3:=by decide +kernel
 have ox:j4 x ρ=some (some n):=by unfold j4;rw[I];rfl
 have j:j4 (m2 addD x (mc (.int 1))) ρ=some (some (n+1)):=by unfold j4;rw[u9 I (b:=.int 1) rfl];rfl
 refine⟨[(Txt.slice "down" none (some n)++z)++Txt.slice "down" (some (n+1)) none,Txt.slice "up" none (some n)++z,z,z++"own","up","down"],rfl,?_⟩
 refine X1 (d6 (z7 (zs6 (zs6 (zt1 (z:="down") rfl rfl ox G) i (by omega)) (zt1 (z:="down") rfl j rfl G) (by rw[xt0];omega)) (z7 (zs6 (zt1 (z:="up") rfl rfl ox l2) i (by omega)) (z7 i (z7 (zs6 i (v:="own") rfl (by omega)) (z7 (d:=.str "up") rfl (z7 (d:=.str "down") rfl w6)))))) N)
theorem xp4 {x:ML}{ρ:Ro}{ws:List Str}(h:x ρ=some (ws.map .str))(hw:ws.length=6):∃ vs:List Str,Z1 (mlst (mcat x (l6 (z5 (mc (.str "")) (z5 (mc (.str "Up")) (z5 (mc (.str "UP")) (z5 (mc (.str "u")) (z5 (mc (.str "p")) (z5 (mc (.str "dow")) (z5 (mc (.str "downs")) (z5 (mc (.str " up")) (z5 (mc (.str "up ")) (z5 (mc (.str "up\n")) (z5 (mc (.str "updown")) (z5 (mc (.str "none")) anil))))))))))))))) ρ=some (vs.map .str):=by
 have i:=c7
 have e:l6 (z5 (mc (.str "")) (z5 (mc (.str "Up")) (z5 (mc (.str "UP")) (z5 (mc (.str "u")) (z5 (mc (.str "p")) (z5 (mc (.str "dow")) (z5 (mc (.str "downs")) (z5 (mc (.str " up")) (z5 (mc (.str "up ")) (z5 (mc (.str "up\n")) (z5 (mc (.str "updown")) (z5 (mc (.str "none")) anil)))))))))))) ρ=some ((["","Up","UP","u","p","dow","downs"," up","up ","up\n","updown","none"]:List Str).map .str):=
  d6 (z7 rfl (z7 rfl (z7 rfl (z7 rfl (z7 rfl (z7 rfl (z7 rfl (z7 rfl (z7 rfl (z7 rfl (z7 rfl (z7 rfl w6)))))))))))) (t8 (by decide))
 refine⟨ws++(["","Up","UP","u","p","dow","downs"," up","up ","up\n","updown","none"]:List Str),?_⟩
 unfold Z1
 rw[X1 (zi2 h e (by rw[length_map,length_map,hw];simp;omega)),map_append]
section
variable (scr:D)(k c:Int)(o4 o5 o6 o7 o8 o9 o10 o11 o12 o13 o14:Option S)
theorem xh1 {c:MB}{x:MW}{ρ:Ro}{β:Bx}(h:c ρ=some false):mifW (wE c) x (wS n9) ρ β=some (.nx ρ,β):=by unfold mifW wE;rw[h];rfl
theorem xg8 (j G:Int):∃ v a6 b6,1<=v/\V3 7 (m2m subD (mpu (mc (.int 1))) (m2m ixLD (zp7 (Y1 (mpu (mc (.int 1))) (Y1 (mpu (mc (.int 2))) (Y1 (m2m addD (mpu (mc (.int 1))) (l0 d9 3 (apu (z5 (m2 powD (mc (.int 10)) (mc (.int 9))) anil)))) (apu (z5 (m2 powD (mc (.int 10)) (mc (.int 29))) anil)))))) (l0 d9 3 (apu (z5 (mc (.int 4)) anil))))) (eG scr k c (RL j G) o4 o5 o6 o7 o8 o9 o10 o11 o12 o13 o14)=some (.nx (eG scr k c (RL a6 b6) o4 o5 o6 (some (.sh (.int (1-v)))) o8 o9 o10 o11 o12 o13 o14)):=by
 have i4:0+1+1+1+1<=sizeLine:=t8 (by decide)
 have p9:(10:Int)^(9:Int).toNat=1000000000:=by decide
 have Y:M0 10 9=true:=by decide
 have U:(10:Int)^(29:Int).toNat=100000000000000000000000000000:=by decide
 have Z:M0 10 29=true:=by decide
 have I:=S5 (tl:=[o4,o5,o6,o7,o8,o9,o10,o11,o12,o13,o14]) (o0:=some (.sh scr)) (o1:=some (.sh (.int k))) (o2:=some (.sh (.int c))) (x:=m2 powD (mc (.int 10)) (mc (.int 9))) (a:=j) (b:=G) (m:=1000000000) (by simp_arith [p9,Y,if_true]) (by decide) (by decide)
 have N:=T4 j G 1000000000 (by decide)
 generalize tkX j G 1000000000=x9 at I N
 generalize tkA j 1000000000=a5 at I
 generalize tkB j G=b5 at I
 have t4:=S5 (tl:=[o4,o5,o6,o7,o8,o9,o10,o11,o12,o13,o14]) (o0:=some (.sh scr)) (o1:=some (.sh (.int k))) (o2:=some (.sh (.int c))) (x:=mc (.int 4)) (a:=a5) (b:=b5) (m:=4) rfl (by decide) (by decide)
 have O:=T4 a5 b5 4 (by decide)
 have R:=N5 a5 b5 4 (by decide)
 generalize tkX a5 b5 4=x4 at t4 O R
 generalize tkA a5 4=a6 at t4
 generalize tkB a5 b5=b6 at t4
 obtain⟨v,hv,ev⟩:∃ v:Int,1<=v/\ixLD (.lst [.int 1,.int 2,.int (1+x9),.int 100000000000000000000000000000]) (.int x4)=some (.int v):=by
  have:x4=0\/x4=1\/x4=2\/x4=3:=by omega
  rcases this with h|h|h|h <;> subst h
  .exact⟨1,by omega,rfl⟩
  .exact⟨2,by omega,rfl⟩
  .exact⟨1+x9,by omega,rfl⟩
  .exact⟨100000000000000000000000000000,by omega,rfl⟩
 have z:=d8 (i:=7) (X2 (f:=subD) (Y3 (m:=mc (.int 1)) (d:=.int 1) rfl) (X2 (f:=ixLD) (zu8 (g8 (Y3 (m:=mc (.int 1)) (d:=.int 1) rfl) (g8 (Y3 (m:=mc (.int 2)) (d:=.int 2) rfl) (g8 (X2 (f:=addD) (Y3 (m:=mc (.int 1)) (d:=.int 1) rfl) I (g:=.int (1+x9)) rfl) (N4 (m:=z5 (m2 powD (mc (.int 10)) (mc (.int 29))) anil) (z7 (d:=.int 100000000000000000000000000000) (by simp_arith [U,Z,if_true]) w6))))) i4) t4 ev) (g:=.int (1-v)) rfl)
 exact⟨v,a6,b6,hv,z.trans rfl⟩
end
theorem xr2 (T:Addr)(scr:D)(k c:Int)(o3 o4 o5 o6 o7 o8 o9 o10 o11 o12 o13 o14:Option S):∃ p3 p4 p5 p6 p7 p8 p9 ae ad N I ac,N3 [some (.sh scr),k0c k,k0c c,o3,o4,o5,o6,o7,o8,o9,o10,o11,o12,o13,o14] (Bt T)=some (.nx [some (.sh scr),k0c k,k0c c,p3,p4,p5,p6,p7,p8,p9,ae,ad,N,I,ac],Bt T):=by
 have an:=c7
 have i2:0+1+1<=sizeLine:=t8 (by decide)
 have i4:0+1+1+1+1<=sizeLine:=t8 (by decide)
 obtain⟨a0,U,e0⟩:=xy2 c
 have t2:=S5 (tl:=[o4,o5,o6,o7,o8,o9,o10,o11,o12,o13,o14]) (o0:=some (.sh scr)) (o1:=some (.sh (.int k))) (o2:=some (.sh (.int c))) (x:=mc (.int 2)) (a:=a0) (b:=U) (m:=2) rfl (by decide) (by decide)
 have aa:=T4 a0 U 2 (by decide)
 have ab:=N5 a0 U 2 (by decide)
 generalize tkX a0 U 2=x2 at t2 aa ab
 generalize tkA a0 2=a1 at t2
 generalize tkB a0 U=b1 at t2
 obtain⟨mo,ah,al⟩:∃ mo:Int,(mo=40\/mo=8)/\ixLD (.lst [.int 40,.int 8]) (.int x2)=some (.int mo):=by
  have:x2=0\/x2=1:=by omega
  rcases this with h|h <;> subst h
  .exact⟨40,.inl rfl,rfl⟩
  .exact⟨8,.inr rfl,rfl⟩
 obtain⟨af,a2,b2,aj,am⟩:=xu5 scr k c o5 o6 o7 o8 o9 o10 o11 o12 o13 o14 a1 b1 mo (Bt T)
 obtain⟨i,R,ai⟩:∃ i:Nat,i<=300/\af=(i:Int):=by
  rcases aj with rfl|rfl
  .rcases ah with rfl|rfl
   .exact⟨40,by decide,rfl⟩
   .exact⟨8,by decide,rfl⟩
  .exact⟨300,by decide,rfl⟩
 subst ai
 obtain⟨η,a3,b3,hr,er⟩:=xn0 a2 b2 i R
 obtain⟨s,a4,b4,hs,es⟩:=xz2 a3 b3 η hr
 obtain⟨v,j,O,hv,a9⟩:=xg8 scr k c (k0b i) (some (.sh (RI η))) (k0c s) o7 o8 o9 o10 o11 o12 o13 o14 a4 b4
 have G:=S5 (tl:=[k0b i,some (.sh (RI η)),k0c s,some (.sh (.int (1-v))),some (.sh (RI η)),o9,o10,o11,o12,o13,o14]) (o0:=some (.sh scr)) (o1:=some (.sh (.int k))) (o2:=some (.sh (.int c))) (x:=mc (.int 26)) (a:=j) (b:=O) (m:=26) rfl (by decide) (by decide)
 obtain⟨z,hz,ez⟩:=xj9 _ (T4 j O 26 (by decide)) (N5 j O 26 (by decide))
 generalize tkX j O 26=x26 at G ez
 generalize tkA j 26=a7 at G
 generalize tkB j O=b7 at G
 have ta:=S5 (tl:=[k0b i,some (.sh (RI η)),k0c s,some (.sh (.int (1-v))),some (.sh (RI η)),some (.sh (.str z)),o10,o11,o12,o13,o14]) (o0:=some (.sh scr)) (o1:=some (.sh (.int k))) (o2:=some (.sh (.int c))) (x:=mc (.int 4)) (a:=a7) (b:=b7) (m:=4) rfl (by decide) (by decide)
 have Y:=T4 a7 b7 4 (by decide)
 have Z:=N5 a7 b7 4 (by decide)
 generalize tkX a7 b7 4=xa at ta Y Z
 generalize tkA a7 4=a8 at ta
 generalize tkB a7 b7=b8 at ta
 obtain⟨ws,ag,ew⟩:=yk1 (x:=mvar 10) (y:=mvar 9) (ρ:=eC scr k c (RL a8 b8) η s (1-v) (k0b i) (some (.sh (.str z))) (k0c xa) o11 o12 o13 o14) (z:=z) (n:=xa) rfl rfl hz Y Z
 obtain⟨vs,ak⟩:=xp4 (x:=bvar 11) (ρ:=eC scr k c (RL a8 b8) η s (1-v) (k0b i) (some (.sh (.str z))) (k0c xa) (some (.sh (.lst (ws.map .str)))) o12 o13 o14) (ws:=ws) rfl ag
 obtain⟨N,I,a5⟩:=zs8 T scr k c (RL a8 b8) η s (1-v) hs (by omega) (by omega) (k0b i) (some (.sh (.str z))) (k0c xa) (some (.sh (.lst (ws.map .str)))) o14 vs o12 o13
 refine⟨some (.own (RL a8 b8)),k0b i,some (.sh (RI η)),k0c s,some (.sh (.int (1-v))),some (.sh (RI η)),some (.sh (.str z)),k0c xa,some (.sh (.lst (ws.map .str))),N,I,some (.sh (.int 2)),?_⟩
 unfold N3
 refine seqW (ρ':=eG scr k c (RL a0 U) o4 o5 o6 o7 o8 o9 o10 o11 o12 o13 o14) (V2 ((zf6 (C5 (z7 (d:=.int c) rfl w6) e0)).trans rfl)) ?_
 refine seqW (ρ':=eG scr k c (RL a1 b1) (k0c mo) o5 o6 o7 o8 o9 o10 o11 o12 o13 o14) (V2 ((d8 (X2 (f:=ixLD) (Y3 (m:=mlst (l6 (z5 (mc (.int 40)) (z5 (mc (.int 8)) anil)))) (X1 (d6 (z7 (d:=.int 40) rfl (z7 (d:=.int 8) rfl w6)) i2))) t2 al)).trans rfl)) ?_
 refine seqW am ?_
 refine seqW (ρ':=eG scr k c (RL a3 b3) (k0b i) (some (.sh (RI η))) o6 o7 o8 o9 o10 o11 o12 o13 o14) (V2 ((d8 (M6 (r0:=RL a2 b2) (r2:=RL a2 b2) rfl (N4 (z7 (d:=.int (i:Int)) rfl w6)) rfl er rfl)).trans rfl)) ?_
 refine seqW (ρ':=eG scr k c (RL a4 b4) (k0b i) (some (.sh (RI η))) (k0c s) o7 o8 o9 o10 o11 o12 o13 o14) (V2 ((d8 (M6 (r0:=RL a3 b3) (r2:=RL a3 b3) rfl (N4 (z7 (d:=RI η) rfl w6)) rfl es rfl)).trans rfl)) ?_
 refine seqW (ρ':=eG scr k c (RL j O) (k0b i) (some (.sh (RI η))) (k0c s) (some (.sh (.int (1-v)))) o8 o9 o10 o11 o12 o13 o14) (V2 a9) ?_
 refine seqW (ρ':=eC scr k c (RL j O) η s (1-v) (k0b i) o9 o10 o11 o12 o13 o14) (V2 ((j5 (X1 (ds:=η.map .int) rfl)).trans rfl)) ?_
 refine seqW (ρ':=eC scr k c (RL j O) η s (1-v) (k0b i) o9 o10 o11 o12 o13 o14) (β':=Bt T) ?_ ?_
 .have et:cnot (mtru (l7 m_Z3 (z5 (mvar 8) (z5 (mvar 6) anil)))) (eC scr k c (RL j O) η s (1-v) (k0b i) o9 o10 o11 o12 o13 o14)=some false:=(zt9 (k:=true) (D8 (b9 (z7 (d:=RI η) rfl (z7 (d:=.int s) rfl w6)) (ya8 η s hs (by omega))))).trans rfl
  exact xh1 et
 refine seqW (ρ':=eC scr k c (RL a7 b7) η s (1-v) (k0b i) (some (.sh (.str z))) o10 o11 o12 o13 o14) (V2 ((d8 (X2 (f:=ixSD) (Y3 (m:=mc (.str "abcdefghijklmnopqrstuvwxyz")) (d:=.str "abcdefghijklmnopqrstuvwxyz") rfl) G ez)).trans rfl)) ?_
 refine seqW (ρ':=eC scr k c (RL a8 b8) η s (1-v) (k0b i) (some (.sh (.str z))) (k0c xa) o11 o12 o13 o14) (V2 ((d8 ta).trans rfl)) ?_
 refine seqW (ρ':=eC scr k c (RL a8 b8) η s (1-v) (k0b i) (some (.sh (.str z))) (k0c xa) (some (.sh (.lst (ws.map .str)))) o12 o13 o14) (V2 ((j5 ew).trans rfl)) ?_
 refine seqW (ρ':=eC scr k c (RL a8 b8) η s (1-v) (k0b i) (some (.sh (.str z))) (k0c xa) (some (.sh (.lst (ws.map .str)))) N I o14) (β':=Bt T) ?_ ?_
 .unfold Q9
  rw[ak,Option.bind_some]
  exact a5
 .exact xb6 T scr k c (RL a8 b8) η s (1-v) hs (by omega) (by omega) _ _ _ _ _ _ _
theorem yp2 (T:Addr)(scr:D)(f:Nat->Int):∀(is:List Nat)(o1 o2 O o4 o5 o6 o7 o8 o9 o10 o11 o12 o13 o14:Option S),∃ p1 p2 p3 p4 p5 p6 p7 p8 p9 N I G z j,forW (.tp [1,2]) N3 (is.map fun(i:Nat)=>D.tup [.int (i:Int),.int (f i)]) [some (.sh scr),o1,o2,O,o4,o5,o6,o7,o8,o9,o10,o11,o12,o13,o14] (Bt T)=some (.nx [some (.sh scr),p1,p2,p3,p4,p5,p6,p7,p8,p9,N,I,G,z,j],Bt T)
 |[],o1,o2,O,o4,o5,o6,o7,o8,o9,o10,o11,o12,o13,o14=>⟨o1,o2,O,o4,o5,o6,o7,o8,o9,o10,o11,o12,o13,o14,rfl⟩
 |i::is,o1,o2,O,o4,o5,o6,o7,o8,o9,o10,o11,o12,o13,o14=>by
  obtain⟨q3,q4,q5,q6,q7,q8,q9,a1,Z,Y,U,R,e⟩:=xr2 T scr (i:Int) (f i) O o4 o5 o6 o7 o8 o9 o10 o11 o12 o13 o14
  obtain⟨p1,p2,p3,p4,p5,p6,p7,p8,p9,N,I,G,z,j,e2⟩:=yp2 T scr f is (k0b i) (some (.sh (.int (f i)))) q3 q4 q5 q6 q7 q8 q9 a1 Z Y U R
  refine⟨p1,p2,p3,p4,p5,p6,p7,p8,p9,N,I,G,z,j,?_⟩
  rw[map_cons,forW]
  rw[show tgD (.tp [1,2]) (.tup [.int (i:Int),.int (f i)]) [some (.sh scr),o1,o2,O,o4,o5,o6,o7,o8,o9,o10,o11,o12,o13,o14]=some [some (.sh scr),k0b i,some (.sh (.int (f i))),O,o4,o5,o6,o7,o8,o9,o10,o11,o12,o13,o14]from rfl]
  simp only
  rw[e]
  exact e2
theorem law_true (T:Addr)(ns:List Int)(hn:ns.length<=63):∃ β,zi3 [.lst (ns.map .int)] [(T,.tb T "made_wavy" ⟨42,26,42,72⟩ "made_wavy.<locals>.<lambda>")]=some (.sh (.bl true),β):=by
 have a2:=c7
 have i1:1<=sizeLine:=t8 (by decide)
 have c1:mcut (bvar 0) W3 (j4 (mc (.int 4))) (v7 15 [.lst (ns.map .int)])=some ((ns.take 4).map .int):=by
  have:cutL (ns.map D.int) none (some ((4:Nat):Int))=(ns.take 4).map .int:=by rw[zt8,xr0]
  unfold mcut
  exact congrArg some this
 have c2:l6 (z5 (mlen (bvar 0)) anil) (v7 15 [.lst (ns.map .int)])=some (([(ns.length:Int)]:List Int).map .int):=by
  refine d6 (z7 (d:=.int (ns.length:Int)) ?_ w6) i1
  rw[T8 (show bvar 0 _=some (ns.map .int)from rfl),length_map]
 have O:=zi2 c1 c2 (by rw[length_map,length_map,length_take,length_singleton];omega)
 rw[<-map_append]at O
 generalize a1:ns.take 4++[(ns.length:Int)]=xs at O
 have ee:i7 P2 (z5 (mlst (mcat (mcut (bvar 0) W3 (j4 (mc (.int 4)))) (l6 (z5 (mlen (bvar 0)) anil)))) anil) (v7 15 [.lst (ns.map .int)])=some ((List.range xs.length).map fun(i:Nat)=>D.tup [.int (i:Int),.int (xs.getD i 0)]):=by
  unfold i7
  rw[z7 (X1 O) w6,Option.bind_some]
  show some (zz9 0 (xs.map .int))=_
  rw[S0]
  congr 1
  apply map_congr_left
  intro i _
  rw[Nat.zero_add]
 obtain⟨p1,p2,p3,p4,p5,Z,Y,U,R,N,I,G,z,j,e⟩:=yp2 T (.lst (ns.map .int)) (fun i=>xs.getD i 0) (List.range xs.length) none none none none none none none none none none none none none none
 have ef:Q9 (i7 P2 (z5 (mlst (mcat (mcut (bvar 0) W3 (j4 (mc (.int 4)))) (l6 (z5 (mlen (bvar 0)) anil)))) anil)) (.tp [1,2]) N3 (v7 15 [.lst (ns.map .int)]) (Bt T)=some (.nx [k0a ns,p1,p2,p3,p4,p5,Z,Y,U,R,N,I,G,z,j],Bt T):=by
  unfold Q9
  rw[ee,Option.bind_some]
  exact e
 refine⟨Bt T,?_⟩
 show zi3 _ (Bt T)=_
 unfold zi3 yd2 runW
 rw[seqW ef (r:=some (.rt (.bl true),Bt T)) rfl]
 simp
end
end
end Lw
namespace Lw
open List
open PySem L2
open PyProof.Rows
section
noncomputable def top (i:Nat):Stmt:=PySem.Challenge.pw_wavyrow_k53_beginnings_and_refusals.main.body.getD i (.Pass ⟨0,0,0,0⟩)
noncomputable abbrev s_Z9:Stmt:=top 10
noncomputable abbrev N_Z9:List Str:=["step"]
theorem xo5:FnScope N_Z9 ["step"] (y8 s_Z9):=⟨rfl,rfl,rfl,by decide +kernel,rfl,by decide +kernel,by decide +kernel⟩
theorem xd3 {P:Program}{w:World}{K:W.Frag}{mg:Str->Option Value}{base:Heap}{f:Addr}{fd:FuncData}(G:Fun K "refuse_step" "refuse_step" s_Z9 f fd){i:Addr}(z:mg "NoStep"=some (.ref i))(j:XC K "NoStep" i)(q_NoStep:W.excIn K i bmV "ValueError.__new__"=true):FnOk P w K mg base CX0 1 f fd ["step"] (spR K 1 m_Z9):=
 G.okD (k:=0) (m:=b_Z9) xo5 fun cdv A outer s H E I=>(y9 (r6 (j0 xu2 yt2 (z6 0 (pv 0)) y7 (u7 _)) (y9 O0) w9))
theorem xk2 {P:Program}{w:World}{K:W.Frag}{mg:Str->Option Value}{base:Heap}{f:Addr}{fd:FuncData}(G:Fun K "refuse_step" "refuse_step" s_Z9 f fd){i:Addr}(z:mg "NoStep"=some (.ref i))(j:XC K "NoStep" i)(q_NoStep:W.excIn K i bmV "ValueError.__new__"=true):FnOk P w K mg base (CXx P w) 1 f fd ["step"] (spX K 1 zc1):=
 G.okX (k:=0) (m:=xr4) xo5 fun cdv A outer s H E I=>(J3 (yc2 rfl (j0 xu2 yt2 (z6 0 (pv 0)) y7 (u7 _)) (J3 (zq1 rfl ⟨rfl,rfl,rfl⟩ rfl rfl z j q_NoStep (z0 g3 z9) (z8 w8) (by decide))) E6))
noncomputable abbrev zk1:Stmt:=top 13
noncomputable abbrev xf6:List Str:=["row","word","low"]
theorem sc_Z11:FnScope xf6 ["row","word"] (y8 zk1):=⟨rfl,rfl,rfl,by decide +kernel,rfl,by decide +kernel,by decide +kernel⟩
theorem O5:List.Nodup (["place","number","low"]:List Str):=by decide +kernel
theorem xj1 {P:Program}{w:World}{K:W.Frag}{mg:Str->Option Value}{base:Heap}{f:Addr}{fd:FuncData}{z:Addr}(R:Fun K "mirrored" "mirrored" zk1 f fd)(G:KTup K z (["up","down"]:List Str))(I:mg "WORDS"=some (.ref z))(j:mg "enumerate"=none):FnOk P w K mg base CX0 1 f fd ["row","word"] (spR K 2 K9):=
 R.okD (k:=0) (m:=b_Z11) sc_Z11 fun cdv A outer s H E U=>(x8 (j1 (i:=2) sc_Z11.nd rfl (by first|exact Or.inl rfl|exact Or.inr rfl) (yu6 G (z6 1 (pv 1)) (fun t ha=>yv9 PySem.F.plainAttrs_tuple PySem.F.slot_tuple_index PySem.F.type_tuple_index za3 (M3 rfl I rfl) ha))) (y9 (zf0 (xx8 (K4 (N:=["place","number","low"]) (src:=[none,none,some 2]) (y8 zk1) xf6 rfl rfl (by decide +kernel)) rfl (J4 rfl j (z0 (z6 0 (pv 0)) z9)) (fun C fp O H0=>(M2 (is:=[0,1]) (zy7 rfl (c8 (l8 (i:=0) O5 rfl (by first|exact Or.inl rfl|exact Or.inr rfl)) (c8 (l8 (i:=1) O5 rfl (by first|exact Or.inl rfl|exact Or.inr rfl)) M1))))) (fun C fp O H0=>J2) (fun C fp O H0=>(yc7 (j0 X0 k7 (R5 (z6 0 (pv 0)) y7) (z6 2 (pv 2)) (u7 _)) (D3 (z6 1 (pv 1))) (z6 1 (pv 1))))))))
noncomputable abbrev zb1:Stmt:=top 14
noncomputable abbrev xb9:List Str:=["heights","step","stay","place","height"]
theorem sc_Z16:FnScope xb9 ["heights","step"] (y8 zb1):=⟨rfl,rfl,rfl,by decide +kernel,rfl,by decide +kernel,by decide +kernel⟩
theorem xk6 {P:Program}{w:World}{K:W.Frag}{mg:Str->Option Value}{base:Heap}{f:Addr}{fd:FuncData}(G:Fun K "staying" "staying" zb1 f fd)(j:mg "enumerate"=none):FnOk P w K mg base CX0 1 f fd ["heights","step"] (spR K 2 yz0):=
 G.okD (k:=0) (m:=b_Z16) sc_Z16 fun cdv A outer s H E z=>(x8 (P9 (i:=2) sc_Z16.nd rfl (by first|exact Or.inl rfl|exact Or.inr rfl) (Z4 z9)) (x8 (T6 PassesOwn.never rfl (J4 rfl j (z0 (z6 0 (pv 0)) z9)) (M2 (is:=[3,4]) (zy7 rfl (c8 (l8 (i:=3) sc_Z16.nd rfl (by first|exact Or.inl rfl|exact Or.inr rfl)) (c8 (l8 (i:=4) sc_Z16.nd rfl (by first|exact Or.inl rfl|exact Or.inr rfl)) M1)))) (y9 (r6 (pc_w (yu7 (yu8 (L7 z.units) (K6 (xx5 (m8 2 (pv 2)) (X3 (D3 y7)) S7)) (K6 (Z4 (z0 (W7 (z6 3 (pv 3)) y7) z9))) (u7 _)) (yw3 (j0 yh5 zf3 (e8 (U1 (m8 0 (pv 0)) (W7 (z6 3 (pv 3)) y7)) (z6 4 (pv 4))) (z6 1 (pv 1)) (u7 _))))) (y9 (N8 (i:=2) (pv 2) (z6 3 (pv 3)) (fun t ha=>yv9 PySem.F.plainAttrs_list PySem.F.slot_list_append PySem.F.type_list_append T7 (pv 2) ha) (z0 (z6 3 (pv 3)) z9))) w9))) (y9 (zg9 2 (pv 2)))))
noncomputable abbrev s_Z0:Stmt:=top 15
noncomputable abbrev N_Z0:List Str:=["row","step","word","stay"]
theorem sc_Z0:FnScope N_Z0 ["row","step","word"] (y8 s_Z0):=⟨rfl,rfl,rfl,by decide +kernel,rfl,by decide +kernel,by decide +kernel⟩
theorem xc2 {P:Program}{w:World}{K:W.Frag}{mg:Str->Option Value}{base:Heap}{f:Addr}{fd:FuncData}{I:Addr}{Z:FuncData}{N:Addr}{U:FuncData}{G:Addr}{Y:FuncData}{z:Addr}(Fn:Fun K "fewest_beginning" "fewest_beginning" s_Z0 f fd)(a6:FnOk P w K mg base CX0 1 I Z ["row","word"] (spR K 2 K9))(b_Z11:Binds K Z ["row","word"] [])(k_Z11:W.keepIn K (.ref I)=true)(a4:mg "mirrored"=some (.ref I))(a9:FnOk P w K mg base CX0 1 N U ["step"] (spR K 1 m_Z9))(b_Z9:Binds K U ["step"] [])(k_Z9:W.keepIn K (.ref N)=true)(a8:mg "refuse_step"=some (.ref N))(a5:FnOk P w K mg base CX0 1 G Y ["heights","step"] (spR K 2 yz0))(b_Z16:Binds K Y ["heights","step"] [])(k_Z16:W.keepIn K (.ref G)=true)(a3:mg "staying"=some (.ref G))(aa:FnOk P w K mg base (CXx P w) 1 N U ["step"] (spX K 1 zc1)){j:Addr}(a7:mg "NoText"=some (.ref j))(a2:XC K "NoText" j)(q_NoText:W.excIn K j bmV "ValueError.__new__"=true)(O:KTup K z (["up","down"]:List Str))(a1:mg "WORDS"=some (.ref z))(R:mg "len"=none):FnOk P w K mg base CX0 2 f fd ["row","step","word"] (spR K 3 m_Z0):=
 Fn.okD (k:=1) (m:=b_Z0) sc_Z0 fun cdv A outer s H E hr=>(x8 (r6 (j0 W8 zx1 (z6 2 (pv 2)) (O3 O rfl a1) rfl) (y9 O0) w9) (x8 (zv2 (g9 (fun t ha=>u0 (a9.mono (by decide)) hr rfl a8 k_Z9 b_Z9 .nil j3 ha) rfl (z0 (z6 1 (pv 1)) z9) (z8 w8))) (x8 (P9 (i:=3) sc_Z0.nd rfl (by first|exact Or.inl rfl|exact Or.inr rfl) (zj1 (fun t ha=>u0 (a5.mono (by decide)) hr rfl a3 k_Z16 b_Z16 .nil j3 ha) rfl (z0 (g9 (fun t ha=>u0 (a6.mono (by decide)) hr rfl a4 k_Z11 b_Z11 .nil j3 ha) rfl (z0 (z6 0 (pv 0)) (z0 (z6 2 (pv 2)) z9)) (z8 (z8 w8))) (z0 (z6 1 (pv 1)) z9)) (z8 (z8 w8)))) (y9 (yj9 (i:=3) (W7 (Z0 rfl R (m8 0 (pv 0))) (Z0 rfl R (m8 3 (pv 3)))) (pv 3))))))
theorem xk4 {P:Program}{w:World}{K:W.Frag}{mg:Str->Option Value}{base:Heap}{f:Addr}{fd:FuncData}{O:Addr}{a1:FuncData}{R:Addr}{Y:FuncData}{N:Addr}{Z:FuncData}{z:Addr}(Fn:Fun K "fewest_beginning" "fewest_beginning" s_Z0 f fd)(a8:FnOk P w K mg base CX0 1 O a1 ["row","word"] (spR K 2 K9))(b_Z11:Binds K a1 ["row","word"] [])(k_Z11:W.keepIn K (.ref O)=true)(a6:mg "mirrored"=some (.ref O))(a9:FnOk P w K mg base CX0 1 R Y ["step"] (spR K 1 m_Z9))(b_Z9:Binds K Y ["step"] [])(k_Z9:W.keepIn K (.ref R)=true)(a3:mg "refuse_step"=some (.ref R))(a7:FnOk P w K mg base CX0 1 N Z ["heights","step"] (spR K 2 yz0))(b_Z16:Binds K Z ["heights","step"] [])(k_Z16:W.keepIn K (.ref N)=true)(a5:mg "staying"=some (.ref N))(a2:FnOk P w K mg base (CXx P w) 1 R Y ["step"] (spX K 1 zc1)){i:Addr}(U:mg "NoText"=some (.ref i))(I:XC K "NoText" i)(q_NoText:W.excIn K i bmV "ValueError.__new__"=true)(j:KTup K z (["up","down"]:List Str))(G:mg "WORDS"=some (.ref z))(a4:mg "len"=none):FnOk P w K mg base (CXx P w) 2 f fd ["row","step","word"] (spX K 3 Q0):=
 Fn.okX (k:=1) (m:=xr6) sc_Z0 fun cdv A outer s H E hr=>(yw6 rfl (r6 (j0 W8 zx1 (z6 2 (pv 2)) (O3 j rfl G) rfl) (y9 O0) w9) (yc2 rfl (j0 W8 zx1 (z6 2 (pv 2)) (O3 j rfl G) rfl) (J3 (zq1 rfl ⟨rfl,rfl,rfl⟩ rfl rfl U I q_NoText (z0 g3 z9) (z8 w8) (by decide))) E6) (yw5 (yj4 (J5 rfl ⟨rfl,rfl,rfl⟩ (a2.mono (by decide)) hr rfl a3 k_Z9 b_Z9 rfl (z0 (z6 1 (pv 1)) z9) (z8 w8)))))
noncomputable abbrev s_Z2:Stmt:=top 16
noncomputable abbrev N_Z2:List Str:=["row","step"]
theorem xo6:FnScope N_Z2 ["row","step"] (y8 s_Z2):=⟨rfl,rfl,rfl,by decide +kernel,rfl,by decide +kernel,by decide +kernel⟩
theorem Q7:List.Nodup (["word","row","step"]:List Str):=by decide +kernel
theorem Q6:List.Nodup (["word","row","step"]:List Str):=by decide +kernel
theorem xc0 {P:Program}{w:World}{K:W.Frag}{mg:Str->Option Value}{base:Heap}{f:Addr}{fd:FuncData}{z:Addr}{I:FuncData}{j:Addr}(Fn:Fun K "fewest_changed" "fewest_changed" s_Z2 f fd)(Y:FnOk P w K mg base CX0 2 z I ["row","step","word"] (spR K 3 m_Z0))(b_Z0:Binds K I ["row","step","word"] [])(k_Z0:W.keepIn K (.ref z)=true)(U:mg "fewest_beginning"=some (.ref z))(Z:FnOk P w K mg base (CXx P w) 2 z I ["row","step","word"] (spX K 3 Q0))(G:KTup K j (["up","down"]:List Str))(O:mg "WORDS"=some (.ref j))(R:mg "min"=none):FnOk P w K mg base CX0 3 f fd ["row","step"] (spR K 2 m_Z2):=
 Fn.okD (k:=2) (m:=b_Z2) xo6 fun cdv A outer s H E hr=>(y9 (yw8 rfl hr.units rfl R (K4 (N:=["word","row","step"]) (src:=[none,some 0,some 1]) (y8 s_Z2) N_Z2 rfl rfl (by decide +kernel)) (yv3 (O3 G rfl O)) (fun C fp s0 H0=>(f7 (i:=0) (l8 Q7 rfl (by first|exact Or.inl rfl|exact Or.inr rfl)))) (fun C fp s0 H0=>(xx2 (fun t ha=>u0 (Y.mono (by decide)) hr rfl U k_Z0 b_Z0 .nil j3 ha) rfl (z0 (z6 1 (pv 1)) (z0 (z6 2 (pv 2)) (z0 (z6 0 (pv 0)) z9))) (z8 (z8 (z8 w8)))))))
theorem xk3 {P:Program}{w:World}{K:W.Frag}{mg:Str->Option Value}{base:Heap}{f:Addr}{fd:FuncData}{z:Addr}{I:FuncData}{j:Addr}(Fn:Fun K "fewest_changed" "fewest_changed" s_Z2 f fd)(Z:FnOk P w K mg base CX0 2 z I ["row","step","word"] (spR K 3 m_Z0))(b_Z0:Binds K I ["row","step","word"] [])(k_Z0:W.keepIn K (.ref z)=true)(Y:mg "fewest_beginning"=some (.ref z))(U:FnOk P w K mg base (CXx P w) 2 z I ["row","step","word"] (spX K 3 Q0))(G:KTup K j (["up","down"]:List Str))(O:mg "WORDS"=some (.ref j))(R:mg "min"=none):FnOk P w K mg base (CXx P w) 3 f fd ["row","step"] (spX K 2 zm7):=
 Fn.okX (k:=2) (m:=xr5) xo6 fun cdv A outer s H E hr=>(J3 (xy7 (xx9 rfl R PyProof.Rows.boot_min (yi2 rfl ⟨rfl,rfl,rfl⟩ (K4 (N:=["word","row","step"]) (src:=[none,some 0,some 1]) (y8 s_Z2) N_Z2 rfl rfl (by decide +kernel)) rfl (yv3 (O3 G rfl O)) (fun C fp s0 H0=>(f7 (i:=0) (l8 Q6 rfl (by first|exact Or.inl rfl|exact Or.inr rfl)))) (fun C fp s0 H0=>(yi3 rfl (U.mono (by decide)) hr rfl Y k_Z0 b_Z0 rfl (z0 (z6 1 (pv 1)) (z0 (z6 2 (pv 2)) (z0 (z6 0 (pv 0)) z9))) (z8 (z8 (z8 w8)))))))))
noncomputable abbrev i8:Stmt:=top 17
noncomputable abbrev U5:List Str:=["row","step","word","many","stay","heights","made"]
theorem sc_made_wavy:FnScope U5 ["row","step"] (y8 i8):=⟨rfl,rfl,rfl,by decide +kernel,rfl,by decide +kernel,by decide +kernel⟩
theorem R6:List.Nodup (["place","height","stay","step","heights"]:List Str):=by decide +kernel
theorem zq8 {P:Program}{w:World}{K:W.Frag}{mg:Str->Option Value}{base:Heap}{f:Addr}{fd:FuncData}{I:Addr}{Y:FuncData}{G:Addr}{U:FuncData}{z:Addr}{T0:Addr}(Fn:Fun K "made_wavy" "made_wavy" i8 f fd)(ha:mg "made_wavy"=some (.ref f))(a4:FnOk P w K mg base CX0 2 I Y ["row","step","word"] (spR K 3 m_Z0))(b_Z0:Binds K Y ["row","step","word"] [])(k_Z0:W.keepIn K (.ref I)=true)(a3:mg "fewest_beginning"=some (.ref I))(a2:FnOk P w K mg base CX0 1 G U ["row","word"] (spR K 2 K9))(b_Z11:Binds K U ["row","word"] [])(k_Z11:W.keepIn K (.ref G)=true)(Z:mg "mirrored"=some (.ref G))(a8:FnOk P w K mg base (CXx P w) 2 I Y ["row","step","word"] (spX K 3 Q0))(O:KTup K z (["up","down"]:List Str))(a1:mg "WORDS"=some (.ref z))(a5:TabF K "made_wavy" T0)(a7:base.BuiltinsAt mg T0)(j:mg "enumerate"=none)(R:mg "min"=none):FnOk P w K mg base CX0 5 f fd ["row","step"] (spW K 2 g6):=
 Fn.okWT (k:=4) (m:=b_made_wavy) sc_made_wavy fun cdv A outer s H E a6 hr=>(u6 (yj6 (i:=2) sc_made_wavy.nd rfl (by first|exact Or.inl rfl|exact Or.inr rfl) (xw2 (x:="each") (mw:="made_wavy") (N:=["each","row","step"]) (src:=[none,some 0,some 1]) O rfl a1 rfl R (fun P T M=>zd2 Fn ha a6 a5 a7 T M) (K4 (N:=["each","row","step"]) (src:=[none,some 0,some 1]) (y8 i8) U5 rfl rfl (by decide +kernel)) rfl rfl rfl (fun _ _ _ _ _=>rfl) (fun f c s0 H0=>(g9 (fun t ha=>u0 (a4.mono (by decide)) (ze3 hr.in1) rfl a3 k_Z0 b_Z0 .nil j3 ha) rfl (z0 (z6 1 (pv 1)) (z0 (z6 2 (pv 2)) (z0 (z6 0 (pv 0)) z9))) (z8 (z8 (z8 w8))))) rfl rfl hr.in1.depth hr.in1.hd rfl hr.units)) (u6 (psw (xy9 (zy6 (g9 (fun t ha=>u0 (a4.mono (by decide)) hr rfl a3 k_Z0 b_Z0 .nil j3 ha) rfl (z0 (z6 0 (pv 0)) (z0 (z6 1 (pv 1)) (z0 (z6 2 (pv 2)) z9))) (z8 (z8 (z8 w8)))) (M2 (is:=[3,4]) (zy7 rfl (c8 (l8 (i:=3) sc_made_wavy.nd rfl (by first|exact Or.inl rfl|exact Or.inr rfl)) (c8 (l8 (i:=4) sc_made_wavy.nd rfl (by first|exact Or.inl rfl|exact Or.inr rfl)) M1))))))) (u6 (psw (j1 (i:=5) sc_made_wavy.nd rfl (by first|exact Or.inl rfl|exact Or.inr rfl) (g9 (fun t ha=>u0 (a2.mono (by decide)) hr rfl Z k_Z11 b_Z11 .nil j3 ha) rfl (z0 (z6 0 (pv 0)) (z0 (z6 2 (pv 2)) z9)) (z8 (z8 w8))))) (u6 (psw (zq3 (zk9 (i:=6) sc_made_wavy.nd rfl (by first|exact Or.inl rfl|exact Or.inr rfl) (K4 (N:=["place","height","stay","step","heights"]) (src:=[none,none,some 4,some 1,some 5]) (y8 i8) U5 rfl rfl (by decide +kernel)) rfl (J4 rfl j (z0 (z6 5 (pv 5)) z9)) (fun C fp s0 H0=>(M2 (is:=[0,1]) (zy7 rfl (c8 (l8 (i:=0) R6 rfl (by first|exact Or.inl rfl|exact Or.inr rfl)) (c8 (l8 (i:=1) R6 rfl (by first|exact Or.inl rfl|exact Or.inr rfl)) M1))))) (fun C fp s0 H0=>J2) (fun C fp s0 H0=>(yc7 (j0 zq7 zx1 (z6 0 (pv 0)) (z6 2 (pv 2)) rfl) (z6 1 (pv 1)) (W7 (z6 3 (pv 3)) (xw6 rfl rfl R (K6 (xx6 (m8 4 (pv 4)) (X3 (W7 (z6 0 (pv 0)) y7)) (X3 (e8 (z6 0 (pv 0)) y7)) (X3 y7)))))))))) (m9 (yj8 (zj1 (fun t ha=>u0 (a2.mono (by decide)) hr rfl Z k_Z11 b_Z11 .nil j3 ha) rfl (z0 (z6 6 (pv 6)) (z0 (z6 2 (pv 2)) z9)) (z8 (z8 w8)))))))))
theorem zu1 {P:Program}{w:World}{K:W.Frag}{mg:Str->Option Value}{base:Heap}{f:Addr}{fd:FuncData}{G:Addr}{R:FuncData}{z:Addr}{O:FuncData}{j:Addr}{T0:Addr}(Fn:Fun K "made_wavy" "made_wavy" i8 f fd)(ha:mg "made_wavy"=some (.ref f))(a8:FnOk P w K mg base CX0 2 G R ["row","step","word"] (spR K 3 m_Z0))(b_Z0:Binds K R ["row","step","word"] [])(k_Z0:W.keepIn K (.ref G)=true)(a2:mg "fewest_beginning"=some (.ref G))(a7:FnOk P w K mg base CX0 1 z O ["row","word"] (spR K 2 K9))(b_Z11:Binds K O ["row","word"] [])(k_Z11:W.keepIn K (.ref z)=true)(a6:mg "mirrored"=some (.ref z))(a1:FnOk P w K mg base (CXx P w) 2 G R ["row","step","word"] (spX K 3 Q0))(I:KTup K j (["up","down"]:List Str))(U:mg "WORDS"=some (.ref j))(a3:TabF K "made_wavy" T0)(a5:base.BuiltinsAt mg T0)(Y:mg "enumerate"=none)(Z:mg "min"=none):FnOk P w K mg base (CXx P w) 5 f fd ["row","step"] (spXW K 2 e9):=
 Fn.okXWT (k:=4) (m:=S4) sc_made_wavy fun cdv A outer s H E a4 hr=>(zb9 (yj3 (i:=2) sc_made_wavy.nd rfl (by first|exact Or.inl rfl|exact Or.inr rfl) (yi1 (x:="each") (mw:="made_wavy") (N:=["each","row","step"]) (src:=[none,some 0,some 1]) rfl ⟨rfl,rfl,rfl⟩ I rfl U rfl Z (fun P T M=>zd2 Fn ha a4 a3 a5 T M) (K4 (N:=["each","row","step"]) (src:=[none,some 0,some 1]) (y8 i8) U5 rfl rfl (by decide +kernel)) rfl rfl rfl (fun _ _ _ _ _=>rfl) (fun f c s0 H0=>(J5 rfl ⟨rfl,rfl,rfl⟩ (a1.mono (by decide)) (ze3 hr.in1) rfl a2 k_Z0 b_Z0 rfl (z0 (z6 1 (pv 1)) (z0 (z6 2 (pv 2)) (z0 (z6 0 (pv 0)) z9))) (z8 (z8 (z8 w8))))) rfl rfl hr.in1.depth hr.in1.hd rfl)))
noncomputable abbrev zb5:Stmt:=top 20
noncomputable abbrev xa3:List Str:=["cell"]
theorem xo8:FnScope xa3 ["cell"] (y8 zb5):=⟨rfl,rfl,rfl,by decide +kernel,rfl,by decide +kernel,by decide +kernel⟩
theorem xj0 {P:Program}{w:World}{K:W.Frag}{mg:Str->Option Value}{base:Heap}{f:Addr}{fd:FuncData}(j:Fun K "_law_reel" "_law_reel" zb5 f fd)(i:mg "abs"=none):FnOk P w K mg base CX0 1 f fd ["cell"] (spR K 1 yr0):=
 j.okD (k:=0) (m:=b_Z12) xo8 fun cdv A outer s H E z=>(y9 (zf0 (Z4 (z0 (xm5 rfl i (z0 (z6 0 (pv 0)) z9)) (z0 (R5 (O1 (e8 (R5 (z6 0 (pv 0)) y7) y7) y7) y7) z9)))))
noncomputable abbrev zb6:Stmt:=top 21
noncomputable abbrev xa4:List Str:=["reel","many","found","stir"]
theorem sc_Z10:FnScope xa4 ["reel","many"] (y8 zb6):=⟨rfl,rfl,rfl,by decide +kernel,rfl,by decide +kernel,by decide +kernel⟩
theorem xj2 {P:Program}{w:World}{K:W.Frag}{mg:Str->Option Value}{base:Heap}{f:Addr}{fd:FuncData}(j:Fun K "_law_take" "_law_take" zb6 f fd):FnOk P w K mg base CX0 1 f fd ["reel","many"] (spG K 2 d9):=
 j.okGl (k:=0) (m:=b_Z10) sc_Z10 (by decide) fun cdv A outer s H E z=>(x8 (r6 (j0 yh5 zf3 (U1 (m8 0 (pv 0)) y7) (D1 y7 y7) (u7 _)) (x8 (j1 (i:=2) sc_Z10.nd rfl (by first|exact Or.inl rfl|exact Or.inr rfl) (R5 (U1 (m8 0 (pv 0)) y7) (z6 1 (pv 1)))) (x8 (zq2 (i:=0) (zy6 (zj4 (U1 (m8 0 (pv 0)) y7) (z6 1 (pv 1))) (zq5 (pv 0) y7 P6))) (y9 (zv1 0 (k8 (z6 2 (pv 2))))))) w9) (x8 (zq2 (i:=0) (zy6 (R5 (e8 (O1 (U1 (m8 0 (pv 0)) y7) y7) y7) y7) (zq5 (pv 0) y7 P6))) (x8 (j1 (i:=3) sc_Z10.nd rfl (by first|exact Or.inl rfl|exact Or.inr rfl) (R5 (O1 (U1 (m8 0 (pv 0)) y7) (U1 (m8 0 (pv 0)) y7)) y7)) (y9 (zv1 0 (k8 (R5 (zj4 (R5 (O1 (z6 3 (pv 3)) y7) y7) y7) (z6 1 (pv 1)))))))))
noncomputable abbrev U0:Stmt:=top 22
noncomputable abbrev s_Z7:Stmt:=top 22
noncomputable abbrev N_Z7:List Str:=["found","due","k"]
theorem sc_Z7:FnScope N_Z7 ["found","due"] (y8 s_Z7):=⟨rfl,rfl,rfl,by decide +kernel,rfl,by decide +kernel,by decide +kernel⟩
theorem xd5 {P:Program}{w:World}{K:W.Frag}{mg:Str->Option Value}{base:Heap}{f:Addr}{fd:FuncData}(Y:Fun K "_law_alike" "_law_alike" s_Z7 f fd)(z:mg "bool"=none)(R:mg "int"=none)(j:mg "isinstance"=none)(I:mg "len"=none)(U:mg "list"=none)(O:mg "range"=none)(N:mg "str"=none)(G:mg "tuple"=none):FnOk P w K mg base CX0 1 f fd ["found","due"] (spR K 2 m_Z7):=
 Y.okD (k:=0) (m:=b_Z7) sc_Z7 fun cdv A outer s H E Z=>(x8 (r6 (j0 D5 Q5 (z6 1 (pv 1)) L6 (u7 _)) (y9 (u8 (X8 D5 Q5 (z6 0 (pv 0)) L6 (u7 _)))) w9) (x8 (r6 (g4 (j8 (C:="bool") rfl j rfl z PyProof.Rows.boot_bool (z6 1 (pv 1)))) (y9 (u8 (U8 (j8 (C:="bool") rfl j rfl z PyProof.Rows.boot_bool (z6 0 (pv 0))) (R4 (X8 X0 k7 (z6 0 (pv 0)) (z6 1 (pv 1)) (u7 _)))))) w9) (x8 (r6 (g4 (j8 (C:="int") rfl j rfl R PyProof.Rows.boot_int (z6 1 (pv 1)))) (y9 (u8 (U8 (j8 (C:="int") rfl j rfl R PyProof.Rows.boot_int (z6 0 (pv 0))) (U8 (yu3 (j8 (C:="bool") rfl j rfl z PyProof.Rows.boot_bool (z6 0 (pv 0)))) (R4 (X8 X0 k7 (z6 0 (pv 0)) (z6 1 (pv 1)) (u7 _))))))) w9) (x8 (r6 (g4 (j8 (C:="str") rfl j rfl N PyProof.Rows.boot_str (z6 1 (pv 1)))) (y9 (u8 (U8 (j8 (C:="str") rfl j rfl N PyProof.Rows.boot_str (z6 0 (pv 0))) (R4 (X8 X0 k7 (z6 0 (pv 0)) (z6 1 (pv 1)) (u7 _)))))) w9) (x8 (r6 (g4 (j8 (C:="tuple") rfl j rfl G PyProof.Rows.boot_tuple (z6 1 (pv 1)))) (y9 (r6 (U9 (g4 (j8 (C:="tuple") rfl j rfl G PyProof.Rows.boot_tuple (z6 0 (pv 0))))) (y9 (u8 X9)) w9)) (y9 (r6 (U9 (g4 (j8 (C:="list") rfl j rfl U PyProof.Rows.boot_list (z6 0 (pv 0))))) (y9 (u8 X9)) w9))) (x8 (r6 (j0 yh4 zv9 (O2 rfl I (z0 (z6 0 (pv 0)) z9)) (O2 rfl I (z0 (z6 1 (pv 1)) z9)) (u7 _)) (y9 (u8 X9)) w9) (x8 (T6 PassesOwn.never rfl (Z3 rfl O (z0 (O2 rfl I (z0 (z6 1 (pv 1)) z9)) z9)) (f7 (i:=2) (l8 sc_Z7.nd rfl (by first|exact Or.inl rfl|exact Or.inr rfl))) (y9 O0)) (y9 (u8 X9)))))))))
noncomputable abbrev s_Z5:Stmt:=top 22
noncomputable abbrev N_Z5:List Str:=["found","due","k"]
theorem sc_Z5:FnScope N_Z5 ["found","due"] (y8 s_Z5):=⟨rfl,rfl,rfl,by decide +kernel,rfl,by decide +kernel,by decide +kernel⟩
theorem xd7 {P:Program}{w:World}{K:W.Frag}{mg:Str->Option Value}{base:Heap}{f:Addr}{fd:FuncData}{U:Addr}{Z:FuncData}(Fn:Fun K "_law_alike" "_law_alike" s_Z5 f fd)(a3:FnOk P w K mg base CX0 1 U Z ["found","due"] (spR K 2 m_Z7))(b_Z7:Binds K Z ["found","due"] [])(a1:W.keepIn K (.ref U)=true)(a2:mg "_law_alike"=some (.ref U))(z:mg "bool"=none)(R:mg "int"=none)(j:mg "isinstance"=none)(I:mg "len"=none)(Y:mg "list"=none)(O:mg "range"=none)(N:mg "str"=none)(G:mg "tuple"=none):FnOk P w K mg base CX0 2 f fd ["found","due"] (spR K 2 m_Z5):=
 Fn.okD (k:=1) (m:=b_Z5) sc_Z5 fun cdv A outer s H E hr=>(x8 (r6 (j0 D5 Q5 (z6 1 (pv 1)) L6 (u7 _)) (y9 (u8 (X8 D5 Q5 (z6 0 (pv 0)) L6 (u7 _)))) w9) (x8 (r6 (g4 (j8 (C:="bool") rfl j rfl z PyProof.Rows.boot_bool (z6 1 (pv 1)))) (y9 (u8 (U8 (j8 (C:="bool") rfl j rfl z PyProof.Rows.boot_bool (z6 0 (pv 0))) (R4 (X8 X0 k7 (z6 0 (pv 0)) (z6 1 (pv 1)) (u7 _)))))) w9) (x8 (r6 (g4 (j8 (C:="int") rfl j rfl R PyProof.Rows.boot_int (z6 1 (pv 1)))) (y9 (u8 (U8 (j8 (C:="int") rfl j rfl R PyProof.Rows.boot_int (z6 0 (pv 0))) (U8 (yu3 (j8 (C:="bool") rfl j rfl z PyProof.Rows.boot_bool (z6 0 (pv 0)))) (R4 (X8 X0 k7 (z6 0 (pv 0)) (z6 1 (pv 1)) (u7 _))))))) w9) (x8 (r6 (g4 (j8 (C:="str") rfl j rfl N PyProof.Rows.boot_str (z6 1 (pv 1)))) (y9 (u8 (U8 (j8 (C:="str") rfl j rfl N PyProof.Rows.boot_str (z6 0 (pv 0))) (R4 (X8 X0 k7 (z6 0 (pv 0)) (z6 1 (pv 1)) (u7 _)))))) w9) (x8 (r6 (g4 (j8 (C:="tuple") rfl j rfl G PyProof.Rows.boot_tuple (z6 1 (pv 1)))) (y9 (r6 (U9 (g4 (j8 (C:="tuple") rfl j rfl G PyProof.Rows.boot_tuple (z6 0 (pv 0))))) (y9 (u8 X9)) w9)) (y9 (r6 (U9 (g4 (j8 (C:="list") rfl j rfl Y PyProof.Rows.boot_list (z6 0 (pv 0))))) (y9 (u8 X9)) w9))) (x8 (r6 (j0 yh4 zv9 (O2 rfl I (z0 (z6 0 (pv 0)) z9)) (O2 rfl I (z0 (z6 1 (pv 1)) z9)) (u7 _)) (y9 (u8 X9)) w9) (x8 (T6 PassesOwn.never rfl (Z3 rfl O (z0 (O2 rfl I (z0 (z6 1 (pv 1)) z9)) z9)) (f7 (i:=2) (l8 sc_Z5.nd rfl (by first|exact Or.inl rfl|exact Or.inr rfl))) (y9 (r6 (U9 (g4 (g9 (fun t ha=>u0 (a3.mono (by decide)) hr rfl a2 a1 b_Z7 .nil j3 ha) rfl (z0 (zf2 (z6 0 (pv 0)) (z6 2 (pv 2))) (z0 (zf2 (z6 1 (pv 1)) (z6 2 (pv 2))) z9)) (z8 (z8 w8))))) (y9 (u8 X9)) w9))) (y9 (u8 X9)))))))))
noncomputable abbrev s_Z4:Stmt:=top 22
noncomputable abbrev N_Z4:List Str:=["found","due","k"]
theorem sc_Z4:FnScope N_Z4 ["found","due"] (y8 s_Z4):=⟨rfl,rfl,rfl,by decide +kernel,rfl,by decide +kernel,by decide +kernel⟩
theorem xd8 {P:Program}{w:World}{K:W.Frag}{mg:Str->Option Value}{base:Heap}{f:Addr}{fd:FuncData}{U:Addr}{Z:FuncData}(Fn:Fun K "_law_alike" "_law_alike" s_Z4 f fd)(a3:FnOk P w K mg base CX0 2 U Z ["found","due"] (spR K 2 m_Z5))(b_Z5:Binds K Z ["found","due"] [])(a1:W.keepIn K (.ref U)=true)(a2:mg "_law_alike"=some (.ref U))(z:mg "bool"=none)(R:mg "int"=none)(j:mg "isinstance"=none)(I:mg "len"=none)(Y:mg "list"=none)(O:mg "range"=none)(N:mg "str"=none)(G:mg "tuple"=none):FnOk P w K mg base CX0 3 f fd ["found","due"] (spR K 2 m_Z4):=
 Fn.okD (k:=2) (m:=b_Z4) sc_Z4 fun cdv A outer s H E hr=>(x8 (r6 (j0 D5 Q5 (z6 1 (pv 1)) L6 (u7 _)) (y9 (u8 (X8 D5 Q5 (z6 0 (pv 0)) L6 (u7 _)))) w9) (x8 (r6 (g4 (j8 (C:="bool") rfl j rfl z PyProof.Rows.boot_bool (z6 1 (pv 1)))) (y9 (u8 (U8 (j8 (C:="bool") rfl j rfl z PyProof.Rows.boot_bool (z6 0 (pv 0))) (R4 (X8 X0 k7 (z6 0 (pv 0)) (z6 1 (pv 1)) (u7 _)))))) w9) (x8 (r6 (g4 (j8 (C:="int") rfl j rfl R PyProof.Rows.boot_int (z6 1 (pv 1)))) (y9 (u8 (U8 (j8 (C:="int") rfl j rfl R PyProof.Rows.boot_int (z6 0 (pv 0))) (U8 (yu3 (j8 (C:="bool") rfl j rfl z PyProof.Rows.boot_bool (z6 0 (pv 0)))) (R4 (X8 X0 k7 (z6 0 (pv 0)) (z6 1 (pv 1)) (u7 _))))))) w9) (x8 (r6 (g4 (j8 (C:="str") rfl j rfl N PyProof.Rows.boot_str (z6 1 (pv 1)))) (y9 (u8 (U8 (j8 (C:="str") rfl j rfl N PyProof.Rows.boot_str (z6 0 (pv 0))) (R4 (X8 X0 k7 (z6 0 (pv 0)) (z6 1 (pv 1)) (u7 _)))))) w9) (x8 (r6 (g4 (j8 (C:="tuple") rfl j rfl G PyProof.Rows.boot_tuple (z6 1 (pv 1)))) (y9 (r6 (U9 (g4 (j8 (C:="tuple") rfl j rfl G PyProof.Rows.boot_tuple (z6 0 (pv 0))))) (y9 (u8 X9)) w9)) (y9 (r6 (U9 (g4 (j8 (C:="list") rfl j rfl Y PyProof.Rows.boot_list (z6 0 (pv 0))))) (y9 (u8 X9)) w9))) (x8 (r6 (j0 yh4 zv9 (O2 rfl I (z0 (z6 0 (pv 0)) z9)) (O2 rfl I (z0 (z6 1 (pv 1)) z9)) (u7 _)) (y9 (u8 X9)) w9) (x8 (T6 PassesOwn.never rfl (Z3 rfl O (z0 (O2 rfl I (z0 (z6 1 (pv 1)) z9)) z9)) (f7 (i:=2) (l8 sc_Z4.nd rfl (by first|exact Or.inl rfl|exact Or.inr rfl))) (y9 (r6 (U9 (g4 (g9 (fun t ha=>u0 (a3.mono (by decide)) hr rfl a2 a1 b_Z5 .nil j3 ha) rfl (z0 (zf2 (z6 0 (pv 0)) (z6 2 (pv 2))) (z0 (zf2 (z6 1 (pv 1)) (z6 2 (pv 2))) z9)) (z8 (z8 w8))))) (y9 (u8 X9)) w9))) (y9 (u8 X9)))))))))
noncomputable abbrev zb2:Stmt:=top 23
noncomputable abbrev xa0:List Str:=["reel","most","many","kind","span","found","k","number"]
theorem sc_Z15:FnScope xa0 ["reel","most"] (y8 zb2):=⟨rfl,rfl,rfl,by decide +kernel,rfl,by decide +kernel,by decide +kernel⟩
theorem xk7 {P:Program}{w:World}{K:W.Frag}{mg:Str->Option Value}{base:Heap}{f:Addr}{fd:FuncData}{G:Addr}{N:FuncData}(Y:Fun K "_law_row" "_law_row" zb2 f fd)(z:FnOk P w K mg base CX0 1 G N ["reel","many"] (spG K 2 d9))(b_Z10:Binds K N ["reel","many"] [])(k_Z10:W.keepIn K (.ref G)=true)(j:mg "_law_take"=some (.ref G))(R:mg "int"=none)(O:mg "min"=none)(I:mg "range"=none):FnOk P w K mg base CX0 2 f fd ["reel","most"] (spG K 2 yg8):=
 Y.okGl (k:=1) (m:=b_Z15) sc_Z15 (by decide) fun cdv A outer s H E U=>(x8 (d7 (i:=2) sc_Z15.nd rfl (by first|exact Or.inl rfl|exact Or.inr rfl) (D0 (zj3 (c9 (n6 (i:=0) (fun t ha=>u0 (z.mono (by decide)) U rfl j k_Z10 b_Z10 .nil j3 ha) rfl (pv 0) (n5 (z0 (e8 (z6 1 (pv 1)) y7) z9)) (g5 (z8 w8))) (c9 (k8 (z6 1 (pv 1))) (c9 (n6 (i:=0) (fun t ha=>u0 (z.mono (by decide)) U rfl j k_Z10 b_Z10 .nil j3 ha) rfl (pv 0) (n5 (z0 (e8 (xw7 rfl rfl O (z0 (z6 1 (pv 1)) (z0 y7 z9))) y7) z9)) (g5 (z8 w8))) (n5 z9))))) (n6 (i:=0) (fun t ha=>u0 (z.mono (by decide)) U rfl j k_Z10 b_Z10 .nil j3 ha) rfl (pv 0) (n5 (z0 y7 z9)) (g5 (z8 w8))))) (x8 (d7 (i:=3) sc_Z15.nd rfl (by first|exact Or.inl rfl|exact Or.inr rfl) (n6 (i:=0) (fun t ha=>u0 (z.mono (by decide)) U rfl j k_Z10 b_Z10 .nil j3 ha) rfl (pv 0) (n5 (z0 y7 z9)) (g5 (z8 w8)))) (x8 (d7 (i:=4) sc_Z15.nd rfl (by first|exact Or.inl rfl|exact Or.inr rfl) (D0 (k8 (E8 (Z4 (z0 y7 (z0 y7 (z0 y7 (z0 y7 z9))))))) (n6 (i:=0) (fun t ha=>u0 (z.mono (by decide)) U rfl j k_Z10 b_Z10 .nil j3 ha) rfl (pv 0) (n5 (z0 y7 z9)) (g5 (z8 w8))))) (x8 (P9 (i:=5) sc_Z15.nd rfl (by first|exact Or.inl rfl|exact Or.inr rfl) (Z4 z9)) (x8 (T6 PassesOwn.never rfl (Z3 rfl I (z0 (z6 2 (pv 2)) z9)) (f7 (i:=6) (l8 sc_Z15.nd rfl (by first|exact Or.inl rfl|exact Or.inr rfl))) (x8 (d7 (i:=7) sc_Z15.nd rfl (by first|exact Or.inl rfl|exact Or.inr rfl) (n6 (i:=0) (fun t ha=>u0 (z.mono (by decide)) U rfl j k_Z10 b_Z10 .nil j3 ha) rfl (pv 0) (n5 (z0 (z6 4 (pv 4)) z9)) (g5 (z8 w8)))) (x8 (r6 (j0 X0 k7 (z6 3 (pv 3)) y7 (u7 _)) (y9 (j1 (i:=7) sc_Z15.nd rfl (by first|exact Or.inl rfl|exact Or.inr rfl) (W7 (z6 7 (pv 7)) (zj4 (z6 4 (pv 4)) y7)))) w9) (x8 (r6 (j0 X0 k7 (z6 3 (pv 3)) y7 (u7 _)) (y9 (j1 (i:=7) sc_Z15.nd rfl (by first|exact Or.inl rfl|exact Or.inr rfl) (W7 (O1 (z6 7 (pv 7)) (D1 y7 y7)) (O1 (z6 4 (pv 4)) (D1 y7 y7))))) w9) (x8 (r6 (j0 X0 k7 (z6 3 (pv 3)) y7 (u7 _)) (y9 (j1 (i:=7) sc_Z15.nd rfl (by first|exact Or.inl rfl|exact Or.inr rfl) (U1 (K6 (Z4 (z0 (z6 7 (pv 7)) (z0 (e8 (z6 4 (pv 4)) (z6 7 (pv 7))) z9)))) (R5 (z6 6 (pv 6)) y7)))) w9) (x8 (r6 (j0 X0 k7 (z6 3 (pv 3)) y7 (u7 _)) (y9 (j1 (i:=7) sc_Z15.nd rfl (by first|exact Or.inl rfl|exact Or.inr rfl) (e8 (z6 7 (pv 7)) (z6 6 (pv 6))))) w9) (x8 (r6 (j0 X0 k7 (z6 3 (pv 3)) y7 (u7 _)) (y9 (d7 (i:=7) sc_Z15.nd rfl (by first|exact Or.inl rfl|exact Or.inr rfl) (zy8 yc8 yt1 (yi6 rfl R (c9 (xw4 X0 k7 (n6 (i:=0) (fun t ha=>u0 (z.mono (by decide)) U rfl j k_Z10 b_Z10 .nil j3 ha) rfl (pv 0) (n5 (z0 y7 z9)) (g5 (z8 w8))) (k8 y7) (u7 _)) (n5 z9)) PyProof.Rows.boot_int) (k8 (z6 7 (pv 7)))))) w9) (y9 (N8 (i:=5) (pv 5) (z6 7 (pv 7)) (fun t ha=>yv9 PySem.F.plainAttrs_list PySem.F.slot_list_append PySem.F.type_list_append T7 (pv 5) ha) (z0 (z6 7 (pv 7)) z9)))))))))) (y9 (yw9 0 5 (pv 5))))))))
noncomputable abbrev zb3:Stmt:=top 24
noncomputable abbrev xa1:List Str:=["reel","row","some","apart"]
theorem sc_Z14:FnScope xa1 ["reel","row"] (y8 zb3):=⟨rfl,rfl,rfl,by decide +kernel,rfl,by decide +kernel,by decide +kernel⟩
theorem xk8 {P:Program}{w:World}{K:W.Frag}{mg:Str->Option Value}{base:Heap}{f:Addr}{fd:FuncData}{I:Addr}{N:FuncData}(Y:Fun K "_law_step" "_law_step" zb3 f fd)(z:FnOk P w K mg base CX0 1 I N ["reel","many"] (spG K 2 d9))(b_Z10:Binds K N ["reel","many"] [])(k_Z10:W.keepIn K (.ref I)=true)(j:mg "_law_take"=some (.ref I))(R:mg "abs"=none)(G:mg "len"=none)(O:mg "max"=none):FnOk P w K mg base CX0 2 f fd ["reel","row"] (spG K 2 yg9):=
 Y.okGl (k:=1) (m:=b_Z14) sc_Z14 (by decide) fun cdv A outer s H E U=>(x8 (d7 (i:=2) sc_Z14.nd rfl (by first|exact Or.inl rfl|exact Or.inr rfl) (zj3 (c9 (k8 y7) (c9 (k8 y7) (c9 (zy8 (OpR.or zf4 D6) zu0 (k8 y7) (n6 (i:=0) (fun t ha=>u0 (z.mono (by decide)) U rfl j k_Z10 b_Z10 .nil j3 ha) rfl (pv 0) (n5 (z0 y7 z9)) (g5 (z8 w8)))) (c9 (zy8 (OpR.or zf4 D6) zu0 (k8 y7) (n6 (i:=0) (fun t ha=>u0 (z.mono (by decide)) U rfl j k_Z10 b_Z10 .nil j3 ha) rfl (pv 0) (n5 (z0 y7 z9)) (g5 (z8 w8)))) (n5 (z0 (D1 y7 y7) (z0 (D1 y7 y7) z9))))))))) (x8 (r6 (yu8 (L7 U.units) (m8 1 (pv 1)) (K6 (Z4 z9)) (u7 _)) (x8 (d7 (i:=3) sc_Z14.nd rfl (by first|exact Or.inl rfl|exact Or.inr rfl) (xw5 rfl R (c9 (zy8 yt3 zj6 (D0 (k8 (z6 1 (pv 1))) (n6 (i:=0) (fun t ha=>u0 (z.mono (by decide)) U rfl j k_Z10 b_Z10 .nil j3 ha) rfl (pv 0) (n5 (z0 (Z0 rfl G (m8 1 (pv 1))) z9)) (g5 (z8 w8)))) (D0 (k8 (z6 1 (pv 1))) (n6 (i:=0) (fun t ha=>u0 (z.mono (by decide)) U rfl j k_Z10 b_Z10 .nil j3 ha) rfl (pv 0) (n5 (z0 (Z0 rfl G (m8 1 (pv 1))) z9)) (g5 (z8 w8))))) (n5 z9)))) (y9 (j1 (i:=2) sc_Z14.nd rfl (by first|exact Or.inl rfl|exact Or.inr rfl) (E8 (yv5 (m8 2 (pv 2)) (K6 (Z4 (z0 (yu4 rfl rfl O (z0 y7 (z0 (z6 3 (pv 3)) z9))) (z0 (e8 (z6 3 (pv 3)) y7) z9))))))))) w9) (y9 (zv1 0 (D0 (k8 (z6 2 (pv 2))) (n6 (i:=0) (fun t ha=>u0 (z.mono (by decide)) U rfl j k_Z10 b_Z10 .nil j3 ha) rfl (pv 0) (n5 (z0 (Z0 rfl G (m8 2 (pv 2))) z9)) (g5 (z8 w8))))))))
noncomputable abbrev s_Z1:Stmt:=top 26
noncomputable abbrev N_Z1:List Str:=["row","step","place","sign"]
theorem xe5:FnScope N_Z1 ["row","step","place","sign"] (y8 s_Z1):=⟨rfl,rfl,rfl,by decide +kernel,rfl,by decide +kernel,by decide +kernel⟩
theorem xc1 {P:Program}{w:World}{K:W.Frag}{mg:Str->Option Value}{base:Heap}{f:Addr}{fd:FuncData}(i:Fun K "_law_step_right" "_law_step_right" s_Z1 f fd):FnOk P w K mg base CX0 1 f fd ["row","step","place","sign"] (spR K 4 m_Z1):=
 i.okD (k:=0) (m:=b_Z1) xe5 fun cdv A outer s H E j=>(y9 (u8 (X8 yh5 zf3 (O1 (O1 (W7 (U1 (m8 0 (pv 0)) (e8 (z6 2 (pv 2)) y7)) (U1 (m8 0 (pv 0)) (z6 2 (pv 2)))) (z6 3 (pv 3))) (U1 (K6 (Z4 (z0 y7 (z0 (D3 y7) z9)))) (R5 (z6 2 (pv 2)) y7))) (z6 1 (pv 1)) (u7 _))))
noncomputable abbrev Y4:Stmt:=top 25
noncomputable abbrev zw1:List Str:=["row","step","sign","many","most","place","found","beside","free"]
theorem sc_law_kept:FnScope zw1 ["row","step","sign"] (y8 Y4):=⟨rfl,rfl,rfl,by decide +kernel,rfl,by decide +kernel,by decide +kernel⟩
theorem zu3:List.Nodup (["place"]:List Str):=by decide +kernel
theorem zj7 {P:Program}{w:World}{K:W.Frag}{mg:Str->Option Value}{base:Heap}{f:Addr}{fd:FuncData}{z:Addr}{G:FuncData}(Fn:Fun K "_law_kept" "_law_kept" Y4 f fd)(O:FnOk P w K mg base CX0 1 z G ["row","step","place","sign"] (spR K 4 m_Z1))(b_Z1:Binds K G ["row","step","place","sign"] [])(k_Z1:W.keepIn K (.ref z)=true)(I:mg "_law_step_right"=some (.ref z))(Y:mg "int"=none)(U:mg "len"=none)(R:mg "max"=none)(j:mg "range"=none):FnOk P w K mg base CX0 2 f fd ["row","step","sign"] (spR K 3 V5):=
 (Fn.okW (k:=1) (m:=b_law_kept) sc_law_kept fun cdv A outer s H E Z=>(u6 (psw (j1 (i:=3) sc_law_kept.nd rfl (by first|exact Or.inl rfl|exact Or.inr rfl) (Z0 rfl U (m8 0 (pv 0))))) (yw7 (zk9 (i:=4) sc_law_kept.nd rfl (by first|exact Or.inl rfl|exact Or.inr rfl) (K4 (N:=["place"]) (src:=[none]) (y8 Y4) zw1 rfl rfl (by decide +kernel)) rfl (Z3 rfl j (z0 (e8 (z6 3 (pv 3)) y7) z9)) (fun C fp s0 H0=>(f7 (i:=0) (l8 zu3 rfl (by first|exact Or.inl rfl|exact Or.inr rfl)))) (fun C fp s0 H0=>J2) (fun C fp s0 H0=>(Z4 (z0 y7 (z0 y7 z9))))) (u6 (E5 PassesOwn.never rfl (za1 rfl j (z0 (W7 (z6 3 (pv 3)) y7) (z0 (D3 y7) (z0 (D3 y7) z9)))) (f7 (i:=5) (l8 sc_law_kept.nd rfl (by first|exact Or.inl rfl|exact Or.inr rfl))) (u6 (zv0 (zy6 (yi5 (yu4 rfl rfl R (z0 (e8 y7 (U1 (yi7 (U1 (m8 4 (pv 4)) (e8 (z6 5 (pv 5)) y7))) y7)) (z0 (U1 (yi7 (U1 (m8 4 (pv 4)) (e8 (z6 5 (pv 5)) y7))) y7) z9)))) (zq5 (K7 V1 (pv 4) (z6 5 (pv 5)) (fun _ _=>rfl)) y7 P6))) (u6 (zv0 (zy6 (yu1 (K7 V1 (K7 V1 (pv 4) (e8 (z6 5 (pv 5)) y7) (fun _ _=>rfl)) y7 (fun _ _=>rfl))) (zq5 (K7 V1 (pv 4) (z6 5 (pv 5)) (fun _ _=>rfl)) y7 P6))) (m9 (zy4 (pcw (pc_w (yu7 (j0 X0 k7 (z6 5 (pv 5)) y7 (u7 _)) (yw3 (g4 (g9 (fun t ha=>u0 (O.mono (by decide)) Z rfl I k_Z1 b_Z1 .nil j3 ha) rfl (z0 (z6 0 (pv 0)) (z0 (z6 1 (pv 1)) (z0 (W7 (z6 5 (pv 5)) y7) (z0 (z6 2 (pv 2)) z9)))) (z8 (z8 (z8 (z8 w8)))))))))) (m9 (zv0 (zy6 (yu1 (K7 V1 (K7 V1 (pv 4) (z6 5 (pv 5)) (fun _ _=>rfl)) y7 (fun _ _=>rfl))) (zq5 (K7 V1 (pv 4) (z6 5 (pv 5)) (fun _ _=>rfl)) y7 P6)))) W5))))) (u6 (psw (P9 (i:=6) sc_law_kept.nd rfl (by first|exact Or.inl rfl|exact Or.inr rfl) (Z4 z9))) (u6 (E5 PassesOwn.never rfl (Z3 rfl j (z0 (z6 3 (pv 3)) z9)) (f7 (i:=5) (l8 sc_law_kept.nd rfl (by first|exact Or.inl rfl|exact Or.inr rfl))) (u6 (psw (j1 (i:=7) sc_law_kept.nd rfl (by first|exact Or.inl rfl|exact Or.inr rfl) (zv4 rfl Y (z0 (xm4 (xk0 Z.units) (K6 (xx5 (m8 6 (pv 6)) (X3 (D3 y7)) S7)) (K6 (Z4 (z0 (W7 (z6 5 (pv 5)) y7) z9))) (u7 _)) z9) PyProof.Rows.boot_int))) (u6 (psw (j1 (i:=8) sc_law_kept.nd rfl (by first|exact Or.inl rfl|exact Or.inr rfl) (xd1 (X8 X0 k7 (z6 7 (pv 7)) y7 (u7 _)) (R4 (g9 (fun t ha=>u0 (O.mono (by decide)) Z rfl I k_Z1 b_Z1 .nil j3 ha) rfl (z0 (z6 0 (pv 0)) (z0 (z6 1 (pv 1)) (z0 (W7 (z6 5 (pv 5)) y7) (z0 (z6 2 (pv 2)) z9)))) (z8 (z8 (z8 (z8 w8))))))))) (m9 (zy4 (yi9 (pc_w (zj5 (g4 (z6 8 (pv 8))) (zk7 (j0 yh5 zf3 (e8 y7 (U1 (yi7 (U1 (m8 4 (pv 4)) (e8 (z6 5 (pv 5)) y7))) y7)) (U1 (yi7 (U1 (m8 4 (pv 4)) (e8 (z6 5 (pv 5)) y7))) y7) (u7 _)))))) (m9 (psw (N8 (i:=6) (pv 6) (z6 5 (pv 5)) (fun t ha=>yv9 PySem.F.plainAttrs_list PySem.F.slot_list_append PySem.F.type_list_append T7 (pv 6) ha) (z0 (z6 5 (pv 5)) z9)))) W5))))) (m9 (yj7 6 (pv 6))))))))).plainW
noncomputable abbrev s_Z8:Stmt:=top 27
noncomputable abbrev N_Z8:List Str:=["row","step","sign","kept"]
theorem sc_Z8:FnScope N_Z8 ["row","step","sign"] (y8 s_Z8):=⟨rfl,rfl,rfl,by decide +kernel,rfl,by decide +kernel,by decide +kernel⟩
theorem xd4 {P:Program}{w:World}{K:W.Frag}{mg:Str->Option Value}{base:Heap}{f:Addr}{fd:FuncData}{j:Addr}{z:FuncData}(R:Fun K "_law_changed" "_law_changed" s_Z8 f fd)(I:FnOk P w K mg base CX0 2 j z ["row","step","sign"] (spR K 3 V5))(b_law_kept:Binds K z ["row","step","sign"] [])(k_law_kept:W.keepIn K (.ref j)=true)(G:mg "_law_kept"=some (.ref j))(N:mg "len"=none):FnOk P w K mg base CX0 3 f fd ["row","step","sign"] (spR K 3 m_Z8):=
 R.okD (k:=2) (m:=b_Z8) sc_Z8 fun cdv A outer s H E O=>(x8 (j1 (i:=3) sc_Z8.nd rfl (by first|exact Or.inl rfl|exact Or.inr rfl) (g9 (fun t ha=>u0 (I.mono (by decide)) O rfl G k_law_kept b_law_kept .nil j3 ha) rfl (z0 (z6 0 (pv 0)) (z0 (z6 1 (pv 1)) (z0 (z6 2 (pv 2)) z9))) (z8 (z8 (z8 w8))))) (y9 (u8 (zy9 (z0 (W7 (Z0 rfl N (m8 0 (pv 0))) (Z0 rfl N (m8 3 (pv 3)))) (z0 (z6 3 (pv 3)) z9))))))
noncomputable abbrev s_Z6:Stmt:=top 28
noncomputable abbrev N_Z6:List Str:=["row","step","sign","best","bits","kept","wrong","place"]
theorem sc_Z6:FnScope N_Z6 ["row","step","sign"] (y8 s_Z6):=⟨rfl,rfl,rfl,by decide +kernel,rfl,by decide +kernel,by decide +kernel⟩
theorem M4:List.Nodup (["place","bits"]:List Str):=by decide +kernel
theorem xd6 {P:Program}{w:World}{K:W.Frag}{mg:Str->Option Value}{base:Heap}{f:Addr}{fd:FuncData}{G:Addr}{I:FuncData}(Fn:Fun K "_law_by_trial" "_law_by_trial" s_Z6 f fd)(U:FnOk P w K mg base CX0 1 G I ["row","step","place","sign"] (spR K 4 m_Z1))(b_Z1:Binds K I ["row","step","place","sign"] [])(k_Z1:W.keepIn K (.ref G)=true)(R:mg "_law_step_right"=some (.ref G))(j:mg "len"=none)(O:mg "min"=none)(z:mg "range"=none):FnOk P w K mg base CX0 2 f fd ["row","step","sign"] (spR K 3 m_Z6):=
 Fn.okD (k:=1) (m:=b_Z6) sc_Z6 fun cdv A outer s H E Z=>(x8 (j1 (i:=3) sc_Z6.nd rfl (by first|exact Or.inl rfl|exact Or.inr rfl) (zy9 (z0 (e8 (Z0 rfl j (m8 0 (pv 0))) y7) (z0 (E8 (Z4 z9)) z9)))) (x8 (T6 PassesOwn.never rfl (Z3 rfl z (z0 (xm3 y7 (Z0 rfl j (m8 0 (pv 0)))) z9)) (f7 (i:=4) (l8 sc_Z6.nd rfl (by first|exact Or.inl rfl|exact Or.inr rfl))) (x8 (zq3 (zk9 (i:=5) sc_Z6.nd rfl (by first|exact Or.inl rfl|exact Or.inr rfl) (K4 (N:=["place","bits"]) (src:=[none,some 4]) (y8 s_Z6) N_Z6 rfl rfl (by decide +kernel)) rfl (Z3 rfl z (z0 (Z0 rfl j (m8 0 (pv 0))) z9)) (fun C fp Y H0=>(f7 (i:=0) (l8 M4 rfl (by first|exact Or.inl rfl|exact Or.inr rfl)))) (fun C fp Y H0=>(yj1 (j0 X0 k7 (xv0 (xm2 (z6 1 (pv 1)) (z6 0 (pv 0))) y7) y7 (u7 _)))) (fun C fp Y H0=>(z6 0 (pv 0))))) (x8 (j1 (i:=6) sc_Z6.nd rfl (by first|exact Or.inl rfl|exact Or.inr rfl) y7) (x8 (T6 PassesOwn.never rfl (zv3 (z6 5 (pv 5))) (f7 (i:=7) (l8 sc_Z6.nd rfl (by first|exact Or.inl rfl|exact Or.inr rfl))) (y9 (r6 (pc_w (zj5 (j0 zq7 zx1 (e8 (z6 7 (pv 7)) y7) (z6 5 (pv 5)) rfl) (zk7 (U9 (g4 (g9 (fun t ha=>u0 (U.mono (by decide)) Z rfl R k_Z1 b_Z1 .nil j3 ha) rfl (z0 (z6 0 (pv 0)) (z0 (z6 1 (pv 1)) (z0 (z6 7 (pv 7)) (z0 (z6 2 (pv 2)) z9)))) (z8 (z8 (z8 (z8 w8)))))))))) (y9 (j1 (i:=6) sc_Z6.nd rfl (by first|exact Or.inl rfl|exact Or.inr rfl) (e8 (z6 6 (pv 6)) y7))) w9))) (y9 (r6 (j0 X0 k7 (z6 6 (pv 6)) y7 (u7 _)) (y9 (j1 (i:=3) sc_Z6.nd rfl (by first|exact Or.inl rfl|exact Or.inr rfl) (yi8 rfl Z.units rfl O (z0 (z6 3 (pv 3)) (z0 (zy9 (z0 (W7 (Z0 rfl j (m8 0 (pv 0))) (Z0 rfl j (m8 5 (pv 5)))) (z0 (z6 5 (pv 5)) z9))) z9))))) w9)))))) (y9 (zg9 3 (pv 3)))))
noncomputable abbrev zb4:Stmt:=top 29
noncomputable abbrev xa2:List Str:=["found"]
theorem xo7:FnScope xa2 ["found"] (y8 zb4):=⟨rfl,rfl,rfl,by decide +kernel,rfl,by decide +kernel,by decide +kernel⟩
theorem xk9 {P:Program}{w:World}{K:W.Frag}{mg:Str->Option Value}{base:Heap}{f:Addr}{fd:FuncData}(Fn:Fun K "_law_word" "_law_word" zb4 f fd){a1:Addr}(a9:mg "NoForm"=some (.ref a1)){G:Addr}(a4:mg "NoNumber"=some (.ref G)){N:Addr}(a7:mg "NoPlace"=some (.ref N)){Z:Addr}(a8:mg "NoStep"=some (.ref Z)){Y:Addr}(a2:mg "NoText"=some (.ref Y)){z:Addr}(a3:mg "NoWeights"=some (.ref z)){I:Addr}(a6:mg "NoneYet"=some (.ref I))(a5:∀ c k,([("NoStep",true),("NoText",false)]:List (Str×Bool)).lookup c=some k->∀ C,XC K c C->XCls K C/\W.kitOne K (.ref C) (.ref Z)=some k)(O:∀ c k,([("NoStep",false),("NoText",true)]:List (Str×Bool)).lookup c=some k->∀ C,XC K c C->XCls K C/\W.kitOne K (.ref C) (.ref Y)=some k)(i:∀ c k,([("NoStep",false),("NoText",false)]:List (Str×Bool)).lookup c=some k->∀ C,XC K c C->XCls K C/\W.kitAny K (.ref C) ([a1,G,N,z,I].map Value.ref)=some k)(R:∀ c k,([("NoStep",true),("NoText",true)]:List (Str×Bool)).lookup c=some k->∀ C,XC K c C->XCls K C/\W.kitOne K (.ref C) (.type "ValueError")=some k)(U:mg "ValueError"=none)(aa:mg "int"=none)(j:mg "isinstance"=none):FnOk P w K mg base CX0 1 f fd ["found"] (spR K 1 zo0):=
 Fn.okD (k:=0) (m:=b_Z13) xo7 fun cdv A outer s H E hr=>(x8 (r6 (j0 D5 Q5 (z6 0 (pv 0)) L6 (u7 _)) (y9 (u8 y7)) w9) (x8 (r6 (pc_w (yu7 (g4 (xw8 (tab:=[("NoStep",false),("NoText",false)]) rfl j (O4 rfl a9 (O4 rfl a4 (O4 rfl a7 (O4 rfl a3 (O4 rfl a6 xv2))))) (by show 5<=sizeLine;decide) (z6 0 (pv 0)) i)) (yw3 (U9 (g4 (xw9 (T:="ValueError") (tab:=[("NoStep",true),("NoText",true)]) rfl j rfl U (by rfl) (z6 0 (pv 0)) R)))))) (y9 (u8 y7)) w9) (x8 (r6 (j0 yh4 zv9 (yu5 (tab:=[("NoStep",true),("NoText",false)]) rfl j rfl a8 (z6 0 (pv 0)) a5) (yu5 (tab:=[("NoStep",false),("NoText",true)]) rfl j rfl a2 (z6 0 (pv 0)) O) (u7 _)) (y9 (u8 (e8 y7 (zv4 rfl aa (z0 (yu5 (tab:=[("NoStep",false),("NoText",true)]) rfl j rfl a2 (z6 0 (pv 0)) O) z9) PyProof.Rows.boot_int)))) w9) (y9 (u8 y7)))))
noncomputable abbrev Y5:Stmt:=top 30
noncomputable abbrev zg1:List Str:=["door","row","step","word","found","e"]
theorem sc_law_asked:FnScope zg1 ["door","row","step","word"] (y8 Y5):=⟨rfl,rfl,rfl,by decide +kernel,rfl,by decide +kernel,by decide +kernel⟩
theorem zq9 {P:Program}{w:World}{K:W.Frag}{mg:Str->Option Value}{base:Heap}{f:Addr}{fd:FuncData}{Y:Addr}{a3:FuncData}{a1:Addr}{a4:FuncData}{Z:Addr}{a2:FuncData}{j:Addr}{z:FuncData}(Fn:Fun K "_law_asked" "_law_asked" Y5 f fd)(a8:FnOk P w K mg base CX0 1 Y a3 ["found"] (spR K 1 zo0))(b_Z13:Binds K a3 ["found"] [])(k_Z13:W.keepIn K (.ref Y)=true)(a7:mg "_law_word"=some (.ref Y))(ac:FnOk P w K mg base CX0 2 a1 a4 ["row","step","word"] (spR K 3 m_Z0))(b_Z0:Binds K a4 ["row","step","word"] [])(k_Z0:W.keepIn K (.ref a1)=true)(a6:mg "fewest_beginning"=some (.ref a1))(ab:FnOk P w K mg base CX0 3 Z a2 ["row","step"] (spR K 2 m_Z2))(b_Z2:Binds K a2 ["row","step"] [])(k_Z2:W.keepIn K (.ref Z)=true)(a5:mg "fewest_changed"=some (.ref Z))(U:FnOk P w K mg base CX0 5 j z ["row","step"] (spW K 2 g6))(b_made_wavy:Binds K z ["row","step"] [])(k_made_wavy:W.keepIn K (.ref j)=true)(I:mg "made_wavy"=some (.ref j))(aa:FnOk P w K mg base (CXx P w) 2 a1 a4 ["row","step","word"] (spX K 3 Q0))(a9:FnOk P w K mg base (CXx P w) 3 Z a2 ["row","step"] (spX K 2 zm7))(O:FnOk P w K mg base (CXx P w) 5 j z ["row","step"] (spXW K 2 e9)){G:Addr}(R:mg "WaveError"=some (.ref G))(N:∀ c∈(["NoStep","NoText"]:List Str),∀ C,XC K c C->W.exmOne K (.ref C) (.ref G)=some true):FnOk P w K mg base CX0 6 f fd ["door","row","step","word"] (spW K 4 m5):=
 Fn.okW (k:=5) (m:=b_law_asked) sc_law_asked fun cdv A outer s H E hr=>(u6 (psw (j1 (i:=4) sc_law_asked.nd rfl (by first|exact Or.inl rfl|exact Or.inr rfl) L6)) (u6 (yj5 (names:=["NoStep","NoText"]) (i:=5) rfl ⟨rfl,rfl,rfl⟩ rfl R N sc_law_asked.nd rfl rfl (m9 (zy4 (pcw (j0 X0 k7 (z6 0 (pv 0)) y7 (u7 _))) (m9 (psw (zv2 (g9 (fun t ha=>u0 (ac.mono (by decide)) hr rfl a6 k_Z0 b_Z0 .nil j3 ha) rfl (z0 (z6 1 (pv 1)) (z0 (z6 2 (pv 2)) (z0 (z6 3 (pv 3)) z9))) (z8 (z8 (z8 w8))))))) (m9 (zy4 (pcw (j0 X0 k7 (z6 0 (pv 0)) y7 (u7 _))) (m9 (psw (zv2 (g9 (fun t ha=>u0 (ab.mono (by decide)) hr rfl a5 k_Z2 b_Z2 .nil j3 ha) rfl (z0 (z6 1 (pv 1)) (z0 (z6 2 (pv 2)) z9)) (z8 (z8 w8)))))) (m9 (zb8 (fun t ha=>by exact u0 (U.mono (by decide)) hr rfl I k_made_wavy b_made_wavy .nil j3 ha) (fun te he=>N9 he) rfl (z0 (z6 1 (pv 1)) (z0 (z6 2 (pv 2)) z9)) (z8 (z8 w8)))))))) (T5 (yw4 rfl (j0 X0 k7 (z6 0 (pv 0)) y7 (u7 _)) (T5 (E4 (zq6 (J5 rfl ⟨rfl,rfl,rfl⟩ (aa.mono (by decide)) hr rfl a6 k_Z0 b_Z0 rfl (z0 (z6 1 (pv 1)) (z0 (z6 2 (pv 2)) (z0 (z6 3 (pv 3)) z9))) (z8 (z8 (z8 w8))))))) (T5 (yw4 rfl (j0 X0 k7 (z6 0 (pv 0)) y7 (u7 _)) (T5 (E4 (zq6 (J5 rfl ⟨rfl,rfl,rfl⟩ (a9.mono (by decide)) hr rfl a5 k_Z2 b_Z2 rfl (z0 (z6 1 (pv 1)) (z0 (z6 2 (pv 2)) z9)) (z8 (z8 w8)))))) (T5 (E4 (yv6 rfl ⟨rfl,rfl,rfl⟩ (O.mono (by decide)) hr rfl I k_made_wavy b_made_wavy rfl (z0 (z6 1 (pv 1)) (z0 (z6 2 (pv 2)) z9)) (z8 (z8 w8))))))))) (fun a=>(y9 (j1 (i:=4) sc_law_asked.nd rfl (by first|exact Or.inl rfl|exact Or.inr rfl) (z6 5 (pv 5)))))) (m9 (Q4 (Y9 (pdw (g9 (fun t ha=>u0 (a8.mono (by decide)) hr rfl a7 k_Z13 b_Z13 .nil j3 ha) rfl (z0 (z6 4 (pv 4)) z9) (z8 w8))))))))
noncomputable abbrev s_Z3:Stmt:=top 31
noncomputable abbrev N_Z3:List Str:=["row","step","word","sign","due","found"]
theorem sc_Z3:FnScope N_Z3 ["row","step"] (y8 s_Z3):=⟨rfl,rfl,rfl,by decide +kernel,rfl,by decide +kernel,by decide +kernel⟩
theorem xd9 {P:Program}{w:World}{K:W.Frag}{mg:Str->Option Value}{base:Heap}{f:Addr}{fd:FuncData}{G:Addr}{R:FuncData}{z:Addr}{O:FuncData}{j:Addr}{N:FuncData}{I:Addr}{U:FuncData}(Fn:Fun K "_law_told_right" "_law_told_right" s_Z3 f fd)(a7:FnOk P w K mg base CX0 3 G R ["found","due"] (spR K 2 m_Z4))(b_Z4:Binds K R ["found","due"] [])(Z:W.keepIn K (.ref G)=true)(a3:mg "_law_alike"=some (.ref G))(a6:FnOk P w K mg base CX0 2 z O ["row","step","sign"] (spR K 3 m_Z6))(b_Z6:Binds K O ["row","step","sign"] [])(k_Z6:W.keepIn K (.ref z)=true)(a2:mg "_law_by_trial"=some (.ref z))(a5:FnOk P w K mg base CX0 3 j N ["row","step","sign"] (spR K 3 m_Z8))(b_Z8:Binds K N ["row","step","sign"] [])(k_Z8:W.keepIn K (.ref j)=true)(a1:mg "_law_changed"=some (.ref j))(a8:FnOk P w K mg base CX0 2 I U ["row","step","word"] (spR K 3 m_Z0))(b_Z0:Binds K U ["row","step","word"] [])(k_Z0:W.keepIn K (.ref I)=true)(a4:mg "fewest_beginning"=some (.ref I))(Y:mg "len"=none):FnOk P w K mg base CX0 4 f fd ["row","step"] (spR K 2 m_Z3):=
 Fn.okD (k:=3) (m:=b_Z3) sc_Z3 fun cdv A outer s H E hr=>(x8 (T6 PassesOwn.never rfl (zv3 (E8 (Z4 (z0 (zy9 (z0 g3 (z0 y7 z9))) (z0 (zy9 (z0 g3 (z0 (D3 y7) z9))) (z0 (zy9 (z0 g3 (z0 y7 z9))) z9)))))) (M2 (is:=[2,3]) (zy7 rfl (c8 (l8 (i:=2) sc_Z3.nd rfl (by first|exact Or.inl rfl|exact Or.inr rfl)) (c8 (l8 (i:=3) sc_Z3.nd rfl (by first|exact Or.inl rfl|exact Or.inr rfl)) M1)))) (x8 (j1 (i:=4) sc_Z3.nd rfl (by first|exact Or.inl rfl|exact Or.inr rfl) (g9 (fun t ha=>u0 (a5.mono (by decide)) hr rfl a1 k_Z8 b_Z8 .nil j3 ha) rfl (z0 (z6 0 (pv 0)) (z0 (z6 1 (pv 1)) (z0 (z6 3 (pv 3)) z9))) (z8 (z8 (z8 w8))))) (x8 (r6 (pc_w (zj5 (j0 xu2 yt2 (Z0 rfl Y (m8 0 (pv 0))) y7 (u7 _)) (zk7 (j0 (L7 hr.units) D4 (z6 4 (pv 4)) (g9 (fun t ha=>u0 (a6.mono (by decide)) hr rfl a2 k_Z6 b_Z6 .nil j3 ha) rfl (z0 (z6 0 (pv 0)) (z0 (z6 1 (pv 1)) (z0 (z6 3 (pv 3)) z9))) (z8 (z8 (z8 w8)))) (u7 _))))) (y9 (u8 X9)) w9) (za0 (i:=5) (y:=(.int 0)) sc_Z3.nd rfl (by first|exact Or.inl rfl|exact Or.inr rfl) (fun t ha=>u0 (a8.mono (by decide)) hr rfl a4 k_Z0 b_Z0 .nil j3 ha) rfl (z0 (z6 0 (pv 0)) (z0 (z6 1 (pv 1)) (z0 (z6 2 (pv 2)) z9))) (z8 (z8 (z8 w8))) (U9 (g4 (g9 (fun t ha=>u0 (a7.mono (by decide)) hr rfl a3 Z b_Z4 .nil j3 ha) rfl (z0 (z6 5 (pv 5)) (z0 (z6 4 (pv 4)) z9)) (z8 (z8 w8))))) (y9 (u8 X9)) (fun t ha=>yv9 PySem.F.plainAttrs_list PySem.F.slot_list_append PySem.F.type_list_append T7 (K7 yb4 (pv 5) pe_int (fun _ _=>rfl)) ha) (z0 y7 z9))))) (y9 (u8 X9)))
noncomputable abbrev zw7:Stmt:=top 32
noncomputable abbrev xb8:List Str:=["script","k","cell","reel","most","row","step","bad","handed","sign","at","words","word","none","door"]
theorem sc_law:FnScope xb8 ["script"] (y8 zw7):=⟨rfl,rfl,rfl,by decide +kernel,rfl,by decide +kernel,by decide +kernel⟩
theorem xk5 {P:Program}{w:World}{K:W.Frag}{mg:Str->Option Value}{base:Heap}{f:Addr}{fd:FuncData}{G:Addr}{I:FuncData}{a1:Addr}{a7:FuncData}{Y:Addr}{a5:FuncData}{Z:Addr}{a6:FuncData}{a2:Addr}{a8:FuncData}{a4:Addr}{aa:FuncData}(Fn:Fun K "law" "law" zw7 f fd)(z:FnOk P w K mg base CX0 6 G I ["door","row","step","word"] (spW K 4 m5))(b_law_asked:Binds K I ["door","row","step","word"] [])(k_law_asked:W.keepIn K (.ref G)=true)(j:mg "_law_asked"=some (.ref G))(ah:FnOk P w K mg base CX0 1 a1 a7 ["cell"] (spR K 1 yr0))(b_Z12:Binds K a7 ["cell"] [])(k_Z12:W.keepIn K (.ref a1)=true)(ae:mg "_law_reel"=some (.ref a1))(af:FnOk P w K mg base CX0 2 Y a5 ["reel","most"] (spG K 2 yg8))(b_Z15:Binds K a5 ["reel","most"] [])(k_Z15:W.keepIn K (.ref Y)=true)(ac:mg "_law_row"=some (.ref Y))(ag:FnOk P w K mg base CX0 2 Z a6 ["reel","row"] (spG K 2 yg9))(b_Z14:Binds K a6 ["reel","row"] [])(k_Z14:W.keepIn K (.ref Z)=true)(ad:mg "_law_step"=some (.ref Z))(O:FnOk P w K mg base CX0 1 a2 a8 ["reel","many"] (spG K 2 d9))(b_Z10:Binds K a8 ["reel","many"] [])(k_Z10:W.keepIn K (.ref a2)=true)(N:mg "_law_take"=some (.ref a2))(aj:FnOk P w K mg base CX0 4 a4 aa ["row","step"] (spR K 2 m_Z3))(b_Z3:Binds K aa ["row","step"] [])(k_Z3:W.keepIn K (.ref a4)=true)(ai:mg "_law_told_right"=some (.ref a4))(R:mg "enumerate"=none)(a3:mg "int"=none)(ab:mg "len"=none)(a9:mg "list"=none):FnOk P w K mg base CX0 7 f fd ["script"] (spW K 1 zi3):=
 Fn.okW (k:=6) (m:=yd2) sc_law fun cdv A outer s H E U=>(u6 (E5 PassesOwn.never rfl (J4 rfl R (z0 (E8 (yv5 (K6 (xx5 (m8 0 (pv 0)) S7 (X3 y7))) (K6 (Z4 (z0 (Z0 rfl ab (m8 0 (pv 0))) z9))))) z9)) (M2 (is:=[1,2]) (zy7 rfl (c8 (l8 (i:=1) sc_law.nd rfl (by first|exact Or.inl rfl|exact Or.inr rfl)) (c8 (l8 (i:=2) sc_law.nd rfl (by first|exact Or.inl rfl|exact Or.inr rfl)) M1)))) (u6 (psw (P9 (i:=3) sc_law.nd rfl (by first|exact Or.inl rfl|exact Or.inr rfl) (zj1 (fun t ha=>u0 (ah.mono (by decide)) U rfl ae k_Z12 b_Z12 .nil j3 ha) rfl (z0 (z6 2 (pv 2)) z9) (z8 w8)))) (u6 (psw (d7 (i:=4) sc_law.nd rfl (by first|exact Or.inl rfl|exact Or.inr rfl) (D0 (k8 (E8 (Z4 (z0 y7 (z0 y7 z9))))) (n6 (i:=3) (fun t ha=>u0 (O.mono (by decide)) U rfl N k_Z10 b_Z10 .nil j3 ha) rfl (pv 3) (n5 (z0 y7 z9)) (g5 (z8 w8)))))) (u6 (xy8 (xd2 (xy4 (yh0 (j0 X0 k7 (z6 1 (pv 1)) y7 (u7 _))) (yj0 (xv3 X0 k7 (n6 (i:=3) (fun t ha=>u0 (O.mono (by decide)) U rfl N k_Z10 b_Z10 .nil j3 ha) rfl (pv 3) (n5 (z0 y7 z9)) (g5 (z8 w8))) (k8 y7) (u7 _))))) (m9 (psw (j1 (i:=4) sc_law.nd rfl (by first|exact Or.inl rfl|exact Or.inr rfl) y7))) W5) (u6 (psw (d7 (i:=5) sc_law.nd rfl (by first|exact Or.inl rfl|exact Or.inr rfl) (n6 (i:=3) (fun t ha=>u0 (af.mono (by decide)) U rfl ac k_Z15 b_Z15 .nil j3 ha) rfl (pv 3) (n5 (z0 (z6 4 (pv 4)) z9)) (g5 (z8 w8))))) (u6 (psw (d7 (i:=6) sc_law.nd rfl (by first|exact Or.inl rfl|exact Or.inr rfl) (n6 (i:=3) (fun t ha=>u0 (ag.mono (by decide)) U rfl ad k_Z14 b_Z14 .nil j3 ha) rfl (pv 3) (n5 (z0 (z6 5 (pv 5)) z9)) (g5 (z8 w8))))) (u6 (psw (d7 (i:=7) sc_law.nd rfl (by first|exact Or.inl rfl|exact Or.inr rfl) (zy8 yt3 zj6 (k8 y7) (D0 (zj3 (c9 (k8 y7) (c9 (k8 y7) (c9 (zy8 (OpR.or zf4 D6) zu0 (k8 y7) (n6 (i:=3) (fun t ha=>u0 (O.mono (by decide)) U rfl N k_Z10 b_Z10 .nil j3 ha) rfl (pv 3) (n5 (z0 (D1 y7 y7) z9)) (g5 (z8 w8)))) (n5 (z0 (D1 y7 y7) z9)))))) (n6 (i:=3) (fun t ha=>u0 (O.mono (by decide)) U rfl N k_Z10 b_Z10 .nil j3 ha) rfl (pv 3) (n5 (z0 y7 z9)) (g5 (z8 w8))))))) (u6 (psw (j1 (i:=8) sc_law.nd rfl (by first|exact Or.inl rfl|exact Or.inr rfl) (E8 (xx7 rfl a9 (m8 5 (pv 5)) PyProof.Rows.boot_list)))) (u6 (zy4 (pcw (U9 (g4 (g9 (fun t ha=>u0 (aj.mono (by decide)) U rfl ai k_Z3 b_Z3 .nil j3 ha) rfl (z0 (z6 8 (pv 8)) (z0 (z6 6 (pv 6)) z9)) (z8 (z8 w8)))))) (m9 (Q4 (Y9 (pdw X9)))) W5) (u6 (psw (d7 (i:=9) sc_law.nd rfl (by first|exact Or.inl rfl|exact Or.inr rfl) (xw3 (k8 g3) (n6 (i:=3) (fun t ha=>u0 (O.mono (by decide)) U rfl N k_Z10 b_Z10 .nil j3 ha) rfl (pv 3) (n5 (z0 y7 z9)) (g5 (z8 w8)))))) (u6 (psw (d7 (i:=10) sc_law.nd rfl (by first|exact Or.inl rfl|exact Or.inr rfl) (n6 (i:=3) (fun t ha=>u0 (O.mono (by decide)) U rfl N k_Z10 b_Z10 .nil j3 ha) rfl (pv 3) (n5 (z0 y7 z9)) (g5 (z8 w8))))) (u6 (psw (j1 (i:=11) sc_law.nd rfl (by first|exact Or.inl rfl|exact Or.inr rfl) (E8 (Z4 (z0 (zv5 (zv5 (yu2 g3 S7 (X3 (z6 10 (pv 10)))) (z6 9 (pv 9))) (yu2 g3 (X3 (e8 (z6 10 (pv 10)) y7)) S7)) (z0 (zv5 (yu2 g3 S7 (X3 (z6 10 (pv 10)))) (z6 9 (pv 9))) (z0 (z6 9 (pv 9)) (z0 (zv5 (z6 9 (pv 9)) g3) (z0 g3 (z0 g3 z9)))))))))) (u6 (E5 PassesOwn.never rfl (zv3 (E8 (yv5 (m8 11 (pv 11)) (K6 (Z4 (z0 g3 (z0 g3 (z0 g3 (z0 g3 (z0 g3 (z0 g3 (z0 g3 (z0 g3 (z0 g3 (z0 g3 (z0 g3 (z0 g3 z9))))))))))))))))) (f7 (i:=12) (l8 sc_law.nd rfl (by first|exact Or.inl rfl|exact Or.inr rfl))) (u6 (psw (j1 (i:=13) sc_law.nd rfl (by first|exact Or.inl rfl|exact Or.inr rfl) (X8 W8 zx1 (z6 12 (pv 12)) (E8 (Z4 (z0 g3 (z0 g3 z9)))) rfl))) (u6 (zk8 (zv6 (L7 U.units) D4 (J6 (fun t ha=>u0 (z.mono (by decide)) U rfl j k_law_asked b_law_asked .nil j3 ha) rfl (z0 y7 (z0 (z6 8 (pv 8)) (z0 (z6 6 (pv 6)) (z0 (z6 12 (pv 12)) z9)))) (z8 (z8 (z8 (z8 w8))))) (O1 y7 (zv4 rfl a3 (z0 (z6 13 (pv 13)) z9) PyProof.Rows.boot_int)) (u7 _)) (m9 (Q4 (Y9 (pdw X9)))) W5) (m9 (zk8 (zv6 (L7 U.units) D4 (J6 (fun t ha=>u0 (z.mono (by decide)) U rfl j k_law_asked b_law_asked .nil j3 ha) rfl (z0 y7 (z0 (z6 8 (pv 8)) (z0 (z6 7 (pv 7)) (z0 (z6 12 (pv 12)) z9)))) (z8 (z8 (z8 (z8 w8))))) (e8 y7 (zv4 rfl a3 (z0 (z6 13 (pv 13)) z9) PyProof.Rows.boot_int)) (u7 _)) (m9 (Q4 (Y9 (pdw X9)))) W5))))) (u6 (E5 PassesOwn.never rfl (zv3 (E8 (Z4 (z0 y7 (z0 y7 z9))))) (f7 (i:=14) (l8 sc_law.nd rfl (by first|exact Or.inl rfl|exact Or.inr rfl))) (m9 (zk8 (xv1 (zv6 (L7 U.units) D4 (J6 (fun t ha=>u0 (z.mono (by decide)) U rfl j k_law_asked b_law_asked .nil j3 ha) rfl (z0 (z6 14 (pv 14)) (z0 (z6 8 (pv 8)) (z0 (z6 6 (pv 6)) (z0 g3 z9)))) (z8 (z8 (z8 (z8 w8))))) y7 (u7 _)) (zv6 (L7 U.units) D4 (J6 (fun t ha=>u0 (z.mono (by decide)) U rfl j k_law_asked b_law_asked .nil j3 ha) rfl (z0 (z6 14 (pv 14)) (z0 (z6 8 (pv 8)) (z0 (z6 7 (pv 7)) (z0 g3 z9)))) (z8 (z8 (z8 (z8 w8))))) y7 (u7 _))) (m9 (Q4 (Y9 (pdw X9)))) W5))) (m9 (zy4 (pcw (yu8 (L7 U.units) (m8 8 (pv 8)) (m8 5 (pv 5)) (u7 _))) (m9 (Q4 (Y9 (pdw X9)))) W5)))))))))))))))) (m9 (Q4 (Y9 (pdw X9)))))
theorem all_mk {l:W.OpenLaw}{w:World}{K:W.Frag}{h:Heap}{mg:Str->Option Value}{fa dc co ci di dg a7 cm cp a9 cj ck dh af dd de cl a8 df ch:Addr}(X:K.In h)(G:h.Ns mainGlobals mg)(iw:mg "law"=some (.ref fa)){T0:Addr}(ii:TabF K "made_wavy" T0){h7 gy:Option Addr}{gd:Array (Option Value)}{gr hf ho gk dj hy:Value}{ff f5:Option Addr}{eg:Array (Option Value)}{ey fn fw en d6 g3:Value}{f8 f0:Option Addr}{eb:Array (Option Value)}{er fh fq ei d1 fy:Value}{he h6:Option Addr}{gj:Array (Option Value)}{gx hn hx gq dq i4:Value}{hb h4:Option Addr}{gh:Array (Option Value)}{gv hk hv go dn i2:Value}{bc b9:Option Addr}{b0:Array (Option Value)}{b6 bf bi b3 ag bl:Value}{fe f4:Option Addr}{ef:Array (Option Value)}{ew fm fv em d5 g2:Value}{fg f6:Option Addr}{eh:Array (Option Value)}{ez fo fx eo d7 g4:Value}{be bb:Option Addr}{b2:Array (Option Value)}{b8 bh bk b5 ai bn:Value}{f9 f1:Option Addr}{ec:Array (Option Value)}{et fi fr ej d2 fz:Value}{fb f2:Option Addr}{ed:Array (Option Value)}{eu fj ft ek d3 g0:Value}{hd h5:Option Addr}{gi:Array (Option Value)}{gw hm hw gp dp i3:Value}{bw bv:Option Addr}{bs:Array (Option Value)}{bu bx bz bt ak c0:Value}{h8 gz:Option Addr}{ge:Array (Option Value)}{gs hg hq gl dk hz:Value}{h9 h0:Option Addr}{gf:Array (Option Value)}{gt hh hr gm dl i0:Value}{fc f3:Option Addr}{ee:Array (Option Value)}{ev fk fu el d4 g1:Value}{bd ba:Option Addr}{b1:Array (Option Value)}{b7 bg bj b4 ah bm:Value}{ha h3:Option Addr}{gg:Array (Option Value)}{gu hj hu gn dm i1:Value}{f7 cx:Option Addr}{ea:Array (Option Value)}{ep cy cz cw c1 d0:Value}
  (e_Z9:W.nsIn K mainGlobals "refuse_step"=some (some (.ref dc))) (l_Z9:K.lookup dc=some ⟨gr,h7,.func (W.fnOf "refuse_step" "refuse_step" (j2 s_Z9) (p0 s_Z9) (y8 s_Z9) .none hf ho gk gy dj hy),gd⟩) (c_Z9:W.codeIn K dj "refuse_step"=true) (k_Z9:W.keepIn K (.ref dc)=true)
  (e_Z11:W.nsIn K mainGlobals "mirrored"=some (some (.ref co))) (l_Z11:K.lookup co=some ⟨ey,ff,.func (W.fnOf "mirrored" "mirrored" (j2 zk1) (p0 zk1) (y8 zk1) .none fn fw en f5 d6 g3),eg⟩) (c_Z11:W.codeIn K d6 "mirrored"=true) (k_Z11:W.keepIn K (.ref co)=true)
  (e_Z16:W.nsIn K mainGlobals "staying"=some (some (.ref ci))) (l_Z16:K.lookup ci=some ⟨er,f8,.func (W.fnOf "staying" "staying" (j2 zb1) (p0 zb1) (y8 zb1) .none fh fq ei f0 d1 fy),eb⟩) (c_Z16:W.codeIn K d1 "staying"=true) (k_Z16:W.keepIn K (.ref ci)=true)
  (e_Z0:W.nsIn K mainGlobals "fewest_beginning"=some (some (.ref di))) (l_Z0:K.lookup di=some ⟨gx,he,.func (W.fnOf "fewest_beginning" "fewest_beginning" (j2 s_Z0) (p0 s_Z0) (y8 s_Z0) .none hn hx gq h6 dq i4),gj⟩) (c_Z0:W.codeIn K dq "fewest_beginning"=true) (k_Z0:W.keepIn K (.ref di)=true)
  (e_Z2:W.nsIn K mainGlobals "fewest_changed"=some (some (.ref dg))) (l_Z2:K.lookup dg=some ⟨gv,hb,.func (W.fnOf "fewest_changed" "fewest_changed" (j2 s_Z2) (p0 s_Z2) (y8 s_Z2) .none hk hv go h4 dn i2),gh⟩) (c_Z2:W.codeIn K dn "fewest_changed"=true) (k_Z2:W.keepIn K (.ref dg)=true)
  (e_made_wavy:W.nsIn K mainGlobals "made_wavy"=some (some (.ref a7))) (l_made_wavy:K.lookup a7=some ⟨b6,bc,.func (W.fnOf "made_wavy" "made_wavy" (j2 i8) (p0 i8) (y8 i8) .none bf bi b3 b9 ag bl),b0⟩) (c_made_wavy:W.codeIn K ag "made_wavy"=true) (k_made_wavy:W.keepIn K (.ref a7)=true)
  (e_Z12:W.nsIn K mainGlobals "_law_reel"=some (some (.ref cm))) (l_Z12:K.lookup cm=some ⟨ew,fe,.func (W.fnOf "_law_reel" "_law_reel" (j2 zb5) (p0 zb5) (y8 zb5) .none fm fv em f4 d5 g2),ef⟩) (c_Z12:W.codeIn K d5 "_law_reel"=true) (k_Z12:W.keepIn K (.ref cm)=true)
  (e_Z10:W.nsIn K mainGlobals "_law_take"=some (some (.ref cp))) (l_Z10:K.lookup cp=some ⟨ez,fg,.func (W.fnOf "_law_take" "_law_take" (j2 zb6) (p0 zb6) (y8 zb6) .none fo fx eo f6 d7 g4),eh⟩) (c_Z10:W.codeIn K d7 "_law_take"=true) (k_Z10:W.keepIn K (.ref cp)=true)
  (e_law_alike:W.nsIn K mainGlobals "_law_alike"=some (some (.ref a9))) (l_law_alike:K.lookup a9=some ⟨b8,be,.func (W.fnOf "_law_alike" "_law_alike" (j2 U0) (p0 U0) (y8 U0) .none bh bk b5 bb ai bn),b2⟩) (c_law_alike:W.codeIn K ai "_law_alike"=true) (k_law_alike:W.keepIn K (.ref a9)=true)
  (e_Z15:W.nsIn K mainGlobals "_law_row"=some (some (.ref cj))) (l_Z15:K.lookup cj=some ⟨et,f9,.func (W.fnOf "_law_row" "_law_row" (j2 zb2) (p0 zb2) (y8 zb2) .none fi fr ej f1 d2 fz),ec⟩) (c_Z15:W.codeIn K d2 "_law_row"=true) (k_Z15:W.keepIn K (.ref cj)=true)
  (e_Z14:W.nsIn K mainGlobals "_law_step"=some (some (.ref ck))) (l_Z14:K.lookup ck=some ⟨eu,fb,.func (W.fnOf "_law_step" "_law_step" (j2 zb3) (p0 zb3) (y8 zb3) .none fj ft ek f2 d3 g0),ed⟩) (c_Z14:W.codeIn K d3 "_law_step"=true) (k_Z14:W.keepIn K (.ref ck)=true)
  (e_Z1:W.nsIn K mainGlobals "_law_step_right"=some (some (.ref dh))) (l_Z1:K.lookup dh=some ⟨gw,hd,.func (W.fnOf "_law_step_right" "_law_step_right" (j2 s_Z1) (p0 s_Z1) (y8 s_Z1) .none hm hw gp h5 dp i3),gi⟩) (c_Z1:W.codeIn K dp "_law_step_right"=true) (k_Z1:W.keepIn K (.ref dh)=true)
  (e_law_kept:W.nsIn K mainGlobals "_law_kept"=some (some (.ref af))) (l_law_kept:K.lookup af=some ⟨bu,bw,.func (W.fnOf "_law_kept" "_law_kept" (j2 Y4) (p0 Y4) (y8 Y4) .none bx bz bt bv ak c0),bs⟩) (c_law_kept:W.codeIn K ak "_law_kept"=true) (k_law_kept:W.keepIn K (.ref af)=true)
  (e_Z8:W.nsIn K mainGlobals "_law_changed"=some (some (.ref dd))) (l_Z8:K.lookup dd=some ⟨gs,h8,.func (W.fnOf "_law_changed" "_law_changed" (j2 s_Z8) (p0 s_Z8) (y8 s_Z8) .none hg hq gl gz dk hz),ge⟩) (c_Z8:W.codeIn K dk "_law_changed"=true) (k_Z8:W.keepIn K (.ref dd)=true)
  (e_Z6:W.nsIn K mainGlobals "_law_by_trial"=some (some (.ref de))) (l_Z6:K.lookup de=some ⟨gt,h9,.func (W.fnOf "_law_by_trial" "_law_by_trial" (j2 s_Z6) (p0 s_Z6) (y8 s_Z6) .none hh hr gm h0 dl i0),gf⟩) (c_Z6:W.codeIn K dl "_law_by_trial"=true) (k_Z6:W.keepIn K (.ref de)=true)
  (e_Z13:W.nsIn K mainGlobals "_law_word"=some (some (.ref cl))) (l_Z13:K.lookup cl=some ⟨ev,fc,.func (W.fnOf "_law_word" "_law_word" (j2 zb4) (p0 zb4) (y8 zb4) .none fk fu el f3 d4 g1),ee⟩) (c_Z13:W.codeIn K d4 "_law_word"=true) (k_Z13:W.keepIn K (.ref cl)=true)
  (e_law_asked:W.nsIn K mainGlobals "_law_asked"=some (some (.ref a8))) (l_law_asked:K.lookup a8=some ⟨b7,bd,.func (W.fnOf "_law_asked" "_law_asked" (j2 Y5) (p0 Y5) (y8 Y5) .none bg bj b4 ba ah bm),b1⟩) (c_law_asked:W.codeIn K ah "_law_asked"=true) (k_law_asked:W.keepIn K (.ref a8)=true)
  (e_Z3:W.nsIn K mainGlobals "_law_told_right"=some (some (.ref df))) (l_Z3:K.lookup df=some ⟨gu,ha,.func (W.fnOf "_law_told_right" "_law_told_right" (j2 s_Z3) (p0 s_Z3) (y8 s_Z3) .none hj hu gn h3 dm i1),gg⟩) (c_Z3:W.codeIn K dm "_law_told_right"=true) (k_Z3:W.keepIn K (.ref df)=true)
  (e_law:W.nsIn K mainGlobals "law"=some (some (.ref ch))) (l_law:K.lookup ch=some ⟨ep,f7,.func (W.fnOf "law" "law" (j2 zw7) (p0 zw7) (y8 zw7) .none cy cz cw cx c1 d0),ea⟩) (c_law:W.codeIn K c1 "law"=true) (k_law:W.keepIn K (.ref ch)=true)
  {av:Addr} {aa:Array Value} {c9} {d8} (e_WORDS:W.nsIn K mainGlobals "WORDS"=some (some (.ref av))) (l_WORDS:K.lookup av=some ⟨.type "tuple",none,.seq aa c9,d8⟩) (v_WORDS:aa.size<=sizeLine/\Vals ((["up","down"]:List Str).map V.str) aa.toList) {a6:Addr} {U:Addr} {a3:Addr} {j:Addr} {i:Addr} {N:Addr} {a2:Addr} {Y:Addr}
  (e_NoForm:W.nsIn K mainGlobals "NoForm"=some (some (.ref a6)))
  (e_NoNumber:W.nsIn K mainGlobals "NoNumber"=some (some (.ref U)))
  (e_NoPlace:W.nsIn K mainGlobals "NoPlace"=some (some (.ref a3)))
  (e_NoStep:W.nsIn K mainGlobals "NoStep"=some (some (.ref j)))
  (e_NoText:W.nsIn K mainGlobals "NoText"=some (some (.ref i)))
  (e_NoWeights:W.nsIn K mainGlobals "NoWeights"=some (some (.ref N)))
  (e_NoneYet:W.nsIn K mainGlobals "NoneYet"=some (some (.ref a2)))
  (e_WaveError:W.nsIn K mainGlobals "WaveError"=some (some (.ref Y)))
  (n_NoStep:yk0 K j=some "NoStep")
  (q_NoStep:W.excIn K j bmV "ValueError.__new__"=true)
  (w_NoStep:ym7 K j=true)
  (n_NoText:yk0 K i=some "NoText")
  (q_NoText:W.excIn K i bmV "ValueError.__new__"=true)
  (w_NoText:ym7 K i=true)
  (m_NoStep_WaveError:W.exmOne K (.ref j) (.ref Y)=some true)
  (m_NoText_WaveError:W.exmOne K (.ref i) (.ref Y)=some true)
  (i_NoStep_NoStep:W.kitOne K (.ref j) (.ref j)=some true)
  (i_NoText_NoStep:W.kitOne K (.ref i) (.ref j)=some false)
  (i_NoStep_NoText:W.kitOne K (.ref j) (.ref i)=some false)
  (i_NoText_NoText:W.kitOne K (.ref i) (.ref i)=some true)
  (j_NoStep_ValueError:W.kitOne K (.ref j) (.type "ValueError")=some true)
  (j_NoText_ValueError:W.kitOne K (.ref i) (.type "ValueError")=some true)
  (t_NoStep_NoForm_NoNumber_NoPlace_NoWeights_NoneYet:W.kitAny K (.ref j) ([a6,U,a3,N,a2].map Value.ref)=some false)
  (t_NoText_NoForm_NoNumber_NoPlace_NoWeights_NoneYet:W.kitAny K (.ref i) ([a6,U,a3,N,a2].map Value.ref)=some false)
  (y_ValueError:W.nsIn K mainGlobals "ValueError"=some none)
  (y_abs:W.nsIn K mainGlobals "abs"=some none)
  (y_bool:W.nsIn K mainGlobals "bool"=some none)
  (y_enumerate:W.nsIn K mainGlobals "enumerate"=some none)
  (y_int:W.nsIn K mainGlobals "int"=some none)
  (y_isinstance:W.nsIn K mainGlobals "isinstance"=some none)
  (y_len:W.nsIn K mainGlobals "len"=some none)
  (y_list:W.nsIn K mainGlobals "list"=some none)
  (y_max:W.nsIn K mainGlobals "max"=some none)
  (y_min:W.nsIn K mainGlobals "min"=some none)
  (y_range:W.nsIn K mainGlobals "range"=some none)
  (y_str:W.nsIn K mainGlobals "str"=some none)
  (y_tuple:W.nsIn K mainGlobals "tuple"=some none):
  ∃ fd:FuncData,(∀(s:Shared)(v:Value),BindsTo s fd ⟨[v],[]⟩ [("script",v)])/\∀ base:Heap,K.In base->base.Ns mainGlobals mg->base.BuiltinsAt mg T0->FnOk l.prog w K mg base CX0 7 fa fd ["script"] (spW K 1 zi3):=by
 have e:=iw.symm.trans (W.mg_of X G e_law)
 cases e
 have dw:=Z7 (st:=s_Z9) l_Z9 c_Z9 k_Z9
 have b_Z9:=dw.binds (ps:=["step"]) fun _ _ _ _ _ _ us hl=>by refine us1 (P:=fun vs=>bindArgs _ { pos:=vs }=pure (List.zip _ vs)) ?_ us hl;intros;rfl
 have g5:=W.mg_of X G e_Z9
 have e7:=Z7 (st:=zk1) l_Z11 c_Z11 k_Z11
 have b_Z11:=e7.binds (ps:=["row","word"]) fun _ _ _ _ _ _ us hl=>by refine us2 (P:=fun vs=>bindArgs _ { pos:=vs }=pure (List.zip _ vs)) ?_ us hl;intros;rfl
 have c3:=W.mg_of X G e_Z11
 have dz:=Z7 (st:=zb1) l_Z16 c_Z16 k_Z16
 have b_Z16:=dz.binds (ps:=["heights","step"]) fun _ _ _ _ _ _ us hl=>by refine us2 (P:=fun vs=>bindArgs _ { pos:=vs }=pure (List.zip _ vs)) ?_ us hl;intros;rfl
 have dr:=W.mg_of X G e_Z16
 have e9:=Z7 (st:=s_Z0) l_Z0 c_Z0 k_Z0
 have b_Z0:=e9.binds (ps:=["row","step","word"]) fun _ _ _ _ _ _ us hl=>by refine us3 (P:=fun vs=>bindArgs _ { pos:=vs }=pure (List.zip _ vs)) ?_ us hl;intros;rfl
 have bp:=W.mg_of X G e_Z0
 have dy:=Z7 (st:=s_Z2) l_Z2 c_Z2 k_Z2
 have b_Z2:=dy.binds (ps:=["row","step"]) fun _ _ _ _ _ _ us hl=>by refine us2 (P:=fun vs=>bindArgs _ { pos:=vs }=pure (List.zip _ vs)) ?_ us hl;intros;rfl
 have io:=W.mg_of X G e_Z2
 have ae:=Z7 (st:=i8) l_made_wavy c_made_wavy k_made_wavy
 have b_made_wavy:=ae.binds (ps:=["row","step"]) fun _ _ _ _ _ _ us hl=>by refine us2 (P:=fun vs=>bindArgs _ { pos:=vs }=pure (List.zip _ vs)) ?_ us hl;intros;rfl
 have ac:=W.mg_of X G e_made_wavy
 have e6:=Z7 (st:=zb5) l_Z12 c_Z12 k_Z12
 have b_Z12:=e6.binds (ps:=["cell"]) fun _ _ _ _ _ _ us hl=>by refine us1 (P:=fun vs=>bindArgs _ { pos:=vs }=pure (List.zip _ vs)) ?_ us hl;intros;rfl
 have i9:=W.mg_of X G e_Z12
 have e8:=Z7 (st:=zb6) l_Z10 c_Z10 k_Z10
 have b_Z10:=e8.binds (ps:=["reel","many"]) fun _ _ _ _ _ _ us hl=>by refine us2 (P:=fun vs=>bindArgs _ { pos:=vs }=pure (List.zip _ vs)) ?_ us hl;intros;rfl
 have cs:=W.mg_of X G e_Z10
 have Z:=Z7 (st:=U0) l_law_alike c_law_alike k_law_alike
 have ab:=Z.binds (ps:=["found","due"]) fun _ _ _ _ _ _ us hl=>by refine us2 (P:=fun vs=>bindArgs _ { pos:=vs }=pure (List.zip _ vs)) ?_ us hl;intros;rfl
 have ad:=W.mg_of X G e_law_alike
 have e0:=Z7 (st:=zb2) l_Z15 c_Z15 k_Z15
 have b_Z15:=e0.binds (ps:=["reel","most"]) fun _ _ _ _ _ _ us hl=>by refine us2 (P:=fun vs=>bindArgs _ { pos:=vs }=pure (List.zip _ vs)) ?_ us hl;intros;rfl
 have i5:=W.mg_of X G e_Z15
 have e4:=Z7 (st:=zb3) l_Z14 c_Z14 k_Z14
 have b_Z14:=e4.binds (ps:=["reel","row"]) fun _ _ _ _ _ _ us hl=>by refine us2 (P:=fun vs=>bindArgs _ { pos:=vs }=pure (List.zip _ vs)) ?_ us hl;intros;rfl
 have i6:=W.mg_of X G e_Z14
 have gc:=Z7 (st:=s_Z1) l_Z1 c_Z1 k_Z1
 have b_Z1:=gc.binds (ps:=["row","step","place","sign"]) fun _ _ _ _ _ _ us hl=>by refine us4 (P:=fun vs=>bindArgs _ { pos:=vs }=pure (List.zip _ vs)) ?_ us hl;intros;rfl
 have g6:=W.mg_of X G e_Z1
 have ap:=Z7 (st:=Y4) l_law_kept c_law_kept k_law_kept
 have b_law_kept:=ap.binds (ps:=["row","step","sign"]) fun _ _ _ _ _ _ us hl=>by refine us3 (P:=fun vs=>bindArgs _ { pos:=vs }=pure (List.zip _ vs)) ?_ us hl;intros;rfl
 have cd:=W.mg_of X G e_law_kept
 have g9:=Z7 (st:=s_Z8) l_Z8 c_Z8 k_Z8
 have b_Z8:=g9.binds (ps:=["row","step","sign"]) fun _ _ _ _ _ _ us hl=>by refine us3 (P:=fun vs=>bindArgs _ { pos:=vs }=pure (List.zip _ vs)) ?_ us hl;intros;rfl
 have ik:=W.mg_of X G e_Z8
 have ga:=Z7 (st:=s_Z6) l_Z6 c_Z6 k_Z6
 have b_Z6:=ga.binds (ps:=["row","step","sign"]) fun _ _ _ _ _ _ us hl=>by refine us3 (P:=fun vs=>bindArgs _ { pos:=vs }=pure (List.zip _ vs)) ?_ us hl;intros;rfl
 have il:=W.mg_of X G e_Z6
 have e5:=Z7 (st:=zb4) l_Z13 c_Z13 k_Z13
 have b_Z13:=e5.binds (ps:=["found"]) fun _ _ _ _ _ _ us hl=>by refine us1 (P:=fun vs=>bindArgs _ { pos:=vs }=pure (List.zip _ vs)) ?_ us hl;intros;rfl
 have i7:=W.mg_of X G e_Z13
 have al:=Z7 (st:=Y5) l_law_asked c_law_asked k_law_asked
 have b_law_asked:=al.binds (ps:=["door","row","step","word"]) fun _ _ _ _ _ _ us hl=>by refine us4 (P:=fun vs=>bindArgs _ { pos:=vs }=pure (List.zip _ vs)) ?_ us hl;intros;rfl
 have c2:=W.mg_of X G e_law_asked
 have gb:=Z7 (st:=s_Z3) l_Z3 c_Z3 k_Z3
 have b_Z3:=gb.binds (ps:=["row","step"]) fun _ _ _ _ _ _ us hl=>by refine us2 (P:=fun vs=>bindArgs _ { pos:=vs }=pure (List.zip _ vs)) ?_ us hl;intros;rfl
 have im:=W.mg_of X G e_Z3
 have dv:=Z7 (st:=zw7) l_law c_law k_law
 have yd2:=dv.binds (ps:=["script"]) fun _ _ _ _ _ _ us hl=>by refine us1 (P:=fun vs=>bindArgs _ { pos:=vs }=pure (List.zip _ vs)) ?_ us hl;intros;rfl
 have ix:=W.mg_of X G e_law
 have O:KTup K av (["up","down"]:List Str):=⟨_,aa,c9,l_WORDS,rfl,rfl,v_WORDS.1,v_WORDS.2,rfl⟩
 have a4:=W.mg_of X G e_WORDS
 have az:=W.mg_none_of X G y_ValueError
 have db:=W.mg_none_of X G y_abs
 have br:=W.mg_none_of X G y_bool
 have I:=W.mg_none_of X G y_enumerate
 have aj:=W.mg_none_of X G y_int
 have R:=W.mg_none_of X G y_isinstance
 have a1:=W.mg_none_of X G y_len
 have aq:=W.mg_none_of X G y_list
 have da:=W.mg_none_of X G y_max
 have am:=W.mg_none_of X G y_min
 have a5:=W.mg_none_of X G y_range
 have cg:=W.mg_none_of X G y_str
 have ar:=W.mg_none_of X G y_tuple
 have d9:=W.mg_of X G e_NoForm
 have ce:=W.mg_of X G e_NoNumber
 have cu:=W.mg_of X G e_NoPlace
 have ao:=W.mg_of X G e_NoStep
 have an:=W.mg_of X G e_NoText
 have c5:=W.mg_of X G e_NoWeights
 have ct:=W.mg_of X G e_NoneYet
 have c4:=W.mg_of X G e_WaveError
 have au:XC K "NoStep" j:=⟨e_NoStep,n_NoStep⟩
 have as:XC K "NoText" i:=⟨e_NoText,n_NoText⟩
 have aw:∀ c∈(["NoStep","NoText"]:List Str),∀ C,XC K c C->W.exmOne K (.ref C) (.ref Y)=some true:=by
  intro c hc C h
  simp only[mem_cons,not_mem_nil,or_false]at hc
  rcases hc with rfl|rfl
  .rw[h.eq e_NoStep];exact m_NoStep_WaveError
  .rw[h.eq e_NoText];exact m_NoText_WaveError
 have z:∀ c k,([("NoStep",false),("NoText",false)]:List (Str×Bool)).lookup c=some k->∀ C,XC K c C->XCls K C/\W.kitAny K (.ref C) ([a6,U,a3,N,a2].map Value.ref)=some k:=S9 (P:=fun c k=>∀ C,XC K c C->XCls K C/\W.kitAny K (.ref C) ([a6,U,a3,N,a2].map Value.ref)=some k) (by
  intro p hp
  simp only[mem_cons,not_mem_nil,or_false]at hp
  rcases hp with rfl|rfl
  .intro C h;rw[h.eq e_NoStep];exact⟨T2 w_NoStep,t_NoStep_NoForm_NoNumber_NoPlace_NoWeights_NoneYet⟩
  .intro C h;rw[h.eq e_NoText];exact⟨T2 w_NoText,t_NoText_NoForm_NoNumber_NoPlace_NoWeights_NoneYet⟩
  )
 have cr:∀ c k,([("NoStep",true),("NoText",false)]:List (Str×Bool)).lookup c=some k->∀ C,XC K c C->XCls K C/\W.kitOne K (.ref C) (.ref j)=some k:=S9 (P:=fun c k=>∀ C,XC K c C->XCls K C/\W.kitOne K (.ref C) (.ref j)=some k) (by
  intro p hp
  simp only[mem_cons,not_mem_nil,or_false]at hp
  rcases hp with rfl|rfl
  .intro C h;rw[h.eq e_NoStep];exact⟨T2 w_NoStep,i_NoStep_NoStep⟩
  .intro C h;rw[h.eq e_NoText];exact⟨T2 w_NoText,i_NoText_NoStep⟩
  )
 have cq:∀ c k,([("NoStep",false),("NoText",true)]:List (Str×Bool)).lookup c=some k->∀ C,XC K c C->XCls K C/\W.kitOne K (.ref C) (.ref i)=some k:=S9 (P:=fun c k=>∀ C,XC K c C->XCls K C/\W.kitOne K (.ref C) (.ref i)=some k) (by
  intro p hp
  simp only[mem_cons,not_mem_nil,or_false]at hp
  rcases hp with rfl|rfl
  .intro C h;rw[h.eq e_NoStep];exact⟨T2 w_NoStep,i_NoStep_NoText⟩
  .intro C h;rw[h.eq e_NoText];exact⟨T2 w_NoText,i_NoText_NoText⟩
  )
 have ax:∀ c k,([("NoStep",true),("NoText",true)]:List (Str×Bool)).lookup c=some k->∀ C,XC K c C->XCls K C/\W.kitOne K (.ref C) (.type "ValueError")=some k:=S9 (P:=fun c k=>∀ C,XC K c C->XCls K C/\W.kitOne K (.ref C) (.type "ValueError")=some k) (by
  intro p hp
  simp only[mem_cons,not_mem_nil,or_false]at hp
  rcases hp with rfl|rfl
  .intro C h;rw[h.eq e_NoStep];exact⟨T2 w_NoStep,j_NoStep_ValueError⟩
  .intro C h;rw[h.eq e_NoText];exact⟨T2 w_NoText,j_NoText_ValueError⟩
  )
 refine⟨W.fnOf "law" "law" (j2 zw7) (p0 zw7) (y8 zw7) .none cy cz cw cx c1 d0,fun s v=>.of_eq rfl,fun base _ _ ij=>?_⟩
 have g7:=xd3 (P:=l.prog) (w:=w) (mg:=mg) (base:=base) dw      ao au q_NoStep
 have du:=xk2 (P:=l.prog) (w:=w) (mg:=mg) (base:=base) dw      ao au q_NoStep
 have c8:=xj1 (P:=l.prog) (w:=w) (mg:=mg) (base:=base) e7         O a4 I
 have dt:=xk6 (P:=l.prog) (w:=w) (mg:=mg) (base:=base) dz          I
 have bq:=xc2 (P:=l.prog) (w:=w) (mg:=mg) (base:=base) e9  c8 b_Z11 k_Z11 c3 g7 b_Z9 k_Z9 g5 dt b_Z16 k_Z16 dr   du an as q_NoText   O a4 a1
 have ay:=xk4 (P:=l.prog) (w:=w) (mg:=mg) (base:=base) e9  c8 b_Z11 k_Z11 c3 g7 b_Z9 k_Z9 g5 dt b_Z16 k_Z16 dr   du an as q_NoText   O a4 a1
 have iv:=xc0 (P:=l.prog) (w:=w) (mg:=mg) (base:=base) dy  bq b_Z0 k_Z0 bp   ay    O a4 am
 have ih:=xk3 (P:=l.prog) (w:=w) (mg:=mg) (base:=base) dy  bq b_Z0 k_Z0 bp   ay    O a4 am
 have c6:=zq8 (P:=l.prog) (w:=w) (mg:=mg) (base:=base) ae ac  bq b_Z0 k_Z0 bp c8 b_Z11 k_Z11 c3   ay    O a4 ii ij I am
 have bo:=zu1 (P:=l.prog) (w:=w) (mg:=mg) (base:=base) ae ac  bq b_Z0 k_Z0 bp c8 b_Z11 k_Z11 c3   ay    O a4 ii ij I am
 have ig:=xj0 (P:=l.prog) (w:=w) (mg:=mg) (base:=base) e6          db
 have cv:=xj2 (P:=l.prog) (w:=w) (mg:=mg) (base:=base) e8
 have iq:=xd5 (P:=l.prog) (w:=w) (mg:=mg) (base:=base) Z          br aj R a1 aq a5 cg ar
 have is:=xd7 (P:=l.prog) (w:=w) (mg:=mg) (base:=base) Z  iq ab k_law_alike ad        br aj R a1 aq a5 cg ar
 have it:=xd8 (P:=l.prog) (w:=w) (mg:=mg) (base:=base) Z  is ab k_law_alike ad        br aj R a1 aq a5 cg ar
 have ib:=xk7 (P:=l.prog) (w:=w) (mg:=mg) (base:=base) e0  cv b_Z10 k_Z10 cs        aj am a5
 have ic:=xk8 (P:=l.prog) (w:=w) (mg:=mg) (base:=base) e4  cv b_Z10 k_Z10 cs        db a1 da
 have g8:=xc1 (P:=l.prog) (w:=w) (mg:=mg) (base:=base) gc
 have cf:=zj7 (P:=l.prog) (w:=w) (mg:=mg) (base:=base) ap  g8 b_Z1 k_Z1 g6        aj a1 da a5
 have ip:=xd4 (P:=l.prog) (w:=w) (mg:=mg) (base:=base) g9  cf b_law_kept k_law_kept cd        a1
 have ir:=xd6 (P:=l.prog) (w:=w) (mg:=mg) (base:=base) ga  g8 b_Z1 k_Z1 g6        a1 am a5
 have ie:=xk9 (P:=l.prog) (w:=w) (mg:=mg) (base:=base) e5      d9 ce cu ao an c5 ct cr cq z ax    az aj R
 have c7:=zq9 (P:=l.prog) (w:=w) (mg:=mg) (base:=base) al  ie b_Z13 k_Z13 i7 bq b_Z0 k_Z0 bp iv b_Z2 k_Z2 io c6 b_made_wavy k_made_wavy ac   ay ih bo c4 aw
 have iu:=xd9 (P:=l.prog) (w:=w) (mg:=mg) (base:=base) gb  it ab k_law_alike ad ir b_Z6 k_Z6 il ip b_Z8 k_Z8 ik bq b_Z0 k_Z0 bp        a1
 have ia:=xk5 (P:=l.prog) (w:=w) (mg:=mg) (base:=base) dv  c7 b_law_asked k_law_asked c2 ig b_Z12 k_Z12 i9 ib b_Z15 k_Z15 i5 ic b_Z14 k_Z14 i6 cv b_Z10 k_Z10 cs iu b_Z3 k_Z3 im        I aj a1 aq
 exact ia
noncomputable abbrev xi0:Pos:=⟨42,26,42,72⟩
theorem walk {l:W.OpenLaw}{q:Program}{i:List Str}{O:(Str->Option Value)->Heap->Prop}{d:DefRec}{K:Params->W.Frag}{G:List Addr}{e:∀ P:Params,G=(K P).map (·.1)}{T:Addr}(hn:l.most=some 63)(z:d.params.defaults=[])
  (j:∀(T:Addr)(ns:List Int),ns.length<=63->∃ β,zi3 [.lst (ns.map .int)] [(T,.tb T "made_wavy" xi0 "made_wavy.<locals>.<lambda>")]=some (.sh (.bl true),β)) (N:T∉G)
  (F:∀(w:World)(mg:Str->Option Value)(I:Addr)(h:Heap),(K w.params).In h->h.Ns mainGlobals mg->mg d.name=some (.ref I)->
   TabF (K w.params) "made_wavy" T/\∃ fd:FuncData,(∀(s:Shared)(u:Value),BindsTo s fd ⟨[u],[]⟩ [("script",u)])/\∀ base:Heap,(K w.params).In base->base.Ns mainGlobals mg->base.BuiltinsAt mg T->FnOk l.prog w (K w.params) mg base CX0 7 I fd ["script"] (spW (K w.params) 1 zi3)):
  W.WalkO q i O (W.kmHook K G e [T]).says l.row.toRowW d [] (fun f vs=>PySem.call f vs):=
 L2.walk_ofT (n:=63) (k:=7) (x:="script") hn (by decide) z ⟨rfl,by decide,by decide⟩ N F j
end
end Lw
open PySem PySem.W PyProof.Rows L2
set_option maxRecDepth 100000 in
set_option maxHeartbeats 0 in
theorem PySem.Challenge.cw_wavyrow_k53_beginnings_and_refusals_holds : PySem.Challenge.rw_wavyrow_k53_beginnings_and_refusals.Holds := by
 w_on;o_law;k_head;(case hw=>w_witness2)
 k_fill
 refine Lw.walk (l:=PySem.Challenge.rw_wavyrow_k53_beginnings_and_refusals) rfl rfl Lw.law_true (by decide) ?F
 case F=>
  intro w mg fa h KX G hmg
  refine' L2.and_dep ?tf ?al
  (case tf=>refine' L2.TabF.of ?t1 ?t2 ?t3 ?t4 ?t5 ?t6 ?t7;(case t1=>k_is);(case t2=>k_is);(case t3=>rfl);(case t4=>k_is);(case t5=>exact⟨_,_,_,_,_,_,_,rfl,rfl,rfl,rfl,rfl,rfl⟩);all_goals decide)
  intro tf0
  refine' Lw.all_mk KX G hmg tf0  ?e_Z9 ?l_Z9 ?c_Z9 ?k_Z9 ?e_Z11 ?l_Z11 ?c_Z11 ?k_Z11 ?e_Z16 ?l_Z16 ?c_Z16 ?k_Z16 ?e_Z0 ?l_Z0 ?c_Z0 ?k_Z0 ?e_Z2 ?l_Z2 ?c_Z2 ?k_Z2 ?e_made_wavy ?l_made_wavy ?c_made_wavy ?k_made_wavy ?e_Z12 ?l_Z12 ?c_Z12 ?k_Z12 ?e_Z10 ?l_Z10 ?c_Z10 ?k_Z10 ?e_law_alike ?l_law_alike ?c_law_alike ?k_law_alike ?e_Z15 ?l_Z15 ?c_Z15 ?k_Z15 ?e_Z14 ?l_Z14 ?c_Z14 ?k_Z14 ?e_Z1 ?l_Z1 ?c_Z1 ?k_Z1 ?e_law_kept ?l_law_kept ?c_law_kept ?k_law_kept ?e_Z8 ?l_Z8 ?c_Z8 ?k_Z8 ?e_Z6 ?l_Z6 ?c_Z6 ?k_Z6 ?e_Z13 ?l_Z13 ?c_Z13 ?k_Z13 ?e_law_asked ?l_law_asked ?c_law_asked ?k_law_asked ?e_Z3 ?l_Z3 ?c_Z3 ?k_Z3 ?e_law ?l_law ?c_law ?k_law   ?e_WORDS ?l_WORDS ?v_WORDS ?e_NoForm ?e_NoNumber ?e_NoPlace ?e_NoStep ?e_NoText ?e_NoWeights ?e_NoneYet ?e_WaveError ?n_NoStep ?q_NoStep ?w_NoStep ?n_NoText ?q_NoText ?w_NoText ?m_NoStep_WaveError ?m_NoText_WaveError ?i_NoStep_NoStep ?i_NoText_NoStep ?i_NoStep_NoText ?i_NoText_NoText ?j_NoStep_ValueError ?j_NoText_ValueError ?t_NoStep_NoForm_NoNumber_NoPlace_NoWeights_NoneYet ?t_NoText_NoForm_NoNumber_NoPlace_NoWeights_NoneYet ?y_ValueError ?y_abs ?y_bool ?y_enumerate ?y_int ?y_isinstance ?y_len ?y_list ?y_max ?y_min ?y_range ?y_str ?y_tuple
  (case e_WORDS=>k_is);(case l_WORDS=>k_is);(case v_WORDS=>exact⟨by decide,.cons ⟨_,rfl⟩ (.cons ⟨_,rfl⟩ (.nil))⟩)
  (case e_Z9=>k_is);(case l_Z9=>k_is);(case c_Z9=>k_is);(case k_Z9=>k_is)
  (case e_Z11=>k_is);(case l_Z11=>k_is);(case c_Z11=>k_is);(case k_Z11=>k_is)
  (case e_Z16=>k_is);(case l_Z16=>k_is);(case c_Z16=>k_is);(case k_Z16=>k_is)
  (case e_Z0=>k_is);(case l_Z0=>k_is);(case c_Z0=>k_is);(case k_Z0=>k_is)
  (case e_Z2=>k_is);(case l_Z2=>k_is);(case c_Z2=>k_is);(case k_Z2=>k_is)
  (case e_made_wavy=>k_is);(case l_made_wavy=>k_is);(case c_made_wavy=>k_is);(case k_made_wavy=>k_is)
  (case e_Z12=>k_is);(case l_Z12=>k_is);(case c_Z12=>k_is);(case k_Z12=>k_is)
  (case e_Z10=>k_is);(case l_Z10=>k_is);(case c_Z10=>k_is);(case k_Z10=>k_is)
  (case e_law_alike=>k_is);(case l_law_alike=>k_is);(case c_law_alike=>k_is);(case k_law_alike=>k_is)
  (case e_Z15=>k_is);(case l_Z15=>k_is);(case c_Z15=>k_is);(case k_Z15=>k_is)
  (case e_Z14=>k_is);(case l_Z14=>k_is);(case c_Z14=>k_is);(case k_Z14=>k_is)
  (case e_Z1=>k_is);(case l_Z1=>k_is);(case c_Z1=>k_is);(case k_Z1=>k_is)
  (case e_law_kept=>k_is);(case l_law_kept=>k_is);(case c_law_kept=>k_is);(case k_law_kept=>k_is)
  (case e_Z8=>k_is);(case l_Z8=>k_is);(case c_Z8=>k_is);(case k_Z8=>k_is)
  (case e_Z6=>k_is);(case l_Z6=>k_is);(case c_Z6=>k_is);(case k_Z6=>k_is)
  (case e_Z13=>k_is);(case l_Z13=>k_is);(case c_Z13=>k_is);(case k_Z13=>k_is)
  (case e_law_asked=>k_is);(case l_law_asked=>k_is);(case c_law_asked=>k_is);(case k_law_asked=>k_is)
  (case e_Z3=>k_is);(case l_Z3=>k_is);(case c_Z3=>k_is);(case k_Z3=>k_is)
  (case e_law=>k_is);(case l_law=>k_is);(case c_law=>k_is);(case k_law=>k_is)
  (case e_NoForm=>first|k_is|rfl|k_exc| (unfold L2.bmV;k_exc))
  (case e_NoNumber=>first|k_is|rfl|k_exc| (unfold L2.bmV;k_exc))
  (case e_NoPlace=>first|k_is|rfl|k_exc| (unfold L2.bmV;k_exc))
  (case e_NoStep=>first|k_is|rfl|k_exc| (unfold L2.bmV;k_exc))
  (case e_NoText=>first|k_is|rfl|k_exc| (unfold L2.bmV;k_exc))
  (case e_NoWeights=>first|k_is|rfl|k_exc| (unfold L2.bmV;k_exc))
  (case e_NoneYet=>first|k_is|rfl|k_exc| (unfold L2.bmV;k_exc))
  (case e_WaveError=>first|k_is|rfl|k_exc| (unfold L2.bmV;k_exc))
  (case n_NoStep=>first|k_is|rfl|k_exc| (unfold L2.bmV;k_exc))
  (case q_NoStep=>first|k_is|rfl|k_exc| (unfold L2.bmV;k_exc))
  (case w_NoStep=>first|k_is|rfl|k_exc| (unfold L2.bmV;k_exc))
  (case n_NoText=>first|k_is|rfl|k_exc| (unfold L2.bmV;k_exc))
  (case q_NoText=>first|k_is|rfl|k_exc| (unfold L2.bmV;k_exc))
  (case w_NoText=>first|k_is|rfl|k_exc| (unfold L2.bmV;k_exc))
  (case m_NoStep_WaveError=>first|k_is|rfl|k_exc| (unfold L2.bmV;k_exc))
  (case m_NoText_WaveError=>first|k_is|rfl|k_exc| (unfold L2.bmV;k_exc))
  (case i_NoStep_NoStep=>first|k_is|rfl|k_exc| (unfold L2.bmV;k_exc))
  (case i_NoText_NoStep=>first|k_is|rfl|k_exc| (unfold L2.bmV;k_exc))
  (case i_NoStep_NoText=>first|k_is|rfl|k_exc| (unfold L2.bmV;k_exc))
  (case i_NoText_NoText=>first|k_is|rfl|k_exc| (unfold L2.bmV;k_exc))
  (case j_NoStep_ValueError=>first|k_is|rfl|k_exc| (unfold L2.bmV;k_exc))
  (case j_NoText_ValueError=>first|k_is|rfl|k_exc| (unfold L2.bmV;k_exc))
  (case t_NoStep_NoForm_NoNumber_NoPlace_NoWeights_NoneYet=>first|k_is|rfl|k_exc| (unfold L2.bmV;k_exc))
  (case t_NoText_NoForm_NoNumber_NoPlace_NoWeights_NoneYet=>first|k_is|rfl|k_exc| (unfold L2.bmV;k_exc))
  (case y_ValueError=>k_is)
  (case y_abs=>k_is)
  (case y_bool=>k_is)
  (case y_enumerate=>k_is)
  (case y_int=>k_is)
  (case y_isinstance=>k_is)
  (case y_len=>k_is)
  (case y_list=>k_is)
  (case y_max=>k_is)
  (case y_min=>k_is)
  (case y_range=>k_is)
  (case y_str=>k_is)
  (case y_tuple=>k_is)
