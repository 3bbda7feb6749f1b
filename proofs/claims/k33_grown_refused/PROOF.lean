import PyProof.Rows.All
import Wide.All
import OpenK.AllK
import Wide.FinOn
import Lean
import PyProof.EqAt
import PyProof.EqKinds
import PyProof.TupleCall
import PyProof.NeKinds
import KE.IntBitsLaws
import PyProof.FitsBits
import PySem.Challenge.RW_wavyrow_k33_grown_refused
namespace PySem.W.Fast
theorem te15486221377480649630:True:=True.intro
noncomputable def tw11363616892073447452:=PySem.Challenge.pw_wavyrow_k33_grown_refused
theorem te11363616892073447452:PySem.Challenge.pw_wavyrow_k33_grown_refused=tw11363616892073447452:=rfl
def tw5806021175419513536:=0
def tw10869574610982230818:=0
def tw8948061698611447011:=0
def tw6996629882110628837:=0
def tw5273592132034813129:=0
def tw905650968730975529:=0
def tw8834756885390230218:=0
def tw15119055855780833040:=0
def tw15371568993650992593:=0
def tw13919781453883098260:=0
def tw13914939996130019382:=0
def tw15441623797421022422:=0
def tw4057484265424208150:=0
def tw16125627940913438361:=0
def tw12446992553014938143:=0
end PySem.W.Fast
set_option Elab.async false
set_option linter.all false
set_option maxRecDepth 100000
namespace L2
open List
open PySem PySem.Spec PyProof.Rows
section
noncomputable abbrev Key:=Sum Int Str
noncomputable def yd3:Key->Value->Bool
 | .inl k,v=>Value.isInt k v
 | .inr x,v=>Value.isStrOf x v
noncomputable def keyH (w:World):Key->Int
 | .inl k=>hashInt k
 | .inr x=>hashStr w x
theorem f6:∀{k:Key}{v:Value},yd3 k v=true->(∃ i t,k=Sum.inl i/\v=Value.int i t)\/(∃ x t,k=Sum.inr x/\v=Value.str x t)
 | .inl i,v,h=>by
  obtain⟨t,e⟩:=Value.isInt_shape (k:=i) (v:=v) h
  exact .inl ⟨i,t,rfl,e⟩
 | .inr x,v,h=>by
  obtain⟨t,e⟩:=Value.isStrOf_shape (x:=x) (v:=v) h
  exact .inr ⟨x,t,rfl,e⟩
theorem zw0 (x:Str)(t:Tok):yd3 (.inr x) (.str x t)=true:=by simp[yd3,Value.isStrOf]
theorem xk8 (a b:Int):decide ((Sum.inl a:Key)=Sum.inl b)=(a==b):=by
 by_cases e:a=b
 .subst e;simp
 .have h:¬ (Sum.inl a:Key)=Sum.inl b:=fun q=>e (Sum.inl.inj q)
  rw[decide_eq_false h]
  exact(beq_eq_false_iff_ne.mpr e).symm
theorem xk5 (a b:Str):decide ((Sum.inr a:Key)=Sum.inr b)=decide (a=b):=by
 by_cases e:a=b
 .subst e;simp
 .have h:¬ (Sum.inr a:Key)=Sum.inr b:=fun q=>e (Sum.inr.inj q)
  rw[decide_eq_false h,decide_eq_false e]
theorem xk7 (a:Int)(b:Str):decide ((Sum.inl a:Key)=Sum.inr b)=false:=decide_eq_false (fun q=>nomatch q)
theorem xk6 (a:Str)(b:Int):decide ((Sum.inr a:Key)=Sum.inl b)=false:=decide_eq_false (fun q=>nomatch q)
noncomputable def zx2 (prog:Program)(w:World):PySem.KeyKind prog w Key where
 is:=yd3
 hash:=keyH w
 inj:=fun v a b ha hb=>by
  rcases f6 ha with⟨i,t,rfl,rfl⟩|⟨x,t,rfl,rfl⟩
  .rcases f6 hb with⟨j,u,rfl,e⟩|⟨y,u,rfl,e⟩
   .injection e with e1 _;rw[e1]
   .exact nomatch e
  .rcases f6 hb with⟨j,u,rfl,e⟩|⟨y,u,rfl,e⟩
   .exact nomatch e
   .injection e with e1 _;rw[e1]
 byValue:=fun k v h=>by
  rcases f6 h with⟨i,t,rfl,rfl⟩|⟨x,t,rfl,rfl⟩ <;> rfl
 pyHash:=fun hv h=>by
  rcases f6 hv with⟨i,t,rfl,rfl⟩|⟨x,t,rfl,rfl⟩
  .exact wpAny_pyHash_int h
  .exact wpAny_pyHash_str h
 eqBool:=fun hu hv h=>by
  rcases f6 hu with⟨i,t,rfl,rfl⟩|⟨x,t,rfl,rfl⟩
  .rcases f6 hv with⟨j,u,rfl,rfl⟩|⟨y,u,rfl,rfl⟩
   .rw[xk8]at h;exact wpAny_eqBool_int h
   .rw[xk7]at h;exact SeqAt.EqAt.int_str i t y u _ _ _ _ h
  .rcases f6 hv with⟨j,u,rfl,rfl⟩|⟨y,u,rfl,rfl⟩
   .rw[xk6]at h;exact SeqAt.EqAt.str_int x t j u _ _ _ _ h
   .rw[xk5]at h;exact wpAny_eqBool_str h
 «strs»:=fun k x t v h=>by
  rcases f6 h with⟨i,u,rfl,e⟩|⟨y,u,rfl,e⟩
  .exact nomatch e
  .injection e with e1 _
   subst e1
   cases v <;> rfl
end
section
inductive V where
 |non|bl (b:Bool)|int (i:Int)|str (x:Str)|byt (b:Array UInt8)|flt (b:UInt64)|ref (a:Addr)|ty (n:String)
 deriving DecidableEq
noncomputable def RelV:V->Value->Prop
 | .non,u=>u=Value.none
 | .bl b,u=>u=Value.bool b
 | .int i,u=>∃ t,u=Value.int i t
 | .str x,u=>∃ t,u=Value.str x t
 | .byt b,u=>∃ t,u=Value.bytes b t
 | .flt b,u=>∃ t,u=Value.float b t
 | .ref a,u=>u=Value.ref a
 | .ty n,u=>u=Value.type n
abbrev Vals:List V->List Value->Prop:=Paired RelV
theorem Vals.length {xs:List V}{us:List Value}(r:Vals xs us):xs.length=us.length:=Paired.length r
theorem Vals.get:∀{xs:List V}{us:List Value}{i:Nat}{x:V},Vals xs us->xs[i]? =some x->∃ u,us[i]? =some u/\RelV x u
 |_,_,_,_,.nil,e=>by simp at e
 |_,_,0,_,.cons r _,e=>by simp at e;subst e;exact⟨_,rfl,r⟩
 |_,_,i+1,x,.cons _ t,e=>by
  obtain⟨u,h1,h2⟩:=Vals.get (i:=i) (x:=x) t (by simpa using e)
  exact⟨u,by simpa using h1,h2⟩
theorem Vals.set {x:V}{u:Value}(r:RelV x u):∀{xs:List V}{us:List Value}(i:Nat),Vals xs us->Vals (xs.set i x) (us.set i u)
 |_,_,_,.nil=>.nil
 |_,_,0,.cons _ t=>.cons r t
 |_,_,i+1,.cons q t=>.cons q (Vals.set r i t)
theorem Vals.append:∀{xs ys:List V}{us ws:List Value},Vals xs us->Vals ys ws->Vals (xs++ys) (us++ws)
 |_,_,_,_,.nil,s=>s
 |_,_,_,_,.cons r t,s=>.cons r (Vals.append t s)
theorem Vals.take:∀{xs:List V}{us:List Value}(n:Nat),Vals xs us->Vals (xs.take n) (us.take n)
 |_,_,0,_=>.nil
 |_,_,_+1,.nil=>.nil
 |_,_,n+1,.cons r t=>.cons r (Vals.take n t)
theorem Vals.drop:∀{xs:List V}{us:List Value}(n:Nat),Vals xs us->Vals (xs.drop n) (us.drop n)
 |_,_,0,r=>r
 |_,_,_+1,.nil=>.nil
 |_,_,n+1,.cons _ t=>Vals.drop n t
noncomputable def RelO:Option V->Option Value->Prop
 |some v,some u=>RelV v u
 |none,none=>True
 |_,_=>False
def KV {κ:Type}:List (κ×V)->List (κ×Value)->Prop:=Paired fun(p:κ×V)(q:κ×Value)=>p.1=q.1/\RelV p.2 q.2
noncomputable def kV:Key->V
 | .inl i=>.int i
 | .inr x=>.str x
inductive HO where
 |lst (xs:List V)
 |tup (xs:List V)
 |dK (kvs:List (Key×V))|dT (kvs:List (List Key×V))
 |set (S:Int->Bool) (n:Nat)
 |ins (C dx:Addr) (fs:List (Str×V))
 |own (x:Addr)
 |xd (fs:List (Str×V))
 |met (f x:Addr)
 |rng (lo hi:Int)
 |frz (o:Obj) (u:HO)
 |tbl (ps:Array Value)
 |ext (φ:Heap->Prop)
noncomputable abbrev Hp:=Addr->Option HO
noncomputable def upd (H:Hp)(a:Addr)(o:HO):Hp:=fun b=>if b=a then some o else H b
theorem x9 {H:Hp}{a:Addr}{o:HO}:upd H a o a=some o:=by unfold upd;rw[if_pos rfl]
theorem x8 {H:Hp}{a b:Addr}{o:HO}(h:b≠a):upd H a o b=H b:=by unfold upd;rw[if_neg h]
theorem n6 {H:Hp}{a b:Addr}{o:HO}(h:H a=some o)(h':H b=none):a≠b:=by
 intro e;subst e;rw[h]at h';cases h'
section
variable (P:Program)(w:World)
noncomputable def ObjOk (H:Hp)(h:Heap)(a:Addr):HO->Prop
 | .lst xs=>xs.length<=sizeLine/\∃(its:List Value)(n:Nat),Vals xs its/\h.get? a=some { cls:=.type "list",data:=.seq its.toArray n }
 | .tup xs=>xs.length<=sizeLine/\∃ its:List Value,Vals xs its/\IsTup h a its.toArray
 | .dK kvs=>kvs.length<=sizeLine/\(a==sysModules)=false/\∃ vs,KV kvs vs/\h.DictOf (zx2 P w) a vs
 | .dT kvs=>kvs.length<=sizeLine/\(a==sysModules)=false/\∃ xs:List (List Key×Addr×Value),
   Paired (fun(p:List Key×V)(q:List Key×Addr×Value)=>p.1=q.1/\H q.2.1=some (.tup (p.1.map kV))/\RelV p.2 q.2.2) kvs xs/\
   ∃ o es ep,h.get? a=some o/\o.ExactDict/\o.data= .dict es ep/\es.toList=xs.map (entryOfKey (tupleKind (zx2 P w)))/\(xs.map (·.1)).Nodup
 | .set S n=>h.SetOf (intKind P w) a S n
 | .ins C dx fs=>H dx=some (.own a)/\fs.length<=1000/\dx≠a/\h.get? a=some (W.instObj C dx)/\
   ∃ mA,h.Ns1 dx mA/\(∀ f,RelO (fs.lookup f) (mA f))/\PySem.Within mA (fs.map (·.1))
 | .own _=>∃ o,h.get? a=some o
 | .xd fs=>∃ mA,h.Ns1 a mA/\∀ f,RelO (fs.lookup f) (mA f)
 | .rng lo hi=>∃ t u v,h.get? a=some { cls:=.type "range",data:=.fields #[.int lo t,.int hi u,.int 1 v] }
 | .frz o u=>h.get? a=some o/\ObjOk H h a u
 | .tbl ps=>h.get? a=some { cls:=.none,data:=.fields ps }
 | .met f x=>h.get? a=some (W.methodObj (.ref f) (.ref x))
 | .ext φ=>φ h/\(∃ o,h.get? a=some o)/\∀ h1 h2:Heap,φ h1->(∀ o,h1.get? a=some o->h2.get? a=some o)->φ h2
def HOk (H:Hp)(h:Heap):Prop:=∀ a o,H a=some o->ObjOk P w H h a o
end
section
variable {P:Program}{w:World}{H H':Hp}{h h':Heap}{a:Addr}{o:HO}
theorem ObjOk.lt (x:ObjOk P w H h a o):a<h.objs.size:=by
 cases o with
 |lst xs=>obtain⟨_,_,_,_,e⟩:=x;exact Heap.lt_size e
 |tup xs=>obtain⟨_,_,_,p⟩:=x;exact p.lt
 |dK kvs=>obtain⟨_,_,_,_,o,_,_,e,_⟩:=x;exact Heap.lt_size e
 |dT kvs=>obtain⟨_,_,_,_,o,_,_,e,_⟩:=x;exact Heap.lt_size e
 |set S n=>obtain⟨o,_,_,_,e,_⟩:=x;exact Heap.lt_size e
 |ins C dx fs=>obtain⟨_,_,_,e,_⟩:=x;exact Heap.lt_size e
 |own y=>obtain⟨_,e⟩:=x;exact Heap.lt_size e
 |xd fs=>obtain⟨_,⟨_,_,_,e,_⟩,_⟩:=x;exact Heap.lt_size e
 |rng lo hi=>obtain⟨_,_,_,e⟩:=x;exact Heap.lt_size e
 |frz ob u=>obtain⟨e,_⟩:=x;exact Heap.lt_size e
 |tbl ps=>exact Heap.lt_size (show h.get? a=some _ from x)
 |met f y=>exact Heap.lt_size (show h.get? a=some _ from x)
 |ext φ=>obtain⟨_,⟨_,e⟩,_⟩:=x;exact Heap.lt_size e
theorem Paired.mapP {z β:Type}{F G:z->β->Prop}:∀{j:List z}{i:List β},Paired F j i->(∀ a b,F a b->G a b)->Paired G j i
 |_,_,.nil,_=>.nil
 |_,_,.cons r t,f=>.cons (f _ _ r) (Paired.mapP t f)
theorem ObjOk.stay (x:ObjOk P w H h a o)(k:∀ b u,(b=a\/H b=some (.own a))->h.get? b=some u->h'.get? b=some u)
  (G:∀ b,H b=some (.own a)->H' b=some (.own a)) (j:∀ b xs,H b=some (.tup xs)->H' b=some (.tup xs)):ObjOk P w H' h' a o:=by
 induction o with
 |lst xs=>obtain⟨z,its,n,r,e⟩:=x;exact⟨z,its,n,r,k _ _ (.inl rfl) e⟩
 |tup xs=>obtain⟨z,its,r,ob,e,c⟩:=x;exact⟨z,its,r,ob,k _ _ (.inl rfl) e,c⟩
 |dK kvs=>obtain⟨z,y,vs,r,ob,es,ep,e,c⟩:=x;exact⟨z,y,vs,r,ob,es,ep,k _ _ (.inl rfl) e,c⟩
 |dT kvs=>
  obtain⟨z,y,xs,r,ob,es,ep,e,c⟩:=x
  exact⟨z,y,xs,Paired.mapP r fun p q z=>⟨z.1,j _ _ z.2.1,z.2.2⟩,ob,es,ep,k _ _ (.inl rfl) e,c⟩
 |set S n=>obtain⟨ob,es,ep,t,e,c⟩:=x;exact⟨ob,es,ep,t,k _ _ (.inl rfl) e,c⟩
 |ins C dx fs=>
  obtain⟨d,z,ne,e,mA,⟨od,es,ep,e2,c⟩,r⟩:=x
  exact⟨G _ d,z,ne,k _ _ (.inl rfl) e,mA,⟨od,es,ep,k _ _ (.inr d) e2,c⟩,r⟩
 |own y=>obtain⟨ob,e⟩:=x;exact⟨ob,k _ _ (.inl rfl) e⟩
 |xd fs=>obtain⟨mA,⟨od,es,ep,e,c⟩,r⟩:=x;exact⟨mA,⟨od,es,ep,k _ _ (.inl rfl) e,c⟩,r⟩
 |rng lo hi=>obtain⟨t,u,v,e⟩:=x;exact⟨t,u,v,k _ _ (.inl rfl) e⟩
 |frz ob u i=>obtain⟨e,q⟩:=x;exact⟨k _ _ (.inl rfl) e,i q⟩
 |tbl ps=>
  have e:h.get? a=some { cls:=.none,data:=.fields ps }:=x
  show h'.get? a=some { cls:=.none,data:=.fields ps }
  exact k a _ (.inl rfl) e
 |met f y=>
  have e:h.get? a=some (W.methodObj (.ref f) (.ref y)):=x
  show h'.get? a=some (W.methodObj (.ref f) (.ref y))
  exact k a _ (.inl rfl) e
 |ext φ=>obtain⟨p,⟨o,e⟩,st⟩:=x;exact⟨st _ _ p fun o q=>k _ _ (.inl rfl) q,⟨o,k _ _ (.inl rfl) e⟩,st⟩
theorem HOk.lt (x:HOk P w H h)(e:H a=some o):a<h.objs.size:=(x a o e).lt
theorem HOk.fresh (x:HOk P w H h)(e:h.objs.size<=a):H a=none:=by
 cases q:H a with
 |none=>rfl
 |some u=>exact absurd (Nat.lt_of_lt_of_le (x.lt q) e) (Nat.lt_irrefl _)
theorem HOk.kept (x:HOk P w H h)(k:∀ b u,h.get? b=some u->h'.get? b=some u):HOk P w H h':=fun a o e=>
 (x a o e).stay (fun b u _ q=>k b u q) (fun _ q=>q) fun _ _ q=>q
theorem HOk.laid (x:HOk P w H h)(k:∀ b u,h.get? b=some u->h'.get? b=some u)(hp:h.objs.size<=a)(new:ObjOk P w (upd H a o) h' a o):HOk P w (upd H a o) h':=fun b u e=>by
 have hn:=x.fresh hp
 by_cases i:b=a
 .subst i;rw[x9]at e;cases e;exact new
 .rw[x8 i]at e
  exact(x b u e).stay (fun c v _ q=>k c v q) (fun c q=>by rw[x8 (n6 q hn)];exact q) fun c xs q=>by rw[x8 (n6 q hn)];exact q
end
def Rd (H:Hp)(a:Addr)(u:HO):Prop:=H a=some u\/∃ o,H a=some (.frz o u)
theorem Rd.ok {P:Program}{w:World}{H:Hp}{h:Heap}{a:Addr}{u:HO}(r:Rd H a u)(x:HOk P w H h):ObjOk P w H h a u:=by
 rcases r with r|⟨o,r⟩
 .exact x a u r
 .obtain⟨_,q⟩:=x a _ r
  exact q
noncomputable def Mut:Option HO->Prop
 |some (.lst _)=>True
 |some (.dK _)=>True
 |some (.dT _)=>True
 |some (.set _ _)=>True
 |some (.ins _ _ _)=>True
 |some (.ext _)=>True
 |_=>False
section
variable {P:Program}{w:World}{H:Hp}{h h':Heap}{x e:Addr}{o':HO}
theorem HOk.write (ok:HOk P w H h)(I:Mut (H x))(O:e=x\/H e=some (.own x))(k:∀ b u,b≠e->h.get? b=some u->h'.get? b=some u)(N:∃ u,h'.get? e=some u)
  (new:ObjOk P w (upd H x o') h' x o'):HOk P w (upd H x o') h':=fun b u q=>by
 have j:∀ c y,H c=some (.own y)->c≠x:=fun c y r z=>by subst z;rw[r]at I;exact I
 have G:∀ c xs,H c=some (.tup xs)->c≠x:=fun c xs r z=>by subst z;rw[r]at I;exact I
 by_cases M:b=x
 .subst M;rw[x9]at q;cases q;exact new
 .rw[x8 M]at q
  by_cases i:b=e
  .have q':H b=some (.own x):=by
    rcases O with z|z
    .exact absurd (i.trans z) M
    .rw[i];exact z
   rw[q]at q';cases q'
   obtain⟨v,R⟩:=N
   exact⟨v,by rw[i];exact R⟩
  .refine(ok b u q).stay (fun c v L r=>k c v ?_ r) (fun c r=>by rw[x8 (j c b r)];exact r) fun c xs r=>by rw[x8 (G c xs r)];exact r
   rcases L with rfl|L
   .exact i
   .rintro rfl
    rcases O with z|z
    .exact j c b L z
    .rw[L]at z;cases z;exact M rfl
end
structure Un (fs ex:List Addr)(H H':Hp)(h h':Heap):Prop where
 keep:∀ b o,h.get? b=some o->H b=none->b∉fs->b∉ex->h'.get? b=some o
 slot:∀ b o,h.get? b=some o->H b=none->b∈fs->b∉ex->∃ sl,h'.get? b=some { o with slots:=sl }
 free:∀ b o,h.get? b=some o->H b=none->b∉ex->H' b=none
 there:∀ b o,h.get? b=some o->b∉ex->∃ o',h'.get? b=some o'
 tups:∀ b xs,H b=some (.tup xs)->H' b=some (.tup xs)
 frzs:∀ b o u,H b=some (.frz o u)->H' b=some (.frz o u)
 tbls:∀ b ps,H b=some (.tbl ps)->∃ more,H' b=some (.tbl (ps++more))
section
variable {fs fs' ex ex':List Addr}{H H1 H2:Hp}{h h1 h2 h':Heap}{a x e:Addr}{o:HO}
theorem Un.any (u:Un fs ex H H1 h h1){b:Addr}{ob:Obj}(q:h.get? b=some ob)(n:H b=none)(i:b∉ex):∃ sl,h1.get? b=some { ob with slots:=sl }:=by
 by_cases j:b∈fs
 .exact u.slot b ob q n j i
 .exact⟨ob.slots,u.keep b ob q n j i⟩
theorem Un.kept (k:∀ b u,h.get? b=some u->h'.get? b=some u):Un fs ex H H h h':=
 ⟨fun b ob q _ _ _=>k b ob q,fun b ob q _ _ _=>⟨ob.slots,k b ob q⟩,fun _ _ _ n _=>n,fun b ob q _=>⟨ob,k b ob q⟩,fun _ _ q=>q,fun _ _ _ q=>q,fun _ ps q=>⟨#[],by rw[q];simp⟩⟩
theorem Un.refl:Un fs ex H H h h:=Un.kept fun _ _ q=>q
theorem Un.laid (k:∀ b u,h.get? b=some u->h'.get? b=some u)(hp:h.objs.size<=a)(hn:H a=none):Un fs ex H (upd H a o) h h' where
 keep:=fun b u q _ _ _=>k b u q
 slot:=fun b u q _ _ _=>⟨u.slots,k b u q⟩
 free:=fun b u q n _=>by rw[x8 (Nat.ne_of_lt (Nat.lt_of_lt_of_le (Heap.lt_size q) hp))];exact n
 there:=fun b u q _=>⟨u,k b u q⟩
 tups:=fun b xs q=>by rw[x8 (n6 q hn)];exact q
 frzs:=fun b u xs q=>by rw[x8 (n6 q hn)];exact q
 tbls:=fun b ps q=>⟨#[],by rw[x8 (n6 q hn),q];simp⟩
theorem Un.write (j:Mut (H x))(M:e=x\/H e=some (.own x))(k:∀ b u,b≠e->h.get? b=some u->h'.get? b=some u)(G:∃ u,h'.get? e=some u):Un fs ex H (upd H x o) h h':=by
 have I:∀ b,H b=none->b≠x:=fun b n z=>by subst z;rw[n]at j;exact j
 have L:∀ b,H b=none->b≠e:=fun b n z=>by
  subst z
  rcases M with r|r
  .exact I b n r
  .rw[n]at r;cases r
 have hm:∀ b u,H b=some u->¬ Mut (some u)->b≠x:=fun b u q nm z=>by subst z;rw[q]at j;exact nm j
 refine⟨fun b u q n _ _=>k b u (L b n) q,fun b u q n _ _=>⟨u.slots,k b u (L b n) q⟩,fun b u q n _=>by rw[x8 (I b n)];exact n,fun b u q _=>?_,
  fun b xs q=>by rw[x8 (hm b _ q fun z=>z)];exact q,fun b u xs q=>by rw[x8 (hm b _ q fun z=>z)];exact q,fun b ps q=>⟨#[],by rw[x8 (hm b _ q fun z=>z),q];simp⟩⟩
 by_cases i:b=e
 .subst i;exact G
 .exact⟨u,k b u i q⟩
end
noncomputable def trk (h:Heap)(H:Hp):List Addr:=(List.range h.objs.size).filter fun a=>(H a).isSome
noncomputable def hidT (h:Heap)(H:Hp):Heap:=W.hideAll h (trk h H)
theorem ym9 (h:Heap)(H:Hp):(hidT h H).objs.size=h.objs.size:=W.hideAll_size _ _
theorem yd8 {h:Heap}{H:Hp}{b:Addr}{o:Obj}(e:h.get? b=some o)(n:H b=none):(hidT h H).get? b=some o:=
 W.hideAll_get _ e fun hm=>by
  have q:(H b).isSome=true:=(List.mem_filter.mp hm).2
  rw[n]at q;simp at q
theorem xv8 {h:Heap}{H:Hp}{b:Addr}{o:Obj}(e:(hidT h H).get? b=some o):h.get? b=some o/\H b=none:=by
 have i:h.get? b=some o:=W.of_hideAll (trk h H) e
 refine⟨i,?_⟩
 cases q:H b with
 |none=>rfl
 |some x=>
  have hm:b∈trk h H:=List.mem_filter.mpr ⟨List.mem_range.mpr (Heap.lt_size i),by simp[q]⟩
  have z:(hidT h H).get? b=none:=W.hideAll_none (trk h H) hm
  rw[z]at e;cases e
noncomputable def xr1 (g h:Heap)(L:Addr):List (Addr×Obj):=(List.range h.objs.size).filterMap fun a=>if a=L\/(g.get? a).isSome=true then none else (h.get? a).map fun o=>(a,o)
noncomputable def rest (g h:Heap)(L d:Addr):List (Addr×Obj):=(xr1 g h L).filter fun p=>decide (p.1≠d)
end
section
structure Mod (K:W.Frag)(mg:Str->Option Value)(base:Heap):Prop where
 kin:K.In base
 glob:base.Ns mainGlobals mg
 blt:∃ mb,base.Ns builtinsNs mb/\∀ x:Str,x≠"__name__"->mb x=bootBuiltins x
 nolimit:base.NoLimit
structure Cx where
 prog:Program
 w:World
 K:W.Frag
 mg:Str->Option Value
 base:Heap
 A:Around
 N:List Str
 s₀:Shared
 H₀:Hp
 env:Env
 outer:List Env
 stack:List Env
 ex:List Addr
 fn:Str->Bool
 calm:Bool
 pn:List (Addr×Obj)
 xe:Value->Shared->Prop
noncomputable def frs (l:List Env):List Addr:=l.filterMap (·.frame)
noncomputable abbrev Cx.fs (X:Cx):List Addr:=frs X.outer
def Vis (sc:Scope)(x:Str):Prop:=sc.names.lookup x=some .local\/sc.names.lookup x=some .cell\/sc.names.lookup x=some .free
def Loc (sc:Scope)(x:Str):Prop:=sc.names.lookup x=some .local\/sc.names.lookup x=some .cell
def Look (env:Env)(h:Heap)(m:Str->Option Value)(x:Str)(u:Value):Prop:=
 (env.kindOf x=some .local/\m x=some u)\/((env.kindOf x=some .cell\/env.kindOf x=some .free)/\∃ c,env.cells.lookup x=some c/\h.IsCell c (some u))
structure Cx.Ok (X:Cx):Prop where
 mod:Mod X.K X.mg X.base
 kind:X.env.scope.kind= .function
 glob:X.env.globals=mainGlobals
 blt:X.env.builtins=builtinsNs
 above:X.s₀.heap.objs.size<=X.env.locals
 inj:∀ x y c,X.env.cells.lookup x=some c->X.env.cells.lookup y=some c->x=y
 has:∀ x,(X.env.kindOf x=some .cell\/X.env.kindOf x=some .free)->∃ c,X.env.cells.lookup x=some c
 cab:∀ x c,X.fn x=true->X.env.cells.lookup x=some c->X.s₀.heap.objs.size<=c
 hd:X.calm=true->X.A.handled=none
 frames:X.A.frames=some X.stack
 stk:X.stack=X.outer\/(X.stack=X.env::X.outer/\X.env.frame=some X.env.locals)
 exf:∀ b∈X.ex,b≠X.env.locals/\∀ x c,X.env.cells.lookup x=some c->c≠b
 bs:∀ b o,X.base.get? b=some o->X.s₀.heap.get? b=some o/\X.H₀ b=none
 bsz:X.base.objs.size<=X.s₀.heap.objs.size
 noex:∀ b o,X.base.get? b=some o->b∉X.ex
 exfs:∀ b∈X.ex,b∉X.fs
 funs:X.s₀.heap.FunFrames X.base X.outer
 frf:∀ b∈X.fs,X.H₀ b=none
structure Inv (X:Cx)(pins:List (Addr×Obj))(σ:List (Option V))(H:Hp)(s:Shared):Prop where
 ok:X.Ok
 os:s.os=X.s₀.os
 bare:AllBare s.gens
 base:Un X.fs X.ex X.H₀ H X.s₀.heap s.heap
 loc:∃ m,s.heap.Ns X.env.locals m/\∀(i:Nat)(x:Str)(v:V),X.N[i]? =some x->σ[i]? =some (some v)->Vis X.env.scope x->∃ u,RelV v u/\Look X.env s.heap m x u
 cell:∀ x c,X.env.cells.lookup x=some c->∃ v,s.heap.IsCell c v
 free:H X.env.locals=none
 freeC:∀ x c,X.env.cells.lookup x=some c->H c=none
 pin:∀ p∈X.pn++pins,s.heap.get? p.1=some p.2/\H p.1=none/\p.1≠X.env.locals/\p.1∉X.fs/\∀ v,p.2.data≠ .cell v
 hok:HOk X.prog X.w H s.heap
 len:σ.length=X.N.length
section
variable {X:Cx}{pins:List (Addr×Obj)}{σ:List (Option V)}{H H':Hp}{s:Shared}{h':Heap}
theorem Cx.Ok.nofr (ok:X.Ok){b:Addr}{o:Obj}(e:X.base.get? b=some o):b∉X.fs:=fun i=>by
 have:=(ok.funs.mem i).1
 rw[e]at this;cases this
theorem Inv.bs (I:Inv X pins σ H s):∀ b o,X.base.get? b=some o->s.heap.get? b=some o/\H b=none:=fun b o e=>
 ⟨I.base.keep b o (I.ok.bs b o e).1 (I.ok.bs b o e).2 (I.ok.nofr e) (I.ok.noex b o e),I.base.free b o (I.ok.bs b o e).1 (I.ok.bs b o e).2 (I.ok.noex b o e)⟩
theorem Inv.bk (I:Inv X pins σ H s):∀ b o,X.base.get? b=some o->s.heap.get? b=some o:=fun b o e=>(I.bs b o e).1
theorem Inv.mod (I:Inv X pins σ H s):Mod X.K X.mg X.base:=I.ok.mod
theorem Inv.kIn (I:Inv X pins σ H s):X.K.In s.heap:=I.ok.mod.kin.keeps I.bk
theorem Inv.lt (I:Inv X pins σ H s):X.env.locals<s.heap.objs.size:=let ⟨_,hn,_⟩:=I.loc;hn.lt
theorem Inv.sz (I:Inv X pins σ H s):X.s₀.heap.objs.size<=s.heap.objs.size:=Nat.le_trans I.ok.above (Nat.le_of_lt I.lt)
theorem Inv.nofs (I:Inv X pins σ H s){a:Addr}(h:s.heap.objs.size<=a):a∉X.fs:=fun j=>by
 obtain⟨_,o,i,_⟩:=I.ok.funs.mem j
 exact absurd (Nat.lt_of_lt_of_le (Heap.lt_size i) (Nat.le_trans I.sz h)) (Nat.lt_irrefl _)
theorem Inv.cne (I:Inv X pins σ H s):∀ x c,X.env.cells.lookup x=some c->c≠X.env.locals:=fun x c e z=>by
 obtain⟨v,o,G,hd⟩:=I.cell x c e
 obtain⟨m,⟨o',es,ep,i,j,_⟩,_⟩:=I.loc
 rw[z,i]at G;cases G;rw[j]at hd;cases hd
theorem Inv.funs (I:Inv X pins σ H s):s.heap.FunFrames X.base X.outer:=by
 have all:∀(l:List Env),(∀ b∈frs l,b∈X.fs)->X.s₀.heap.FunFrames X.base l->s.heap.FunFrames X.base l:=by
  intro l
  induction l with
  |nil=>intro _ _;trivial
  |cons env r N=>
   intro M S
   obtain⟨hk,⟨L,o,i,hn,R,hd⟩,O⟩:=S
   have G:L∈X.fs:=M L (by unfold frs;rw[filterMap_cons,i];exact mem_cons_self)
   obtain⟨sl,e⟩:=I.base.slot L o R (I.ok.frf L G) G fun z=>I.ok.exfs L z G
   exact⟨hk,⟨L,_,i,hn,e,hd⟩,N (fun b j=>M b (by unfold frs;rw[filterMap_cons,i];exact mem_cons_of_mem _ j)) O⟩
 exact all X.outer (fun _ j=>j) I.ok.funs
theorem Inv.stack (I:Inv X pins σ H s):s.heap.FunFrames X.base X.stack:=by
 rcases I.ok.stk with e|⟨e,i⟩
 .rw[e];exact I.funs
 .rw[e]
  obtain⟨m,hn,_⟩:=I.loc
  refine .cons (by rw[I.ok.kind];decide) i hn ?_ I.funs
  exact Heap.get?_none_of_le (Nat.le_trans I.ok.bsz I.ok.above)
theorem Inv.stkSub (I:Inv X pins σ H s):∀ b∈frs X.stack,b∈X.env.locals::X.fs:=fun b i=>by
 rcases I.ok.stk with e|⟨e,j⟩
 .rw[e]at i;exact mem_cons_of_mem _ i
 .rw[e]at i
  unfold frs at i
  rw[filterMap_cons,j]at i
  exact i
theorem Inv.stkFree (I:Inv X pins σ H s):∀ b∈frs X.stack,H b=none:=fun b i=>by
 rcases List.mem_cons.mp (I.stkSub b i)with e|i
 .rw[e];exact I.free
 .obtain⟨_,o,ho,_⟩:=I.ok.funs.mem i
  exact I.base.free b o ho (I.ok.frf b i) fun z=>I.ok.exfs b z i
theorem Inv.step {g':Array GenState}{t':Nat}{d':Drawn}{ch:List Addr}(I:Inv X pins σ H s)
  (L:∀ b∈ch,(b∈X.ex\/X.s₀.heap.objs.size<=b)/\b≠X.env.locals/\(∀ x c,X.env.cells.lookup x=some c->c≠b)/\∀ p∈X.pn++pins,p.1≠b)
  (keep:∀ b o,b≠X.env.locals->b∉X.fs->b∉ch->s.heap.get? b=some o->H b=none->h'.get? b=some o)
  (slot:∀ b o,b≠X.env.locals->b∈X.fs->b∉ch->s.heap.get? b=some o->H b=none->∃ sl,h'.get? b=some { o with slots:=sl }) (free:∀ b o,b∉ch->s.heap.get? b=some o->H b=none->H' b=none)
  (there:∀ b o,b∉ch->s.heap.get? b=some o->∃ o',h'.get? b=some o')
  (tups:∀ b xs,H b=some (.tup xs)->H' b=some (.tup xs)) (frzs:∀ b o u,H b=some (.frz o u)->H' b=some (.frz o u)) (tbls:∀ b ps,H b=some (.tbl ps)->∃ more,H' b=some (.tbl (ps++more)))
  (ns:∀ m,s.heap.Ns X.env.locals m->h'.Ns X.env.locals m) (hok:HOk X.prog X.w H' h') (hg:AllBare g'):
  Inv X pins σ H' { s with heap:=h',gens:=g',drawn:=d',toks:=t' }:=by
 have S:∀ b o,X.s₀.heap.get? b=some o->b≠X.env.locals:=fun b o e=>Nat.ne_of_lt (Nat.lt_of_lt_of_le (Heap.lt_size e) I.ok.above)
 have N:∀ b o,X.s₀.heap.get? b=some o->b∉X.ex->b∉ch:=fun b o e j O=>by
  rcases (L b O).1 with z|z
  .exact j z
  .exact absurd (Nat.lt_of_lt_of_le (Heap.lt_size e) z) (Nat.lt_irrefl _)
 have M:∀ x c,X.env.cells.lookup x=some c->∀ v,s.heap.IsCell c v->h'.IsCell c v:=fun x c e v U=>by
  obtain⟨o,R,hd⟩:=U
  have G:c∉ch:=fun z=>(L c z).2.2.1 x c e rfl
  by_cases Z:c∈X.fs
  .obtain⟨sl,q⟩:=slot c o (I.cne x c e) Z G R (I.freeC x c e)
   exact⟨_,q,hd⟩
  .exact⟨o,keep c o (I.cne x c e) Z G R (I.freeC x c e),hd⟩
 refine⟨I.ok,I.os,hg,⟨fun b o e n O j=>?_,fun b o e n O j=>?_,fun b o e n j=>?_,fun b o e j=>?_,fun b xs e=>tups b xs (I.base.tups b xs e),fun b o xs e=>frzs b o xs (I.base.frzs b o xs e),fun b ps e=>?_⟩,?_,fun x c e=>?_,?_,fun x c e=>?_,fun p hp=>?_,hok,I.len⟩
 .exact keep b o (S b o e) O (N b o e j) (I.base.keep b o e n O j) (I.base.free b o e n j)
 .obtain⟨sl,e1⟩:=I.base.slot b o e n O j
  obtain⟨Y,e2⟩:=slot b _ (S b o e) O (N b o e j) e1 (I.base.free b o e n j)
  exact⟨Y,e2⟩
 .obtain⟨o',e1⟩:=I.base.there b o e j
  exact free b o' (N b o e j) e1 (I.base.free b o e n j)
 .obtain⟨o',e1⟩:=I.base.there b o e j
  exact there b o' (N b o e j) e1
 .obtain⟨m1,e1⟩:=I.base.tbls b ps e
  obtain⟨m2,e2⟩:=tbls b _ e1
  exact⟨m1++m2,by rw[e2,Array.append_assoc]⟩
 .obtain⟨m,hn,hl⟩:=I.loc
  refine⟨m,ns m hn,fun i x v e1 e2 e3=>?_⟩
  obtain⟨u,r,l⟩:=hl i x v e1 e2 e3
  refine⟨u,r,?_⟩
  rcases l with l|⟨k,c,e,z⟩
  .exact .inl l
  .exact .inr ⟨k,c,e,M x c e _ z⟩
 .obtain⟨v,z⟩:=I.cell x c e
  exact⟨v,M x c e v z⟩
 .obtain⟨m,⟨o,_,_,R,_⟩,_⟩:=I.loc
  exact free _ o (fun z=>(L _ z).2.1 rfl) R I.free
 .obtain⟨v,o,R,hd⟩:=I.cell x c e
  exact free c o (fun z=>(L c z).2.2.1 x c e rfl) R (I.freeC x c e)
 .obtain⟨e,n,ne,nf,d⟩:=I.pin p hp
  have G:p.1∉ch:=fun z=>(L p.1 z).2.2.2 p hp rfl
  exact⟨keep p.1 p.2 ne nf G e n,free p.1 p.2 G e n,ne,nf,d⟩
theorem Inv.un {t':Nat}(I:Inv X pins σ H s)(u:Un X.fs [] H H' s.heap h')(hok:HOk X.prog X.w H' h'):Inv X pins σ H' { s with heap:=h',toks:=t' }:=by
 obtain⟨m,⟨o,es,ep,M,r⟩,_⟩:=id I.loc
 obtain⟨sl,O⟩:=u.any M I.free (by simp)
 exact I.step (g':=s.gens) (d':=s.drawn) (ch:=[]) (fun _ z=>nomatch z) (fun b o _ j _ e n=>u.keep b o e n j (by simp)) (fun b o _ j _ e n=>u.slot b o e n j (by simp)) (fun b o _ e n=>u.free b o e n (by simp)) (fun b o _ e=>u.there b o e (by simp)) u.tups u.frzs u.tbls (fun R hm=>by
  obtain⟨o',G,L,i,N⟩:=hm
  rw[M]at i;cases i
  exact⟨_,G,L,O,N⟩) hok I.bare
theorem Inv.call {g':Array GenState}{t':Nat}{d':Drawn}{ch:List Addr}(I:Inv X pins σ H s)(u:Un (frs X.stack) ch H H' s.heap h')(hok:HOk X.prog X.w H' h')(S:AllBare g')
  (G:∀ b∈ch,(b∈X.ex\/X.s₀.heap.objs.size<=b)/\b≠X.env.locals/\(∀ x c,X.env.cells.lookup x=some c->c≠b)/\∀ p∈X.pn++pins,p.1≠b):
  Inv X pins σ H' { s with heap:=h',gens:=g',drawn:=d',toks:=t' }:=by
 obtain⟨m,⟨o,es,ep,O,r⟩,_⟩:=id I.loc
 obtain⟨sl,L⟩:=u.any O I.free fun z=>(G _ z).2.1 rfl
 exact I.step (ch:=ch) G (fun b o L U i e n=>u.keep b o e n (fun z=>(List.mem_cons.mp (I.stkSub b z)).elim L U) i) (fun b o _ _ i e n=>u.any e n i) (fun b o i e n=>u.free b o e n i) (fun b o i e=>u.there b o e i) u.tups u.frzs u.tbls (fun Y hm=>by
  obtain⟨o',M,N,j,R⟩:=hm
  rw[O]at j;cases j
  exact⟨_,M,N,L,R⟩) hok S
theorem Inv.turned {t':Nat}{it:Addr}(I:Inv X pins σ H s)(k:∀ b o,b≠it->s.heap.get? b=some o->h'.get? b=some o)(hn:H it=none)(G:it≠X.env.locals)
  (h1:it∈X.ex\/X.s₀.heap.objs.size<=it) (h2:∀ x c,X.env.cells.lookup x=some c->c≠it) (M:∀ p∈X.pn++pins,p.1≠it):Inv X pins σ H { s with heap:=h',toks:=t' }:=by
 have j:∀ b u,H b=some u->b≠it:=fun b u e z=>by rw[z,hn]at e;cases e
 refine I.step (g':=s.gens) (d':=s.drawn) (ch:=[it]) (fun b L=>?_) (fun b o _ _ i e _=>k b o (fun z=>i (by simp[z])) e) (fun b o _ _ i e _=>⟨o.slots,k b o (fun z=>i (by simp[z])) e⟩) (fun _ _ _ _ n=>n)
  (fun b o i e=>⟨o,k b o (fun z=>i (by simp[z])) e⟩) (fun _ _ e=>e) (fun _ _ _ e=>e) (fun b ps e=>⟨#[],by rw[e];simp⟩) (fun m hm=>?_) (fun b u e=>?_) I.bare
 .have e:b=it:=by simpa using L
  subst e
  exact⟨h1,G,h2,M⟩
 .obtain⟨o,es,ep,ho,r⟩:=hm
  exact⟨o,es,ep,k _ o (Ne.symm G) ho,r⟩
 .refine(I.hok b u e).stay (fun c v i q=>k c v ?_ q) (fun _ q=>q) fun _ _ q=>q
  rcases i with z|z
  .rw[z];exact j b u e
  .exact j c _ z
theorem Inv.tok (I:Inv X pins σ H s)(t:Nat):Inv X pins σ H { s with toks:=t }:=I.un (h':=s.heap) (t':=t) Un.refl I.hok
theorem Inv.kept {t':Nat}(I:Inv X pins σ H s)(k:∀ b u,s.heap.get? b=some u->h'.get? b=some u):Inv X pins σ H { s with heap:=h',toks:=t' }:=I.un (Un.kept k) (I.hok.kept k)
theorem Inv.laid {a:Addr}{o:HO}{t':Nat}(I:Inv X pins σ H s)(k:∀ b u,s.heap.get? b=some u->h'.get? b=some u)(hp:s.heap.objs.size<=a)(new:ObjOk X.prog X.w (upd H a o) h' a o):
  Inv X pins σ (upd H a o) { s with heap:=h',toks:=t' }:=I.un (Un.laid k hp (I.hok.fresh hp)) (I.hok.laid k hp new)
theorem Inv.write {x e:Addr}{o:HO}{t':Nat}(I:Inv X pins σ H s)(j:Mut (H x))(z:e=x\/H e=some (.own x))(k:∀ b u,b≠e->s.heap.get? b=some u->h'.get? b=some u)(i:∃ u,h'.get? e=some u)
  (new:ObjOk X.prog X.w (upd H x o) h' x o):Inv X pins σ (upd H x o) { s with heap:=h',toks:=t' }:=I.un (Un.write j z k i) (I.hok.write j z k i new)
theorem Inv.pins_of {pins':List (Addr×Obj)}(I:Inv X pins σ H s)(h:∀ p∈pins',s.heap.get? p.1=some p.2/\H p.1=none/\p.1≠X.env.locals/\p.1∉X.fs/\∀ v,p.2.data≠ .cell v):Inv X pins' σ H s:=
 ⟨I.ok,I.os,I.bare,I.base,I.loc,I.cell,I.free,I.freeC,fun p hp=>(List.mem_append.mp hp).elim (fun z=>I.pin p (mem_append_left _ z)) (h p),I.hok,I.len⟩
theorem zq0 {N:List Str}(z:N.Nodup){i j:Nat}{x:Str}(a:N[i]? =some x)(b:N[j]? =some x):i=j:=by
 obtain⟨h1,e1⟩:=List.getElem?_eq_some_iff.mp a
 obtain⟨h2,e2⟩:=List.getElem?_eq_some_iff.mp b
 exact(getElem_inj z).mp (e1.trans e2.symm)
theorem zo4 {M:Model}{A:Around}{E:Value->Shared->Prop}{i:Nat}{x:Str}{v:V}{u:Value}{Q:Unit->Shared->Prop}(I:Inv X pins σ H s)(hN:X.N.Nodup)(hi:X.N[i]? =some x)(R:Loc X.env.scope x)(r:RelV v u)
  (h:∀ s',Inv X pins (σ.set i (some v)) H s'->(∃ a,Heap.SameBut a s.heap s'.heap/\(a=X.env.locals\/X.env.cells.lookup x=some a))->Q () s') (hf:X.fn x=true\/X.env.scope.names.lookup x=some .local:=by first|exact .inl rfl|exact .inr rfl|assumption):wpAny M A (storeName X.env x u) Q E s:=by
 obtain⟨m,hn,hl⟩:=id I.loc
 have a1:(X.env.scope.kind== .class || (X.env.scope.kind== .module&&X.env.locals != X.env.globals))=false:=by rw[I.ok.kind];rfl
 have U:i<σ.length:=by rw[I.len];exact(List.getElem?_eq_some_iff.mp hi).1
 have cne:=I.cne
 have L:∀{a:Addr}{h':Heap},(∃ o,s.heap.get? a=some o/\H a=none)->Heap.SameBut a s.heap h'->HOk X.prog X.w H h':=fun{a h'} ha G b ob e=>by
  obtain⟨_,_,S⟩:=ha
  refine(I.hok b ob e).stay (fun c w' O q=>(G.2 c ?_).trans q) (fun _ q=>q) fun _ _ q=>q
  rintro rfl
  rcases O with rfl|O
  .rw[S]at e;cases e
  .rw[S]at O;cases O
 rcases R with hk|hk
 .refine wpAny_storeName_local hk hn (fun h' a4 G=>?_) a1
  obtain⟨oL,_,_,a3,_⟩:=id hn
  refine h _ ⟨I.ok,I.os,I.bare,⟨fun b o e n Y R=>?_,fun b o e n Y R=>?_,I.base.free,fun b o e R=>?_,I.base.tups,I.base.frzs,I.base.tbls⟩,⟨_,a4,fun j y v' e1 e2 e3=>?_⟩,fun y c e=>?_,I.free,I.freeC,fun p hp=>?_,L ⟨oL,a3,I.free⟩ G,by simpa using I.len⟩ ⟨_,G,.inl rfl⟩
  .exact(G.2 b (Nat.ne_of_lt (Nat.lt_of_lt_of_le (Heap.lt_size e) I.ok.above))).trans (I.base.keep b o e n Y R)
  .obtain⟨sl,e1⟩:=I.base.slot b o e n Y R
   exact⟨sl,(G.2 b (Nat.ne_of_lt (Nat.lt_of_lt_of_le (Heap.lt_size e) I.ok.above))).trans e1⟩
  .obtain⟨o',e1⟩:=I.base.there b o e R
   exact⟨o',(G.2 b (Nat.ne_of_lt (Nat.lt_of_lt_of_le (Heap.lt_size e) I.ok.above))).trans e1⟩
  .by_cases hj:j=i
   .subst hj
    rw[hi]at e1;cases e1
    rw[getElem?_set_self U]at e2
    cases e2
    exact⟨u,r,.inl ⟨hk,by simp⟩⟩
   .rw[getElem?_set_ne (Ne.symm hj)]at e2
    obtain⟨u',r',q⟩:=hl j y v' e1 e2 e3
    refine⟨u',r',?_⟩
    rcases q with⟨k,e⟩|⟨k,c,e,z⟩
    .refine .inl ⟨k,?_⟩
     have:y≠x:=fun e=>hj (zq0 hN e1 (e ▸ hi))
     simp[this,e]
    .exact .inr ⟨k,c,e,z.sameBut G (cne y c e)⟩
  .obtain⟨w',z⟩:=I.cell y c e
   exact⟨w',z.sameBut G (cne y c e)⟩
  .obtain⟨e,n,ne,nf,d⟩:=I.pin p hp
   exact⟨(G.2 p.1 ne).trans e,n,ne,nf,d⟩
 .have hfn:X.fn x=true:=by
   rcases hf with z|z
   .exact z
   .rw[z]at hk;cases hk
  obtain⟨c,O⟩:=I.ok.has x (.inl hk)
  obtain⟨w',z⟩:=I.cell x c O
  refine wpAny_storeName_cell I.ok.kind hk O z (fun h' a2 G=>?_)
  obtain⟨oc,a0,Z⟩:=id z
  refine h { s with heap:=h' } ⟨I.ok,I.os,I.bare,⟨fun b o e n Y R=>?_,fun b o e n Y R=>?_,I.base.free,fun b o e R=>?_,I.base.tups,I.base.frzs,I.base.tbls⟩,⟨m,hn.sameBut G (Ne.symm (cne x c O)),fun j y v' e1 e2 e3=>?_⟩,fun y c' e=>?_,I.free,I.freeC,fun p hp=>?_,L ⟨oc,a0,I.freeC x c O⟩ G,by simpa using I.len⟩ ⟨c,G,.inr O⟩
  .exact(G.2 b (Nat.ne_of_lt (Nat.lt_of_lt_of_le (Heap.lt_size e) (I.ok.cab x c hfn O)))).trans (I.base.keep b o e n Y R)
  .obtain⟨sl,e1⟩:=I.base.slot b o e n Y R
   exact⟨sl,(G.2 b (Nat.ne_of_lt (Nat.lt_of_lt_of_le (Heap.lt_size e) (I.ok.cab x c hfn O)))).trans e1⟩
  .obtain⟨o',e1⟩:=I.base.there b o e R
   exact⟨o',(G.2 b (Nat.ne_of_lt (Nat.lt_of_lt_of_le (Heap.lt_size e) (I.ok.cab x c hfn O)))).trans e1⟩
  .by_cases hj:j=i
   .subst hj
    rw[hi]at e1;cases e1
    rw[getElem?_set_self U]at e2
    cases e2
    exact⟨u,r,.inr ⟨.inl hk,c,O,a2⟩⟩
   .rw[getElem?_set_ne (Ne.symm hj)]at e2
    obtain⟨u',r',q⟩:=hl j y v' e1 e2 e3
    refine⟨u',r',?_⟩
    rcases q with q|⟨k,c',e,z'⟩
    .exact .inl q
    .refine .inr ⟨k,c',e,z'.sameBut G ?_⟩
     rintro rfl
     exact hj (zq0 hN e1 (I.ok.inj _ _ _ e O ▸ hi))
  .by_cases hcc:c'=c
   .subst hcc;exact⟨_,a2⟩
   .obtain⟨w2,z2⟩:=I.cell y c' e
    exact⟨w2,z2.sameBut G hcc⟩
  .obtain⟨e,n,ne,nf,d⟩:=I.pin p hp
   refine⟨(G.2 p.1 ?_).trans e,n,ne,nf,d⟩
   intro q
   rw[q,a0]at e
   have q':oc=p.2:=Option.some.inj e
   exact d w' (by rw[<-q'];exact Z)
theorem zr0 {M:Model}{A:Around}{E:Value->Shared->Prop}{i:Nat}{x:Str}{v:V}{u:Value}{Q:Unit->Shared->Prop}(I:Inv X pins σ H s)(G:X.N.Nodup)(hi:X.N[i]? =some x)(j:Loc X.env.scope x)(r:RelV v u)
  (h:∀ s',Inv X pins (σ.set i (some v)) H s'->Q () s') (z:X.fn x=true\/X.env.scope.names.lookup x=some .local:=by first|exact .inl rfl|exact .inr rfl|assumption):wpAny M A (storeName X.env x u) Q E s:=
 zo4 I G hi j r (fun s' L _=>h s' L) z
theorem Inv.call' {s':Shared}{ch:List Addr}(I:Inv X pins σ H s)(j:s'.os=s.os)(u:Un (frs X.stack) ch H H' s.heap s'.heap)(hok:HOk X.prog X.w H' s'.heap)(z:AllBare s'.gens)
  (i:∀ b∈ch,(b∈X.ex\/X.s₀.heap.objs.size<=b)/\b≠X.env.locals/\(∀ x c,X.env.cells.lookup x=some c->c≠b)/\∀ p∈X.pn++pins,p.1≠b):Inv X pins σ H' s':=by
 obtain⟨h',g',d',t',o'⟩:=s'
 have e:o'=s.os:=j
 subst e
 exact I.call (g':=g') (t':=t') (d':=d') u hok z i
end
noncomputable abbrev XK:=Value->Option Addr->Hp->Prop
noncomputable abbrev St:=List (Option V)
noncomputable abbrev VK:=V->Hp->Prop
noncomputable abbrev TE:=St->Hp->VK->Prop
noncomputable abbrev TT:=St->Hp->(Bool->Hp->Prop)->Prop
noncomputable abbrev TA:=St->Hp->(List V->Hp->Prop)->Prop
structure Ends where
 nx:St->Hp->Prop
 rt:VK
 bk:St->Hp->Prop:=fun _ _=>False
 ct:St->Hp->Prop:=fun _ _=>False
noncomputable abbrev TS:=Ends->St->Hp->Prop
def EP (X:Cx)(pins:List (Addr×Obj))(σ:St)(Q:VK)(u:Value)(s':Shared):Prop:=∃ v H',Inv X pins σ H' s'/\RelV v u/\Q v H'
def TP (X:Cx)(pins:List (Addr×Obj))(σ:St)(Q:Bool->Hp->Prop)(b:Bool)(s':Shared):Prop:=∃ H',Inv X pins σ H' s'/\Q b H'
def AP (X:Cx)(pins:List (Addr×Obj))(σ:St)(Q:List V->Hp->Prop)(us:List Value)(s':Shared):Prop:=∃ vs H',Inv X pins σ H' s'/\Vals vs us/\Q vs H'
def SP (X:Cx)(pins:List (Addr×Obj))(D:Ends)(f:Flow)(s':Shared):Prop:=
 match f with
 | .next=>∃ σ' H',Inv X pins σ' H' s'/\D.nx σ' H'
 | .brk=>∃ σ' H',Inv X pins σ' H' s'/\D.bk σ' H'
 | .cont=>∃ σ' H',Inv X pins σ' H' s'/\D.ct σ' H'
 | .ret u=>∃ v σ' H',Inv X pins σ' H' s'/\RelV v u/\D.rt v H'
def PE (X:Cx)(e:Expr)(t:TE):Prop:=
 ∀(pins:List (Addr×Obj))(s:Shared)(σ:St)(H:Hp)(Q:VK),Inv X pins σ H s->t σ H Q->wpAny (model X.prog X.w) X.A (eval e X.env) (EP X pins σ Q) X.xe s
def PT (X:Cx)(e:Expr)(t:TT):Prop:=
 ∀(pins:List (Addr×Obj))(s:Shared)(σ:St)(H:Hp)(Q:Bool->Hp->Prop),Inv X pins σ H s->t σ H Q->wpAny (model X.prog X.w) X.A (isTrue e X.env (eval e X.env)) (TP X pins σ Q) X.xe s
def PW (X:Cx)(e:Expr)(t:TT):Prop:=
 ∀(whole:Sem Value)(pins:List (Addr×Obj))(s:Shared)(σ:St)(H:Hp)(Q:Bool->Hp->Prop),Inv X pins σ H s->t σ H Q->wpAny (model X.prog X.w) X.A (isTrue e X.env whole) (TP X pins σ Q) X.xe s
theorem PW.pt {X:Cx}{e:Expr}{t:TT}(h:PW X e t):PT X e t:=h _
def PA (X:Cx)(es:List Expr)(t:TA):Prop:=
 ∀(pos:Pos)(pins:List (Addr×Obj))(s:Shared)(σ:St)(H:Hp)(Q:List V->Hp->Prop),Inv X pins σ H s->t σ H Q->wpAny (model X.prog X.w) X.A (spliced (backTo pos (starEach es X.env))) (AP X pins σ Q) X.xe s
def PS (X:Cx)(st:Stmt)(t:TS):Prop:=
 ∀(pins:List (Addr×Obj))(s:Shared)(σ:St)(H:Hp)(D:Ends),Inv X pins σ H s->t D σ H->wpAny (model X.prog X.w) X.A (exec st X.env) (SP X pins D) X.xe s
def PSs (X:Cx)(st:List Stmt)(t:TS):Prop:=
 ∀(pins:List (Addr×Obj))(s:Shared)(σ:St)(H:Hp)(D:Ends),Inv X pins σ H s->t D σ H->wpAny (model X.prog X.w) X.A (execs st X.env) (SP X pins D) X.xe s
theorem thn {i:Type}{t:Sem i}{Q j:i->Shared->Prop}{M:Model}{A:Around}{E:Value->Shared->Prop}{s:Shared}(h:wpAny M A t Q E s)(z:∀ a s,Q a s->j a s):wpAny M A t j E s:=wpAny_mono h z fun _ _ x=>x
end
section
section
variable {X:Cx}
def tVar (i:Nat):TE:=fun σ H Q=>∃ v,σ[i]? =some (some v)/\Q v H
def tC (v:V):TE:=fun _ H Q=>Q v H
theorem xo3 {i:Nat}{x:Str}{pos:Pos}(O:X.N[i]? =some x)(L:Vis X.env.scope x)(hd:(x==("__debug__":Str))=false:=by decide)(z:(x==("__classdict__":Str))=false:=by decide):PE X (.Name x pos) (tVar i):=by
 intro pins s σ H Q I h
 obtain⟨v,e,h⟩:=h
 obtain⟨m,hn,M⟩:=I.loc
 obtain⟨u,r,l⟩:=M i x v O e L
 have fin:EP X pins σ Q u s:=⟨v,H,I,r,h⟩
 rcases l with⟨hk,hm⟩|⟨hk,c,G,j⟩
 .exact wpAny_Name (wpAny_loadName_local I.ok.kind hk hn hm fin) hd
 .rcases hk with hk|hk
  .exact wpAny_Name (wpAny_loadName_cell I.ok.kind hk G j fin) hd
  .exact wpAny_Name (wpAny_loadName_free I.ok.kind hk G j fin z) hd
theorem pe_int {i j pos}:PE X (.Constant (.int i) j pos) (tC (.int i)):=fun _ _ _ H _ I h=>wpAny_Constant_int ⟨.int i,H,I.tok _,⟨_,rfl⟩,h⟩
theorem pe_bl {b j pos}:PE X (.Constant (.bool b) j pos) (tC (.bl b)):=fun _ _ _ H _ I h=>Constant_bool ⟨.bl b,H,I,rfl,h⟩
theorem pe_str {x j pos}:PE X (.Constant (.str x) j pos) (tC (.str x)):=fun _ _ _ H _ I h=>Calls.Constant_str ⟨.str x,H,I.tok _,⟨_,rfl⟩,h⟩
def Gl (X:Cx)(x:Str):Prop:=X.env.kindOf x=some .globalImplicit
theorem P8 {E:Value->Shared->Prop}{pins:List (Addr×Obj)}{s:Shared}{σ:St}{H:Hp}{x:Str}{u:Value}{pos:Pos}{Q:Value->Shared->Prop}(I:Inv X pins σ H s)(i:Gl X x)(hm:X.mg x=some u)(h:Q u s)
  (hd:(x==("__debug__":Str))=false:=by decide):wpAny (model X.prog X.w) X.A (eval (.Name x pos) X.env) Q E s:=
 Calls.Name_function_global I.ok.kind i (Calls.loadGlobal_global (by rw[I.ok.glob];exact I.mod.glob.keeps I.bk) hm h) hd
theorem J3 {E:Value->Shared->Prop}{pins:List (Addr×Obj)}{s:Shared}{σ:St}{H:Hp}{x:Str}{u:Value}{pos:Pos}{Q:Value->Shared->Prop}(I:Inv X pins σ H s)(j:Gl X x)(hm:X.mg x=none)(i:bootBuiltins x=some u)(h:Q u s)
  (hn:x≠"__name__":=by decide) (hd:(x==("__debug__":Str))=false:=by decide):wpAny (model X.prog X.w) X.A (eval (.Name x pos) X.env) Q E s:=by
 obtain⟨mb,h1,h2⟩:=I.mod.blt
 exact Calls.Name_function_global I.ok.kind j (Calls.loadGlobal_builtin (by rw[I.ok.glob];exact I.mod.glob.keeps I.bk) hm (by rw[I.ok.blt];exact h1.keeps I.bk) ((h2 x hn).trans i) h) hd
theorem zg7 {x:Str}{v:V}{u:Value}{pos:Pos}(i:Gl X x)(hm:X.mg x=some u)(r:RelV v u)(hd:(x==("__debug__":Str))=false:=by decide):PE X (.Name x pos) (tC v):=
 fun _ _ _ H _ I h=>P8 I i hm ⟨v,H,I,r,h⟩ hd
theorem xw4 {x:Str}{v:V}{u:Value}{pos:Pos}(j:Gl X x)(hm:X.mg x=none)(i:bootBuiltins x=some u)(r:RelV v u)(hn:x≠"__name__":=by decide)(hd:(x==("__debug__":Str))=false:=by decide):PE X (.Name x pos) (tC v):=
 fun _ _ _ H _ I h=>J3 I j hm i ⟨v,H,I,r,h⟩ hn hd
variable {a b:Expr}{ta tb:TE}{pos:Pos}
def tB (t:TE):TT:=fun σ H Q=>t σ H fun x H1=>∃ c,x= .bl c/\Q c H1
variable {tA tB':TT}{rest:List Expr}
def tOr (t u:TT):TT:=fun σ H Q=>t σ H fun c H1=>if c=true then Q true H1 else u σ H1 Q
theorem xp7 (ha:PT X a tA):PW X (.BoolOp .Or [a] pos) tA:=by
 intro i pins s σ H Q I h
 refine isTrue_or (thn (ha pins s σ H Q I h) fun c s1 e=>?_)
 cases c with
 |false=>exact isTrue_or_nil e
 |true=>exact e
theorem xg6 (ha:PT X a tA)(L:PW X (.BoolOp .Or (b::rest) pos) tB'):PW X (.BoolOp .Or (a::b::rest) pos) (tOr tA tB'):=by
 intro G pins s σ H Q I h
 refine isTrue_or (thn (ha pins s σ H _ I h) fun c s1 i=>?_)
 obtain⟨H1,z,j⟩:=i
 cases c with
 |true=>exact⟨H1,z,j⟩
 |false=>exact L G pins s1 σ H1 Q z j
def xh7 (ta:TE):TE:=fun σ H Q=>ta σ H fun x H1=>∃ c,x= .bl c/\Q (.bl (!c)) H1
theorem xo4 (ha:PE X a ta):PE X (.UnaryOp .Not a pos) (xh7 ta):=by
 intro pins s σ H Q I h
 refine UnaryOp_ (thn (ha pins s σ H _ I h) fun v s1 i=>?_)
 obtain⟨x,H1,z,r1,j⟩:=i
 obtain⟨c,rfl,j⟩:=j
 cases r1
 exact not_of (wpAny_truthy_bool ⟨.bl (!c),H1,z,rfl,j⟩)
def tIf (t:TT)(ta tb:TE):TE:=fun σ H Q=>t σ H fun c H1=>if c=true then ta σ H1 Q else tb σ H1 Q
theorem yf1 {c:Expr}(G:PT X c tA)(ha:PE X a ta)(L:PE X b tb):PE X (.IfExp c a b pos) (tIf tA ta tb):=by
 intro pins s σ H Q I h
 refine wpAny_IfExp (thn (G pins s σ H _ I h) fun d s1 i=>?_)
 obtain⟨H1,z,j⟩:=i
 cases d with
 |true=>exact ha pins s1 σ H1 Q z j
 |false=>exact L pins s1 σ H1 Q z j
end
end
section
def SqL (K:W.Frag)(H:Hp)(a:Addr)(xs:List V):Prop:=
 Rd H a (.lst xs)\/
  ∃(o:Obj)(its:Array Value)(n:Nat),K.lookup a=some o/\o.cls= .type "list"/\o.dict=none/\o.data= .seq its n/\its.size<=sizeLine/\Vals xs its.toList
def SqT (K:W.Frag)(H:Hp)(a:Addr)(xs:List V):Prop:=
 Rd H a (.tup xs)\/
  ∃(o:Obj)(its:Array Value)(n:Nat),K.lookup a=some o/\o.cls= .type "tuple"/\o.data= .seq its n/\its.size<=sizeLine/\Vals xs its.toList
noncomputable def absV:Value->Option V
 | .none=>some .non
 | .bool b=>some (.bl b)
 | .int i _=>some (.int i)
 | .str x _=>some (.str x)
 | .bytes b _=>some (.byt b)
 | .float b _=>some (.flt b)
 | .ref a=>some (.ref a)
 | .type n=>some (.ty n)
 |_=>none
theorem RelV.abs {x:V}{u:Value}(r:RelV x u):absV u=some x:=by
 cases x with
 |non=>cases r;rfl
 |bl _=>cases r;rfl
 |int _=>obtain⟨t,rfl⟩:=r;rfl
 |str _=>obtain⟨t,rfl⟩:=r;rfl
 |byt _=>obtain⟨t,rfl⟩:=r;rfl
 |flt _=>obtain⟨t,rfl⟩:=r;rfl
 |ref _=>cases r;rfl
 |ty _=>cases r;rfl
theorem RelV.inj {x y:V}{u:Value}(r:RelV x u)(q:RelV y u):x=y:=Option.some.inj (r.abs.symm.trans q.abs)
theorem Vals.inj:∀{xs ys:List V}{us:List Value},Vals xs us->Vals ys us->xs=ys
 |_,_,_,.nil,.nil=>rfl
 |_,_,_,.cons r t,.cons r' t'=>by rw[r.inj r',Vals.inj t t']
section
variable {X:Cx}{pins:List (Addr×Obj)}{σ:St}{H:Hp}{s:Shared}{a:Addr}{xs ys:List V}
theorem SqL.of {K:W.Frag}(h:H a=some (.lst xs)):SqL K H a xs:=.inl (.inl h)
theorem SqT.of {K:W.Frag}(h:H a=some (.tup xs)):SqT K H a xs:=.inl (.inl h)
theorem Inv.list (I:Inv X pins σ H s)(h:SqL X.K H a xs):∃ its:List Value,Vals xs its/\PlainL s.heap a its.toArray/\xs.length<=sizeLine:=by
 rcases h with h|⟨o,its,n,hk,j,hd,i,G,r⟩
 .obtain⟨z,its,n,r,e⟩:=h.ok I.hok
  exact⟨its,r,⟨_,n,e,rfl,rfl,rfl⟩,z⟩
 .refine⟨its.toList,r,⟨o,n,I.kIn a o hk,j,hd,by simpa using i⟩,?_⟩
  have e:=r.length
  simp only[Array.length_toList]at e
  omega
theorem Inv.tuple (I:Inv X pins σ H s)(h:SqT X.K H a xs):∃ its:List Value,Vals xs its/\IsTup s.heap a its.toArray/\xs.length<=sizeLine:=by
 rcases h with h|⟨o,its,n,hk,j,i,G,r⟩
 .obtain⟨z,its,r,p⟩:=h.ok I.hok
  exact⟨its,r,p,z⟩
 .refine⟨its.toList,r,⟨o,I.kIn a o hk,j,n,by simpa using i⟩,?_⟩
  have e:=r.length
  simp only[Array.length_toList]at e
  omega
theorem Inv.list_inj (I:Inv X pins σ H s)(h:SqL X.K H a xs)(h':SqL X.K H a ys):xs=ys:=by
 obtain⟨its,r,⟨o,n,e,_,_,d⟩,_⟩:=I.list h
 obtain⟨its',j,⟨o',n',i,_,_,d'⟩,_⟩:=I.list h'
 rw[e]at i;cases i
 rw[d]at d'
 injection d' with z _
 have:its=its':=by simpa using congrArg Array.toList z
 subst this
 exact r.inj j
theorem Inv.tuple_inj (I:Inv X pins σ H s)(h:SqT X.K H a xs)(h':SqT X.K H a ys):xs=ys:=by
 obtain⟨its,r,⟨o,e,_,n,d⟩,_⟩:=I.tuple h
 obtain⟨its',j,⟨o',i,_,n',d'⟩,_⟩:=I.tuple h'
 rw[e]at i;cases i
 rw[d]at d'
 injection d' with z _
 have:its=its':=by simpa using congrArg Array.toList z
 subst this
 exact r.inj j
end
noncomputable abbrev Cx.wish (X:Cx)(E:Value->Shared->Prop):Cx:={ X with xe:=E }
noncomputable abbrev Cx.nox (X:Cx):Cx:=X.wish fun _ _=>False
theorem Cx.Ok.wish {X:Cx}(ok:X.Ok)(E:Value->Shared->Prop):(X.wish E).Ok:=
 ⟨ok.mod,ok.kind,ok.glob,ok.blt,ok.above,ok.inj,ok.has,ok.cab,ok.hd,ok.frames,ok.stk,ok.exf,ok.bs,ok.bsz,ok.noex,ok.exfs,ok.funs,ok.frf⟩
theorem Cx.Ok.unwish {X:Cx}{E:Value->Shared->Prop}(ok:(X.wish E).Ok):X.Ok:=
 ⟨ok.mod,ok.kind,ok.glob,ok.blt,ok.above,ok.inj,ok.has,ok.cab,ok.hd,ok.frames,ok.stk,ok.exf,ok.bs,ok.bsz,ok.noex,ok.exfs,ok.funs,ok.frf⟩
section
variable {X:Cx}{pins:List (Addr×Obj)}{σ:St}{H:Hp}{s:Shared}{E:Value->Shared->Prop}
theorem Inv.wish (I:Inv X pins σ H s)(E:Value->Shared->Prop):Inv (X.wish E) pins σ H s:=⟨I.ok.wish E,I.os,I.bare,I.base,I.loc,I.cell,I.free,I.freeC,I.pin,I.hok,I.len⟩
theorem Inv.unwish (I:Inv (X.wish E) pins σ H s):Inv X pins σ H s:=⟨I.ok.unwish,I.os,I.bare,I.base,I.loc,I.cell,I.free,I.freeC,I.pin,I.hok,I.len⟩
theorem SP.unwish {D:Ends}{f:Flow}{s':Shared}(h:SP (X.wish E) pins D f s'):SP X pins D f s':=by
 cases f with
 |next=>obtain⟨i,H',I,q⟩:=h;exact⟨i,H',I.unwish,q⟩
 |brk=>obtain⟨i,H',I,q⟩:=h;exact⟨i,H',I.unwish,q⟩
 |cont=>obtain⟨i,H',I,q⟩:=h;exact⟨i,H',I.unwish,q⟩
 |ret u=>obtain⟨v,i,H',I,r,q⟩:=h;exact⟨v,i,H',I.unwish,r,q⟩
theorem PSs.nox {st:List Stmt}{t:TS}(h:PSs X.nox st t):PSs X st t:=fun pins s σ H D I hw=>
 wpAny_mono (h pins s σ H D (I.wish _) hw) (fun _ _ q=>q.unwish) fun _ _ z=>False.elim z
end
section
variable {X:Cx}{st:Stmt}{rest:List Stmt}{t u:TS}{e:Expr}{te:TE}{pos:Pos}
def xh8:TS:=fun D σ H=>D.nx σ H
def tSeq (t u:TS):TS:=fun D σ H=>t { D with nx:=u D } σ H
theorem pss_nil:PSs X [] xh8:=fun _ _ σ H _ I h=>wpAny_execs_nil ⟨σ,H,I,h⟩
theorem K3 (h1:PS X st t)(h2:PSs X rest u):PSs X (st::rest) (tSeq t u):=by
 intro pins s σ H D I h
 refine wpAny_execs_cons (thn (h1 pins s σ H { D with nx:=u D } I h) fun f s1 q=>?_)
 cases f with
 |next=>
  obtain⟨i,H',j,q⟩:=q
  exact h2 pins s1 i H' D j q
 |ret v=>exact q
 |brk=>exact q
 |cont=>exact q
theorem G8 (h1:PS X st t):PSs X [st] t:=by
 intro pins s σ H D I h
 refine wpAny_execs_cons (thn (h1 pins s σ H D I h) fun f s1 q=>?_)
 cases f with
 |next=>exact wpAny_execs_nil q
 |ret v=>exact q
 |brk=>exact q
 |cont=>exact q
theorem Inv.quiet {pins:List (Addr×Obj)}{σ:St}{H:Hp}{s:Shared}(I:Inv X pins σ H s):interactive X.env=false:=by simp[interactive,I.ok.kind]
def yh1 (te:TE):TS:=fun D σ H=>te σ H fun _ H1=>D.nx σ H1
theorem S7 (z:PE X e te)(j:swapsWith e none pos.line X.env=pure false:=by rfl):PS X (.Expr e pos) (yh1 te):=by
 intro pins s σ H D I h
 exact wpAny_Expr_any (thn (z pins s σ H _ I h) fun v s1 ⟨x,H1,G,r1,i⟩=>⟨σ,H1,G,i⟩) I.quiet j
def tRet (te:TE):TS:=fun D σ H=>te σ H D.rt
theorem U1 (j:PE X e te):PS X (.Return (some e) pos) (tRet te):=by
 intro pins s σ H D I h
 exact wpAny_Return_some (thn (j pins s σ H _ I h) fun v s1 ⟨x,H1,z,r1,i⟩=>⟨x,σ,H1,z,r1,i⟩)
def tIfS (c:TT)(t u:TS):TS:=fun D σ H=>c σ H fun b H1=>if b=true then t D σ H1 else u D σ H1
theorem yv4 {c:Expr}{a b:List Stmt}{tc:TT}(G:PT X c tc)(ha:PSs X a t)(L:PSs X b u):PS X (.If c a b pos) (tIfS tc t u):=by
 intro pins s σ H D I h
 refine wpAny_If (thn (G pins s σ H _ I h) fun d s1 i=>?_)
 obtain⟨H1,z,j⟩:=i
 cases d with
 |true=>exact ha pins s1 σ H1 D z j
 |false=>exact L pins s1 σ H1 D z j
def xq7:TS:=fun _ _ _=>False
theorem ps_never:PS X st xq7:=fun _ _ _ _ _ _ h=>h.elim
end
noncomputable abbrev TG:=V->St->Hp->(St->Hp->Prop)->Prop
noncomputable abbrev TGs:=List V->St->Hp->(St->Hp->Prop)->Prop
def PG (X:Cx)(target:Expr)(t:TG):Prop:=
 ∀(pins:List (Addr×Obj))(s:Shared)(σ:St)(H:Hp)(v:V)(u:Value)(Q:St->Hp->Prop),Inv X pins σ H s->RelV v u->t v σ H Q->
  wpAny (model X.prog X.w) X.A (assign target X.env u) (fun _ s'=>∃ σ' H',Inv X pins σ' H' s'/\Q σ' H') X.xe s
def PGs (X:Cx)(ts:List Expr)(t:TGs):Prop:=
 ∀(pins:List (Addr×Obj))(s:Shared)(σ:St)(H:Hp)(vs:List V)(us:List Value)(Q:St->Hp->Prop),Inv X pins σ H s->Vals vs us->t vs σ H Q->
  wpAny (model X.prog X.w) X.A (assignInOrder ((assignEach ts X.env).map (·.2)) us) (fun _ s'=>∃ σ' H',Inv X pins σ' H' s'/\Q σ' H') X.xe s
noncomputable abbrev TSet:=V->V->V->Hp->(Hp->Prop)->Prop
def PSet (X:Cx)(t:TSet):Prop:=
 ∀(pins:List (Addr×Obj))(s:Shared)(σ:St)(H:Hp)(o i v:V)(ov iv u:Value)(Q:Hp->Prop),Inv X pins σ H s->RelV o ov->RelV i iv->RelV v u->t o i v H Q->
  wpAny (model X.prog X.w) X.A (setItem ov iv u) (fun _ s'=>∃ H',Inv X pins σ H' s'/\Q H') X.xe s
section
variable {X:Cx}{pos:Pos}
def O0 (i:Nat):TG:=fun v σ H Q=>Q (σ.set i (some v)) H
theorem w6 {i:Nat}{x:Str}(G:X.N.Nodup)(hi:X.N[i]? =some x)(j:Loc X.env.scope x)(z:X.fn x=true\/X.env.scope.names.lookup x=some .local:=by first|exact .inl rfl|exact .inr rfl|assumption):PG X (.Name x pos) (O0 i):=by
 intro pins s σ H v u Q I r h
 exact wpAny_assign_Name (zr0 I G hi j r (fun s' L=>⟨_,H,L,h⟩) z)
def gNil:TGs:=fun vs σ H Q=>vs=[]/\Q σ H
def xj2 (t:TG)(u:TGs):TGs:=fun vs σ H Q=>∃ v r,vs=v::r/\t v σ H fun σ' H'=>u r σ' H' Q
theorem Z0:PGs X [] gNil:=by
 intro pins s σ H vs us Q I r h
 obtain⟨e,h⟩:=h
 subst e
 cases r
 exact assignInOrder_nil ⟨σ,H,I,h⟩
theorem v5 {e:Expr}{es:List Expr}{t:TG}{u:TGs}(h1:PG X e t)(h2:PGs X es u)
  (G:(assignEach (e::es) X.env).map (·.2)=assign e X.env::(assignEach es X.env).map (·.2):=by rfl):PGs X (e::es) (xj2 t u):=by
 intro pins s σ H vs us Q I r h
 obtain⟨v,M,e1,h⟩:=h
 subst e1
 cases r with
 |cons r rr=>
  rw[G]
  refine assignInOrder_cons (thn (h1 pins s σ H _ _ _ I r h) fun _ s1 i=>?_)
  obtain⟨j,H1,L,z⟩:=i
  exact h2 pins s1 j H1 _ _ Q L rr z
def gTup (K:W.Frag)(n:Nat)(t:TGs):TG:=fun v σ H Q=>∃ a xs,v= .ref a/\SqT K H a xs/\xs.length=n/\t xs σ H Q
theorem W1 {es:List Expr}{k:Nat}{t:TGs}{n:Nat}(N:X.calm=true)(h:PGs X es t)
  (hn:(assignEach es X.env).length=n:=by rfl) (i:(assignEach es X.env).findIdx? (·.1)=none:=by rfl):PG X (.Tuple es k pos) (gTup X.K n t):=by
 intro pins s σ H v u Q I r hw
 obtain⟨a,xs,e1,L,M,hw⟩:=hw
 subst e1
 cases r
 obtain⟨its,j,G,R⟩:=I.tuple L
 refine assign_Tuple_tuple (I.ok.hd N) G (by simp[hn,<-M,j.length]) i fun h' z=>?_
 have O:Inv X pins σ H { s with heap:=h' }:=I.kept (t':=s.toks) fun b o e=>z b o (Nat.ne_of_lt (Heap.lt_size e)) e
 exact h pins _ σ H xs _ Q O (by simpa using j) hw
def gSub (to ti:TE)(t:TSet):TG:=fun v σ H Q=>to σ H fun o H1=>ti σ H1 fun i H2=>t o i v H2 fun H3=>Q σ H3
theorem zt6 {o i:Expr}{to L:TE}{t:TSet}(S:PE X o to)(hi:PE X i L)(R:PSet X t)
  (ha:∀ v,assign (.Subscript o i pos) X.env v=(do
   let z ← holding [v] (eval o X.env)
   let G ← holding [v,z] (eval i X.env)
   standAt pos
   holding [v,z,G] (setItem z G v)
   release [v,z,G] []):=by intro _;rfl):PG X (.Subscript o i pos) (gSub to L t):=by
 intro pins s σ H v u Q I r h
 rw[ha]
 refine wpAny_bind (wpAny_holding (thn (S pins s σ H _ I h) fun z s1 j=>?_))
 obtain⟨x,H1,Z,r1,O⟩:=j
 refine wpAny_bind (wpAny_holding (thn (hi pins s1 σ H1 _ Z O) fun G s2 j=>?_))
 obtain⟨y,H2,Y,r2,N⟩:=j
 refine wpAny_bind (wpAny_standAt (wpAny_bind (wpAny_holding (thn (R pins s2 σ H2 x y v z G u _ Y r1 r2 r N) fun _ s3 j=>?_))))
 obtain⟨H3,U,M⟩:=j
 exact wpAny_release ⟨σ,H3,U,M⟩
def tAsg (te:TE)(g:TG):TS:=fun D σ H=>te σ H fun x H1=>g x σ H1 D.nx
theorem U2 {tg e:Expr}{te:TE}{g:TG}(L:PE X e te)(G:PG X tg g)(z:swapsWithSole [tg] e pos.line X.env=pure false:=by rfl)(hw:swappedStores [tg] e X.env=pure none:=by rfl)
  (h1:(assignEach [tg] X.env).map (·.2)=[assign tg X.env]:=by rfl):PS X (.Assign [tg] e pos) (tAsg te g):=by
 intro pins s σ H D I h
 refine wpAny_Assign_stores (thn (L pins s σ H _ I h) fun v s1 i=>?_) z hw
 obtain⟨x,H1,M,r1,j⟩:=i
 rw[h1]
 exact thn (G pins s1 σ H1 x v _ M r1 j) fun _ s2 q=>q
theorem zt4 {i:Nat}{x:Str}{e:Expr}{te:TE}{pos':Pos}(R:X.N.Nodup)(hi:X.N[i]? =some x)(G:Loc X.env.scope x)(O:PE X e te)(L:swapsWith e (some (.Name x pos')) pos.line X.env=pure false:=by rfl)(M:X.fn x=true\/X.env.scope.names.lookup x=some .local:=by first|exact .inl rfl|exact .inr rfl|assumption):
  PS X (.Assign [.Name x pos'] e pos) (tAsg te (O0 i)):=by
 intro pins s σ H D I h
 refine wpAny_Assign_Name (thn (O pins s σ H _ I h) fun v s1 j=>?_) L
 obtain⟨y,H1,U,r1,z⟩:=j
 exact zr0 U R hi G r1 (fun s2 S=>⟨_,H1,S,z⟩) M
end
section
variable {X:Cx}{pos:Pos}
def xq6 (c:TT)(tb:TS):TS:=fun D σ H=>∃ W:Nat->St->Hp->Prop,(∃ m,W m σ H)/\∀ m σ H,W m σ H->
 c σ H fun b H1=>if b=true then ∃ N:St->Hp->Prop,(∀ σ' H',N σ' H'->∃ m',m'<m/\W m' σ' H')/\tb { D with nx:=N,ct:=N,bk:=D.nx } σ H1 else D.nx σ H1
theorem yg7 {c:Expr}{body:List Stmt}{tc:TT}{tb:TS}(hp:PassesOwn (model X.prog X.w) X.A X.env X.xe)(hc:PT X c tc)(hb:PSs X body tb):PS X (.While c body [] pos) (xq6 tc tb):=by
 intro pins s σ H D I h
 obtain⟨W,⟨m0,w0⟩,turn⟩:=h
 refine wpAny_While (codeAny_whileLoop (fun n s'=>∃ z H',Inv X pins z H' s'/\W n z H') ?_ m0 ⟨σ,H,I,w0⟩)
 rintro n s1 ⟨j,H1,I1,w1⟩
 refine wpAny_passesOwn hp (thn (hc pins s1 j H1 _ I1 (turn n j H1 w1)) fun b s2 G=>?_)
 obtain⟨H2,I2,O⟩:=G
 cases b with
 |true=>
  obtain⟨N,Z,O⟩:=O
  rw[if_pos rfl]
  refine wpAny_passesOwn hp (thn (hb pins s2 j H2 _ I2 O) fun f s3 M=>?_)
  cases f with
  |next=>
   obtain⟨i,L,Y,S⟩:=M
   obtain⟨U,hm,R⟩:=Z i L S
   exact⟨U,hm,i,L,Y,R⟩
  |cont=>
   obtain⟨i,L,Y,S⟩:=M
   obtain⟨U,hm,R⟩:=Z i L S
   exact⟨U,hm,i,L,Y,R⟩
  |brk=>exact M
  |ret v=>exact M
 |false=>
  rw[if_neg Bool.false_ne_true]
  exact wpAny_execs_nil ⟨j,H2,I2,O⟩
end
structure It where
 go:Nat->Hp->Prop
 yld:Nat->Hp->V->Hp->Prop
 stop:Nat->Hp->Prop
def FpOk (X:Cx)(pins:List (Addr×Obj))(H:Hp)(b:Addr):Prop:=
 H b=none/\b≠X.env.locals/\b∉X.fs/\(b∈X.ex\/X.s₀.heap.objs.size<=b)/\(∀ x c,X.env.cells.lookup x=some c->c≠b)/\∀ p∈X.pn++pins,p.1≠b
theorem Inv.fpOk {X:Cx}{pins:List (Addr×Obj)}{σ:St}{H H':Hp}{s:Shared}{b:Addr}(I:Inv X pins σ H s)(i:s.heap.objs.size<=b)(hn:H' b=none):FpOk X pins H' b:=by
 refine⟨hn,Nat.ne_of_gt (Nat.lt_of_lt_of_le I.lt i),I.nofs i,.inr (Nat.le_trans I.sz i),fun x c e z=>?_,fun p hp z=>?_⟩
 .obtain⟨v,q⟩:=I.cell x c e
  exact absurd (Nat.lt_of_lt_of_le q.lt (by rw[z];exact i)) (Nat.lt_irrefl _)
 .exact absurd (Nat.lt_of_lt_of_le (Heap.lt_size (I.pin p hp).1) (by rw[z];exact i)) (Nat.lt_irrefl _)
structure Turn (P:Program)(w:World)(K:W.Frag)(tg:Expr)(J:It)(fp:List Addr)(it:Addr)(tn:Nat->Heap->Prop):Prop where
 mem:it∈fp
 obj:∀ i h,tn i h->∀ b∈fp,∃ o,h.get? b=some o/\∀ v,o.data≠ .cell v
 keep:∀ i h h',tn i h->(∀ b∈fp,∀ o,h.get? b=some o->h'.get? b=some o)->tn i h'
 item:∀(X:Cx),X.prog=P->X.w=w->X.K=K->X.calm=true->∀(i:Nat)(pins:List (Addr×Obj))(s:Shared)(σ:St)(H:Hp)(E:Value->Shared->Prop),Inv X pins σ H s->(∀ b∈fp,FpOk X pins H b)->tn i s.heap->J.go i H->
  wpAny (model P w) X.A (pyNext (.ref it)) (fun r s1=>∃ u,r=some u/\
   wpAny (model P w) X.A (letOwnedTupleGo tg (.ref it) u) (fun _ s2=>∃ x H',Inv X pins σ H' s2/\RelV x u/\J.yld i H x H'/\tn (i+1) s2.heap/\∀ b∈fp,H' b=none) E s1) E s
 done:∀(X:Cx),X.prog=P->X.w=w->X.K=K->X.calm=true->∀(i:Nat)(pins:List (Addr×Obj))(s:Shared)(σ:St)(H:Hp)(E:Value->Shared->Prop),Inv X pins σ H s->(∀ b∈fp,FpOk X pins H b)->tn i s.heap->J.stop i H->
  wpAny (model P w) X.A (pyNext (.ref it)) (fun r s1=>r=none/\Inv X pins σ H s1) E s
 self:∀(A:Around)(i:Nat)(s:Shared)(Q:Value->Shared->Prop)(E:Value->Shared->Prop),tn i s.heap->Q (.ref it) s->wpAny (model P w) A (pyIter (.ref it)) Q E s
noncomputable abbrev TI:=St->Hp->(It->Hp->Prop)->Prop
def PIE (X:Cx)(pins:List (Addr×Obj))(σ:St)(tg:Expr)(R:It->Hp->Prop)(itv:Value)(s2:Shared):Prop:=
 ∃(it:Addr)(fp:List Addr)(tn:Nat->Heap->Prop)(J:It)(H':Hp),itv= .ref it/\Inv X pins σ H' s2/\Turn X.prog X.w X.K tg J fp it tn/\tn 0 s2.heap/\(∀ b∈fp,FpOk X pins H' b)/\R J H'
def PI (X:Cx)(tg iter:Expr)(wi:TI):Prop:=
 ∀(pins:List (Addr×Obj))(s:Shared)(σ:St)(H:Hp)(R:It->Hp->Prop),Inv X pins σ H s->wi σ H R->
  wpAny (model X.prog X.w) X.A (eval iter X.env) (fun v s1=>wpAny (model X.prog X.w) X.A (pyIter v) (PIE X pins σ tg R) X.xe s1) X.xe s
theorem xt0 {M:Model}{A:Around}{E:Value->Shared->Prop}{s:Shared}{tg:Expr}{it:Addr}{u:Value}{o:Obj}{n:String}{vs:Array Value}{Q:Unit->Shared->Prop}(j:s.heap.get? it=some o)(z:o.cls= .type n)(hd:o.data= .fields vs)
  (hn:["enumerate","zip","dict_itemiterator","dict_reverseitemiterator","odict_iterator","itertools.zip_longest","itertools.pairwise"].contains n=false) (i:Q () s):wpAny M A (letOwnedTupleGo tg (.ref it) u) Q E s:=by
 unfold letOwnedTupleGo
 cases tg <;> first
  |exact wpAny_pure i
  | (cases u <;> first
    |exact wpAny_pure i
    | (refine wpAny_bind (wpAny_load j ?_)
       rw[z,hd]
       show wpAny M A (if (["enumerate","zip","dict_itemiterator","dict_reverseitemiterator","odict_iterator","itertools.zip_longest","itertools.pairwise"].contains n&&vs[0]? ==some (rawInt _))=true then _ else _) Q E s
       rw[if_neg (by intro h;rw[hn,Bool.false_and]at h;cases h)]
       exact wpAny_pure i))
noncomputable def Itl (K:W.Frag)(a:Addr):It:=
 ⟨fun i H=>∃ xs x,SqL K H a xs/\xs[i]? =some x,fun i H x H'=>H'=H/\∀ xs,SqL K H a xs->xs[i]? =some x,fun i H=>∃ xs,SqL K H a xs/\xs.length<=i⟩
noncomputable def Itr (lo:Int)(n:Nat):It:=⟨fun i _=>i<n,fun i H x H'=>H'=H/\x= .int (lo+i),fun i _=>n<=i⟩
theorem ys0 {P:Program}{w:World}{K:W.Frag}{tg:Expr}(a it:Addr):Turn P w K tg (Itl K a) [it] it (fun i h=>h.IsListIter it a i) where
 mem:=by simp
 obj:=fun i h st b j=>by
  have e:b=it:=by simpa using j
  subst e
  obtain⟨o,e,c,d⟩:=st
  exact⟨o,e,fun v z=>by rw[d]at z;cases z⟩
 keep:=fun i h h' st k=>st.at fun o e=>k it (by simp) o e
 item:=by
  intro X S hw U hc i pins s σ H E I M st R
  subst S hw U
  obtain⟨xs,x,L,O⟩:=R
  obtain⟨its,N,p,hz⟩:=I.list L
  obtain⟨u,hu,ru⟩:=N.get O
  obtain⟨f0,f1,f2,f3,Z,Y⟩:=M it (by simp)
  refine wpAny_pyNext_list_item st p.isList (x:=u) (by simpa using hu) fun h' G sb=>?_
  have I1:Inv X pins σ H { s with heap:=h' }:=I.turned (t':=s.toks) (fun b o j e=>(sb.2 b j).trans e) f0 f1 f3 Z Y
  obtain⟨o,e,c,d⟩:=id G
  exact⟨u,rfl,xt0 (s:={ s with heap:=h' }) e c d (by decide) ⟨x,H,I1,ru,⟨rfl,fun ys hy=>by rw[I.list_inj hy L];exact O⟩,G,fun b j=>(M b j).1⟩⟩
 done:=by
  intro X S hw U hc i pins s σ H E I M st R
  subst S hw U
  obtain⟨xs,L,O⟩:=R
  obtain⟨its,N,p,hz⟩:=I.list L
  obtain⟨f0,f1,f2,f3,Z,Y⟩:=M it (by simp)
  have hl:=N.length
  exact wpAny_pyNext_list_end (I.ok.hd hc) st p.isList (by simp;omega) fun h' eb=>⟨rfl,I.turned (t':=s.toks) (fun b o j e=>eb b o j e) f0 f1 f3 Z Y⟩
 self:=fun _ _ _ _ _ st h=>wpAny_pyIter_listiter st h
theorem yw0 {P:Program}{w:World}{K:PySem.W.Frag}{tg:Expr}(it:Addr)(lo:Int)(n:Nat):Turn P w K tg (Itr lo n) [it] it (fun i h=>IsRangeIter h it (lo+(i:Nat)*1) ((n:Int)-(i:Nat)) 1) where
 mem:=by simp
 obj:=fun i h st b j=>by
  have e:b=it:=by simpa using j
  subst e
  exact⟨_,st,fun v z=>by
   have z':Data.fields _=Data.cell v:=z
   cases z'⟩
 keep:=fun i h h' st k=>k it (by simp) _ st
 item:=by
  intro X O hw R N i pins s σ H E I L st M
  subst O hw R
  obtain⟨f0,Z,f2,Y,U,S⟩:=L it (by simp)
  have W:=Walks.range (prog:=X.prog) (w:=X.w) (I.ok.hd N) it lo 1 n
  refine W.item i s _ _ M st fun v h' tk hv G kk=>?_
  obtain⟨t,rfl⟩:=hv
  have I1:Inv X pins σ H { s with heap:=h',toks:=tk }:=I.turned (fun b o j e=>kk b o (by simpa using j) e) f0 Z Y U S
  refine⟨_,rfl,xt0 (s:={ s with heap:=h',toks:=tk }) (n:="range_iterator") G rfl rfl (by decide) ⟨.int (lo+i),H,I1,⟨t,?_⟩,⟨rfl,rfl⟩,G,fun b j=>(L b j).1⟩⟩
  rw[Int.mul_one]
 done:=by
  intro X O hw R N i pins s σ H E I L st M
  subst O hw R
  obtain⟨f0,Z,f2,Y,U,S⟩:=L it (by simp)
  exact wpAny_pyNext_range_end (I.ok.hd N) st (by have:n<=i:=M;omega) fun h' eb=>⟨rfl,I.turned (t':=s.toks) (fun b o j e=>eb b o j e) f0 Z Y U S⟩
 self:=fun _ _ _ _ _ st h=>wpAny_pyIter_rangeiter st h
end
section
section
variable {X:Cx}{tg:Expr}
def xe5 (K:W.Frag)(tl:TE):TI:=fun σ H R=>tl σ H fun x H1=>∃ a,x= .ref a/\(∃ xs,SqL K H1 a xs)/\R (Itl K a) H1
theorem yq8 {l:Expr}{tl:TE}(L:PE X l tl):PI X tg l (xe5 X.K tl):=by
 intro pins s σ H R I h
 refine thn (L pins s σ H _ I h) fun v s1 i=>?_
 obtain⟨x,H1,j,r1,z⟩:=i
 obtain⟨a,e,⟨xs,G⟩,q⟩:=z
 subst e
 cases r1
 obtain⟨its,N,p,O⟩:=j.list G
 refine wpAny_pyIter_list p.isList ?_
 refine⟨s1.heap.objs.size,[s1.heap.objs.size],_,_,H1,rfl,j.kept (t':=s1.toks) fun b o e=>Heap.get?_push_of_some _ e,ys0 a _,⟨_,Heap.get?_push_size _ rfl,rfl,rfl⟩,fun b M=>?_,q⟩
 have e:b=s1.heap.objs.size:=by simpa using M
 subst e
 exact j.fpOk (Nat.le_refl _) (j.hok.fresh (Nat.le_refl _))
theorem zb5 {pins:List (Addr×Obj)}{σ:St}{H:Hp}{s:Shared}{R:It->Hp->Prop}{E:Value->Shared->Prop}{lo hi:Int}{t u v:Tok}{tk:Nat}(I:Inv X pins σ H s)(h1:-(2^62)<=lo)(h2:lo<2^62)(G:-(2^62)<=hi)(z:hi<2^62)
  (q:R (Itr lo (hi-lo).toNat) H):wpAny (model X.prog X.w) X.A (pyIter (.ref s.heap.objs.size)) (PIE X pins σ tg R) E { s with heap:=s.heap.push { cls:=.type "range",data:=.fields #[.int lo t,.int hi u,.int 1 v] },toks:=tk }:=by
 refine wpAny_pyIter_range (IsRange.new ..) (small_one h1 h2 G z) ?_
 have i:Inv X pins σ H { s with heap:=s.heap.push { cls:=.type "range",data:=.fields #[.int lo t,.int hi u,.int 1 v] },toks:=tk }:=I.kept fun b o e=>Heap.get?_push_of_some _ e
 refine⟨(s.heap.push { cls:=.type "range",data:=.fields #[.int lo t,.int hi u,.int 1 v] }).objs.size,[(s.heap.push { cls:=.type "range",data:=.fields #[.int lo t,.int hi u,.int 1 v] }).objs.size],_,_,H,rfl,
  i.kept (t':=tk) fun b o e=>Heap.get?_push_of_some _ e,yw0 _ lo (hi-lo).toNat,?_,fun b j=>?_,q⟩
 .have e1:lo+((0:Nat):Int)*1=lo:=by simp
  have e2:(((hi-lo).toNat:Nat):Int)-((0:Nat):Int)=Builtin.Range.rangeSize lo hi 1:=by rw[rangeSize_one];split <;> omega
  show IsRangeIter _ _ (lo+((0:Nat):Int)*1) ((((hi-lo).toNat:Nat):Int)-((0:Nat):Int)) 1
  rw[e1,e2]
  exact Heap.get?_push_size _ rfl
 .have e:b=(s.heap.push { cls:=.type "range",data:=.fields #[.int lo t,.int hi u,.int 1 v] }).objs.size:=by simpa using j
  subst e
  exact i.fpOk (Nat.le_refl _) (i.hok.fresh (Nat.le_refl _))
def xe4 (ta:TA):TI:=fun σ H R=>ta σ H fun vs H1=>∃ j:Int,vs=[.int j]/\ -(2^62)<=j/\j<2^62/\R (Itr 0 j.toNat) H1
def xe3 (ta:TA):TI:=fun σ H R=>ta σ H fun vs H1=>∃ i j:Int,vs=[.int i,.int j]/\(-(2^62)<=i/\i<2^62/\ -(2^62)<=j/\j<2^62)/\R (Itr i (j-i).toNat) H1
theorem yq7 {a:Expr}{ta:TA}{p pos:Pos}(M:Gl X "range")(hm:X.mg "range"=none)(ha:PA X [a] ta)(L:starEach [a] X.env=[(false,eval a X.env)]:=by rfl):PI X tg (.Call (.Name "range" p) [a] [] pos) (xe4 ta):=by
 intro pins s σ H R I h
 refine Call_ (J3 I M hm boot_range (PyProof.Rows.callWith_type1 (thn (ha pos pins s σ H _ I h) fun us s1 i=>?_) L rfl))
 obtain⟨vs,H1,N,r1,z⟩:=i
 obtain⟨j,e,z,G,q⟩:=z
 subst e
 cases r1 with
 |cons r rr=>
  cases rr
  obtain⟨t,rfl⟩:=r
  exact call_range_1 (zb5 N (by omega) (by omega) z G (by simpa using q))
theorem yq6 {a b:Expr}{ta:TA}{p pos:Pos}(Y:Gl X "range")(hm:X.mg "range"=none)(ha:PA X [a,b] ta)(U:starEach [a,b] X.env=[(false,eval a X.env),(false,eval b X.env)]:=by rfl)(z:starEach [b] X.env=[(false,eval b X.env)]:=by rfl):
  PI X tg (.Call (.Name "range" p) [a,b] [] pos) (xe3 ta):=by
 intro pins s σ H R I h
 refine Call_ (J3 I Y hm boot_range (PyProof.Rows.callWith_type1 (thn (ha pos pins s σ H _ I h) fun us s1 G=>?_) (by rw[U,z]) (by rw[z];rfl)))
 obtain⟨vs,H1,Z,r1,L⟩:=G
 obtain⟨i,j,e,⟨L,S,O,N⟩,q⟩:=L
 subst e
 cases r1 with
 |cons r rr=>
  cases rr with
  |cons M rr=>
   cases rr
   obtain⟨t,rfl⟩:=r
   obtain⟨t',rfl⟩:=M
   exact call_range_2 (zb5 Z L S O N q)
def tFor (wi:TI)(g:TG)(tb:TS):TS:=fun D σ H=>wi σ H fun J H1=>∃ W:Nat->Nat->St->Hp->Prop,(∃ m,W 0 m σ H1)/\∀ i m σ H,W i m σ H->
 (J.stop i H/\D.nx σ H)\/(J.go i H/\∃ N:St->Hp->Prop,(∀ σ' H',N σ' H'->∃ m',m'<m/\W (i+1) m' σ' H')/\∀ x H',J.yld i H x H'->g x σ H' fun σ2 H2=>tb { D with nx:=N,ct:=N,bk:=D.nx } σ2 H2)
noncomputable def zn6 (fp:List Addr)(h:Heap):List (Addr×Obj):=fp.filterMap fun b=>(h.get? b).map fun o=>(b,o)
theorem N2 {fp:List Addr}{h:Heap}{b:Addr}{o:Obj}(i:b∈fp)(e:h.get? b=some o):(b,o)∈zn6 fp h:=List.mem_filterMap.mpr ⟨b,i,by rw[e];rfl⟩
theorem yo2 {fp:List Addr}{h:Heap}{p:Addr×Obj}(hp:p∈zn6 fp h):p.1∈fp/\h.get? p.1=some p.2:=by
 obtain⟨b,i,e⟩:=List.mem_filterMap.mp hp
 cases q:h.get? b with
 |none=>rw[q]at e;cases e
 |some o=>
  rw[q]at e
  have j:(b,o)=p:=Option.some.inj e
  subst j
  exact⟨i,q⟩
theorem Inv.pinned {pins:List (Addr×Obj)}{σ:St}{H:Hp}{s:Shared}{fp:List Addr}(I:Inv X pins σ H s)(L:∀ b∈fp,FpOk X pins H b)(G:∀ b∈fp,∃ o,s.heap.get? b=some o/\∀ v,o.data≠ .cell v):Inv X (pins++zn6 fp s.heap) σ H s:=
 I.pins_of fun p hp=>(List.mem_append.mp hp).elim (fun z=>I.pin p (mem_append_right _ z)) fun z=>by
  obtain⟨i,e⟩:=yo2 z
  obtain⟨O,N,M,_⟩:=L p.1 i
  obtain⟨o,j,d⟩:=G p.1 i
  rw[e]at j;cases j
  exact⟨e,O,N,M,d⟩
theorem Inv.unpinned {pins pl:List (Addr×Obj)}{σ:St}{H:Hp}{s:Shared}(I:Inv X (pins++pl) σ H s):Inv X pins σ H s:=I.pins_of fun p hp=>I.pin p (mem_append_right _ (mem_append_left _ hp))
theorem yq3 {iter:Expr}{body:List Stmt}{wi:TI}{g:TG}{tb:TS}{pos:Pos}(hp:PassesOwn (model X.prog X.w) X.A X.env X.xe)(hc:X.calm=true)(hi:PI X tg iter wi)(hg:PG X tg g)(O:PSs X body tb)
  (hs:∀ x,foldedSetIterable iter X.env x=pure x:=by intro _;rfl):PS X (.For tg iter body [] pos) (tFor wi g tb):=by
 intro pins s σ H D I h
 refine wpAny_For (thn (hi pins s σ H _ I h) fun v s1 h1=>thn h1 fun a5 s2 h2=>?_) hs
 obtain⟨it,fp,tn,J,H2,e,I2,T,a2,f2,W,⟨m0,w0⟩,turn⟩:=h2
 subst e
 have L:∀{H':Hp},(∀ b∈fp,H' b=none)->∀ b∈fp,FpOk X pins H' b:=fun hn b O=>⟨hn b O,(f2 b O).2⟩
 refine codeAny_forLoop_any (fun n s'=>∃ i G H',Inv X pins G H' s'/\tn i s'.heap/\(∀ b∈fp,H' b=none)/\W i n G H') ?_ m0 ⟨0,σ,H2,I2,a2,fun b O=>(f2 b O).1,w0⟩
 rintro n s3 ⟨i,z,H3,I3,Z,a0,w3⟩
 rcases turn i n z H3 w3 with⟨stop,qn⟩|⟨go,N,hN,step⟩
 .refine wpAny_passesOwn hp (thn (T.done X rfl rfl rfl hc i pins s3 z H3 X.xe I3 (L a0) Z stop) fun r s4 ⟨hr,I4⟩=>?_)
  subst hr
  exact wpAny_execs_nil ⟨z,H3,I4,qn⟩
 .refine wpAny_passesOwn hp (thn (T.item X rfl rfl rfl hc i pins s3 z H3 X.xe I3 (L a0) Z go) fun r s4 ⟨u,hr,h4⟩=>?_)
  subst hr
  refine wpAny_passesOwn hp (thn h4 fun _ s5 M=>?_)
  obtain⟨x,H5,I5,r5,y5,Y,a3⟩:=M
  have a4:=I5.pinned (L a3) (T.obj _ _ Y)
  refine wpAny_passesOwn hp (thn (hg _ s5 z H5 x u _ a4 r5 (step x H5 y5)) fun _ s6 M=>?_)
  obtain⟨a1,H6,I6,q6⟩:=M
  refine wpAny_passesOwn hp (thn (O _ s6 a1 H6 _ I6 q6) fun f s7 U=>?_)
  have again:∀{j:St}{S:Hp},Inv X (pins++zn6 fp s5.heap) j S s7->N j S->∃ m,m<n/\∃ i G H',Inv X pins G H' s7/\tn i s7.heap/\(∀ b∈fp,H' b=none)/\W i m G H':=fun{j S} R n7=>by
   obtain⟨m',hm,w7⟩:=hN j S n7
   refine⟨m',hm,i+1,j,S,R.unpinned,T.keep _ _ _ Y fun b O o e=>(R.pin (b,o) (mem_append_right _ (mem_append_right _ (N2 O e)))).1,fun b O=>?_,w7⟩
   obtain⟨o,e,d⟩:=T.obj _ _ Y b O
   exact(R.pin (b,o) (mem_append_right _ (mem_append_right _ (N2 O e)))).2.1
  cases f with
  |next=>obtain⟨j,S,R,n7⟩:=U;exact again R n7
  |cont=>obtain⟨j,S,R,n7⟩:=U;exact again R n7
  |brk=>obtain⟨j,S,R,U⟩:=U;exact⟨j,S,R.unpinned,U⟩
  |ret v=>obtain⟨x7,j,S,R,r7,U⟩:=U;exact⟨x7,j,S,R.unpinned,r7,U⟩
end
end
section
noncomputable abbrev R2:=V->V->Hp->VK->Prop
def OpR (X:Cx)(f:Value->Value->Sem Value)(r:R2):Prop:=
 ∀(pins:List (Addr×Obj))(s:Shared)(σ:St)(H:Hp)(x y:V)(v u:Value)(Q:VK),Inv X pins σ H s->RelV x v->RelV y u->r x y H Q->
  wpAny (model X.prog X.w) X.A (f v u) (EP X pins σ Q) X.xe s
def UnR (X:Cx)(f:Value->Sem Value)(r:V->Hp->VK->Prop):Prop:=
 ∀(pins:List (Addr×Obj))(s:Shared)(σ:St)(H:Hp)(x:V)(v:Value)(Q:VK),Inv X pins σ H s->RelV x v->r x H Q->
  wpAny (model X.prog X.w) X.A (f v) (EP X pins σ Q) X.xe s
def zv5 (X:Cx)(f:Value)(r:List V->Hp->VK->Prop):Prop:=
 ∀(pins:List (Addr×Obj))(s:Shared)(σ:St)(H:Hp)(xs:List V)(us:List Value)(Q:VK),Inv X pins σ H s->Vals xs us->r xs H Q->
  wpAny (model X.prog X.w) X.A (call f us) (EP X pins σ Q) X.xe s
def TruR (X:Cx)(r:V->Hp->(Bool->Hp->Prop)->Prop):Prop:=
 ∀(pins:List (Addr×Obj))(s:Shared)(σ:St)(H:Hp)(x:V)(v:Value)(Q:Bool->Hp->Prop),Inv X pins σ H s->RelV x v->r x H Q->
  wpAny (model X.prog X.w) X.A (truthy v) (TP X pins σ Q) X.xe s
def tOp (r:R2)(ta tb:TE):TE:=fun σ H Q=>ta σ H fun x H1=>tb σ H1 fun y H2=>r x y H2 Q
def tUn (r:V->Hp->VK->Prop)(ta:TE):TE:=fun σ H Q=>ta σ H fun x H1=>r x H1 Q
def rI (C:Int->Int->Prop)(g:Int->Int->V):R2:=fun x y H Q=>∃ i j,x= .int i/\y= .int j/\C i j/\Q (g i j) H
def rI0 (g:Int->Int->V):R2:=fun x y H Q=>∃ i j,x= .int i/\y= .int j/\Q (g i j) H
def rU (g:Int->V):V->Hp->VK->Prop:=fun x H Q=>∃ i,x= .int i/\Q (g i) H
section
variable {X:Cx}{a b c:Expr}{ta tb tc:TE}{pos:Pos}
theorem binT (ha:PE X a ta)(N:PE X b tb){pins:List (Addr×Obj)}{s:Shared}{σ:St}{H:Hp}{R:V->V->Hp->Prop}(I:Inv X pins σ H s)
  (h:ta σ H fun x H1=>tb σ H1 fun y H2=>R x y H2) {Q:Value->Shared->Prop} {f:Value->Value->Sem Value}
  (M:∀ v u s2 x y H2,Inv X pins σ H2 s2->RelV x v->RelV y u->R x y H2->wpAny (model X.prog X.w) X.A (f v u) Q X.xe s2):
  wpAny (model X.prog X.w) X.A (eval a X.env) (fun v z=>wpAny (model X.prog X.w) X.A (eval b X.env) (fun u j=>wpAny (model X.prog X.w) X.A (f v u) Q X.xe j) X.xe z) X.xe s:=by
 refine thn (ha pins s σ H _ I h) fun v s1 i=>?_
 obtain⟨x,H1,S,r1,L⟩:=i
 refine thn (N pins s1 σ H1 _ S L) fun u s2 i=>?_
 obtain⟨y,H2,O,r2,G⟩:=i
 exact M v u s2 x y H2 O r1 r2 G
theorem yf0 {op:Operator}{r:R2}(j:OpR X (binaryOp op) r)(ha:PE X a ta)(z:PE X b tb):PE X (.BinOp a op b pos) (tOp r ta tb):=by
 intro pins s σ H Q I h
 exact wpAny_BinOp (binT ha z I h fun v u s2 x y H2 G rx i q=>j pins s2 σ H2 x y v u Q G rx i q)
theorem xg9 {op:UnaryOp}{r:V->Hp->VK->Prop}(j:UnR X (unaryOp op) r)(ha:PE X a ta):PE X (.UnaryOp op a pos) (tUn r ta):=by
 intro pins s σ H Q I h
 exact UnaryOp_ (thn (ha pins s σ H _ I h) fun v s1 ⟨x,H1,z,r1,i⟩=>j pins s1 σ H1 x v Q z r1 i)
theorem opI {f:Value->Value->Sem Value}{C:Int->Int->Prop}{g:Int->Int->Int}
  (rule:∀(i j:Int)(t u:Tok)(s:Shared)(Q:Value->Shared->Prop)(E:Value->Shared->Prop),C i j->Q (.int (g i j) s.toks) { s with toks:=s.toks+1 }->wpAny (model X.prog X.w) X.A (f (.int i t) (.int j u)) Q E s):
  OpR X f (rI C fun i j=>.int (g i j)):=by
 intro pins s σ H x y v u Q I rx z h
 obtain⟨i,j,rfl,rfl,G,q⟩:=h
 obtain⟨t,rfl⟩:=rx
 obtain⟨t',rfl⟩:=z
 exact rule i j t t' s _ _ G ⟨.int (g i j),H,I.tok _,⟨_,rfl⟩,q⟩
theorem opI0 {f:Value->Value->Sem Value}{g:Int->Int->Int}
  (rule:∀(i j:Int)(t u:Tok)(s:Shared)(Q:Value->Shared->Prop)(E:Value->Shared->Prop),Q (.int (g i j) s.toks) { s with toks:=s.toks+1 }->wpAny (model X.prog X.w) X.A (f (.int i t) (.int j u)) Q E s):
  OpR X f (rI0 fun i j=>.int (g i j)):=by
 intro pins s σ H x y v u Q I rx z h
 obtain⟨i,j,rfl,rfl,q⟩:=h
 obtain⟨t,rfl⟩:=rx
 obtain⟨t',rfl⟩:=z
 exact rule i j t t' s _ _ ⟨.int (g i j),H,I.tok _,⟨_,rfl⟩,q⟩
theorem opB0 {f:Value->Value->Sem Value}{g:Int->Int->Bool}
  (rule:∀(i j:Int)(t u:Tok)(s:Shared)(Q:Value->Shared->Prop)(E:Value->Shared->Prop),Q (.bool (g i j)) s->wpAny (model X.prog X.w) X.A (f (.int i t) (.int j u)) Q E s):
  OpR X f (rI0 fun i j=>.bl (g i j)):=by
 intro pins s σ H x y v u Q I rx z h
 obtain⟨i,j,rfl,rfl,q⟩:=h
 obtain⟨t,rfl⟩:=rx
 obtain⟨t',rfl⟩:=z
 exact rule i j t t' s _ _ ⟨.bl (g i j),H,I,rfl,q⟩
def CDiv (i j:Int):Prop:=0<j/\j<1073741824
def CPow (i j:Int):Prop:=0<=j/\j<=1000000/\i.natAbs<2^64
def CMul (i j:Int):Prop:=(-(2^64)<i/\i<2^64)\/(-(2^64)<j/\j<2^64)
theorem CMul.ok {i j:Int}(h:CMul i j):IntMulOk i j:=by
 rcases h with⟨h1,h2⟩|⟨h1,h2⟩
 .exact .of_left (intBits_le_64 h1 h2)
 .exact .of_right (intBits_le_64 h1 h2)
theorem zm6:OpR X (binaryOp .Add) (rI0 fun i j=>.int (i+j)):=opI0 fun _ _ _ _ _ _ _ q=>add_int q
theorem yo0:OpR X (binaryOp .Sub) (rI0 fun i j=>.int (i-j)):=opI0 fun _ _ _ _ _ _ _ q=>sub_int q
theorem ya4:OpR X (binaryOp .Mult) (rI CMul fun i j=>.int (i*j)):=opI fun _ _ _ _ _ _ _ z q=>mul_int q z.ok
theorem xv5:OpR X (binaryOp .FloorDiv) (rI CDiv fun i j=>.int (i / j)):=opI fun i j _ _ _ _ _ z q=>by
 have h1:(0:Int)<j:=z.1
 have h2:j<1073741824:=z.2
 exact floordiv_int (by omega) (by rw[Int.fdiv_eq_ediv_of_nonneg i (by omega)];exact q) (.inl (PyProof.noPylong_small (by omega)))
theorem xn5:OpR X (binaryOp .Mod) (rI (fun _ j=>0<j) fun i j=>.int (i % j)):=opI fun i j _ _ _ _ _ z q=>by
 have h1:(0:Int)<j:=z
 exact mod_int' (by omega) (by rw[Int.fmod_eq_emod_of_nonneg i (by omega)];exact q)
theorem xn3:OpR X (binaryOp .Pow) (rI CPow fun i j=>.int (i^j.toNat)):=opI fun _ _ _ _ _ _ _ z q=>pow_int_small z.1 z.2.1 z.2.2 q
theorem unI {f:Value->Sem Value}{g:Int->Int}
  (rule:∀(i:Int)(t:Tok)(s:Shared)(Q:Value->Shared->Prop)(E:Value->Shared->Prop),Q (.int (g i) s.toks) { s with toks:=s.toks+1 }->wpAny (model X.prog X.w) X.A (f (.int i t)) Q E s):
  UnR X f (rU fun i=>.int (g i)):=by
 intro pins s σ H x v Q I rx h
 obtain⟨i,rfl,q⟩:=h
 obtain⟨t,rfl⟩:=rx
 exact rule i t s _ _ ⟨.int (g i),H,I.tok _,⟨_,rfl⟩,q⟩
theorem xr7:UnR X (unaryOp .USub) (rU fun i=>.int (-i)):=unI fun _ _ _ _ _ q=>neg_int q
end
noncomputable def scal:V->V->Bool
 | .non,.non=>true| .non,.int _=>true| .int _,.non=>true| .non,.bl _=>true| .bl _,.non=>true| .non,.str _=>true| .str _,.non=>true
 | .int _,.int _=>true| .bl _,.bl _=>true| .str _,.str _=>true| .byt _,.byt _=>true
 | .int _,.str _=>true| .str _,.int _=>true| .bl _,.str _=>true| .str _,.bl _=>true
 |_,_=>false
def rEq:R2:=fun x y H Q=>scal x y=true/\Q (.bl (decide (x=y))) H
def rNe:R2:=fun x y H Q=>scal x y=true/\Q (.bl (!decide (x=y))) H
theorem zd6 {i j:Int}:decide (V.int i=V.int j)=(i==j):=by
 rw[Bool.eq_iff_iff]
 simp
theorem yk5 {i j:Bool}:decide (V.bl i=V.bl j)=(i==j):=by
 rw[Bool.eq_iff_iff]
 simp
theorem zd5 {i j:Str}:decide (V.str i=V.str j)=(i==j):=by
 rw[Bool.eq_iff_iff]
 simp
theorem yk4 {i j:Array UInt8}:decide (V.byt i=V.byt j)=(i.toList==j.toList):=by
 rw[Bool.eq_iff_iff]
 cases i
 cases j
 simp
section
variable {X:Cx}{a b c:Expr}{ta tb tc:TE}{pos:Pos}
theorem i7 {pins:List (Addr×Obj)}{σ:St}{H:Hp}{s:Shared}{Q:VK}{k i:Bool}(I:Inv X pins σ H s)(q:Q (.bl k) H)(e:k=i):EP X pins σ Q (.bool i) s:=by
 subst e
 exact⟨.bl k,H,I,rfl,q⟩
theorem M2:OpR X (compareOp .Eq) rEq:=by
 intro pins s σ H x y v u Q I rx z h
 obtain⟨G,q⟩:=h
 cases x with
 |non=>
  cases rx
  cases y with
  |non=>cases z;exact PySem.EqNone.eq_none_none (i7 I q (by simp))
  |bl j=>cases z;exact PySem.EqNone.eq_none_bool (i7 I q (by simp))
  |int j=>obtain⟨t',rfl⟩:=z;exact PySem.EqNone.eq_none_int (i7 I q (by simp))
  |str j=>obtain⟨t',rfl⟩:=z;exact PySem.EqNone.eq_none_str (i7 I q (by simp))
  |_=>exact absurd (show false=true from G) Bool.false_ne_true
 |bl i=>
  cases rx
  cases y with
  |non=>cases z;exact PySem.EqNone.eq_bool_none (i7 I q (by simp))
  |bl j=>cases z;exact eq_bool (i7 I q yk5)
  |str j=>obtain⟨t',rfl⟩:=z;exact PySem.EqMixed.eq_bool_str (i7 I q (by simp))
  |_=>exact absurd (show false=true from G) Bool.false_ne_true
 |int i=>
  obtain⟨t,rfl⟩:=rx
  cases y with
  |non=>cases z;exact PySem.EqNone.eq_int_none (i7 I q (by simp))
  |int j=>obtain⟨t',rfl⟩:=z;exact eq_int (i7 I q zd6)
  |str j=>obtain⟨t',rfl⟩:=z;exact PySem.EqMixed.eq_int_str (i7 I q (by simp))
  |_=>exact absurd (show false=true from G) Bool.false_ne_true
 |str i=>
  obtain⟨t,rfl⟩:=rx
  cases y with
  |non=>cases z;exact PySem.EqNone.eq_str_none (i7 I q (by simp))
  |bl j=>cases z;exact PySem.EqMixed.eq_str_bool (i7 I q (by simp))
  |int j=>obtain⟨t',rfl⟩:=z;exact PySem.EqMixed.eq_str_int (i7 I q (by simp))
  |str j=>obtain⟨t',rfl⟩:=z;exact eq_str (i7 I q zd5)
  |_=>exact absurd (show false=true from G) Bool.false_ne_true
 |byt i=>
  obtain⟨t,rfl⟩:=rx
  cases y with
  |byt j=>obtain⟨t',rfl⟩:=z;exact W.eq_bytes (i7 I q yk4)
  |_=>exact absurd (show false=true from G) Bool.false_ne_true
 |_=>cases y <;> exact absurd (show false=true from G) Bool.false_ne_true
theorem xn4:OpR X (compareOp .NotEq) rNe:=by
 intro pins s σ H x y v u Q I rx z h
 obtain⟨G,q⟩:=h
 cases x with
 |non=>
  cases rx
  cases y with
  |non=>cases z;exact PySem.EqNone.ne_none_none (i7 I q (by simp))
  |bl j=>cases z;exact PySem.EqNone.ne_none_bool (i7 I q (by simp))
  |int j=>obtain⟨t',rfl⟩:=z;exact PySem.EqNone.ne_none_int (i7 I q (by simp))
  |str j=>obtain⟨t',rfl⟩:=z;exact PySem.EqNone.ne_none_str (i7 I q (by simp))
  |_=>exact absurd (show false=true from G) Bool.false_ne_true
 |bl i=>
  cases rx
  cases y with
  |non=>cases z;exact PySem.EqNone.ne_bool_none (i7 I q (by simp))
  |bl j=>cases z;exact ne_bool (i7 I q (congrArg not yk5))
  |str j=>obtain⟨t',rfl⟩:=z;exact PySem.EqMixed.ne_bool_str (i7 I q (by simp))
  |_=>exact absurd (show false=true from G) Bool.false_ne_true
 |int i=>
  obtain⟨t,rfl⟩:=rx
  cases y with
  |non=>cases z;exact PySem.EqNone.ne_int_none (i7 I q (by simp))
  |int j=>obtain⟨t',rfl⟩:=z;exact ne_int (i7 I q (congrArg not zd6))
  |str j=>obtain⟨t',rfl⟩:=z;exact PySem.EqMixed.ne_int_str (i7 I q (by simp))
  |_=>exact absurd (show false=true from G) Bool.false_ne_true
 |str i=>
  obtain⟨t,rfl⟩:=rx
  cases y with
  |non=>cases z;exact PySem.EqNone.ne_str_none (i7 I q (by simp))
  |bl j=>cases z;exact PySem.EqMixed.ne_str_bool (i7 I q (by simp))
  |int j=>obtain⟨t',rfl⟩:=z;exact PySem.EqMixed.ne_str_int (i7 I q (by simp))
  |str j=>obtain⟨t',rfl⟩:=z;exact ne_str (i7 I q (congrArg not zd5))
  |_=>exact absurd (show false=true from G) Bool.false_ne_true
 |byt i=>
  obtain⟨t,rfl⟩:=rx
  cases y with
  |byt j=>obtain⟨t',rfl⟩:=z;exact W.ne_bytes (i7 I q (congrArg not yk4))
  |_=>exact absurd (show false=true from G) Bool.false_ne_true
 |_=>cases y <;> exact absurd (show false=true from G) Bool.false_ne_true
theorem zr7:OpR X (compareOp .Lt) (rI0 fun i j=>.bl (decide (i<j))):=opB0 fun _ _ _ _ _ _ _ q=>lt_int q
theorem xf0:OpR X (compareOp .LtE) (rI0 fun i j=>.bl (decide (i<=j))):=opB0 fun _ _ _ _ _ _ _ q=>le_int q
theorem xv4:OpR X (compareOp .Gt) (rI0 fun i j=>.bl (decide (j<i))):=opB0 fun _ _ _ _ _ _ _ q=>gt_int q
theorem yo1:OpR X (compareOp .GtE) (rI0 fun i j=>.bl (decide (j<=i))):=opB0 fun _ _ _ _ _ _ _ q=>ge_int q
theorem OpR.or {f:Value->Value->Sem Value}{r j:R2}(h:OpR X f r)(h':OpR X f j):OpR X f (fun x y H Q=>r x y H Q\/j x y H Q):=by
 intro pins s σ H x y v u Q I rx i q
 rcases q with q|q
 .exact h pins s σ H x y v u Q I rx i q
 .exact h' pins s σ H x y v u Q I rx i q
theorem o0 (b:Expr){op:CmpOp}(h:op≠ .In:=by decide)(h2:op≠ .NotIn:=by decide):behindInMarks op b=false:=by
 have e1:(op==CmpOp.In)=false:=by cases op <;> first|rfl|exact absurd rfl h
 have e2:(op==CmpOp.NotIn)=false:=by cases op <;> first|rfl|exact absurd rfl h2
 cases b <;> simp[behindInMarks,e1,e2]
theorem xw3 {op:CmpOp}{r:R2}(j:OpR X (compareOp op) r)(ha:PE X a ta)(z:PE X b tb)(hm:behindInMarks op b=false):PE X (.Compare a [op] [b] pos) (tOp r ta tb):=by
 intro pins s σ H Q I h
 exact wpAny_Compare1 (binT ha z I h fun v u s2 x y H2 G rx i q=>j pins s2 σ H2 x y v u Q G rx i q) hm
def xh5 (t:TE):TT:=fun σ H Q=>t σ H fun x H'=>∃ k,x= .bl k/\Q k H'
theorem zg3 {op:CmpOp}{r:R2}(M:OpR X (compareOp op) r)(ha:PE X a ta)(N:PE X b tb)(hm:behindInMarks op b=false):PT X (.Compare a [op] [b] pos) (xh5 (tOp r ta tb)):=by
 intro pins s σ H Q I h
 refine wpAny_isTrue_Compare1 (thn (ha pins s σ H _ I h) fun v s1 ⟨x,H1,S,r1,L⟩=>thn (N pins s1 σ H1 _ S L) fun u s2 ⟨y,H2,R,r2,G⟩=>
  thn (M pins s2 σ H2 x y v u _ R r1 r2 G) fun c Y ⟨z,U,O,i,k,e,j⟩=>?_) hm
 subst e
 cases i
 exact wpAny_truthy_bool ⟨U,O,j⟩
def TruV (K:W.Frag)(x:V)(H:Hp)(k:Bool):Prop:=
 match x with
 | .non=>k=false
 | .bl b=>k=b
 | .int i=>k=(i != 0)
 | .str y=>y.length<=sizeLine/\k=((y.length:Int) != 0)
 | .byt y=>y.size<=sizeLine/\k=((y.size:Int) != 0)
 | .ref p=>(∃ xs,SqL K H p xs/\k= !xs.isEmpty)\/(∃ xs,SqT K H p xs/\k= !xs.isEmpty)\/∃ kvs,H p=some (.dK kvs)/\k= !kvs.isEmpty
 |_=>False
theorem yu5 {i:Type}{kvs:List (i×V)}{vs:List (i×Value)}(r:KV kvs vs):(!vs.isEmpty)= !kvs.isEmpty:=by
 cases r <;> rfl
theorem zs3 {xs:List V}{its:List Value}(r:Vals xs its):(!its.toArray.isEmpty)= !xs.isEmpty:=by
 cases r <;> simp
theorem yz9:(sizeLine:Nat)<2^63:=by rw[sizeLine_eq];decide
theorem xq1:TruR X (fun x H Q=>∃ k,TruV X.K x H k/\Q k H):=by
 intro pins s σ H x v Q I rx h
 obtain⟨k,e,q⟩:=h
 have R:=yz9
 have O:sizeLine=16777216:=sizeLine_eq
 cases x with
 |non=>
  cases rx
  have j:k=false:=e
  subst j
  exact truthy_none ⟨H,I,q⟩
 |bl b=>
  cases rx
  have j:k=b:=e
  subst j
  exact wpAny_truthy_bool ⟨H,I,q⟩
 |int i=>
  obtain⟨t,rfl⟩:=rx
  have j:k=(i != 0):=e
  subst j
  exact PySem.P.truthy_int ⟨H,I,q⟩
 |str y=>
  obtain⟨t,rfl⟩:=rx
  obtain⟨M,j⟩:y.length<=sizeLine/\k=((y.length:Int) != 0):=e
  subst j
  exact PySem.P.truthy_str (by omega) ⟨H,I.tok _,q⟩
 |byt y=>
  obtain⟨t,rfl⟩:=rx
  obtain⟨M,j⟩:y.size<=sizeLine/\k=((y.size:Int) != 0):=e
  subst j
  exact W.truthy_bytes (by omega) ⟨H,I.tok _,q⟩
 |ref p=>
  cases rx
  have j:(∃ xs,SqL X.K H p xs/\k= !xs.isEmpty)\/(∃ xs,SqT X.K H p xs/\k= !xs.isEmpty)\/∃ kvs,H p=some (.dK kvs)/\k= !kvs.isEmpty:=e
  rcases j with⟨xs,G,j⟩|⟨xs,G,j⟩|⟨kvs,G,j⟩
  .subst j
   obtain⟨its,r,pl,L⟩:=I.list G
   have z:=r.length
   exact wpAny_truthy_list pl.isList (by simp only[size_toArray];omega) ⟨H,I.tok _,by rw[zs3 r];exact q⟩
  .subst j
   obtain⟨its,r,pl,L⟩:=I.tuple G
   have z:=r.length
   exact truthy_tuple pl (by simp only[size_toArray];omega) ⟨H,I.tok _,by rw[zs3 r];exact q⟩
  .subst j
   obtain⟨L,N,vs,r,m⟩:kvs.length<=sizeLine/\(p==sysModules)=false/\∃ vs,KV kvs vs/\s.heap.DictOf (zx2 X.prog X.w) p vs:=I.hok p _ G
   have z:kvs.length=vs.length:=Paired.length r
   exact wpAny_truthy_dict N m (by omega) ⟨H,I.tok _,by rw[yu5 r];exact q⟩
 |_=>exact(show False from e).elim
theorem yg0 (ha:PE X a ta)(z:∀ i,isTrue a X.env i=(do let v ← i;standAt a.pos;holding [v] (truthy v))):
  PT X a (fun σ H Q=>ta σ H fun x H'=>∃ k,TruV X.K x H' k/\Q k H'):=by
 intro pins s σ H Q I h
 exact isTrue_plain (thn (ha pins s σ H _ I h) fun v s1 ⟨x,H1,G,r1,j⟩=>xq1 pins s1 σ H1 x v Q G r1 j) (z _)
theorem zz6 {x:V}{us:List Value}(r:Vals [x] us):∃ u,us=[u]/\RelV x u:=by
 cases r with
 |cons r1 r2=>cases r2;exact⟨_,rfl,r1⟩
theorem xz3 {x y:V}{us:List Value}(r:Vals [x,y] us):∃ u i,us=[u,i]/\RelV x u/\RelV y i:=by
 cases r with
 |cons r1 r2=>
  cases r2 with
  |cons z j=>cases j;exact⟨_,_,rfl,r1,z⟩
theorem yj6 (G:X.calm=true):zv5 X (.builtin "max") (fun xs H Q=>∃ i j,xs=[.int i,.int j]/\Q (.int (if j>i then j else i)) H):=by
 intro pins s σ H xs us Q I r h
 obtain⟨i,j,rfl,q⟩:=h
 obtain⟨u,L,rfl,⟨t,rfl⟩,⟨t',rfl⟩⟩:=xz3 r
 refine max_two_ints (I.ok.hd G) fun h' tk k=>⟨_,H,I.kept k,?_,q⟩
 by_cases z:j>i
 .rw[if_pos z,if_pos z];exact⟨_,rfl⟩
 .rw[if_neg z,if_neg z];exact⟨_,rfl⟩
theorem yj4 (G:X.calm=true):zv5 X (.builtin "min") (fun xs H Q=>∃ i j,xs=[.int i,.int j]/\Q (.int (if j<i then j else i)) H):=by
 intro pins s σ H xs us Q I r h
 obtain⟨i,j,rfl,q⟩:=h
 obtain⟨u,L,rfl,⟨t,rfl⟩,⟨t',rfl⟩⟩:=xz3 r
 refine min_two_ints (I.ok.hd G) fun h' tk k=>⟨_,H,I.kept k,?_,q⟩
 by_cases z:j<i
 .rw[if_pos z,if_pos z];exact⟨_,rfl⟩
 .rw[if_neg z,if_neg z];exact⟨_,rfl⟩
end
end
section
structure ObjM (h:Heap)(x dx C:Addr)(mA:Str->Option Value):Prop where
 obj:h.get? x=some (W.instObj C dx)
 ns:h.Ns1 dx mA
 ne:dx≠x
theorem ym0 {h:Heap}{dx:Addr}{mA:Str->Option Value}(n:h.Ns1 dx mA):∃ od,h.get? dx=some od/\∀ name,W.lookIn name od=some (mA name):=by
 obtain⟨o,es,ep,G,hd,hk,_,hm⟩:=n
 refine⟨o,G,fun name=>?_⟩
 have e:=hm name
 unfold nsFind findBy at e
 rw[<-Array.find?_toList]at e
 unfold W.lookIn
 rw[hd]
 dsimp only
 split
 .rename_i y q
  rw[q]at e
  exact congrArg some e
 .rename_i q
  rw[q]at e
  have a:es.toList.any (·.refKey)=false:=by
   rw[any_eq_false]
   intro y j
   obtain⟨z,t,i⟩:=hk y (Array.mem_toList_iff.mp j)
   simp[DictEntry.refKey,i]
  have I:¬ es.toList.any (·.refKey)=true:=by rw[a];exact Bool.false_ne_true
  rw[if_neg I]
  exact congrArg some e
theorem ObjM.look {h:Heap}{x dx C:Addr}{mA:Str->Option Value}(I:ObjM h x dx C mA):∃ od,W.InstAt h x (W.instObj C dx) C (some od)/\∀ name,W.lookIn name od=some (mA name):=
 let ⟨od,i,j⟩:=ym0 I.ns
 ⟨od,⟨I.obj,rfl,rfl,i⟩,j⟩
section
variable {prog:Program}{w:World}{A:Around}{E:Value->Shared->Prop}{s:Shared}{K:W.Frag}{x dx C f:Addr}{mA:Str->Option Value}{name:Str}{v:Value}
theorem xt2 {i:Bool}{Q:Value->Shared->Prop}(X:K.In s.heap)(I:ObjM s.heap x dx C mA)(L:W.plainGet K C name=true)(hh:W.hasDictIn K C=true)
  (ha:W.findIn K (.ref C) name=some none) (z:mA name=some v) (j:W.handedIn v=true) (h:Q v { s with toks:=s.toks+1 }):
  wpAny (model prog w) A (getAttr (.ref x) name i) Q E s:=by
 obtain⟨od,J,G⟩:=I.look
 exact W.get_value X J (W.plainGet_of L).1 (W.findObj_own hh ha rfl (by rw[G,z])) j h
theorem yc1 {pl:Sem Bool}{Q:Value×List Value->Shared->Prop}(X:K.In s.heap)(I:ObjM s.heap x dx C mA)(i:W.plainGet K C name=true)
  (L:W.findIn K (.ref C) name=some (some (.ref f))) (z:W.isFn K (.ref f)=true) (j:mA name=none) (h:Q (.ref f,[.ref x]) s):
  wpAny (model prog w) A (getMethod (.ref x) name pl) Q E s:=by
 obtain⟨od,J,G⟩:=I.look
 exact W.method_fn X J (W.plainGet_of i).1 (W.plainGet_of i).2 L (beq_iff_eq.mp z) (by show (W.lookIn name od).map (·.isSome)=some false;rw[G,j];rfl) h
theorem xy5 {ns:List Str}{Q:Unit->Shared->Prop}(X:K.In s.heap)(I:ObjM s.heap x dx C mA)
  (S:W.findIn K (.ref C) "__setattr__"=some (some (.builtin "object.__setattr__"))) (hp:W.plainOver K C=true) (O:W.takerIn K C name=some none) (hh:W.hasDictIn K C=true)
  (hw:PySem.Within mA ns) (R:ns.length<=sizeLine)
  (h:∀ h',ObjM h' x dx C (fun y=>if y=name then some v else mA y)->Heap.SameBut dx s.heap h'->Q () { s with heap:=h',toks:=s.toks+2 }):
  wpAny (model prog w) A (setAttr (.ref x) name v) Q E s:=by
 obtain⟨od,J,hl⟩:=I.look
 refine W.set_plain X J S (W.osa_open (s:={ s with toks:=s.toks+1 }) (r:=none) X J hp O fun b=>?_)
 obtain⟨cd,U,L⟩:=W.any_some hh
 have N:s.heap.get? x=some ⟨.ref C,some dx,.plain,#[]⟩:=I.obj
 refine wpAny_bind (wpAny_pure (wpAny_bind (wpAny_bind (wpAny_loadPart N (wpAny_bind (W.Looks.here (s:={ s with toks:=s.toks+1 }) (W.looks_clsIn X U) ?_))))))
 rw[L]
 refine wpAny_pure (a:=some dx) (wpAny_bind (wpAny_pure (wpAny_bind ?_)))
 refine wpAny_nsSet1 (s:={ s with toks:=s.toks+1 }) I.ns fun h' j i=>?_
 obtain⟨oD,Y,Z,z,G,M⟩:=j.count (PySem.Within.cons name v hw)
 refine wpAny_bind (wpAny_lookBehind z (by rw[G];exact pastItsLine_dict (Nat.le_trans M (by rw[length_cons];omega))) ?_)
 exact wpAny_pure (h _ ⟨(i.2 _ (Ne.symm I.ne)).trans I.obj,j,I.ne⟩ i)
theorem yz8 {R:Result->Shared->Prop}{vs:List Value}{i:List (Str×Value)}(X:K.In s.heap)(hm:W.makesIn K C=true)
  (hi:W.findIn K (.ref C) "__init__"=some (some (.ref f))) (j:W.typeIn K (.ref f)=some (.type "function"))
  (h:codeAny (model prog w) (A.under (.builtin "type.__call__" ⟨.ref C::vs,i⟩)) (.call (.ref f) ⟨.ref (s.heap.objs.size+1)::vs,i⟩) (W.InitBack (s.heap.objs.size+1) R)
   { s with heap:=(s.heap.push W.emptyDict).push (W.instObj C s.heap.objs.size) }):
  codeAny (model prog w) A (.call (.ref C) ⟨vs,i⟩) R s:=by
 obtain⟨hh,g,d,t,os⟩:=s
 exact W.make_core (W.makes_of X hm) (W.looks_findIn X hi) (fun self=>W.bind_fn X self j) (.inl rfl) h
end
noncomputable def putF (f:Str)(v:V):List (Str×V)->List (Str×V)
 |[]=>[(f,v)]
 | (g,x)::r=>if g=f then (g,v)::r else (g,x)::putF f v r
theorem zx6 (f g:Str)(v:V):∀ fs:List (Str×V),(putF f v fs).lookup g=if g=f then some v else fs.lookup g
 |[]=>by
  show List.lookup g [(f,v)]=_
  by_cases h:g=f
  .have hb:(g==f)=true:=beq_iff_eq.mpr h
   simp only[List.lookup,hb,if_pos h]
  .have hb:(g==f)=false:=beq_eq_false_iff_ne.mpr h
   simp only[List.lookup,hb,if_neg h]
 | (k,x)::r=>by
  have i:=zx6 f g v r
  rw[show putF f v ((k,x)::r)=(if k=f then (k,v)::r else (k,x)::putF f v r)from rfl]
  by_cases hk:k=f
  .rw[if_pos hk]
   by_cases h:g=k
   .have hb:(g==k)=true:=beq_iff_eq.mpr h
    simp only[List.lookup,hb,if_pos (h.trans hk)]
   .have hb:(g==k)=false:=beq_eq_false_iff_ne.mpr h
    simp only[List.lookup,hb,if_neg (fun e:g=f=>h (e.trans hk.symm))]
  .rw[if_neg hk]
   by_cases h:g=k
   .have hb:(g==k)=true:=beq_iff_eq.mpr h
    simp only[List.lookup,hb,if_neg (fun e:g=f=>hk (h.symm.trans e))]
   .have hb:(g==k)=false:=beq_eq_false_iff_ne.mpr h
    simp only[List.lookup,hb]
    exact i
theorem zx9 (f:Str)(v:V):∀ fs:List (Str×V),f∈(putF f v fs).map (·.1)/\∀ g,g∈fs.map (·.1)->g∈(putF f v fs).map (·.1)
 |[]=>⟨by simp[putF],fun g h=>by simp at h⟩
 | (k,x)::r=>by
  obtain⟨i1,i2⟩:=zx9 f v r
  rw[show putF f v ((k,x)::r)=(if k=f then (k,v)::r else (k,x)::putF f v r)from rfl]
  by_cases hk:k=f
  .rw[if_pos hk]
   subst hk
   exact⟨by simp,fun g h=>by simpa using h⟩
  .rw[if_neg hk]
   refine⟨?_,fun g h=>?_⟩
   .rw[map_cons]
    exact mem_cons_of_mem _ i1
   .rw[map_cons]at h ⊢
    rcases List.mem_cons.mp h with e|e
    .exact List.mem_cons.mpr (.inl e)
    .exact mem_cons_of_mem _ (i2 g e)
theorem zx7 (f:Str)(v:V):∀ fs:List (Str×V),(putF f v fs).length<=fs.length+1
 |[]=>by simp[putF]
 | (k,x)::r=>by
  have i:=zx7 f v r
  rw[show putF f v ((k,x)::r)=(if k=f then (k,v)::r else (k,x)::putF f v r)from rfl]
  by_cases hk:k=f
  .rw[if_pos hk,length_cons,length_cons];omega
  .rw[if_neg hk,length_cons,length_cons];omega
theorem RelO.some_of {v:V}{o:Option Value}(r:RelO (some v) o):∃ u,o=some u/\RelV v u:=by
 cases o with
 |none=>exact(show False from r).elim
 |some u=>exact⟨u,rfl,r⟩
theorem RelO.none_of {o:Option Value}(r:RelO none o):o=none:=by
 cases o with
 |none=>rfl
 |some u=>exact(show False from r).elim
theorem yk0 {v:V}{u:Value}(r:RelV v u):W.handedIn u=true:=by
 cases v with
 |non=>cases (show u=Value.none from r);rfl
 |bl b=>cases (show u=Value.bool b from r);rfl
 |int i=>obtain⟨t,e⟩:=(show ∃ t,u=Value.int i t from r);cases e;rfl
 |str x=>obtain⟨t,e⟩:=(show ∃ t,u=Value.str x t from r);cases e;rfl
 |byt b=>obtain⟨t,e⟩:=(show ∃ t,u=Value.bytes b t from r);cases e;rfl
 |flt b=>obtain⟨t,e⟩:=(show ∃ t,u=Value.float b t from r);cases e;rfl
 |ref a=>cases (show u=Value.ref a from r);rfl
 |ty n=>cases (show u=Value.type n from r);rfl
section
variable {P:Program}{w:World}{H H':Hp}{h h':Heap}{a C dx:Addr}{fs fs':List (Str×V)}
theorem ze9 (hok:HOk P w H h)(e:H a=some (.ins C dx fs)):∃ mA,ObjM h a dx C mA/\(∀ f,RelO (fs.lookup f) (mA f))/\PySem.Within mA (fs.map (·.1))/\fs.length<=1000/\H dx=some (.own a):=by
 obtain⟨d,z,ne,ob,mA,n,r,q⟩:=(show ObjOk P w H h a (.ins C dx fs)from hok a _ e)
 exact⟨mA,⟨ob,n,ne⟩,r,q,z,d⟩
end
structure Cls (K:W.Frag)(C:Addr):Prop where
 pg:W.plainGet K C Str.empty=true
 hd:W.hasDictIn K C=true
 po:W.plainOver K C=true
 sa:W.findIn K (.ref C) "__setattr__"=some (some (.builtin "object.__setattr__"))
theorem Cls.get {K:W.Frag}{C:Addr}(c:Cls K C)(f:Str):W.plainGet K C f=true:=c.pg
def NoAttr (K:W.Frag)(C:Addr)(f:Str):Prop:=W.findIn K (.ref C) f=some none
theorem NoAttr.taker {K:W.Frag}{C:Addr}{f:Str}(n:NoAttr K C f):W.takerIn K C f=some none:=by
 unfold W.takerIn
 rw[show W.findIn K (.ref C) f=some none from n]
 rfl
structure Con (K:W.Frag)(C:Addr)(f:Str)(v:V)(u:Value):Prop where
 at_:W.findIn K (.ref C) f=some (some u)
 rel:RelV v u
 get:W.specialIn K u "__get__"=some none
 cp:W.copiedNames.contains f=false
structure Meth (K:W.Frag)(C:Addr)(m:Str)(f:Addr):Prop where
 at_:W.findIn K (.ref C) m=some (some (.ref f))
 fn:W.isFn K (.ref f)=true
 kp:W.keepIn K (.ref f)=true
section
variable {X:Cx}{pins:List (Addr×Obj)}{σ:St}{H:Hp}{s:Shared}{a C dx:Addr}{fs:List (Str×V)}{f:Str}{v:V}{A:Around}{E:Value->Shared->Prop}
theorem yu7 {b:Bool}{Q:Value->Shared->Prop}(I:Inv X pins σ H s)(e:H a=some (.ins C dx fs))(c:Cls X.K C)(n:NoAttr X.K C f)(l:fs.lookup f=some v)
  (h:∀ u s',Inv X pins σ H s'->RelV v u->Q u s'):wpAny (model X.prog X.w) A (getAttr (.ref a) f b) Q E s:=by
 obtain⟨mA,O,r,_,_,_⟩:=ze9 I.hok e
 obtain⟨u,j,i⟩:=RelO.some_of (v:=v) (o:=mA f) (by rw[<-l];exact r f)
 exact xt2 I.kIn O (c.get f) c.hd n j (yk0 i) (h u _ (I.tok _) i)
theorem D0 {m:Str}{g:Addr}{pl:Sem Bool}{Q:Value×List Value->Shared->Prop}(I:Inv X pins σ H s)(e:H a=some (.ins C dx fs))(c:Cls X.K C)(k:Meth X.K C m g)(l:fs.lookup m=none)
  (h:Q (.ref g,[.ref a]) s):wpAny (model X.prog X.w) A (getMethod (.ref a) m pl) Q E s:=by
 obtain⟨mA,O,r,_,_,_⟩:=ze9 I.hok e
 have hn:mA m=none:=RelO.none_of (by rw[<-l];exact r m)
 exact yc1 I.kIn O (c.get m) k.at_ k.fn hn h
theorem yw2 {y:V}{u:Value}{Q:Unit->Shared->Prop}(I:Inv X pins σ H s)(e:H a=some (.ins C dx fs))(c:Cls X.K C)(n:NoAttr X.K C f)(Y:fs.length<1000)(M:RelV y u)
  (h:∀ s',Inv X pins σ (upd H a (.ins C dx (putF f y fs))) s'->Q () s'):wpAny (model X.prog X.w) A (setAttr (.ref a) f u) Q E s:=by
 obtain⟨mA,O,r,j,_,G⟩:=ze9 I.hok e
 have N:(fs.map (·.1)).length<=sizeLine:=by rw[length_map,sizeLine_eq];omega
 refine xy5 I.kIn O c.sa c.po n.taker c.hd j N fun h' i L=>h _ ?_
 have hd:∃ o,h'.get? dx=some o:=let ⟨o,_,_,U,_⟩:=i.ns;⟨o,U⟩
 refine I.write (x:=a) (e:=dx) (by rw[e];exact True.intro) (.inr G) (fun b q S z=>(L.2 b S).trans z) hd ?_
 refine⟨by rw[x8 O.ne];exact G,?_,O.ne,i.obj,_,i.ns,fun g=>?_,fun g R=>?_⟩
 .have:=zx7 f y fs;omega
 .show RelO ((putF f y fs).lookup g) (if g=f then some u else mA g)
  rw[zx6]
  by_cases q:g=f
  .rw[if_pos q,if_pos q];exact M
  .rw[if_neg q,if_neg q];exact r g
 .by_cases q:g=f
  .rw[q];exact(zx9 f y fs).1
  .refine(zx9 f y fs).2 g (j g fun z=>R ?_)
   show (if g=f then some u else mA g)=none
   rw[if_neg q];exact z
theorem Inv.made (I:Inv X pins σ H s):Inv X pins σ (upd (upd H s.heap.objs.size (.own (s.heap.objs.size+1))) (s.heap.objs.size+1) (.ins C s.heap.objs.size []))
  { s with heap:=(s.heap.push W.emptyDict).push (W.instObj C s.heap.objs.size) }:=by
 have e1:(s.heap.push W.emptyDict).get? s.heap.objs.size=some W.emptyDict:=Heap.get?_push_size s.heap rfl
 have e2:((s.heap.push W.emptyDict).push (W.instObj C s.heap.objs.size)).get? (s.heap.objs.size+1)=some (W.instObj C s.heap.objs.size):=by
  have:=Heap.get?_push_size (s.heap.push W.emptyDict) (o:=W.instObj C s.heap.objs.size) rfl
  rwa [Heap.size_push]at this
 have e3:(s.heap.push W.emptyDict).Ns s.heap.objs.size (fun _=>none):=⟨W.emptyDict,#[],_,e1,rfl,(fun e j=>absurd j (by simp)),fun _=>rfl⟩
 have z:=I.laid (a:=s.heap.objs.size) (o:=.own (s.heap.objs.size+1)) (h':=s.heap.push W.emptyDict) (t':=s.toks) (fun b u q=>Heap.get?_push_of_some _ q) (Nat.le_refl _) ⟨_,e1⟩
 refine z.laid (a:=s.heap.objs.size+1) (o:=.ins C s.heap.objs.size []) (t':=s.toks) (fun b u q=>Heap.get?_push_of_some _ q) (Nat.le_of_eq (Heap.size_push _ _)) ?_
 have ne:s.heap.objs.size≠s.heap.objs.size+1:=Nat.ne_of_lt (Nat.lt_succ_self _)
 refine⟨by rw[x8 ne,x9],Nat.zero_le _,ne,e2,fun _=>none,(Heap.Ns1.of_empty e3).at fun o q=>Heap.get?_push_of_some _ q,fun _=>True.intro,fun y i=>absurd rfl i⟩
theorem xs7 {prog:Program}{w:World}{env:Env}{e:Expr}{f:Str}{pos:Pos}{s:Shared}{Q:Value->Shared->Prop}(j:attributeBase e f env (eval e env)=eval e env)
  (h:wpAny (model prog w) A (eval e env) (fun o i=>wpAny (model prog w) A (getAttr o f true) Q E i) E s):wpAny (model prog w) A (eval (.Attribute e f pos) env) Q E s:=
 Attribute_any_ h (by rw[arm_eval_Attribute,j])
end
def tFld (K:W.Frag)(ta:TE)(f:Str):TE:=fun σ H Q=>ta σ H fun x H1=>∃ a C dx fs v,x= .ref a/\H1 a=some (.ins C dx fs)/\Cls K C/\NoAttr K C f/\fs.lookup f=some v/\Q v H1
def sFld (K:W.Frag)(ta tv:TE)(f:Str):TS:=fun D σ H=>tv σ H fun y H1=>ta σ H1 fun x H2=>∃ a C dx fs,x= .ref a/\H2 a=some (.ins C dx fs)/\Cls K C/\NoAttr K C f/\fs.length<1000/\
 D.nx σ (upd H2 a (.ins C dx (putF f y fs)))
section
variable {X:Cx}{o e value:Expr}{f:Str}{pos pos' tpos:Pos}{ta tv:TE}
theorem ya1 (z:PE X e ta)(G:attributeBase e f X.env (eval e X.env)=eval e X.env):PE X (.Attribute e f pos) (tFld X.K ta f):=by
 intro pins s σ H Q I h
 refine xs7 G (thn (z pins s σ H _ I h) fun u s1 i=>?_)
 obtain⟨x,H1,N,rx,a,C,dx,fs,v,ex,L,c,n,l,q⟩:=i
 subst ex
 obtain rfl:u=Value.ref a:=rx
 exact yu7 N L c n l fun O s2 M j=>⟨v,H1,M,j,q⟩
theorem yb8 (ha:PE X o ta)(L:PE X value tv)(M:swapsWith value (some (.Attribute o f pos')) pos.line X.env=pure false):PS X (.Assign [.Attribute o f pos'] value pos) (sFld X.K ta tv f):=by
 intro pins s σ H D I h
 refine plainObj_wpAny_Assign_Attribute (thn (L pins s σ H _ I h) fun u s1 ⟨y,H1,S,j,q⟩=>thn (ha pins s1 σ H1 _ S q) fun G s2 i=>?_) M
 obtain⟨x,H2,R,rx,a,C,dx,fs,ex,N,c,n,l,z⟩:=i
 subst ex
 obtain rfl:G=Value.ref a:=rx
 exact yw2 R N c n l j fun U O=>⟨σ,_,O,z⟩
end
section
variable {X:Cx}{pins:List (Addr×Obj)}{σ:St}{H:Hp}{s:Shared}{A:Around}{E:Value->Shared->Prop}{Q:Value->Shared->Prop}{c:Value}{b:Bool}
inductive TyOf (K:W.Frag)(H:Hp):V->Value->Prop where
 |non:TyOf K H .non (.type "NoneType")
 |bl (x:Bool):TyOf K H (.bl x) (.type "bool")
 |int (i:Int):TyOf K H (.int i) (.type "int")
 |str (x:Str):TyOf K H (.str x) (.type "str")
 |flt (x:UInt64):TyOf K H (.flt x) (.type "float")
 |lst {a:Addr} {xs:List V} (e:H a=some (.lst xs)):TyOf K H (.ref a) (.type "list")
 |frz {a:Addr} {o:Obj} {xs:List V} (e:H a=some (.frz o (.lst xs))):TyOf K H (.ref a) (.type "list")
 |tup {a:Addr} {xs:List V} (e:H a=some (.tup xs)):TyOf K H (.ref a) (.type "tuple")
 |dK {a:Addr} {kvs:List (Key×V)} (e:H a=some (.dK kvs)):TyOf K H (.ref a) (.type "dict")
 |dT {a:Addr} {kvs:List (List Key×V)} (e:H a=some (.dT kvs)):TyOf K H (.ref a) (.type "dict")
 |ins {a C dx:Addr} {fs:List (Str×V)} (e:H a=some (.ins C dx fs)) (cl:Cls K C) (ha:W.findIn K (.ref C) "__class__"=some (some (.builtin "object.__class__")))
   (hn:W.specialIn K (.builtin "object.__class__") "__get__"=some (some (.builtin "getset_descriptor.__get__"))) (htk:W.takesIn K (.builtin "object.__class__")=some true)
   (hm:W.mroIn K C (.type "object")=some true):TyOf K H (.ref a) (.ref C)
end
end
section
structure Room (k:Nat)(A:Around):Prop where
 hd:A.handled=none
 dp:A.depth+3*k+5<recursionLimit
 un:A.units+16*k+200<cLine
theorem Room.mono {j k:Nat}{A:Around}(r:Room k A)(h:j<=k):Room j A:=⟨r.hd,by have:=r.dp;omega,by have:=r.un;omega⟩
theorem Room.deeper {k:Nat}{A:Around}(r:Room (k+1) A)(env:Env):Room k (A.deeper env):=
 ⟨r.hd,by have:=r.dp;show A.depth+1+3*k+5<_;omega,by have:=r.un;show A.units+3+16*k+200<_;omega⟩
theorem Room.in1 {k:Nat}{A:Around}(r:Room (k+1) A):Room k A.in1:=
 ⟨r.hd,by have:=r.dp;show A.depth+3*k+5<_;omega,by have:=r.un;show A.units+1+16*k+200<_;omega⟩
theorem yu1 {A:Around}{C:Addr}{us:List Value}{i:List (Str×Value)}:(A.under (.builtin "type.__call__" ⟨.ref C::us,i⟩)).depth=A.depth+1:=by
 first|rfl|simp[Around.under,Code.weight,Code.isCreation,Code.isGuard,Code.isCaller,Code.frames,Code.isFrame,guardIds]
theorem yu0 {A:Around}{C:Addr}{us:List Value}{i:List (Str×Value)}:(A.under (.builtin "type.__call__" ⟨.ref C::us,i⟩)).units=A.units+1:=by
 first|rfl|simp[Around.under,Code.cUnits,Code.frames,Code.isFrame]
theorem Room.make {k:Nat}{A:Around}(r:Room (k+1) A)(C:Addr)(us:List Value)(i:List (Str×Value)):Room k (A.under (.builtin "type.__call__" ⟨.ref C::us,i⟩)):=
 ⟨r.hd,by have:=r.dp;rw[yu1];omega,by have:=r.un;rw[yu0];omega⟩
theorem Room.depth {k:Nat}{A:Around}(r:Room k A):A.depth<recursionLimit:=by have:=r.dp;omega
theorem Room.units {k:Nat}{A:Around}(r:Room k A):A.units+64<cLine:=by have:=r.un;omega
def tNil:TA:=fun _ H Q=>Q [] H
def yh2 (ta:TE)(tr:TA):TA:=fun σ H Q=>ta σ H fun x H1=>tr σ H1 fun xs H2=>Q (x::xs) H2
section
variable {X:Cx}{e:Expr}{es:List Expr}{te:TE}{t:TA}{pos:Pos}
theorem pa_nil:PA X [] tNil:=fun _ _ _ _ H Q I h=>Calls.spliced_nil ⟨[],H,I,.nil,h⟩
theorem g5 (ha:PE X e te)(L:PA X es t)(G:starEach (e::es) X.env=(false,eval e X.env)::starEach es X.env:=by rfl):PA X (e::es) (yh2 te t):=by
 intro pos pins s σ H Q I h
 rw[G]
 show wpAny _ _ (spliced ((false,eval e X.env)::backTo pos (starEach es X.env))) _ _ s
 refine Calls.spliced_cons (thn (ha pins s σ H _ I h) fun u s1 i=>?_)
 obtain⟨x,H1,N,r1,z⟩:=i
 exact thn (L pos pins s1 σ H1 _ N z) fun us s2 ⟨xs,H2,M,r2,j⟩=>⟨x::xs,H2,M,.cons r1 r2,j⟩
def tTup (t:TA):TE:=fun σ H Q=>t σ H fun xs H1=>xs.length<=sizeLine/\∀ p,H1 p=none->Q (.ref p) (upd H1 p (.tup xs))
def tLst (t:TA):TE:=fun σ H Q=>t σ H fun xs H1=>xs.length<=sizeLine/\∀ p,H1 p=none->Q (.ref p) (upd H1 p (.lst xs))
theorem ya0 {j}(h:PA X es t):PE X (.Tuple es j pos) (tTup t):=by
 intro pins s σ H Q I G
 refine wpAny_Tuple_spliced (thn (h pos pins s σ H _ I G) fun us s1 ⟨xs,H1,i,r,z,q⟩=>⟨by rw[<-r.length];exact z,?_⟩)
 have L:H1 s1.heap.objs.size=none:=i.hok.fresh (Nat.le_refl _)
 refine⟨.ref s1.heap.objs.size,upd H1 s1.heap.objs.size (.tup xs),i.laid (t':=s1.toks) (fun b u e=>Heap.get?_push_of_some _ e) (Nat.le_refl _) ?_,rfl,q _ L⟩
 exact⟨z,us,r,⟨_,Heap.get?_push_size _ rfl,rfl,_,rfl⟩⟩
theorem za3 (h:PA X es t):PE X (.List es pos) (tLst t):=by
 intro pins s σ H Q I j
 refine wpAny_List_spliced (thn (h pos pins s σ H _ I j) fun us s1 ⟨xs,H1,i,r,z,q⟩=>⟨by rw[<-r.length];exact z,?_⟩)
 have G:H1 s1.heap.objs.size=none:=i.hok.fresh (Nat.le_refl _)
 refine⟨.ref s1.heap.objs.size,upd H1 s1.heap.objs.size (.lst xs),i.laid (t':=s1.toks) (fun b u e=>Heap.get?_push_of_some _ e) (Nat.le_refl _) ?_,rfl,q _ G⟩
 exact⟨z,us,0,r,Heap.get?_push_size _ rfl⟩
end
noncomputable abbrev Sp:=List V->Hp->VK->XK->Prop
noncomputable abbrev CXT:=List Env->Hp->Shared->XK->Value->Shared->Prop
structure Env0 (P:Program)(w:World)(K:W.Frag)(mg:Str->Option Value)(base:Heap)(A:Around)(outer:List Env)(s:Shared)(H:Hp):Prop where
 frames:A.frames=some outer
 mod:Mod K mg base
 bs:∀ b o,base.get? b=some o->s.heap.get? b=some o/\H b=none
 bsz:base.objs.size<=s.heap.objs.size
 funs:s.heap.FunFrames base outer
 frf:∀ b∈frs outer,H b=none
 hok:HOk P w H s.heap
 bare:AllBare s.gens
def CE (outer:List Env)(P:Program)(w:World)(H:Hp)(s:Shared)(Q:VK)(u:Value)(s':Shared):Prop:=
 ∃ v H',s'.os=s.os/\AllBare s'.gens/\Un (frs outer) [] H H' s.heap s'.heap/\HOk P w H' s'.heap/\RelV v u/\Q v H'
def CR (CX:CXT)(outer:List Env)(P:Program)(w:World)(H:Hp)(s:Shared)(Q:VK)(E:XK)(r:Result)(s':Shared):Prop:=
 match r with
 | .ok (.ret u)=>CE outer P w H s Q u s'
 | .ok _=>False
 | .error e=>CX outer H s E e s'
structure FnOk (P:Program)(w:World)(K:W.Frag)(mg:Str->Option Value)(base:Heap)(CX:CXT)(k:Nat)(f:Addr)(fd:FuncData)(ps:List Str)(sp:Sp):Prop where
 len:∀ vs H Q E,sp vs H Q E->vs.length=ps.length
 run:∀(A:Around)(outer:List Env)(s:Shared)(H:Hp)(args:Args)(us:List Value)(vs:List V)(Q:VK)(E:XK),Room k A->Env0 P w K mg base A outer s H->BindsTo s fd args (ps.zip us)->Vals vs us->sp vs H Q E->
  codeAny (model P w) A (.call (.ref f) args) (CR CX outer P w H s Q E) s
theorem FnOk.mono {P:Program}{w:World}{K:W.Frag}{mg:Str->Option Value}{base:Heap}{CX:CXT}{j k:Nat}{f:Addr}{fd:FuncData}{ps:List Str}{sp:Sp}(F:FnOk P w K mg base CX j f fd ps sp)(h:j<=k):
  FnOk P w K mg base CX k f fd ps sp:=⟨F.len,fun A outer s H args us vs Q E i=>F.run A outer s H args us vs Q E (i.mono h)⟩
theorem Env0.make {P:Program}{w:World}{K:W.Frag}{mg:Str->Option Value}{base:Heap}{A:Around}{outer:List Env}{s:Shared}{H:Hp}(e:Env0 P w K mg base A outer s H)(C:Addr)(us:List Value)(i:List (Str×Value)):
  Env0 P w K mg base (A.under (.builtin "type.__call__" ⟨.ref C::us,i⟩)) outer s H:=⟨by first|exact e.frames| (simpa[Around.under,Code.envs,Code.isFrame,pushEnvs]using e.frames),e.mod,e.bs,e.bsz,e.funs,e.frf,e.hok,e.bare⟩
section
variable {X:Cx}{pins:List (Addr×Obj)}{σ:St}{H:Hp}{s s':Shared}
theorem Inv.env0 (I:Inv X pins σ H s):Env0 X.prog X.w X.K X.mg X.base X.A X.stack s H:=
 ⟨I.ok.frames,I.ok.mod,I.bs,Nat.le_trans I.ok.bsz I.sz,I.stack,I.stkFree,I.hok,I.bare⟩
theorem Inv.after {Q:VK}{u:Value}(I:Inv X pins σ H s)(h:CE X.stack X.prog X.w H s Q u s'):EP X pins σ Q u s':=by
 obtain⟨v,H',os,bare,un,hok,r,q⟩:=h
 obtain⟨hh,g,d,t,i⟩:=s'
 obtain rfl:i=s.os:=os
 exact⟨v,H',I.call (h':=hh) (g':=g) (d':=d) (t':=t) (ch:=[]) un hok bare (fun b z=>absurd z (by simp)),r,q⟩
end
def zh2 (sp:Sp)(dvs:List V)(E:XK)(t:TA):TE:=fun σ H Q=>t σ H fun vs H1=>sp (vs++dvs) H1 Q E
def zz7 (C:Addr)(m:Str)(sp:Sp)(dvs:List V)(E:XK)(ta:TE)(t:TA):TE:=fun σ H Q=>ta σ H fun x H1=>∃ a dx fs,x= .ref a/\H1 a=some (.ins C dx fs)/\fs.lookup m=none/\
 t σ H1 fun vs H2=>sp (x::(vs++dvs)) H2 Q E
def xy1 (C:Addr)(sp:Sp)(dvs:List V)(E:XK)(t:TA):TE:=fun σ H Q=>t σ H fun vs H1=>∀ x dx,H1 x=none->H1 dx=none->dx≠x->
 sp (.ref x::(vs++dvs)) (upd (upd H1 dx (.own x)) x (.ins C dx [])) (fun v H2=>v= .non/\Q (.ref x) H2) E
def Binds (K:W.Frag)(fd:FuncData)(ps:List Str)(ds:List Value):Prop:=
 ∀(s:Shared)(us:List Value),K.In s.heap->(us++ds).length=ps.length->BindsTo s fd ⟨us,[]⟩ (ps.zip (us++ds))
theorem Binds.all {K:W.Frag}{fd:FuncData}{ps:List Str}(h:∀ us:List Value,us.length=ps.length->bindArgs fd ⟨us,[]⟩=pure (ps.zip us)):Binds K fd ps []:=fun s us _ i=>by
 rw[append_nil]at i ⊢
 exact .of_eq (h us i)
def C7 (CX:CXT)(X:Cx)(E:XK):Prop:=∀(pins:List (Addr×Obj))(σ:St)(H:Hp)(s:Shared)(e:Value)(s':Shared),Inv X pins σ H s->CX X.stack H s E e s'->X.xe e s'
section
variable {X:Cx}{CX:CXT}{k:Nat}{f C:Addr}{fd:FuncData}{ps:List Str}{sp:Sp}{dvs:List V}{ds:List Value}{E:XK}{x m:Str}{p pos apos:Pos}{e o:Expr}{es:List Expr}{ta:TE}{t:TA}
theorem ys7 {pins:List (Addr×Obj)}{σ:St}{H:Hp}{s:Shared}{Q:VK}{us:List Value}{vs:List V}(F:FnOk X.prog X.w X.K X.mg X.base CX k f fd ps sp)(z:Room k X.A)(L:Binds X.K fd ps ds)(hd:Vals dvs ds)(j:C7 CX X E)
  (I:Inv X pins σ H s) (r:Vals vs us) (h:sp (vs++dvs) H Q E):wpAny (model X.prog X.w) X.A (call (.ref f) us) (EP X pins σ Q) X.xe s:=by
 have r2:Vals (vs++dvs) (us++ds):=r.append hd
 have G:(us++ds).length=ps.length:=by rw[<-r2.length];exact F.len _ _ _ _ h
 refine wpAny_call (codeAny_mono (F.run X.A X.stack s H ⟨us,[]⟩ (us++ds) (vs++dvs) Q E z I.env0 (L s us I.kIn G) r2 h) fun r s' i=>?_)
 cases r with
 |error e=>exact j pins σ H s e s' I i
 |ok M=>
  cases M with
  |ret u=>exact I.after i
  |next=>exact False.elim i
  |brk=>exact False.elim i
  |cont=>exact False.elim i
theorem w8 (F:FnOk X.prog X.w X.K X.mg X.base CX k f fd ps sp)(L:Room k X.A)(M:Gl X x)(hm:X.mg x=some (.ref f))(hk:W.keepIn X.K (.ref f)=true)(O:Binds X.K fd ps ds)(hd:Vals dvs ds)(G:C7 CX X E)
  (ha:PA X (e::es) t) (j:(x==("__debug__":Str))=false:=by decide) (N:starEach (e::es) X.env=(false,eval e X.env)::starEach es X.env:=by rfl) (i:(backTo pos (starEach es X.env)).any (·.1)=false:=by rfl):
  PE X (.Call (.Name x p) (e::es) [] pos) (zh2 sp dvs E t):=by
 intro pins s σ H Q I h
 refine wpAny_Call_Name_kw (P8 I M hm ?_ j)
 refine W.callWith_K (h₀:=X.base) I.ok.mod.kin hk (thn (ha pos pins s σ H _ I h) fun us s1 ⟨vs,H1,z,r,q⟩=>⟨z.kIn,?_⟩) N i
 exact ys7 F L O hd G z r q
theorem zg6 {pl:Sem Bool}(U:PE X o ta)(c:Cls X.K C)(hm:Meth X.K C m f)(F:FnOk X.prog X.w X.K X.mg X.base CX k f fd ps sp)(S:Room k X.A)(Y:Binds X.K fd ps ds)(hd:Vals dvs ds)(O:C7 CX X E)(ha:PA X (e::es) t)
  (j:starEach (e::es) X.env=(false,eval e X.env)::starEach es X.env:=by rfl) (z:(backTo pos (starEach es X.env)).any (·.1)=false:=by rfl)
  (R:eval (.Call (.Attribute o m apos) (e::es) [] pos) X.env=(do
   let G ← eval o X.env
   standAt apos.atName
   let (f,first) ← holding [G] (getMethod G m pl)
   callWith pos f first (backTo pos (starEach (e::es) X.env)) (backToKw pos (keywordEach [] X.env))):=by rfl):
  PE X (.Call (.Attribute o m apos) (e::es) [] pos) (zz7 C m sp dvs E ta t):=by
 intro pins s σ H Q I h
 refine W.methodCall_KW (pl:=pl) (thn (U pins s σ H _ I h) fun u s1 i=>?_) R
 obtain⟨x,H1,M,rx,a,dx,fs,ex,Z,l,q⟩:=i
 subst ex
 obtain rfl:u=Value.ref a:=rx
 refine D0 M Z c hm l ?_
 refine W.callWith_K (first:=[.ref a]) (h₀:=X.base) I.ok.mod.kin hm.kp (thn (ha pos pins s1 σ H1 _ M q) fun us s2 ⟨vs,H2,L,r,N⟩=>⟨L.kIn,?_⟩) j z
 exact ys7 (us:=.ref a::us) (vs:=.ref a::vs) F S Y hd O L (.cons rfl r) N
theorem Z9 {pl:Sem Bool}(N:PE X o ta)(c:Cls X.K C)(hm:Meth X.K C m f)(F:FnOk X.prog X.w X.K X.mg X.base CX k f fd ps sp)(M:Room k X.A)(O:Binds X.K fd ps ds)(hd:Vals dvs ds)(G:C7 CX X E)
  (L:eval (.Call (.Attribute o m apos) [] [] pos) X.env=(do
   let z ← eval o X.env
   standAt apos.atName
   let (f,first) ← holding [z] (getMethod z m pl)
   callWith pos f first (backTo pos (starEach [] X.env)) (backToKw pos (keywordEach [] X.env))):=by rfl):
  PE X (.Call (.Attribute o m apos) [] [] pos) (zz7 C m sp dvs E ta tNil):=by
 intro pins s σ H Q I h
 refine W.methodCall_KW (pl:=pl) (thn (N pins s σ H _ I h) fun u s1 i=>?_) L
 obtain⟨x,H1,j,rx,a,dx,fs,ex,R,l,q⟩:=i
 subst ex
 obtain rfl:u=Value.ref a:=rx
 refine D0 j R c hm l ?_
 exact W.callWith_K0 (first:=[.ref a]) j.kIn hm.kp (ys7 (us:=[.ref a]) (vs:=[.ref a]) F M O hd G j (.cons rfl .nil) q)
structure Mk (K:W.Frag)(C f:Addr):Prop where
 makes:W.makesIn K C=true
 init:W.findIn K (.ref C) "__init__"=some (some (.ref f))
 fn:W.isFn K (.ref f)=true
 kp:W.keepIn K (.ref C)=true
theorem yh7 {pins:List (Addr×Obj)}{σ:St}{H:Hp}{s:Shared}{Q:VK}{us:List Value}{vs:List V}(M:Mk X.K C f)(F:FnOk X.prog X.w X.K X.mg X.base CX k f fd ps sp)(O:Room (k+1) X.A)(S:Binds X.K fd ps ds)(hd:Vals dvs ds)
  (N:C7 CX X E) (I:Inv X pins σ H s) (r:Vals vs us)
  (h:∀ x dx,H x=none->H dx=none->dx≠x->sp (.ref x::(vs++dvs)) (upd (upd H dx (.own x)) x (.ins C dx [])) (fun v H2=>v= .non/\Q (.ref x) H2) E):
  wpAny (model X.prog X.w) X.A (call (.ref C) us) (EP X pins σ Q) X.xe s:=by
 have z:=h (s.heap.objs.size+1) s.heap.objs.size (I.hok.fresh (Nat.le_succ _)) (I.hok.fresh (Nat.le_refl _)) (Nat.ne_of_lt (Nat.lt_succ_self _))
 have j:=Inv.made (C:=C) I
 have r2:Vals (V.ref (s.heap.objs.size+1)::(vs++dvs)) (Value.ref (s.heap.objs.size+1)::(us++ds)):=.cons rfl (r.append hd)
 have R:(Value.ref (s.heap.objs.size+1)::us++ds).length=ps.length:=by
  have e:=r2.length
  rw[F.len _ _ _ _ z]at e
  exact e.symm
 refine wpAny_call (yz8 (f:=f) I.kIn M.makes M.init (beq_iff_eq.mp M.fn) (codeAny_mono (F.run _ X.stack _ _ ⟨Value.ref (s.heap.objs.size+1)::us,[]⟩ (Value.ref (s.heap.objs.size+1)::(us++ds)) _ _ E (O.make C us [])
  (j.env0.make C us []) (S _ (Value.ref (s.heap.objs.size+1)::us) j.kIn R) r2 z) fun r s' i=>?_))
 cases r with
 |error e=>exact N pins σ _ _ e s' j i
 |ok U=>
  cases U with
  |ret u=>
   obtain⟨v,H',Z,G,Y,L⟩:=j.after i
   subst Y
   exact⟨G,⟨V.ref (s.heap.objs.size+1),H',Z,rfl,L⟩⟩
  |next=>exact False.elim i
  |brk=>exact False.elim i
  |cont=>exact False.elim i
theorem yp2 (M:Mk X.K C f)(F:FnOk X.prog X.w X.K X.mg X.base CX k f fd ps sp)(L:Room (k+1) X.A)(N:Gl X x)(hm:X.mg x=some (.ref C))(R:Binds X.K fd ps ds)(hd:Vals dvs ds)(G:C7 CX X E)
  (ha:PA X (e::es) t) (j:(x==("__debug__":Str))=false:=by decide) (O:starEach (e::es) X.env=(false,eval e X.env)::starEach es X.env:=by rfl) (i:(backTo pos (starEach es X.env)).any (·.1)=false:=by rfl):
  PE X (.Call (.Name x p) (e::es) [] pos) (xy1 C sp dvs E t):=by
 intro pins s σ H Q I h
 refine wpAny_Call_Name_kw (P8 I N hm ?_ j)
 refine W.callWith_K (h₀:=X.base) I.ok.mod.kin M.kp (thn (ha pos pins s σ H _ I h) fun us s1 ⟨vs,H1,z,r,q⟩=>⟨z.kIn,?_⟩) O i
 exact yh7 M F L R hd G z r q
end
def PK (X:Cx)(kws:List Keyword)(t:TA):Prop:=
 ∀(pos:Pos)(pins:List (Addr×Obj))(s:Shared)(σ:St)(H:Hp)(Q:List V->Hp->Prop),Inv X pins σ H s->t σ H Q->wpAny (model X.prog X.w) X.A (evalAll ((backToKw pos (keywordEach kws X.env)).map (·.2))) (AP X pins σ Q) X.xe s
section
variable {X:Cx}{CX:CXT}{k:Nat}{f C:Addr}{fd:FuncData}{ps ks:List Str}{sp:Sp}{E:XK}{x m:Str}{p pos apos kpos:Pos}{e o:Expr}{es:List Expr}{kws:List Keyword}{te ta:TE}{t tk:TA}{nm:Option Str}
theorem yb9:PK X [] tNil:=fun _ _ _ _ H Q I h=>wpAny_evalAll_nil ⟨[],H,I,.nil,h⟩
theorem yq5 (ha:PE X e te)(z:PK X kws t):PK X (⟨nm,e,kpos⟩::kws) (yh2 te t):=by
 intro pos pins s σ H Q I h
 show wpAny _ _ (evalAll ((do let v ← eval e X.env;standAt pos;pure v)::(backToKw pos (keywordEach kws X.env)).map (·.2))) _ _ s
 refine wpAny_evalAll_cons (wpAny_bind (thn (ha pins s σ H _ I h) fun u s1 ⟨x,H1,L,r1,j⟩=>wpAny_bind (wpAny_standAt (wpAny_pure ?_))))
 exact thn (z pos pins s1 σ H1 _ L j) fun us s2 ⟨xs,H2,G,r2,i⟩=>⟨x::xs,H2,G,.cons r1 r2,i⟩
structure KBinds (K:W.Frag)(fd:FuncData)(ps ks:List Str)(g:List Value->List Value->List Value)(gV:List V->List V->List V):Prop where
 to:∀(s:Shared)(us ws:List Value),K.In s.heap->(g us ws).length=ps.length->BindsTo s fd ⟨us,ks.zip ws⟩ (ps.zip (g us ws))
 rel:∀{vs:List V}{us:List Value}{zs:List V}{ws:List Value},Vals vs us->Vals zs ws->Vals (gV vs zs) (g us ws)
variable {g:List Value->List Value->List Value}{gV:List V->List V->List V}
end
structure FnScope (N P:List Str)(sc:Scope):Prop where
 kind:sc.kind= .function
 co:sc.isCoroutine=false
 gen:sc.isGenerator=false
 nd:N.Nodup
 pre:N.take P.length=P
 par:∀ x∈P,sc.names.lookup x=some .local\/sc.names.lookup x=some .cell
 nofree:∀ y∈sc.names,y.2≠ .free
theorem zi4 {kindOf:Str->Option NameKind}{x:Str}:∀{binds:List (Str×Value)}{m:Str->Option Value},(∀ v,(x,v)∉binds)->bindL kindOf binds m x=m x
 |[],_,_=>rfl
 | (n,v)::r,m,h=>by
  unfold bindL
  rw[zi4 fun w hw=>h w (mem_cons_of_mem _ hw)]
  split
  .have:x≠n:=by rintro rfl;exact h v mem_cons_self
   simp[this]
  .rfl
theorem zi6 {kindOf:Str->Option NameKind}{x:Str}:∀{binds:List (Str×Value)}{m:Str->Option Value},(∀ v,(x,v)∉binds)->bindC kindOf binds m x=m x
 |[],_,_=>rfl
 | (n,v)::r,m,h=>by
  unfold bindC
  rw[zi6 fun w hw=>h w (mem_cons_of_mem _ hw)]
  split
  .rfl
  .have:x≠n:=by rintro rfl;exact h v mem_cons_self
   simp[this]
theorem zi5 {kindOf:Str->Option NameKind}{x:Str}{v:Value}:∀{P:List Str}{vs:List Value}{i:Nat}{m:Str->Option Value},P.Nodup->P[i]? =some x->vs[i]? =some v->kindOf x=some .local->
  bindL kindOf (P.zip vs) m x=some v
 |[],_,_,_,_,h,_,_=>by simp at h
 |_::_,[],_,_,_,_,h,_=>by simp at h
 |p::P,w::vs,0,m,nd,h1,h2,hk=>by
  simp at h1 h2;subst h1;subst h2
  show bindL kindOf ((p,w)::P.zip vs) m p=_
  unfold bindL
  rw[zi4 fun v j=>(List.nodup_cons.mp nd).1 (of_mem_zip j).1,if_pos hk]
  simp
 |p::P,w::vs,i+1,m,nd,h1,h2,hk=>by
  show bindL kindOf ((p,w)::P.zip vs) m x=_
  unfold bindL
  exact zi5 (i:=i) (List.nodup_cons.mp nd).2 (by simpa using h1) (by simpa using h2) hk
theorem zi7 {kindOf:Str->Option NameKind}{x:Str}{v:Value}:∀{P:List Str}{vs:List Value}{i:Nat}{m:Str->Option Value},P.Nodup->P[i]? =some x->vs[i]? =some v->kindOf x≠some .local->
  bindC kindOf (P.zip vs) m x=some v
 |[],_,_,_,_,h,_,_=>by simp at h
 |_::_,[],_,_,_,_,h,_=>by simp at h
 |p::P,w::vs,0,m,nd,h1,h2,hk=>by
  simp at h1 h2;subst h1;subst h2
  show bindC kindOf ((p,w)::P.zip vs) m p=_
  unfold bindC
  rw[zi6 fun v j=>(List.nodup_cons.mp nd).1 (of_mem_zip j).1,if_neg hk]
  simp
 |p::P,w::vs,i+1,m,nd,h1,h2,hk=>by
  show bindC kindOf ((p,w)::P.zip vs) m x=_
  unfold bindC
  exact zi7 (i:=i) (List.nodup_cons.mp nd).2 (by simpa using h1) (by simpa using h2) hk
noncomputable def start (N:List Str)(vs:List V):St:=vs.map some++List.replicate (N.length-vs.length) none
noncomputable def cxOf (CX:CXT)(P:Program)(w:World)(K:W.Frag)(mg:Str->Option Value)(base:Heap)(N:List Str)(qual:Str)(scope:Scope)(f:Addr)(cd:Value)(A:Around)(outer:List Env)(s:Shared)(H:Hp)(E:XK):Cx where
 prog:=P
 w:=w
 K:=K
 mg:=mg
 base:=base
 A:=A.deeper (envOfC qual scope s.heap.objs.size f cd)
 N:=N
 s₀:=s
 H₀:=H
 env:=envOfC qual scope s.heap.objs.size f cd
 outer:=outer
 stack:=envOfC qual scope s.heap.objs.size f cd::outer
 ex:=[]
 calm:=true
 fn:=fun _=>true
 pn:=[]
 xe:=fun e s'=>wpAny (model P w) (A.deeper (envOfC qual scope s.heap.objs.size f cd)) (leaving (envOfC qual scope s.heap.objs.size f cd) e) (fun _ s''=>CX outer H s E e s'') (fun e' s''=>CX outer H s E e' s'') s'
theorem yy4 {sc:Scope}{n:Nat}{x:Str}(h:sc.names.lookup x=some .cell):∃ c,(cellsFrom n sc.names []).lookup x=some c:=by
 have q:=W.cellsFrom_some sc.names n [] (.inl h)
 exact Option.isSome_iff_exists.mp q
theorem zk9 {CX:CXT}{P:Program}{w:World}{K:W.Frag}{mg:Str->Option Value}{base:Heap}{N ps:List Str}{qual:Str}{scope:Scope}{f:Addr}{cd:Value}{A:Around}{outer:List Env}{s s1:Shared}{H:Hp}{E:XK}{us:List Value}{vs:List V}
  (S:FnScope N ps scope) (hd:A.handled=none) (j:Env0 P w K mg base A outer s H) (U:vs.length=ps.length) (r:Vals vs us)
  (x:InCallC s s.heap.objs.size (bindL (envOfC qual scope s.heap.objs.size f cd).kindOf (ps.zip us) fun _=>none) (cellsFrom (s.heap.objs.size+1) scope.names []) (bindC (envOfC qual scope s.heap.objs.size f cd).kindOf (ps.zip us) fun _=>none) s1):
  Inv (cxOf CX P w K mg base N qual scope f cd A outer s H E) [] (start N vs) H s1:=by
 have R:ps.length<=N.length:=by have:=congrArg List.length S.pre;rw[length_take]at this;omega
 obtain⟨h1,tk,rfl,hk⟩:=x.done
 have G:∀ b:Addr,b∉(cxOf CX P w K mg base N qual scope f cd A outer s H E).ex:=fun b z=>absurd (show b∈([]:List Addr)from z) (by simp)
 refine⟨⟨j.mod,S.kind,rfl,rfl,Nat.le_refl _,fun y z c h1 h2=>?_,fun y I=>?_,fun y c _ h=>?_,fun _=>hd,Around.frames_deeper j.frames,.inr ⟨rfl,rfl⟩,fun b z=>absurd z (G b),j.bs,j.bsz,fun b _ _=>G b,fun b z=>absurd z (G b),j.funs,j.frf⟩,
  rfl,j.bare,Un.kept hk,⟨_,x.toInCall.ns,fun i y v h1 h2 Y=>?_⟩,fun y c h=>⟨_,x.cell y c h⟩,j.hok.fresh (Nat.le_refl _),fun y c h=>?_,fun p hp=>absurd (show p∈([]:List (Addr×Obj))from hp) (by simp),j.hok.kept hk,?_⟩
 .exact name_of_addr x.apart (PySem.mem_of_lookup h1) (PySem.mem_of_lookup h2)
 .have I:scope.names.lookup y=some .cell\/scope.names.lookup y=some .free:=I
  rcases I with I|I
  .exact yy4 I
  .exact absurd rfl (S.nofree _ (PySem.mem_of_lookup I))
 .exact Nat.le_of_lt (x.above y c (PySem.mem_of_lookup h))
 .have hi:i<vs.length:=by
   unfold start at h2
   by_cases hi:i<vs.length
   .exact hi
   .rw[getElem?_append_right (by simpa using hi)]at h2
    rw[getElem?_replicate]at h2
    split at h2 <;> cases h2
  have ha:vs[i]? =some v:=by
   unfold start at h2
   rw[getElem?_append_left (by simpa using hi),getElem?_map]at h2
   cases e:vs[i]? with
   |none=>rw[e]at h2;cases h2
   |some a=>rw[e]at h2;cases h2;rfl
  obtain⟨u,M,O⟩:=r.get ha
  have hp:ps[i]? =some y:=by
   rw[<-S.pre,getElem?_take_of_lt (by omega)];exact h1
  have L:ps.Nodup:=by rw[<-S.pre];exact S.nd.sublist (take_sublist _ _)
  refine⟨u,O,?_⟩
  rcases S.par y (mem_of_getElem? hp)with k|k
  .exact .inl ⟨k,zi5 L hp M k⟩
  .obtain⟨c,e⟩:=yy4 (n:=s.heap.objs.size+1) k
   refine .inr ⟨.inl k,c,e,?_⟩
   have q:=x.cell y c e
   rw[zi7 L hp M (by show scope.names.lookup y≠_;rw[k];decide)]at q
   exact q
 .exact j.hok.fresh (Nat.le_of_lt (x.above y c (PySem.mem_of_lookup h)))
 .unfold start
  show _=N.length
  rw[length_append,length_map,length_replicate]
  omega
theorem xj4 {CX:CXT}{P:Program}{w:World}{K:W.Frag}{mg:Str->Option Value}{base:Heap}{k:Nat}{f:Addr}{name qual:Str}{params:Arguments}{body:List Stmt}{scope:Scope}{Z kV doc pm cdv ct oc:Value}{an od:Option Addr}
  {osl:Array (Option Value)} {N ps:List Str} {sp:Sp} (lk:K.lookup f=some ⟨oc,od,.func (W.fnOf name qual params body scope Z kV doc pm an cdv ct),osl⟩) (Y:W.codeIn K cdv qual=true) (S:FnScope N ps scope)
  (len:∀ vs H Q E,sp vs H Q E->vs.length=ps.length)
  (z:∀(A:Around)(outer:List Env)(s:Shared)(H:Hp)(vs:List V)(Q:VK)(E:XK),Room k (A.deeper (envOfC qual scope s.heap.objs.size f cdv))->sp vs H Q E->
   ∃ t,PSs (cxOf CX P w K mg base N qual scope f cdv A outer s H E) body t/\t { nx:=fun _ H'=>Q .non H',rt:=Q } (start N vs) H):
  FnOk P w K mg base CX (k+1) f (W.fnOf name qual params body scope Z kV doc pm an cdv ct) ps sp:=by
 refine⟨len,fun A outer s H args us vs Q E U M hb r L=>?_⟩
 have hl:=len _ _ _ _ L
 have KX:K.In s.heap:=M.mod.kin.keeps fun b o e=>(M.bs b o e).1
 have R:s.heap.NoLimit:=M.mod.nolimit.keeps fun b o e=>(M.bs b o e).1
 have j:∀ y∈ps.zip us,scope.names.lookup y.1=some .local\/(scope.names.lookup y.1=some .cell/\((cellsFrom (s.heap.objs.size+1) scope.names []).lookup y.1).isSome=true):=fun⟨n,v⟩ hy=>by
  rcases S.par n (of_mem_zip hy).1 with q|q
  .exact .inl q
  .exact .inr ⟨q,W.cellsFrom_some _ _ _ (.inl q)⟩
 refine codeAny_call_function U.depth (KX _ _ lk) rfl S.co S.gen rfl (W.codeRec_of KX Y) (hb _ _ _ _ ?_)
 refine wpAny_newFunctionEnv_cells S.kind j fun env he s1 x=>?_
 subst he
 refine⟨R.keeps x.toInCall.keep,codeAny_func ?_⟩
 obtain⟨t,ht,hq⟩:=z A outer s H vs Q E (U.deeper _) L
 have I:Inv (cxOf CX P w K mg base N qual scope f cdv A outer s H E) [] (start N vs) H s1:=zk9 S U.hd M hl r x
 refine wpAny_mono (ht [] s1 (start N vs) H _ I hq) (fun fl s' G=>?_) fun e s' G=>G
 have fin:∀{i:St}{H':Hp}{v:V}{u:Value},Inv (cxOf CX P w K mg base N qual scope f cdv A outer s H E) [] i H' s'->RelV v u->Q v H'->CE outer P w H s Q u s':=
  fun{i H' v u} J O q=>⟨v,H',J.os,J.bare,J.base,J.hok,O,q⟩
 cases fl with
 |ret u=>
  obtain⟨v,i,H',J,O,q⟩:=G
  exact fin J O q
 |next=>
  obtain⟨i,H',J,q⟩:=G
  exact fin (v:=V.non) (u:=Value.none) J rfl q
 |brk=>
  obtain⟨_,_,_,q⟩:=G
  exact False.elim q
 |cont=>
  obtain⟨_,_,_,q⟩:=G
  exact False.elim q
end
section
section
variable {X:Cx}{x:Str}{p pos:Pos}{e:Expr}{es:List Expr}{t:TA}{id T:String}{r:List V->Hp->VK->Prop}
def tCB (r:List V->Hp->VK->Prop)(t:TA):TE:=fun σ H Q=>t σ H fun vs H1=>r vs H1 Q
theorem U3 (N:zv5 X (.builtin id) r)(L:Gl X x)(hm:X.mg x=none)(G:bootBuiltins x=some (.builtin id))(ha:PA X (e::es) t)(hn:x≠"__name__":=by decide)(j:(x==("__debug__":Str))=false:=by decide)
  (M:starEach (e::es) X.env=(false,eval e X.env)::starEach es X.env:=by rfl) (i:(backTo pos (starEach es X.env)).any (·.1)=false:=by rfl):PE X (.Call (.Name x p) (e::es) [] pos) (tCB r t):=by
 intro pins s σ H Q I h
 refine wpAny_Call_Name_kw (J3 I L hm G ?_ hn j)
 exact PyProof.Rows.callWith_builtin1 (thn (ha pos pins s σ H _ I h) fun us s1 ⟨vs,H1,O,r1,z⟩=>N pins s1 σ H1 vs us Q O r1 z) M i
theorem zm1 (N:zv5 X (.type T) r)(L:Gl X x)(hm:X.mg x=none)(G:bootBuiltins x=some (.type T))(ha:PA X (e::es) t)(hn:x≠"__name__":=by decide)(j:(x==("__debug__":Str))=false:=by decide)
  (M:starEach (e::es) X.env=(false,eval e X.env)::starEach es X.env:=by rfl) (i:(backTo pos (starEach es X.env)).any (·.1)=false:=by rfl):PE X (.Call (.Name x p) (e::es) [] pos) (tCB r t):=by
 intro pins s σ H Q I h
 refine wpAny_Call_Name_kw (J3 I L hm G ?_ hn j)
 exact PyProof.Rows.callWith_type1 (thn (ha pos pins s σ H _ I h) fun us s1 ⟨vs,H1,O,r1,z⟩=>N pins s1 σ H1 vs us Q O r1 z) M i
end
end
end L2
namespace HT
open PySem PyProof.Rows
theorem rcLt_int (A:Around)(s:Shared)(a:Int)(t:Tok)(c:Int)(u:Tok)(prog:Program)(w:World)(E:Value->Shared->Prop)(Q:Value->Shared->Prop)(h:Q (.bool (decide (a<c))) s):
  wpAny (model prog w) A (richCompare .Lt (.int a t) (.int c u)) Q E s:=
 (PyProof.Rows.lt_int h:wpAny (model prog w) A (compareOp .Lt (.int a t) (.int c u)) Q E s)
section
open PySem.SeqAt
open PySem.AutoSeq1 (wpAny_loadPart')
open PySem.MeetsSeq PySem.MeetsSeq2 PySem.MeetsSeq3
end
section
variable {prog:Program}{w:World}{A:Around}{E:Value->Shared->Prop}{s:Shared}
noncomputable def sIx (n d:Nat):Option Int->Nat
 |none=>d
 |some v=>if v<0 then (v+(n:Int)).toNat else min v.toNat n
theorem sIx_none (n d:Nat):sIx n d none=d:=rfl
theorem sIx_nat (n d k:Nat):sIx n d (some (k:Int))=min k n:=by
 show (if (k:Int)<0 then ((k:Int)+(n:Int)).toNat else min (k:Int).toNat n)=min k n
 rw[if_neg (by omega),Int.toNat_natCast]
end
end HT
namespace L2
open List
open PySem PySem.Spec PyProof.Rows
section
noncomputable abbrev TO:=St->Hp->(Option Int->Hp->Prop)->Prop
def PO (X:Cx)(e:Option Expr)(t:TO):Prop:=
 ∀(pins:List (Addr×Obj))(s:Shared)(σ:St)(H:Hp)(Q:Option Int->Hp->Prop),Inv X pins σ H s->t σ H Q->
  wpAny (model X.prog X.w) X.A (evalPart e X.env) (fun u s'=>∃ o H',Inv X pins σ H' s'/\IsPart u o/\Q o H') X.xe s
noncomputable def xy0:TO:=fun _ H Q=>Q none H
noncomputable def xh6 (t:TE):TO:=fun σ H Q=>t σ H fun x H1=>∃ i,x= .int i/\Q (some i) H1
section
variable {X:Cx}{e:Expr}{te:TE}{lo hi:Option Expr}{tl th:TO}{pos p2:Pos}
theorem xw0:PO X none xy0:=by
 intro pins s σ H Q I h
 rw[evalPart_none]
 exact wpAny_pure ⟨none,H,I,.none,h⟩
theorem xx9 (h:PE X e te):PO X (some e) (xh6 te):=by
 intro pins s σ H Q I hw
 rw[evalPart_some]
 refine thn (h pins s σ H _ I hw) fun u s1 j=>?_
 obtain⟨x,H1,G,r1,z⟩:=j
 obtain⟨i,rfl,q⟩:=z
 obtain⟨t,rfl⟩:=r1
 exact⟨some i,H1,G,.int i t,q⟩
def SlR (X:Cx)(r:V->Option Int->Option Int->Hp->VK->Prop):Prop:=
 ∀(pins:List (Addr×Obj))(s:Shared)(σ:St)(H:Hp)(x:V)(v vl vu:Value)(lo hi:Option Int)(sl:Addr)(Q:VK),Inv X pins σ H s->RelV x v->s.heap.IsSliceOf sl vl vu .none->IsPart vl lo->IsPart vu hi->r x lo hi H Q->
  ∃ T id,typeLookup (.type T) "__getitem__"=pure (some (.builtin id))/\s.TypeIs v T/\wpAny (model X.prog X.w) X.A (getItem v (.ref sl)) (EP X pins σ Q) X.xe s
def tSl (r:V->Option Int->Option Int->Hp->VK->Prop)(te:TE)(tl th:TO):TE:=fun σ H Q=>te σ H fun x H1=>tl σ H1 fun l H2=>th σ H2 fun u H3=>r x l u H3 Q
theorem yg9 {r:V->Option Int->Option Int->Hp->VK->Prop}(Y:SlR X r)(he:PE X e te)(Z:PO X lo tl)(S:PO X hi th):PE X (.Subscript e (.Slice lo hi none p2) pos) (tSl r te tl th):=by
 intro pins s σ H Q I h
 refine Subscript_ (thn (he pins s σ H _ I h) fun v s1 i=>?_)
 obtain⟨x,H1,I1,r1,O⟩:=i
 refine wpAny_Slice (thn (Z pins s1 σ H1 _ I1 O) fun G s2 ⟨l,H2,I2,pl,N⟩=>thn (S pins s2 σ H2 _ I2 N) fun z j i=>?_)
 obtain⟨u,L,I3,R,M⟩:=i
 rw[evalPart_none]
 refine wpAny_pure ?_
 have I4:Inv X pins σ L { j with heap:=j.heap.push { cls:=.type "slice",data:=.fields #[G,z,.none] } }:=I3.kept (t':=j.toks) fun b ob q=>Heap.get?_push_of_some _ q
 obtain⟨T,id,hT,U,hg⟩:=Y pins { j with heap:=j.heap.push { cls:=.type "slice",data:=.fields #[G,z,.none] } } σ L x v G z l u j.heap.objs.size Q I4 r1 (Heap.IsSliceOf.new ..) pl R M
 show wpAny (model X.prog X.w) X.A (subscriptTail e (.Slice lo hi none p2) v (.ref j.heap.objs.size)) (EP X pins σ Q) X.xe { j with heap:=j.heap.push { cls:=.type "slice",data:=.fields #[G,z,.none] } }
 exact tail_any (ops:=[.ref j.heap.objs.size,v]) U hT hg (by with_unfolding_all rfl)
noncomputable def cutV (xs:List V)(lo hi:Option Int):List V:=(xs.drop (HT.sIx xs.length 0 lo)).take (HT.sIx xs.length xs.length hi-HT.sIx xs.length 0 lo)
theorem zd7 (xs:List V)(lo hi:Option Int):(cutV xs lo hi).length<=xs.length:=by
 unfold cutV
 rw[length_take,length_drop]
 omega
end
end
section
noncomputable def ixN (n:Nat)(i:Int):Option Nat:=if 0<=i then (if i<n then some i.toNat else none)else if -(n:Int)<=i then some (i+n).toNat else none
noncomputable def atI {α:Type}(xs:List α)(i:Int):Option α:=(ixN xs.length i).bind fun j=>xs[j]?
theorem ym3 {n:Nat}{i:Int}{j:Nat}(h:ixN n i=some j):seqIndex? i n=some j/\j<n/\ -(n:Int)<=i/\i<n:=by
 unfold ixN at h
 by_cases z:0<=i
 .rw[if_pos z]at h
  by_cases h1:i<n
  .rw[if_pos h1]at h
   have e:i.toNat=j:=Option.some.inj h
   exact⟨by rw[seqIndex_of z h1,e],by omega,by omega,h1⟩
  .rw[if_neg h1]at h;cases h
 .rw[if_neg z]at h
  by_cases h1:-(n:Int)<=i
  .rw[if_pos h1]at h
   have e:(i+n).toNat=j:=Option.some.inj h
   exact⟨by rw[seqIndex_neg (by omega) h1,e],by omega,h1,by omega⟩
  .rw[if_neg h1]at h;cases h
theorem xs8 {z:Type}{xs:List z}{i:Int}{v:z}(h:atI xs i=some v):∃ j,seqIndex? i xs.length=some j/\xs[j]? =some v/\j<xs.length/\ -(xs.length:Int)<=i/\i<xs.length:=by
 unfold atI at h
 cases e:ixN xs.length i with
 |none=>rw[e]at h;cases h
 |some j=>
  rw[e]at h
  obtain⟨h1,h2,I,G⟩:=ym3 e
  exact⟨j,h1,h,h2,I,G⟩
def zp5 (b:Expr):Prop:=∀ o i,subscripted b false o i=operate [o,i] (getItem o i)
def IxR (X:Cx)(r:R2):Prop:=
 ∀(value slice:Expr)(pins:List (Addr×Obj))(s:Shared)(σ:St)(H:Hp)(x y:V)(v u:Value)(Q:VK),Inv X pins σ H s->RelV x v->RelV y u->r x y H Q->
  subscripted slice false v u=operate [v,u] (getItem v u)->wpAny (model X.prog X.w) X.A (subscriptTail value slice v u) (EP X pins σ Q) X.xe s
def MtR (X:Cx)(id:String)(r:V->List V->Hp->VK->Prop):Prop:=
 ∀(pins:List (Addr×Obj))(s:Shared)(σ:St)(H:Hp)(x:V)(xs:List V)(v:Value)(us:List Value)(Q:VK),Inv X pins σ H s->RelV x v->Vals xs us->r x xs H Q->
  wpAny (model X.prog X.w) X.A (call (.builtin id) (v::us)) (EP X pins σ Q) X.xe s
section
variable {X:Cx}{a b:Expr}{ta tb:TE}{pos:Pos}
theorem xw2 {r:R2}(z:IxR X r)(ha:PE X a ta)(G:PE X b tb)(j:zp5 b):PE X (.Subscript a b pos) (tOp r ta tb):=by
 intro pins s σ H Q I h
 exact Subscript_ (binT ha G I h fun v u s2 x y H2 L rx i q=>z a b pins s2 σ H2 x y v u Q L rx i q (j _ _))
def rIxL (K:W.Frag):R2:=fun x y H Q=>∃ p xs i v,x= .ref p/\y= .int i/\SqL K H p xs/\atI xs i=some v/\Q v H
theorem ym2:IxR X (rIxL X.K):=by
 intro value G pins s σ H x y v u Q I rx R h M
 obtain⟨p,xs,i,z,rfl,rfl,S,Y,q⟩:=h
 cases rx
 obtain⟨t,rfl⟩:=R
 obtain⟨its,r,pl,hz⟩:=I.list S
 obtain⟨j,h1,h2,h3,h4,Z⟩:=xs8 Y
 obtain⟨w,O,L⟩:=r.get h2
 have U:=r.length
 have hn:=yz9
 have fin:EP X pins σ Q w s:=⟨z,H,I,L,q⟩
 by_cases N:0<=i
 .have hj:i.toNat=j:=by
   rw[seqIndex_of N Z]at h1
   exact Option.some.inj h1
  exact item_listR pl.isList N (by omega) (by rw[hj];simpa using O) fin M
 .have hj:(i+(its.toArray.size:Int)).toNat=j:=by
   rw[seqIndex_neg (by omega) h4]at h1
   rw[size_toArray,<-U]
   exact Option.some.inj h1
  exact subscriptTail_builtinR (x:=w) pl.isList.typeIs slot_list_getitem.lookup
   (wpAny_getItem_list_neg (Q:=fun r s'=>r=w/\EP X pins σ Q r s') pl.isList (by omega) (by rw[size_toArray] <;> omega) (by omega) (by rw[hj];simpa using O) ⟨rfl,fin⟩) M
theorem yv8 (its:List Value)(n j:Nat)(u:Value):Obj.mapSeq (·.setIfInBounds j u) { cls:=.type "list",data:=.seq its.toArray n }={ cls:=.type "list",data:=.seq (its.set j u).toArray n }:=by
 simp[Obj.mapSeq]
theorem Inv.lst {pins:List (Addr×Obj)}{σ:St}{H:Hp}{s:Shared}{p:Addr}{xs:List V}(I:Inv X pins σ H s)(h:H p=some (.lst xs)):
  ∃(its:List Value)(n:Nat),Vals xs its/\s.heap.get? p=some { cls:=.type "list",data:=.seq its.toArray n }/\xs.length<=sizeLine:=by
 obtain⟨z,its,n,r,e⟩:=I.hok p _ h
 exact⟨its,n,r,e,z⟩
theorem Inv.lstUpd {pins:List (Addr×Obj)}{σ:St}{H:Hp}{s:Shared}{p:Addr}{xs ys:List V}{its its':List Value}{n n':Nat}{f:Obj->Obj}(I:Inv X pins σ H s)(h:H p=some (.lst xs))
  (z:s.heap.get? p=some { cls:=.type "list",data:=.seq its.toArray n }) (i:f { cls:=.type "list",data:=.seq its.toArray n }={ cls:=.type "list",data:=.seq its'.toArray n' }) (r:Vals ys its') (j:ys.length<=sizeLine) (t:Nat):
  Inv X pins σ (upd H p (.lst ys)) { s with heap:=s.heap.update p f,toks:=t }:=by
 have e:(s.heap.update p f).get? p=some { cls:=.type "list",data:=.seq its'.toArray n' }:=by
  rw[Heap.get?_update_self f z (by rw[i] <;> rfl),i]
 refine I.write (x:=p) (e:=p) (by rw[h];trivial) (.inl rfl) (fun b u G q=>(Heap.get?_update_other _ _ (Ne.symm G)).trans q) ⟨_,e⟩ ?_
 exact⟨j,its',n',r,e⟩
def xp5:V->V->V->Hp->(Hp->Prop)->Prop:=fun o i v H Q=>∃ p xs k j,o= .ref p/\i= .int k/\H p=some (.lst xs)/\ixN xs.length k=some j/\Q (upd H p (.lst (xs.set j v)))
theorem O4:PSet X xp5:=by
 intro pins s σ H o i v ov iv u Q I S U R h
 obtain⟨p,xs,k,j,rfl,rfl,hp,Z,q⟩:=h
 cases S
 obtain⟨t,rfl⟩:=U
 obtain⟨its,n,r,z,Y⟩:=I.lst hp
 obtain⟨h1,h2,M,L⟩:=ym3 Z
 have G:=r.length
 have hn:=yz9
 have O:Inv X pins σ (upd H p (.lst (xs.set j v))) { s with heap:=s.heap.update p (Obj.mapSeq (·.setIfInBounds j u)) }:=
  I.lstUpd hp z (yv8 its n j u) (r.set R j) (by rw[length_set];exact Y) s.toks
 by_cases N:0<=k
 .have hk:k.toNat=j:=by
   rw[seqIndex_of N L]at h1
   exact Option.some.inj h1
  exact W.ki_setAt z N (by omega) (by rw[size_toArray,<-G];exact L) (by rw[hk];exact⟨_,O,q⟩)
 .have hk:(k+(its.toArray.size:Int)).toNat=j:=by
   rw[seqIndex_neg (by omega) M]at h1
   rw[size_toArray,<-G]
   exact Option.some.inj h1
  exact W.ki_setBack z (by omega) (by rw[size_toArray,<-G];exact M) (by omega) (by rw[hk];exact⟨_,O,q⟩)
theorem zo6 (lo hi:Option Int)(n:Nat):(sliceBounds lo hi none n).1=((HT.sIx n 0 lo:Nat):Int)/\(sliceBounds lo hi none n).2.1=((HT.sIx n n hi:Nat):Int)/\(sliceBounds lo hi none n).2.2=1:=by
 refine⟨?_,?_,rfl⟩
 .cases lo with
  |none=>simp[sliceBounds,HT.sIx]
  |some i=>
   simp only[sliceBounds,HT.sIx,Option.getD_none,show (1:Int)>0 by decide,if_true]
   by_cases h:i<0
   .simp only[h,if_true] <;> omega
   .simp only[h,if_false] <;> omega
 .cases hi with
  |none=>simp[sliceBounds,HT.sIx]
  |some i=>
   simp only[sliceBounds,HT.sIx,Option.getD_none,show (1:Int)>0 by decide,if_true]
   by_cases h:i<0
   .simp only[h,if_true] <;> omega
   .simp only[h,if_false] <;> omega
theorem zr1 (its:List Value)(lo hi:Option Int):slicePick its.toArray lo hi none=((its.drop (HT.sIx its.length 0 lo)).take (HT.sIx its.length its.length hi-HT.sIx its.length 0 lo)).toArray:=by
 obtain⟨h1,h2,i⟩:=zo6 lo hi its.toArray.size
 unfold slicePick
 rw[h1,h2,i]
 simp only[sliceRange_one,pick_run,size_toArray] <;> rfl
def rSlL (K:W.Frag):V->Option Int->Option Int->Hp->VK->Prop:=fun x lo hi H Q=>∃ a xs,x= .ref a/\SqL K H a xs/\∀ p,H p=none->Q (.ref p) (upd H p (.lst (cutV xs lo hi)))
theorem xy4:SlR X (rSlL X.K):=by
 intro pins s σ H x v O N lo hi sl Q I rx M pl z h
 obtain⟨a,xs,rfl,L,q⟩:=h
 cases rx
 obtain⟨its,r,j,G⟩:=I.list L
 have i:=r.length
 refine⟨"list",_,slot_list_getitem.lookup,j.isList.typeIs,?_⟩
 refine wpAny_getItem_list_slice j.isList M pl z .none (by simp) ?_ (by rw[size_toArray] <;> omega)
 rw[zr1,<-i]
 refine⟨.ref s.heap.objs.size,_,I.laid (t':=s.toks) (o:=.lst (cutV xs lo hi)) (fun b ob q=>Heap.get?_push_of_some _ q) (Nat.le_refl _) ?_,rfl,q _ (I.hok.fresh (Nat.le_refl _))⟩
 exact⟨Nat.le_trans (zd7 xs lo hi) G,_,0,(r.drop (HT.sIx xs.length 0 lo)).take (HT.sIx xs.length xs.length hi-HT.sIx xs.length 0 lo),Heap.get?_push_size _ rfl⟩
theorem zi2:zv5 X (.builtin "len") (fun xs H Q=>∃ p ys,xs=[.ref p]/\(SqL X.K H p ys\/SqT X.K H p ys)/\Q (.int ys.length) H):=by
 intro pins s σ H xs us Q I r h
 obtain⟨p,ys,rfl,j,q⟩:=h
 obtain⟨u,rfl,rx⟩:=zz6 r
 cases rx
 have hn:=yz9
 rcases j with j|j
 .obtain⟨its,r',pl,hz⟩:=I.list j
  have i:=r'.length
  exact Calls.call_len_list pl.isList (by simp only[size_toArray] <;> omega) ⟨.int ys.length,H,I.tok _,⟨s.toks+1,by rw[size_toArray,i]⟩,q⟩
 .obtain⟨its,r',pl,hz⟩:=I.tuple j
  have i:=r'.length
  exact len_tuple pl (by simp only[size_toArray] <;> omega) ⟨.int ys.length,H,I.tok _,⟨s.toks+1,by rw[size_toArray,i]⟩,q⟩
theorem zi1:zv5 X (.type "list") (fun xs H Q=>∃ p ys,xs=[.ref p]/\(SqL X.K H p ys\/SqT X.K H p ys)/\∀ l,H l=none->Q (.ref l) (upd H l (.lst ys))):=by
 intro pins s σ H xs us Q I r h
 obtain⟨p,ys,rfl,G,q⟩:=h
 obtain⟨u,rfl,rx⟩:=zz6 r
 cases rx
 have fin:∀(its:List Value),Vals ys its->ys.length<=sizeLine->∀(h':Heap)(j:Nat),(∀ b o',s.heap.get? b=some o'->h'.get? b=some o')->
   h'.get? s.heap.objs.size=some { cls:=.type "list",dict:=none,data:=.seq its.toArray j,slots:=#[] }->EP X pins σ Q (.ref s.heap.objs.size) { s with heap:=h' }:=fun its i z h' j kp e=>
  ⟨.ref s.heap.objs.size,_,I.laid (t':=s.toks) kp (Nat.le_refl _) (show ObjOk X.prog X.w _ h' _ (.lst ys)from⟨z,its,j,i,e⟩),rfl,q _ (I.hok.fresh (Nat.le_refl _))⟩
 rcases G with G|G
 .obtain⟨its,i,pl,z⟩:=I.list G
  have L:=i.length
  obtain⟨o,M,N,n,hd⟩:=pl.isList
  exact call_list_seq p (.inl rfl) M N hd (fun h' j kp e=>fin its i z h' j kp e) (by simp only[size_toArray] <;> omega)
 .obtain⟨its,i,pl,z⟩:=I.tuple G
  have L:=i.length
  obtain⟨o,M,N,n,hd⟩:=pl
  exact call_list_seq p (.inr rfl) M N hd (fun h' j kp e=>fin its i z h' j kp e) (by simp only[size_toArray] <;> omega)
def tyV (K:W.Frag)(T:String)(x:V)(H:Hp):Prop:=match x with
 | .str _=>T="str"
 | .int _=>T="int"
 | .ref p=>(T="list"/\∃ xs,SqL K H p xs)\/(T="tuple"/\∃ o,K.lookup p=some o/\o.cls= .type "tuple"/\o.dict=none)\/
   (T="dict"/\((∃ kvs,H p=some (.dK kvs))\/∃ kvs,H p=some (.dT kvs)))\/(T="set"/\∃ S n,H p=some (.set S n))
 |_=>False
theorem xr8 {pins:List (Addr×Obj)}{σ:St}{H:Hp}{s:Shared}{T:String}{x:V}{v:Value}(I:Inv X pins σ H s)(r:RelV x v)(ty:tyV X.K T x H):
  s.TypeIs v T/\∀ a,v= .ref a->∃ ob,s.heap.get? a=some ob/\ob.dict=none:=by
 cases x with
 |str z=>
  obtain⟨t,rfl⟩:=r
  cases (show T="str" from ty)
  exact⟨typeIs_str s z t,fun _ e=>nomatch e⟩
 |int i=>
  obtain⟨t,rfl⟩:=r
  cases (show T="int" from ty)
  exact⟨typeIs_int s i t,fun _ e=>nomatch e⟩
 |ref p=>
  cases r
  rcases ty with⟨rfl,xs,j⟩|⟨rfl,o,hk,G,hd⟩|⟨rfl,hk⟩|⟨rfl,S,n,hk⟩
  .obtain⟨its,_,pl,_⟩:=I.list j
   refine⟨pl.isList.typeIs,fun a e=>?_⟩
   cases e
   obtain⟨o,n,e,c,hd,_⟩:=pl
   exact⟨o,e,hd⟩
  .refine⟨⟨o,I.kIn p o hk,G⟩,fun a e=>?_⟩
   cases e
   exact⟨o,I.kIn _ o hk,hd⟩
  .have z:∃ o,s.heap.get? p=some o/\o.ExactDict:=by
    rcases hk with⟨kvs,hk⟩|⟨kvs,hk⟩
    .obtain⟨_,_,_,_,o,_,_,e,ex,_⟩:=I.hok p _ hk
     exact⟨o,e,ex⟩
    .obtain⟨_,_,_,_,o,_,_,e,ex,_⟩:=I.hok p _ hk
     exact⟨o,e,ex⟩
   obtain⟨o,e,ex⟩:=z
   refine⟨⟨o,e,ex.1⟩,fun a e2=>?_⟩
   cases e2
   exact⟨o,e,ex.2.1⟩
  .obtain⟨o,_,_,_,e,ex,_⟩:=I.hok p _ hk
   refine⟨⟨o,e,ex.1⟩,fun a e2=>?_⟩
   cases e2
   exact⟨o,e,ex.2.1⟩
 |_=>exact False.elim ty
def tBM (K:W.Frag)(T:String)(r:V->List V->Hp->VK->Prop)(to:TE)(t:TA):TE:=fun σ H Q=>to σ H fun x H1=>tyV K T x H1/\t σ H1 fun xs H2=>r x xs H2 Q
variable {o e:Expr}{es:List Expr}{to:TE}{t:TA}{name:Str}{apos cpos:Pos}{T id:String}{r:V->List V->Hp->VK->Prop}
theorem zg9 (U:PlainAttrs T)(slot:Slot T name id)(M:typeOf (.builtin id)=pure (.type "method_descriptor"))(hm:MtR X id r)(Z:PE X o to)(ha:PA X (e::es) t)
  (z:attributeBase o name X.env (eval o X.env)=eval o X.env:=by rfl)
  (L:((backTo cpos (starEach (e::es) X.env)).all (fun x=>!x.1)&&(backToKw cpos (keywordEach [] X.env)).all (fun x=>x.1.isSome)
   &&decide ((e::es).length+([]:List Keyword).length+(if ([]:List Keyword).isEmpty then 0 else 1)<30))=true:=by rfl)
  (j:(apos.endLine==cpos.line)=true:=by rfl) (Y:starEach (e::es) X.env=(false,eval e X.env)::starEach es X.env:=by rfl) (i:(backTo cpos (starEach es X.env)).any (·.1)=false:=by rfl):
  PE X (.Call (.Attribute o name apos) (e::es) [] cpos) (tBM X.K T r to t):=by
 intro pins s σ H Q I h
 refine wpAny_Call_method_late z L j rfl (thn (Z pins s σ H _ I h) fun v s1 G=>?_)
 obtain⟨x,H1,O,r1,ty,S⟩:=G
 obtain⟨h1,h2⟩:=xr8 O r1 ty
 refine⟨T,id,U,slot,M,h1,h2,?_⟩
 have N:=ha cpos pins s1 σ H1 _ O S
 rw[Y]at N ⊢
 refine Calls.callWith_builtin (by show (false || (backTo cpos (starEach es X.env)).any (·.1))=false;rw[i] <;> rfl) (Calls.evalArgs_plain ?_)
 exact thn N fun us s2 ⟨vs,H2,I2,r2,R⟩=>hm pins s2 σ H2 x vs v us Q I2 r1 r2 R
end
end
section
def MtM (X:Cx)(id:String)(r:V->List V->Hp->VK->Prop):Prop:=
 ∀(pins:List (Addr×Obj))(s:Shared)(σ:St)(H:Hp)(x:V)(xs:List V)(v:Value)(us:List Value)(Q:VK),Inv X pins σ H s->RelV x v->Vals xs us->r x xs H Q->
  wpAny (model X.prog X.w) X.A (call (.builtin id) (v::us)) (EP X pins σ Q) X.xe s
theorem Vals.one:∀{x:V}{us:List Value},Vals [x] us->∃ u,us=[u]/\RelV x u
 |_,_,.cons r .nil=>⟨_,rfl,r⟩
theorem Vals.rep {xs:List V}{us:List Value}(h:Vals xs us):∀ k:Nat,Vals (List.replicate k xs).flatten (List.replicate k us).flatten
 |0=>.nil
 |k+1=>by
  rw[replicate_succ,replicate_succ,flatten_cons,flatten_cons]
  exact Vals.append h (Vals.rep h k)
theorem zj1 (its:List Value):∀(k:Nat)(acc:List Value),
  List.foldl (fun j i=>j++i) acc.toArray (List.replicate k its.toArray)=(acc++(List.replicate k its).flatten).toArray
 |0,acc=>by simp
 |k+1,acc=>by
  have e:acc.toArray++its.toArray=(acc++its).toArray:=by simp
  have e2:(acc++its)++(List.replicate k its).flatten=acc++(List.replicate (k+1) its).flatten:=by
   rw[replicate_succ,flatten_cons,append_assoc]
  rw[<-e2,<-zj1 its k (acc++its),<-e,replicate_succ,foldl_cons]
section
variable {X:Cx}{pins:List (Addr×Obj)}{σ:St}{H:Hp}{s:Shared}{l b:Addr}{xs ys zs:List V}
theorem Inv.lset {its its':List Value}{n:Nat}{f:Array Value->Array Value}{t':Nat}(I:Inv X pins σ H s)(M:H l=some (.lst xs))
  (e:s.heap.get? l=some { cls:=.type "list",data:=.seq its.toArray n }) (G:f its.toArray=its'.toArray) (j:Vals ys its') (i:ys.length<=sizeLine):
  Inv X pins σ (upd H l (.lst ys)) { s with heap:=s.heap.update l (Obj.mapSeq f),toks:=t' }:=by
 have q:=PySem.IsL.update e f
 rw[G]at q
 refine I.write (x:=l) (e:=l) (by rw[M];exact trivial) (.inl rfl) (fun b' u L z=>(Heap.get?_update_other s.heap (Obj.mapSeq f) (Ne.symm L)).trans z) ⟨_,q⟩ ?_
 exact⟨i,its',_,j,q⟩
theorem Inv.lnew {its:List Value}{t':Nat}(I:Inv X pins σ H s)(j:Vals ys its)(i:ys.length<=sizeLine):
  Inv X pins σ (upd H s.heap.objs.size (.lst ys)) { s with heap:=s.heap.push { cls:=.type "list",data:=.seq its.toArray },toks:=t' }:=
 I.laid (fun _ _ q=>Heap.get?_push_of_some _ q) (Nat.le_refl _) ⟨i,its,0,j,Heap.get?_push_size _ rfl⟩
theorem Inv.fresh (I:Inv X pins σ H s):H s.heap.objs.size=none:=I.hok.fresh (Nat.le_refl _)
theorem Inv.lstM (I:Inv X pins σ H s)(i:H l=some (.lst xs)):xs.length<=sizeLine/\∃(its:List Value)(n:Nat),Vals xs its/\xs.length=its.length/\s.heap.get? l=some { cls:=.type "list",data:=.seq its.toArray n }:=by
 obtain⟨z,its,n,r,e⟩:=I.hok l _ i
 exact⟨z,its,n,r,r.length,e⟩
theorem yf5 {n:Nat}(h:n<=sizeLine):Builtin.List.listTooLong n=false:=by
 unfold Builtin.List.listTooLong
 exact decide_eq_false (by omega)
end
section
variable {X:Cx}
def zg2:V->List V->Hp->VK->Prop:=fun x vs H Q=>∃ l xs y,x= .ref l/\vs=[y]/\H l=some (.lst xs)/\xs.length<sizeLine/\Q .non (upd H l (.lst (xs++[y])))
theorem X6:MtM X "list.append" zg2:=by
 intro pins s σ H x vs v us Q I rx j h
 obtain⟨l,xs,y,rfl,rfl,i,L,q⟩:=h
 cases rx
 obtain⟨u,rfl,G⟩:=j.one
 obtain⟨z,its,n,r,M,e⟩:=I.lstM i
 refine call_meets F.slot_list_append ⟨_,e,rfl⟩ F.entry_list_append (F.args_list_append_2 _ _) (PySem.list_append l its.toArray n u (by rw[size_toArray];omega)) ⟨e,?_⟩
 refine⟨.non,_,I.lset (its':=its++[u]) i e (by simp) (r.append (.cons G .nil)) ?_,rfl,q⟩
 rw[length_append,length_singleton]
 omega
def rRep:R2:=fun x y H Q=>∃ l k xs,x= .ref l/\y= .int k/\H l=some (.lst xs)/\ -(2^63)<=k/\k<2^63/\xs.length*k.toNat<=sizeLine/\
 ∀ p,H p=none->Q (.ref p) (upd H p (.lst (List.replicate k.toNat xs).flatten))
theorem xu6 {i:Type}(xs:List i)(k:Nat):(List.replicate k xs).flatten.length=k*xs.length:=by
 induction k with
 |zero=>simp
 |succ k j=>rw[replicate_succ,flatten_cons,length_append,j,Nat.succ_mul,Nat.add_comm]
theorem xn2:OpR X (binaryOp .Mult) rRep:=by
 intro pins s σ H x y v u Q I rx S h
 obtain⟨l,k,xs,rfl,rfl,Z,h1,h2,R,q⟩:=h
 cases rx
 obtain⟨t,rfl⟩:=S
 obtain⟨z,its,n,r,Y,e⟩:=I.lstM Z
 have G:its.toArray.size*k.toNat<=sizeLine:=by rw[size_toArray,<-Y];exact R
 have M:¬ its.toArray.size*k.toNat>(2^63-1) / 8:=by
  have:(sizeLine:Nat)<=(2^63-1) / 8:=by decide
  omega
 have L:¬ (!Builtin.List.listFitsIndex k)=true:=by
  rw[fitsIndex_both h1 h2]
  exact Bool.false_ne_true
 have i:¬ Builtin.List.listTooLong (its.toArray.size*k.toNat)=true:=by
  rw[yf5 G]
  exact Bool.false_ne_true
 have j:List.foldl (fun O N=>O++N) #[] (List.replicate (if its.toArray.isEmpty=true then 0 else k.toNat) its.toArray)=(List.replicate k.toNat its).flatten.toArray:=by
  have f0:∀ m:Nat,List.foldl (fun O N=>O++N) #[] (List.replicate m its.toArray)=(List.replicate m its).flatten.toArray:=fun m=>by
   have:=zj1 its m []
   rw[nil_append]at this
   exact this
  rw[f0]
  cases its with
  |nil=>simp
  |cons a r'=>rw[if_neg (by simp)]
 refine wpAny_binaryOp_repeat_ref (T:="list") (U:="int") (by decide) ⟨_,e,rfl⟩ (fun s'=>typeIs_int s' k t) noFill_list_mul F.fills_int_mul F.slot_int_rmul repeat_list F.slot_int_index.lookup
  (call_meets F.slot_int_rmul (typeIs_int s k t) F.entry_int_rmul (F.args_int_rmul_2 _ _) (int___rmul___int_list k t l its.toArray n)
   ⟨e,rfl,⟨_,e,rfl⟩,call_meets F.slot_list_mul ⟨_,e,rfl⟩ F.entry_list_mul (F.args_list_mul_2 _ _) (AutoListH.list___mul___list_int_3 l its.toArray n k t L M i) ⟨e,?_⟩⟩)
 rw[j]
 exact⟨.ref _,_,I.lnew (t':=s.toks) (r.rep k.toNat) (by rw[xu6,Nat.mul_comm];exact R),rfl,q _ I.fresh⟩
end
section
variable {prog:Program}{w:World}{A:Around}{E:Value->Shared->Prop}{s:Shared}
end
section
variable {X:Cx}
end
end
end L2
namespace Att
open PySem PySem.W PySem.Calls PyProof.Rows
theorem zw1 {P:Params}{h:Heap}:∀(ns:List Int)(vs:List Value),WellAll P h vs (ns.map WData.int)->IntsAre vs ns:=by
 intro ns
 induction ns with
 |nil=>
  intro vs w
  rw[List.map_nil]at w
  cases w
  exact .nil
 |cons n ns i=>
  intro vs w
  rw[List.map_cons]at w
  cases w with
  |cons a b=>
   cases a
   exact .cons _ _ (i _ b)
theorem ys3 {l:OpenLaw}{n:Nat}(hn:l.most=some n){P:Params}{h:Heap}{args:List WData}{i:List Value}
  (j:l.row.toRowW.claim.pre args=true) (M:WellAll P h i args):
  ∃ a vs ns,i=[Value.ref a]/\args=[WData.list (ns.map WData.int)]/\h.get? a=some { cls:=.type "list",data:=.seq vs.toArray }/\IntsAre vs ns/\ns.length<=n:=by
 have N:WShape.hasAll [] args [.list .int]=true:=(pre_splitW j).1
 have O:l.pre.holds [] { args:=args }=true:=(pre_splitW j).2
 obtain⟨d,r,rfl,h1,h2⟩:=hasAllW_cons N
 obtain rfl:=hasAllW_nil h2
 obtain⟨xs,rfl,Z⟩:=hasW_list h1
 obtain⟨ns,rfl⟩:=items_int Z
 have z:ns.length<=n:=by
  unfold OpenLaw.pre at O
  have L:(WTm.not (.lt (.lit (.int (n:Int))) (.len (.arg 0)))).holds [] { args:=[.list (ns.map .int)] }=true:=by
   have L:=(holds_andW O).1
   rw[hn]at L
   exact L
  have I:=condW_of L (w_not (w_lt w_lit (w_len_list (w_arg rfl))))
  rw[List.length_map]at I
  refine Nat.le_of_not_lt fun q=>?_
  have U:(n:Int)<((ns.length:Nat):Int):=by omega
  first
   | (rw[decide_eq_true U]at I;exact absurd I (by decide))
   | (simp at I;omega)
 cases M with
 |cons S R=>
  cases R
  cases S with
  |list Y G=>exact⟨_,_,ns,rfl,rfl,Y,zw1 ns _ G,z⟩
theorem yq4 (l:OpenLaw)(args:List WData):l.row.toRowW.claim.post args (.bool true) args=true:=
 postW_of (r:=l.row.toRowW) (X:=(true==true))
  (show WShape.has [] (.bool true) .bool=true by first|rfl|decide|simp[WShape.has,WShape.arms,WShape.armsAll])
  (show (WTm.eq .res (.lit (.bool true))).value [] { args:=args,res:=some (.bool true),after:=args }=some (.bool (true==true))from w_eq_bool (w_res rfl) w_lit) rfl
theorem attach_call {l:OpenLaw}{n:Nat}{q:Program}{j:List Str}{XP:(Str->Option Value)->Heap->Prop}{YP:World->Heap->Prop}{d:DefRec}
  (hn:l.most=some n) (S:d.params.defaults=[])
  (call:∀(w:World)(s₀ i:Shared)(mg mb:Str->Option Value)(N:Addr)(o:Obj)(pm cd doc:Value)(a:Addr)(vs:List Value)(ns:List Int),
   Ground q j [] XP w s₀ mg mb i.heap->YP w i.heap->
   i.heap.get? N=some o->o.data= .func (docDef d.name d.params d.body d.scope pm cd doc)->i.heap.CodeRec cd d.name->mg d.name=some (.ref N)->
   i.heap.get? a=some { cls:=.type "list",data:=.seq vs.toArray }->IntsAre vs ns->ns.length<=n->i.gens=#[]->
   codeAny (model l.prog w) callerA (.call (.ref N) ⟨[.ref a],[]⟩) (fun r s'=>r= .ok (.ret (.bool true))/\OldK i.heap s'.heap/\s'.os=i.os/\AllBare s'.gens) i):
  WalkO q j XP YP l.row.toRowW d [] (fun f vs=>PySem.call f vs):=by
 intro w s₀ i mg mb G Y N o pm cd doc dV kV ho hd U hD R hg args Z as I a0 a1 O a2
 obtain rfl:dV= .none:=Dflts.none hD S
 obtain rfl:kV= .none:=Dflts.noKw hD
 obtain⟨a,vs,ns,rfl,rfl,L,z,M⟩:=ys3 hn I O
 refine enter_call (codeAny_mono (call w s₀ i mg mb N o pm cd doc a vs ns G Y ho (fd_plain hd) U R L z M hg) fun r s' hq=>?_)
 obtain⟨rfl,h2,h3,h4⟩:=hq
 exact⟨.inl ⟨.bool true,.bool true,[],rfl,fun _=>rfl,.bool true,yq4 l _,fun _=>⟨List.Pairwise.nil,fun _ hm=>(nomatch hm)⟩⟩,h2,h3,h4⟩
section
variable {prog:Program}{w:World}{A:Around}{E:Value->Shared->Prop}{s:Shared}{K:Frag}
end
end Att
namespace L2
open List
open PySem PySem.Spec PyProof.Rows
section
theorem zp8:∀{vs:List Value}{ns:List Int},IntsAre vs ns->Vals (ns.map V.int) vs
 |_,_,.nil=>.nil
 |_,_,.cons n t h=>.cons ⟨t,rfl⟩ (zp8 h)
def Only (H:Hp):Prop:=∀ b,H b=none\/∃ o xs,H b=some (.frz o (.lst xs))
theorem yd1 {P:Program}{w:World}{K:W.Frag}{mg mb:Str->Option Value}{CX:CXT}{k:Nat}{fa a:Addr}{fd:FuncData}{x:Str}{sp:Sp}{i:Shared}{vs:List Value}{ns:List Int}
  (KX:K.In i.heap) (S:i.heap.Ns mainGlobals mg) (G:i.heap.Ns builtinsNs mb) (a1:∀ x:Str,x≠"__name__"->mb x=bootBuiltins x) (U:i.heap.NoLimit) (hg:i.gens=#[])
  (ha:i.heap.get? a=some { cls:=.type "list",data:=.seq vs.toArray }) (hi:IntsAre vs ns) (hl:ns.length<=sizeLine) (hr:Room k callerA)
  (F:∀ base:Heap,K.In base->base.Ns mainGlobals mg->FnOk P w K mg base CX k fa fd [x] sp) (M:∀(s:Shared)(u:Value),BindsTo s fd ⟨[u],[]⟩ [(x,u)])
  (a0:∀ H:Hp,Only H->SqL K H a (ns.map V.int)->sp [.ref a] H (fun v _=>v= .bl true) fun _ _ _=>False)
  (a2:∀ H e s',CX [] H i (fun _ _ _=>False) e s'->False):
  codeAny (model P w) callerA (.call (.ref fa) ⟨[.ref a],[]⟩) (fun r s'=>r= .ok (.ret (.bool true))/\OldK i.heap s'.heap/\s'.os=i.os/\AllBare s'.gens) i:=by
 have rv:=zp8 hi
 have O:=hi.length
 have L:∀ H:Hp,Only H->SqL K H a (ns.map V.int)->HOk P w H i.heap->(∀ b,H b≠none->b=a)->(H a≠none->K.lookup a=none)->
   codeAny (model P w) callerA (.call (.ref fa) ⟨[.ref a],[]⟩) (fun r s'=>r= .ok (.ret (.bool true))/\OldK i.heap s'.heap/\s'.os=i.os/\AllBare s'.gens) i:=by
  intro H hO hS hok hA hK
  have j:∀{b:Addr}{o:Obj},i.heap.get? b=some o->H b=none->(hidT i.heap H).get? b=some o:=fun e n=>yd8 e n
  have Z:∀{b:Addr}{o:Obj}{es:Array DictEntry}{ep:Nat},i.heap.get? b=some o->o.data= .dict es ep->H b=none:=fun{b o es ep} e d=>by
   cases q:H b with
   |none=>rfl
   |some u=>
    have e':b=a:=hA b (by rw[q];simp)
    subst e'
    rw[ha]at e;cases e
    have d':Data.seq vs.toArray _=Data.dict es ep:=d
    cases d'
  have I:∀{b:Addr}{m:Str->Option Value},i.heap.Ns b m->(hidT i.heap H).Ns b m:=fun{b m} ⟨o,es,ep,e,d,r⟩=>⟨o,es,ep,j e (Z e d),d,r⟩
  have Y:K.In (hidT i.heap H):=fun b o e=>j (KX b o e) (by
   cases q:H b with
   |none=>rfl
   |some u=>
    have e':b=a:=hA b (by rw[q];simp)
    subst e'
    rw[hK (by rw[q];simp)]at e;cases e)
  have hM:Mod K mg (hidT i.heap H):=⟨Y,I S,⟨mb,I G,a1⟩,let ⟨mc,h1,h2⟩:=U;⟨mc,I h1,h2⟩⟩
  have e0:Env0 P w K mg (hidT i.heap H) callerA [] i H:=⟨rfl,hM,fun b o e=>xv8 e,Nat.le_of_eq (ym9 _ _),trivial,fun b G=>absurd (show b∈([]:List Addr)from G) (by simp),hok,.of_eq hg⟩
  refine codeAny_mono ((F _ Y (I S)).run callerA [] i H ⟨[.ref a],[]⟩ [.ref a] [.ref a] _ _ hr e0 (M i (.ref a)) (.cons rfl .nil) (a0 H hO hS)) fun r s' h=>?_
  cases r with
  |error e=>exact(a2 H e s' h).elim
  |ok fl=>
   cases fl with
   |next=>exact False.elim h
   |brk=>exact False.elim h
   |cont=>exact False.elim h
   |ret u=>
    obtain⟨v,H',os,bare,un,R,r',q⟩:=h
    have q':v= .bl true:=q
    subst q'
    obtain rfl:u=Value.bool true:=r'
    refine⟨rfl,OldK.of_keep fun b o e=>?_,os,bare⟩
    cases q:H b with
    |none=>exact un.keep b o e q (by intro z;exact absurd (show b∈([]:List Addr)from z) (by simp)) (by simp)
    |some u=>
     rcases hO b with z|⟨ob,xs,z⟩
     .rw[q]at z;cases z
     .have z2:=un.frzs b ob _ z
      obtain⟨e1,_⟩:=hok b _ z
      obtain⟨e2,_⟩:=R b _ z2
      rw[e]at e1;cases e1
      exact e2
 cases hk:K.lookup a with
 |some o=>
  have e:=KX a o hk
  rw[ha]at e
  cases e
  refine L (fun _=>none) (fun _=>.inl rfl) (.inr ⟨_,vs.toArray,_,hk,rfl,rfl,rfl,by rw[size_toArray,O];exact hl,by simpa using rv⟩) (fun b u z=>by have N:(none:Option HO)=some u:=z;cases N) (fun b z=>absurd rfl z) fun z=>absurd rfl z
 |none=>
  refine L (fun b=>if b=a then some (.frz { cls:=.type "list",data:=.seq vs.toArray } (.lst (ns.map V.int)))else none) (fun b=>?_) (.inl (.inr ⟨{ cls:=.type "list",data:=.seq vs.toArray },if_pos rfl⟩)) (fun b u z=>?_) (fun b z=>?_) fun _=>hk
  .by_cases G:b=a
   .exact .inr ⟨_,_,if_pos G⟩
   .exact .inl (if_neg G)
  .by_cases G:b=a
   .have N:=(if_pos G).symm.trans z
    cases N
    subst G
    exact⟨ha,by rw[length_map];exact hl,vs,_,rv,ha⟩
   .have N:=(if_neg G).symm.trans z
    cases N
  .by_cases G:b=a
   .exact G
   .exact absurd (if_neg G) z
end
section
theorem walk_of {l:W.OpenLaw}{n k:Nat}{q:Program}{j:List Str}{XP:(Str->Option Value)->Heap->Prop}{Z:World->Heap->Prop}{d:DefRec}{K:Params->W.Frag}{CX:World->CXT}{sp:World->Sp}{x:Str}
  (hn:l.most=some n) (O:n<=sizeLine) (S:d.params.defaults=[]) (hr:Room k callerA)
  (hY:∀(w:World)(h:Heap),Z w h->(K w.params).In h)
  (F:∀(w:World)(mg:Str->Option Value)(M:Addr)(h:Heap),(K w.params).In h->h.Ns mainGlobals mg->mg d.name=some (.ref M)->
   ∃ fd:FuncData,(∀(s:Shared)(u:Value),BindsTo s fd ⟨[u],[]⟩ [(x,u)])/\
    ∀ base:Heap,(K w.params).In base->base.Ns mainGlobals mg->FnOk l.prog w (K w.params) mg base (CX w) k M fd [x] (sp w))
  (N:∀(w:World)(H:Hp)(a:Addr)(ns:List Int),ns.length<=n->Only H->SqL (K w.params) H a (ns.map V.int)->sp w [.ref a] H (fun v _=>v= .bl true) fun _ _ _=>False)
  (U:∀(w:World)(H:Hp)(s:Shared)(e:Value)(s':Shared),CX w [] H s (fun _ _ _=>False) e s'->False):
  W.WalkO q j XP Z l.row.toRowW d [] (fun f vs=>PySem.call f vs):=by
 refine Att.attach_call hn S fun w s₀ I mg mb M o pm cd doc a vs ns G Y ho hd a0 R L z i hg=>?_
 have KX:=hY w _ Y
 obtain⟨fd,hb,hF⟩:=F w mg M _ KX G.T.g R
 exact yd1 KX G.T.g G.T.b G.T.builtins G.T.nolimit hg L z (Nat.le_trans i O) hr hF hb (fun H hO hS=>N w H a ns i hO hS) fun H e s'=>U w H I e s'
end
section
noncomputable def u0 (s:Stmt):Arguments:=match s with
 | .FunctionDef _ a _ _ _ _ _ _ _ _=>a
 |_=>{ posonlyargs:=[],args:=[],vararg:=none,kwonlyargs:=[],kw_defaults:=[],kwarg:=none,defaults:=[] }
noncomputable def v4 (s:Stmt):List Stmt:=match s with
 | .FunctionDef _ _ b _ _ _ _ _ _ _=>b
 |_=>[]
noncomputable def z9 (s:Stmt):Scope:=match s with
 | .FunctionDef _ _ _ _ _ _ sc _ _ _=>sc
 |_=>{ kind:=.function,names:=[],isGenerator:=false,isCoroutine:=false }
abbrev CX0:CXT:=fun _ _ _ _ _ _=>False
abbrev E0:XK:=fun _ _ _=>False
theorem t6 {X:Cx}:C7 CX0 X E0:=fun _ _ _ _ _ _ _ h=>h.elim
structure Fun (K:W.Frag)(x qual:Str)(st:Stmt)(f:Addr)(fd:FuncData):Prop where
 ex:∃(oc:Value)(od:Option Addr)(kV doc pm:Value)(an:Option Addr)(cdv ct:Value)(osl:Array (Option Value)),
  fd=W.fnOf x qual (u0 st) (v4 st) (z9 st) .none kV doc pm an cdv ct/\K.lookup f=some ⟨oc,od,.func fd,osl⟩/\W.codeIn K cdv qual=true
 kp:W.keepIn K (.ref f)=true
section
variable {P:Program}{w:World}{K:W.Frag}{mg:Str->Option Value}{base:Heap}
theorem Fun.ok {x qual:Str}{st:Stmt}{f:Addr}{fd:FuncData}{N ps:List Str}{k:Nat}{sp:Sp}(F:Fun K x qual st f fd)(S:FnScope N ps (z9 st))(len:∀ vs H Q E,sp vs H Q E->vs.length=ps.length)
  (i:∀(cdv:Value)(A:Around)(outer:List Env)(s:Shared)(H:Hp)(vs:List V)(Q:VK)(E:XK),Room k (A.deeper (envOfC qual (z9 st) s.heap.objs.size f cdv))->sp vs H Q E->
   ∃ t,PSs (cxOf CX0 P w K mg base N qual (z9 st) f cdv A outer s H E).nox (v4 st) t/\t { nx:=fun _ H'=>Q .non H',rt:=Q } (start N vs) H):FnOk P w K mg base CX0 (k+1) f fd ps sp:=by
 obtain⟨oc,od,kV,doc,pm,an,cdv,ct,osl,rfl,G,z⟩:=F.ex
 refine xj4 G z S len fun A outer s H vs Q E I j=>?_
 obtain⟨t,h,q⟩:=i cdv A outer s H vs Q E I j
 exact⟨t,h.nox,q⟩
theorem Fun.binds {x qual:Str}{st:Stmt}{f:Addr}{fd:FuncData}{ps:List Str}(F:Fun K x qual st f fd)
  (h:∀(kV doc pm:Value)(an:Option Addr)(cdv ct:Value)(us:List Value),us.length=ps.length->bindArgs (W.fnOf x qual (u0 st) (v4 st) (z9 st) .none kV doc pm an cdv ct) ⟨us,[]⟩=pure (ps.zip us)):Binds K fd ps []:=by
 obtain⟨oc,od,kV,doc,pm,an,cdv,ct,osl,rfl,j,i⟩:=F.ex
 exact .all (h kV doc pm an cdv ct)
theorem j7 {x qual:Str}{st:Stmt}{f:Addr}{oc:Value}{od an:Option Addr}{osl:Array (Option Value)}{kV doc pm cdv ct:Value}(l:K.lookup f=some ⟨oc,od,.func (W.fnOf x qual (u0 st) (v4 st) (z9 st) .none kV doc pm an cdv ct),osl⟩)
  (c:W.codeIn K cdv qual=true) (k:W.keepIn K (.ref f)=true):Fun K x qual st f (W.fnOf x qual (u0 st) (v4 st) (z9 st) .none kV doc pm an cdv ct):=⟨⟨oc,od,kV,doc,pm,an,cdv,ct,osl,rfl,l,c⟩,k⟩
end
section
variable {X:Cx}
theorem pv (i:Nat){x:Str}{pos:Pos}(G:X.N[i]? =some x:=by rfl)(z:Vis X.env.scope x:=by first|exact Or.inl rfl|exact Or.inr (Or.inl rfl)|exact Or.inr (Or.inr rfl))(hd:(x==("__debug__":Str))=false:=by decide)
  (j:(x==("__classdict__":Str))=false:=by decide):PE X (.Name x pos) (tVar i):=xo3 G z hd j
end
theorem iteF {A B:Prop}(h:B):if false=true then A else B:=by
 rw[if_neg Bool.false_ne_true]
 exact h
theorem iteT {A B:Prop}(h:A):if true=true then A else B:=by
 rw[if_pos rfl]
 exact h
def Same (H H':Hp):Prop:=∀ b o,H b=some o->H' b=some o
theorem Same.refl (H:Hp):Same H H:=fun _ _ h=>h
theorem Same.trans {H H1 H2:Hp}(a:Same H H1)(b:Same H1 H2):Same H H2:=fun c o h=>b c o (a c o h)
theorem Same.free {H H':Hp}(e:Same H H'){l:Addr}(h:H' l=Option.none):H l=Option.none:=by
 cases q:H l with
 |none=>rfl
 |some o=>
  rw[e l o q]at h
  cases h
theorem Same.seq {K:W.Frag}{H H':Hp}{a:Addr}{xs:List V}(e:Same H H')(h:SqL K H a xs):SqL K H' a xs:=by
 rcases h with (h|⟨o,h⟩)|h
 .exact .inl (.inl (e _ _ h))
 .exact .inl (.inr ⟨o,e _ _ h⟩)
 .exact .inr h
end
section
noncomputable def clOf (cells:List (Str×Addr)):List (Str×NameKind)->List (Str×Addr)->List (Str×Addr)
 |[],cs=>cs
 | (n,k)::r,cs=>if k= .free then (match cells.lookup n with |some c=>clOf cells r ((n,c)::cs)|none=>clOf cells r cs)else clOf cells r cs
theorem M4 {env:Env}:∀(names:List (Str×NameKind))(j:List (Str×Addr)),(∀ x∈names,x.2= .free->∃ c,env.cells.lookup x.1=some c)->
  (forIn names j fun x r=>if (x.2==NameKind.free)=true then do let c ← cellOf env x.1;pure (ForInStep.yield ((x.1,c)::r))else pure (ForInStep.yield r):Sem (List (Str×Addr)))=pure (clOf env.cells names j)
 |[],j,_=>rfl
 | (n,k)::r,j,h=>by
  have z:∀ x∈r,x.2= .free->∃ c,env.cells.lookup x.1=some c:=fun x G=>h x (mem_cons_of_mem _ G)
  rw[forIn_cons]
  by_cases hk:k= .free
  .subst hk
   obtain⟨c,I⟩:=h (n,.free) mem_cons_self rfl
   have i:env.cells.lookup n=some c:=I
   have e:cellOf env n=pure c:=by unfold cellOf;rw[i]
   simp only[beq_self_eq_true,if_true,e,pure_bind]
   rw[M4 r _ z]
   simp only[clOf,if_true,i]
  .have hb:(k==NameKind.free)=false:=by simpa using hk
   simp only[hb,Bool.false_eq_true,if_false,pure_bind]
   rw[M4 r j z]
   simp only[clOf,hk,if_false]
theorem zv0 {env:Env}{scope:Scope}(h:∀ x∈scope.names,x.2= .free->∃ c,env.cells.lookup x.1=some c):closureFor scope env=pure (clOf env.cells scope.names []):=by
 have q:=M4 (env:=env) scope.names [] h
 simp only[closureFor]
 refine Eq.trans ?_ q
 have e:∀(m:Sem (List (Str×Addr))),(m >>= fun i=>pure i)=m:=fun m=>by simp
 first| (rw[e];rfl)|rfl|simp
theorem A7 {cells:List (Str×Addr)}{x:Str}{c:Addr}:∀(names:List (Str×NameKind))(i:List (Str×Addr)),(∀ y d,i.lookup y=some d->cells.lookup y=some d)->(clOf cells names i).lookup x=some c->cells.lookup x=some c
 |[],i,h,e=>h x c e
 | (n,k)::r,i,h,e=>by
  unfold clOf at e
  split at e
  .split at e
   .rename_i d hd
    refine A7 r _ (fun y d' q=>?_) e
    rw[lookup_cons]at q
    split at q
    .rename_i hy
     have:y=n:=by simpa using hy
     subst this
     cases q;exact hd
    .exact h y d' q
   .exact A7 r i h e
  .exact A7 r i h e
theorem J9 {cells:List (Str×Addr)}{x:Str}:∀(names:List (Str×NameKind))(i:List (Str×Addr)),(i.lookup x).isSome=true->((clOf cells names i).lookup x).isSome=true
 |[],i,h=>h
 | (n,k)::r,i,h=>by
  unfold clOf
  split
  .split
   .refine J9 r _ ?_
    rw[lookup_cons];split
    .rfl
    .exact h
   .exact J9 r i h
  .exact J9 r i h
theorem G0 {cells:List (Str×Addr)}{x:Str}{c:Addr}(j:cells.lookup x=some c):∀(names:List (Str×NameKind))(i:List (Str×Addr)),(x,NameKind.free)∈names->((clOf cells names i).lookup x).isSome=true
 |[],i,h=>absurd h (by simp)
 | (n,k)::r,i,h=>by
  unfold clOf
  rcases List.mem_cons.mp h with e|h
  .cases e
   rw[if_pos rfl,j]
   refine J9 r _ ?_
   simp[lookup_cons]
  .split
   .split
    .exact G0 j r _ h
    .exact G0 j r i h
   .exact G0 j r i h
theorem V6 {env:Env}:∀{names:List (Str×NameKind)}{x:Str},names.lookup x=some .free->
  (names.map fun(n,k)=>if (k==NameKind.free&&env.scope.kind== .function&&env.kindOf n==some .cell)then (n,NameKind.cell)else (n,k)).lookup x=some .cell\/
  (names.map fun(n,k)=>if (k==NameKind.free&&env.scope.kind== .function&&env.kindOf n==some .cell)then (n,NameKind.cell)else (n,k)).lookup x=some .free
 |[],_,h=>by simp at h
 | (n,k)::r,x,h=>by
  have i:=@V6 env r x
  show List.lookup x ((if (k==NameKind.free&&env.scope.kind== .function&&env.kindOf n==some .cell)=true then (n,NameKind.cell)else (n,k))::_)=_\/List.lookup x ((if (k==NameKind.free&&env.scope.kind== .function&&env.kindOf n==some .cell)=true then (n,NameKind.cell)else (n,k))::_)=_
  by_cases j:(k==NameKind.free&&env.scope.kind== .function&&env.kindOf n==some .cell)=true
  .rw[if_pos j]
   cases hx:x==n with
   |true=>left;simp only[lookup_cons,hx]
   |false=>simp only[lookup_cons,hx]at h ⊢;exact i h
  .rw[if_neg j]
   cases hx:x==n with
   |true=>right;simp only[lookup_cons,hx]at h ⊢;exact h
   |false=>simp only[lookup_cons,hx]at h ⊢;exact i h
theorem R5 {env:Env}:∀{names:List (Str×NameKind)}{x:Str}{k:NameKind},(∀ y∈names,y.2≠ .cell)->
  (names.map fun(n,k)=>if (k==NameKind.free&&env.scope.kind== .function&&env.kindOf n==some .cell)then (n,NameKind.cell)else (n,k)).lookup x=some k->(k= .cell\/k= .free)->(x,NameKind.free)∈names
 |[],_,_,_,h,_=>by simp at h
 | (n,j)::r,x,k,hc0,h,hk=>by
  have G:=@R5 env r x k (fun y I=>hc0 y (mem_cons_of_mem _ I))
  have h:List.lookup x ((if (j==NameKind.free&&env.scope.kind== .function&&env.kindOf n==some .cell)=true then (n,NameKind.cell)else (n,j))::_)=_:=h
  by_cases z:(j==NameKind.free&&env.scope.kind== .function&&env.kindOf n==some .cell)=true
  .rw[if_pos z]at h
   have L:j= .free:=by
    have:=z;simp only[Bool.and_eq_true]at this;simpa using this.1.1
   cases hx:x==n with
   |true=>
    have i:x=n:=by simpa using hx
    subst i;subst L;exact mem_cons_self
   |false=>simp only[lookup_cons,hx]at h;exact mem_cons_of_mem _ (G h hk)
  .rw[if_neg z]at h
   cases hx:x==n with
   |true=>
    have i:x=n:=by simpa using hx
    subst i
    simp only[lookup_cons,hx]at h
    have e:j=k:=Option.some.inj h
    subst e
    rcases hk with hk|hk
    .exact absurd hk (hc0 _ mem_cons_self)
    .subst hk;exact mem_cons_self
   |false=>simp only[lookup_cons,hx]at h;exact mem_cons_of_mem _ (G h hk)
end
section
structure Blk (X:Cx)(sc:Scope)(N:List Str)(src:List (Option Nat)):Prop where
 kind:sc.kind= .function
 nocell:∀ y∈sc.names,y.2≠ .cell
 names:∀ y∈sc.names,y.2= .local->sc.names.lookup y.1=some .local
 free:∀ y∈sc.names,y.2= .free->X.env.kindOf y.1=some .cell\/X.env.kindOf y.1=some .free
 fv:∀(j i:Nat),src[j]? =some (some i)->∃ x,N[j]? =some x/\X.N[i]? =some x/\sc.names.lookup x=some .free
 len:src.length=N.length
noncomputable def blk0 (src:List (Option Nat))(σ:St):St:=src.map fun o=>o.bind fun i=>(σ[i]?).join
noncomputable def W8 (X:Cx)(sc:Scope)(C:Addr)(N:List Str)(fp:List Addr)(s:Shared)(H:Hp):Cx where
 prog:=X.prog
 w:=X.w
 K:=X.K
 mg:=X.mg
 base:=X.base
 A:=X.A
 N:=N
 s₀:=s
 H₀:=H
 env:=compEnvC sc (clOf X.env.cells sc.names []) C X.env
 outer:=X.stack
 stack:=X.stack
 ex:=fp
 fn:=fun _=>false
 calm:=true
 pn:=[]
 xe:=fun _ _=>False
section
variable {X:Cx}{pins:List (Addr×Obj)}{σ:St}{H:Hp}{s:Shared}
theorem Blk.cl {sc:Scope}{N:List Str}{src:List (Option Nat)}(B:Blk X sc N src)(ok:X.Ok):closureFor sc X.env=pure (clOf X.env.cells sc.names []):=
 zv0 fun x i hk=>ok.has x.1 (B.free x i hk)
theorem C4 {sc:Scope}{x:Str}{c:Addr}(h:(clOf X.env.cells sc.names []).lookup x=some c):X.env.cells.lookup x=some c:=
 A7 sc.names [] (fun y d e=>by simp at e) h
theorem yj8 {sc:Scope}{N:List Str}{src:List (Option Nat)}{fp:List Addr}{D C:Addr}{M:Heap}{t:Nat}{m:Str->Option Value}
  (B:Blk X sc N src) (I:Inv X pins σ H s) (hc:X.calm=true) (O:∀ b∈fp,FpOk X pins H b) (a2:∀ b∈fp,∃ o,s.heap.get? b=some o)
  (hk:∀ b o,s.heap.get? b=some o->M.get? b=some o) (R:s.heap.objs.size<=D) (a6:M.get? D=some { cls:=.type "list",data:=.seq #[] 0 })
  (hn:M.Ns C m) (S:s.heap.objs.size<=C) (a7:D≠C):
  Inv (W8 X sc C N fp s H) [] (blk0 src σ) (upd H D (.lst [])) { s with heap:=M,toks:=t }:=by
 have a4:H D=none:=I.hok.fresh R
 have a5:H C=none:=I.hok.fresh S
 have new:ObjOk X.prog X.w (upd H D (.lst [])) M D (.lst []):=⟨Nat.zero_le _,[],0,.nil,a6⟩
 have cC:∀ x c,X.env.cells.lookup x=some c->c≠C:=fun x c e z=>by
  obtain⟨v,q⟩:=I.cell x c e
  exact absurd (Nat.lt_of_lt_of_le q.lt (by rw[z];exact S)) (Nat.lt_irrefl _)
 have cD:∀ x c,X.env.cells.lookup x=some c->c≠D:=fun x c e z=>by
  obtain⟨v,q⟩:=I.cell x c e
  exact absurd (Nat.lt_of_lt_of_le q.lt (by rw[z];exact R)) (Nat.lt_irrefl _)
 refine⟨⟨I.ok.mod,?_,I.ok.glob,I.ok.blt,S,fun x y c h1 h2=>?_,fun x G=>?_,fun x c h _=>(by cases h),fun _=>I.ok.hd hc,I.ok.frames,.inl rfl,fun b j=>⟨?_,fun x c e=>?_⟩,I.bs,Nat.le_trans I.ok.bsz I.sz,fun b o e j=>?_,fun b j z=>?_,I.stack,I.stkFree⟩,
  rfl,I.bare,Un.laid hk R a4,⟨m,hn,fun i x v e1 e2 e3=>?_⟩,fun x c e=>?_,?_,fun x c e=>?_,fun p hp=>?_,I.hok.laid hk R new,?_⟩
 .show (relabel sc X.env).kind=_
  exact B.kind
 .exact I.ok.inj x y c (C4 h1) (C4 h2)
 .have hx':(∃ k,(relabel sc X.env).names.lookup x=some k/\(k= .cell\/k= .free)):=by
   rcases G with G|G
   .exact⟨_,G,.inl rfl⟩
   .exact⟨_,G,.inr rfl⟩
  obtain⟨k,e,a1⟩:=hx'
  have hm:=R5 B.nocell e a1
  obtain⟨c,a3⟩:=I.ok.has x (B.free _ hm rfl)
  exact Option.isSome_iff_exists.mp (G0 a3 sc.names [] hm)
 .obtain⟨o,e⟩:=a2 b j
  exact Nat.ne_of_lt (Nat.lt_of_lt_of_le (Heap.lt_size e) S)
 .exact(O b j).2.2.2.2.1 x c (C4 e)
 .rcases (O b j).2.2.2.1 with z|z
  .exact I.ok.noex b o e z
  .exact absurd (Nat.lt_of_lt_of_le (Heap.lt_size e) (Nat.le_trans I.ok.bsz z)) (Nat.lt_irrefl _)
 .rcases List.mem_cons.mp (I.stkSub b z)with z|z
  .exact(O b j).2.1 z
  .exact(O b j).2.2.1 z
 .have e2':∃ k,src[i]? =some (some k)/\σ[k]? =some (some v):=by
   unfold blk0 at e2
   rw[getElem?_map]at e2
   cases q:src[i]? with
   |none=>rw[q]at e2;cases e2
   |some o=>
    rw[q]at e2
    cases o with
    |none=>cases e2
    |some k=>
     refine⟨k,rfl,?_⟩
     have e2:(σ[k]?).join=some v:=Option.some.inj e2
     cases qq:σ[k]? with
     |none=>rw[qq]at e2;cases e2
     |some z=>rw[qq]at e2;exact congrArg some e2
  obtain⟨k,ek,ev⟩:=e2'
  obtain⟨U,n1,n2,Y⟩:=B.fv i k ek
  have:U=x:=by
   have e1:N[i]? =some x:=e1
   rw[n1]at e1;exact Option.some.inj e1
  subst this
  obtain⟨m0,a8,a0⟩:=I.loc
  have L:=B.free (U,.free) (PySem.mem_of_lookup Y) rfl
  obtain⟨u,r,l⟩:=a0 k U v n2 ev (by rcases L with z|z;exact .inr (.inl z);exact .inr (.inr z))
  refine⟨u,r,.inr ⟨?_,?_⟩⟩
  .exact V6 Y
  .rcases l with⟨l,_⟩|⟨_,c,ec,z⟩
   .rcases L with q|q <;> (rw[q]at l;cases l)
   .obtain⟨c',ec'⟩:=Option.isSome_iff_exists.mp (G0 ec sc.names [] (PySem.mem_of_lookup Y))
    have:=C4 ec'
    rw[ec]at this;cases this
    obtain⟨o,Z,hd⟩:=z
    exact⟨c,ec',o,hk c o Z,hd⟩
 .obtain⟨v,o,Z,hd⟩:=I.cell x c (C4 e)
  exact⟨v,o,hk c o Z,hd⟩
 .show upd H D _ C=none
  rw[x8 (Ne.symm a7)];exact a5
 .rw[x8 (cD x c (C4 e))];exact I.freeC x c (C4 e)
 .exact absurd (show p∈([]:List (Addr×Obj))++[]from hp) (by simp)
 .show (blk0 src σ).length=N.length
  unfold blk0;rw[length_map];exact B.len
end
end
section
abbrev noE:Value->Shared->Prop:=fun _ _=>False
theorem toE {i:Type}{t:Sem i}{Q j:i->Shared->Prop}{M:Model}{A:Around}{E:Value->Shared->Prop}{s:Shared}(h:wpAny M A t Q noE s)(z:∀ a s,Q a s->j a s):wpAny M A t j E s:=
 wpAny_mono h z fun _ _ x=>x.elim
noncomputable abbrev zj8 (ifs:List Expr)(env:Env):Sem Bool:=forIn ifs true fun c r=>if r=true then do let ok ← isTrue c env (eval c env);pure (ForInStep.yield ok)else pure (ForInStep.yield r)
theorem zj9 {prog:Program}{w:World}{A:Around}{R:Result->Shared->Prop}{s:Shared}{Z i iter:Expr}{U:List Expr}{scope:Scope}{pos:Pos}{it acc:Value}{env:Env}(I:Nat->Shared->Prop)
  (turn:∀ n s,I n s->wpAny (model prog w) A (pyNext it) (fun r G=>match r with
   |none=>R (.ok .next) G
   |some v=>wpAny (model prog w) A (letOwnedTupleGo i it v) (fun _ z=>wpAny (model prog w) A (assign i env v) (fun _ N=>
     wpAny (model prog w) A (zj8 U env) (fun ok j=>
      if ok=true then wpAny (model prog w) A (eval Z env) (fun x M=>
       wpAny (model prog w) A (call (.builtin "list.append") [acc,x]) (fun _ L=>∃ m,m<n/\I m L) noE M) noE j
      else ∃ m,m<n/\I m j) noE N) noE z) noE G) noE s)
  (n:Nat) (h:I n s):
  codeAny (model prog w) A (.compLoop (.ListComp Z [⟨i,iter,U,0⟩] scope pos) 0 it acc env) R s:=by
 refine codeAny_loop rfl I (fun n s hI=>?_) n h
 show wpAny _ A ((compTurn (.ListComp Z [⟨i,iter,U,0⟩] scope pos) 0 it acc env).onRaise (fun x=>do noteFrame x env;theTreesLotGoes x)) _ _ s
 refine wpAny_noted ?_
 rw[compTurn_list]
 refine wpAny_bind (wpAny_standAt (wpAny_bind (toE (turn n s hI) (fun r G S=>?_))))
 cases r with
 |none=>exact wpAny_pure S
 |some v=>
  refine wpAny_bind (toE S fun _ z Y=>?_)
  refine wpAny_bind (toE Y (fun _ N a2=>wpAny_bind (toE a2 (fun ok j O=>?_))))
  cases ok with
  |false=>exact wpAny_pure ⟨rfl,O⟩
  |true=>
   exact wpAny_bind (wpAny_bind (toE O (fun x M a1=>wpAny_bind (toE a1 (fun _ L a0=>wpAny_pure (wpAny_pure ⟨rfl,a0⟩))))))
def PTs (X:Cx)(ifs:List Expr)(t:TT):Prop:=
 ∀(pins:List (Addr×Obj))(s:Shared)(σ:St)(H:Hp)(Q:Bool->Hp->Prop),Inv X pins σ H s->t σ H Q->wpAny (model X.prog X.w) X.A (zj8 ifs X.env) (TP X pins σ Q) X.xe s
def tYes:TT:=fun _ H Q=>Q true H
theorem yr5 {X:Cx}:PTs X [] tYes:=fun pins s σ H Q I h=>wpAny_pure ⟨H,I,h⟩
theorem xx1 {X:Cx}{c:Expr}{t:TT}(h:PT X c t):PTs X [c] t:=fun pins s σ H Q I q=>wpAny_tests_one (h pins s σ H Q I q)
def zo3 (src:List (Option Nat))(wi:TI)(g:TG)(tc:TT)(te:TE):TE:=fun σ H Q=>wi σ H fun J H1=>∀ D,H1 D=none->∃ W:Nat->Nat->St->Hp->Prop,(∃ m,W 0 m (blk0 src σ) (upd H1 D (.lst [])))/\∀ i m σ' H',W i m σ' H'->
 (J.stop i H'/\Q (.ref D) H')\/(J.go i H'/\∃ N:St->Hp->Prop,(∀ σ2 H2,N σ2 H2->∃ m',m'<m/\W (i+1) m' σ2 H2)/\∀ x H2,J.yld i H' x H2->g x σ' H2 fun σ3 H3=>tc σ3 H3 fun b H4=>
  if b=true then te σ3 H4 fun y H5=>∃ xs,H5 D=some (.lst xs)/\xs.length<sizeLine/\N σ3 (upd H5 D (.lst (xs++[y])))else N σ3 H4)
section
variable {X:Cx}
theorem zs5 {sc:Scope}{N:List Str}{src:List (Option Nat)}{tg a7 iter:Expr}{a5:List Expr}{pos:Pos}{g:TG}{tc:TT}{te:TE}(B:Blk X sc N src)(hc:X.calm=true)
  (hg:∀ C fp s H,PG (W8 X sc C N fp s H) tg g) (ht:∀ C fp s H,PTs (W8 X sc C N fp s H) a5 tc) (he:∀ C fp s H,PE (W8 X sc C N fp s H) a7 te)
  {pins:List (Addr×Obj)} {σ:St} {H:Hp} {s:Shared} {it:Addr} {fp:List Addr} {tn:Nat->Heap->Prop} {J:It} {Q:VK} {E:Value->Shared->Prop}
  (I:Inv X pins σ H s) (T:Turn X.prog X.w X.K tg J fp it tn) (st:tn 0 s.heap) (hf:∀ b∈fp,FpOk X pins H b)
  (hW:∀ D,H D=none->∃ W:Nat->Nat->St->Hp->Prop,(∃ m,W 0 m (blk0 src σ) (upd H D (.lst [])))/\∀ i m S H',W i m S H'->
   (J.stop i H'/\Q (.ref D) H')\/(J.go i H'/\∃ N:St->Hp->Prop,(∀ a8 H2,N a8 H2->∃ m',m'<m/\W (i+1) m' a8 H2)/\∀ x H2,J.yld i H' x H2->g x S H2 fun O H3=>tc O H3 fun b H4=>
    if b=true then te O H4 fun y H5=>∃ xs,H5 D=some (.lst xs)/\xs.length<sizeLine/\N O (upd H5 D (.lst (xs++[y])))else N O H4))
  {RR:Value->Addr->Result->Shared->Prop}
  (aj:∀ D C H' s' m',Inv X pins σ H' s'->s'.heap.Ns C m'->H' C=none->s.heap.objs.size<=C->Q (.ref D) H'->RR (.ref D) C (.ok .next) s'):
  wpAny (model X.prog X.w) X.A (newList []) (fun acc U=>wpAny (model X.prog X.w) X.A (newFunctionEnv sc X.env.globals (clOf X.env.cells sc.names []) [] X.env.qual none .none (some X.env)) (fun a2 a9=>
   codeAny (model X.prog X.w) X.A (.compStart (.ListComp a7 [⟨tg,iter,a5,0⟩] sc pos) 0 (.ref it) acc { a2 with scope:=relabel sc X.env }) (RR acc a2.locals) a9) E U) E s:=by
 refine wpAny_newObj_type (wpAny_newFunctionEnv B.nocell (by intro y hy;simp at hy) (fun M R G=>?_) B.kind)
 dsimp only at R G ⊢
 generalize a6:s.heap.push { cls:=.type "list",dict:=none,data:=.seq ([]:List Value).toArray }=H2 at R G ⊢
 have hC:H2.objs.size=s.heap.objs.size+1:=by rw[<-a6,Heap.size_push]
 have ae:s.heap.objs.size≠H2.objs.size:=by rw[hC];exact Nat.ne_of_lt (Nat.lt_succ_self _)
 have a1:s.heap.objs.size<=H2.objs.size:=by rw[hC];exact Nat.le_succ _
 have below:∀ b,b<s.heap.objs.size->b≠H2.objs.size:=fun b L=>by rw[hC];exact Nat.ne_of_lt (Nat.lt_succ_of_lt L)
 have old:∀ b o,s.heap.get? b=some o->M.get? b=some o:=fun b o e=>G.extBut b o (below b (Heap.lt_size e)) (Heap.get?_push_of_some _ (a6 ▸ Heap.get?_push_of_some _ e))
 have ad:M.get? s.heap.objs.size=some { cls:=.type "list",data:=.seq #[] 0 }:=G.extBut _ _ ae (Heap.get?_push_of_some _ (a6 ▸ Heap.get?_push_size _ rfl))
 have ac:∀ b∈fp,∃ o,s.heap.get? b=some o:=fun b L=>by obtain⟨o,e,_⟩:=T.obj _ _ st b L;exact⟨o,e⟩
 have ab:tn 0 M:=T.keep _ _ _ st fun b _ o e=>old b o e
 obtain⟨W,⟨m0,w0⟩,turn⟩:=hW s.heap.objs.size I.fresh
 have I1:=yj8 (t:=s.toks+([]:List (Str×Value)).length) B I hc hf ac old (Nat.le_refl _) ad R a1 ae
 have Z:∀{H':Hp},(∀ b∈fp,H' b=none)->∀ b∈fp,FpOk (W8 X sc H2.objs.size N fp s H) [] H' b:=fun{H'} hn b L=>by
  obtain⟨f0,f1,f2,f3,f4,f5⟩:=hf b L
  refine⟨hn b L,I1.ok.exf b L |>.1,I1.ok.exfs b L,.inl L,fun x c e=>f4 x c (C4 e),fun p hp=>absurd (show p∈([]:List (Addr×Obj))++[]from hp) (by simp)⟩
 have ai:∀ b∈fp,b≠s.heap.objs.size:=fun b L z=>by
  obtain⟨o,e⟩:=ac b L
  exact absurd (Heap.lt_size e) (by rw[z];exact Nat.lt_irrefl _)
 have a0:∀ U:Shared,U={ s with heap:=M,toks:=s.toks+([]:List (Str×Value)).length }->
   codeAny (model X.prog X.w) X.A (.compLoop (.ListComp a7 [⟨tg,iter,a5,0⟩] sc pos) 0 (.ref it) (.ref s.heap.objs.size) (compEnvC sc (clOf X.env.cells sc.names []) H2.objs.size X.env))
    (RR (.ref s.heap.objs.size) H2.objs.size) U:=by
  rintro U rfl
  refine zj9 (fun n s'=>∃ i S H',Inv (W8 X sc H2.objs.size N fp s H) [] S H' s'/\tn i s'.heap/\(∀ b∈fp,H' b=none)/\W i n S H') ?_ m0
   ⟨0,_,_,I1,ab,fun b L=>by rw[x8 (ai b L)];exact(hf b L).1,w0⟩
  rintro n s3 ⟨i,O,H3,I3,aa,af,w3⟩
  rcases turn i n O H3 w3 with⟨stop,qn⟩|⟨go,N',ak,step⟩
  .refine thn (T.done (W8 X sc H2.objs.size N fp s H) rfl rfl rfl rfl i [] s3 O H3 noE I3 (Z af) aa stop) fun r s4 ⟨hr,I4⟩=>?_
   subst hr
   obtain⟨m4,ah,_⟩:=id I4.loc
   refine aj _ _ H3 s4 m4 ?_ ah I4.free a1 qn
   exact I.call' (ch:=fp) I4.os I4.base I4.hok I4.bare fun b L=>⟨(hf b L).2.2.2.1,(hf b L).2.1,(hf b L).2.2.2.2.1,(hf b L).2.2.2.2.2⟩
  .refine thn (T.item (W8 X sc H2.objs.size N fp s H) rfl rfl rfl rfl i [] s3 O H3 noE I3 (Z af) aa go) fun r s4 ⟨u,hr,h4⟩=>?_
   subst hr
   refine thn h4 fun _ s5 j=>?_
   obtain⟨x,H5,I5,r5,y5,a4,am⟩:=j
   have an:=I5.pinned (Z am) (T.obj _ _ a4)
   have again:∀{s7:Shared}{Y:St}{H7:Hp},Inv (W8 X sc H2.objs.size N fp s H) ([]++zn6 fp s5.heap) Y H7 s7->N' Y H7->∃ m,m<n/\∃ i S H',Inv (W8 X sc H2.objs.size N fp s H) [] S H' s7/\tn i s7.heap/\(∀ b∈fp,H' b=none)/\W i m S H':=fun{s7 Y H7} I7 n7=>by
    obtain⟨m',hm,w7⟩:=ak Y H7 n7
    refine⟨m',hm,i+1,Y,H7,I7.unpinned,T.keep _ _ _ a4 fun b L o e=>(I7.pin (b,o) (mem_append_right _ (mem_append_right _ (N2 L e)))).1,fun b L=>?_,w7⟩
    obtain⟨o,e,d⟩:=T.obj _ _ a4 b L
    exact(I7.pin (b,o) (mem_append_right _ (mem_append_right _ (N2 L e)))).2.1
   refine thn (hg _ _ _ _ _ s5 O H5 x u _ an r5 (step x H5 y5)) fun _ s6 j=>?_
   obtain⟨a3,H6,I6,q6⟩:=j
   refine thn (ht _ _ _ _ _ s6 a3 H6 _ I6 q6) fun ok s7 j=>?_
   obtain⟨H7,I7,q7⟩:=j
   cases ok with
   |false=>
    rw[if_neg Bool.false_ne_true]at q7 ⊢
    exact again I7 q7
   |true=>
    rw[if_pos rfl]at q7 ⊢
    refine thn (he _ _ _ _ _ s7 a3 H7 _ I7 q7) fun y s8 j=>?_
    obtain⟨v8,H8,I8,r8,q8⟩:=j
    obtain⟨xs,al,ag,n8⟩:=q8
    refine thn (X6 _ s8 a3 H8 (.ref s.heap.objs.size) [v8] (.ref s.heap.objs.size) [y] (fun _ H9=>H9=upd H8 s.heap.objs.size (.lst (xs++[v8]))) I8 rfl (.cons r8 .nil) ⟨_,xs,v8,rfl,rfl,al,ag,rfl⟩) fun _ s9 j=>?_
    obtain⟨v9,H9,I9,r9,q9⟩:=j
    subst q9
    exact again I9 n8
 refine codeAny_compStart_list (a0 _ rfl) (toE (T.self X.A 0 { s with heap:=M,toks:=s.toks+([]:List (Str×Value)).length } (fun v s'=>v= .ref it/\s'={ s with heap:=M,toks:=s.toks+([]:List (Str×Value)).length }) noE ab ⟨rfl,rfl⟩) fun v s' j=>?_)
 obtain⟨e1,e2⟩:=j
 subst e1;subst e2
 exact a0 _ rfl
theorem Inv.letGo {pins:List (Addr×Obj)}{σ:St}{H:Hp}{s L:Shared}{C:Addr}{h':Heap}(I:Inv X pins σ H s)(i:∃ j H0,Inv X pins j H0 L)(G:L.heap.objs.size<=C)(hn:H C=none)(M:Heap.SameBut C s.heap h'):Inv X pins σ H { s with heap:=h' }:=by
 obtain⟨j,H0,i⟩:=i
 refine I.turned (t':=s.toks) (it:=C) (fun b o N e=>(M.2 b N).trans e) hn (Nat.ne_of_gt (Nat.lt_of_lt_of_le i.lt G)) (.inr (Nat.le_trans i.sz G)) (fun x c e z=>?_) fun p hp z=>?_
 .obtain⟨v,q⟩:=i.cell x c e
  exact absurd (Nat.lt_of_lt_of_le q.lt (by rw[z];exact G)) (Nat.lt_irrefl _)
 .exact absurd (Nat.lt_of_lt_of_le (Heap.lt_size (i.pin p hp).1) (by rw[z];exact G)) (Nat.lt_irrefl _)
theorem zg8 {sc:Scope}{N:List Str}{src:List (Option Nat)}{tg L iter:Expr}{i:List Expr}{pos:Pos}{R:TI}{g:TG}{tc:TT}{te:TE}(B:Blk X sc N src)(hc:X.calm=true)
  (hi:PI X tg iter R) (hg:∀ C fp s H,PG (W8 X sc C N fp s H) tg g) (ht:∀ C fp s H,PTs (W8 X sc C N fp s H) i tc) (he:∀ C fp s H,PE (W8 X sc C N fp s H) L te)
  (hs:∀ x,foldedSetIterable iter X.env x=pure x:=by intro _;rfl):
  PE X (.ListComp L [⟨tg,iter,i,0⟩] sc pos) (zo3 src R g tc te):=by
 intro pins s σ H Q I h
 rw[eval_ListComp]
 refine wpAny_comprehension_free (use:=none) rfl hs (B.cl I.ok) B.kind B.names (wpAny_mono (hi pins s σ H _ I h) (fun xv U z=>wpAny_mono z (fun a0 S j=>?_) fun _ _ e=>e) fun _ _ e=>e)
 obtain⟨it,fp,tn,J,H2,rfl,Y,T,M,f2,hW⟩:=j
 refine zs5 (RR:=fun acc C=>compPost (model X.prog X.w) X.A X.xe none (EP X pins σ Q) acc C) (Q:=Q) B hc hg ht he Y T M f2 hW ?_
 intro D C H' s' Z I' hn hC O q
 exact⟨Z,hn,fun a1 G=>⟨.ref D,H',I'.letGo ⟨_,_,Y⟩ O hC G,rfl,q⟩⟩
theorem yq2 {i:Nat}{y:Str}{O:Pos}{sc:Scope}{N:List Str}{src:List (Option Nat)}{tg G iter:Expr}{j:List Expr}{pos L:Pos}{wi:TI}{g:TG}{tc:TT}{te:TE}(hN:X.N.Nodup)(a3:X.N[i]? =some y)(hx:Loc X.env.scope y)
  (B:Blk X sc N src) (hc:X.calm=true)
  (hi:PI X tg iter wi) (hg:∀ C fp s H,PG (W8 X sc C N fp s H) tg g) (ht:∀ C fp s H,PTs (W8 X sc C N fp s H) j tc) (he:∀ C fp s H,PE (W8 X sc C N fp s H) G te)
  (a1:swapsWith (.ListComp G [⟨tg,iter,j,0⟩] sc pos) (some (.Name y O)) L.line X.env=pure true:=by rfl)
  (hs:∀ x,foldedSetIterable iter X.env x=pure x:=by intro _;rfl) (hf:X.fn y=true\/X.env.scope.names.lookup y=some .local:=by first|exact .inl rfl|exact .inr rfl|assumption):
  PS X (.Assign [.Name y O] (.ListComp G [⟨tg,iter,j,0⟩] sc pos) L) (tAsg (zo3 src wi g tc te) (O0 i)):=by
 intro pins s σ H Dn I h
 rw[exec_Assign_Name_used _ _ _ _ a1]
 refine wpAny_bind (wpAny_standAt (wpAny_bind ?_))
 show wpAny _ _ (do let _ ← comprehension (.ListComp G [⟨tg,iter,j,0⟩] sc pos) sc X.env _ (newList []) false (eval iter X.env) (some (assign (.Name y O) X.env))) _ _ s
 refine wpAny_bind (wpAny_mono (wpAny_comprehension_free (use:=some (assign (.Name y O) X.env)) (Q:=fun _ s'=>SP X pins Dn .next s') rfl hs (B.cl I.ok) B.kind B.names
  (wpAny_mono (hi pins s σ H _ I h) (fun xv a7 S=>wpAny_mono S (fun a9 a6 R=>?_) fun _ _ e=>e) fun _ _ e=>e)) (fun _ s' hq=>wpAny_pure (wpAny_pure hq)) fun _ _ e=>e)
 obtain⟨it,fp,tn,J,H2,rfl,Z,T,a0,f2,hW⟩:=R
 refine zs5 (RR:=fun acc C=>compPost (model X.prog X.w) X.A X.xe (some (assign (.Name y O) X.env)) (fun _ s'=>SP X pins Dn .next s') acc C) (Q:=fun x H1=>O0 i x σ H1 Dn.nx) B hc hg ht he Z T a0 f2 hW ?_
 intro D C H' s' m' I' hn hC M q
 show wpAny _ _ (assign (.Name y O) X.env (.ref D)) _ _ _
 refine wpAny_assign_Name (zo4 I' hN a3 hx (v:=.ref D) rfl (fun a8 a5 Y=>?_) hf)
 obtain⟨a,a2,ha⟩:=Y
 have a4:C≠a:=fun z=>by
  rcases ha with ha|ha
  .have:=Z.lt;rw[<-ha,<-z]at this
   exact absurd (Nat.lt_of_lt_of_le this M) (Nat.lt_irrefl _)
  .obtain⟨v,qv⟩:=Z.cell y a ha
   exact absurd (Nat.lt_of_lt_of_le qv.lt (by rw[<-z];exact M)) (Nat.lt_irrefl _)
 exact⟨m',hn.sameBut a2 a4,fun aa U=>⟨_,H',a5.letGo ⟨_,_,Z⟩ M hC U,q⟩⟩
end
end
section
section
variable {X:Cx}{pins:List (Addr×Obj)}{σ:St}{H:Hp}{s:Shared}{h':Heap}
theorem Inv.turnedL {t':Nat}{fp:List Addr}(I:Inv X pins σ H s)(k:∀ b o,b∉fp->s.heap.get? b=some o->h'.get? b=some o)(j:∀ b∈fp,FpOk X pins H b):Inv X pins σ H { s with heap:=h',toks:=t' }:=by
 have G:∀ b u,H b=some u->b∉fp:=fun b u e z=>by rw[(j b z).1]at e;cases e
 refine I.step (g':=s.gens) (d':=s.drawn) (ch:=fp) (fun b L=>⟨(j b L).2.2.2.1,(j b L).2.1,(j b L).2.2.2.2.1,(j b L).2.2.2.2.2⟩) (fun b o _ _ i e _=>k b o i e) (fun b o _ _ i e _=>⟨o.slots,k b o i e⟩) (fun _ _ _ _ n=>n)
  (fun b o i e=>⟨o,k b o i e⟩) (fun _ _ e=>e) (fun _ _ _ e=>e) (fun b ps e=>⟨#[],by rw[e];simp⟩) (fun m hm=>?_) (fun b u e=>?_) I.bare
 .obtain⟨o,es,ep,ho,r⟩:=hm
  exact⟨o,es,ep,k _ o (fun z=>(j _ z).2.1 rfl) ho,r⟩
 .refine(I.hok b u e).stay (fun c v i q=>k c v ?_ q) (fun _ q=>q) fun _ _ q=>q
  rcases i with z|z
  .rw[z];exact G b u e
  .exact G c _ z
theorem Inv.turnedN {t':Nat}{fp:List Addr}{T:Addr}{o:HO}(I:Inv X pins σ H s)(k:∀ b o,b∉fp->s.heap.get? b=some o->h'.get? b=some o)(G:∀ b∈fp,FpOk X pins H b)(M:s.heap.objs.size<=T)
  (new:ObjOk X.prog X.w (upd H T o) h' T o):Inv X pins σ (upd H T o) { s with heap:=h',toks:=t' }:=by
 have hn:H T=none:=I.hok.fresh M
 have ne:∀ b u,s.heap.get? b=some u->b≠T:=fun b u e z=>absurd (Nat.lt_of_lt_of_le (Heap.lt_size e) (by rw[z];exact M)) (Nat.lt_irrefl _)
 have L:∀ b u,H b=some u->b∉fp:=fun b u e z=>by rw[(G b z).1]at e;cases e
 refine I.step (g':=s.gens) (d':=s.drawn) (ch:=fp) (fun b j=>⟨(G b j).2.2.2.1,(G b j).2.1,(G b j).2.2.2.2.1,(G b j).2.2.2.2.2⟩) (fun b o _ _ i e _=>k b o i e) (fun b o _ _ i e _=>⟨o.slots,k b o i e⟩) (fun b o _ e n=>by rw[x8 (ne b o e)];exact n)
  (fun b o i e=>⟨o,k b o i e⟩) (fun b xs e=>by rw[x8 (n6 e hn)];exact e) (fun b _ _ e=>by rw[x8 (n6 e hn)];exact e) (fun b ps e=>⟨#[],by rw[x8 (n6 e hn),e];simp⟩) (fun m hm=>?_) (fun b u e=>?_) I.bare
 .obtain⟨o,es,ep,ho,r⟩:=hm
  exact⟨o,es,ep,k _ o (fun z=>(G _ z).2.1 rfl) ho,r⟩
 .by_cases j:b=T
  .subst j;rw[x9]at e;cases e;exact new
  .rw[x8 j]at e
   refine(I.hok b u e).stay (fun c v i q=>k c v ?_ q) (fun c q=>by rw[x8 (n6 q hn)];exact q) fun c xs q=>by rw[x8 (n6 q hn)];exact q
   rcases i with z|z
   .rw[z];exact L b u e
   .exact L c _ z
end
structure Zip2 (z TI TO i1 i2:Addr):Prop where
 TIz:TI≠z
 TOz:TO≠z
 i1z:i1≠z
 i2z:i2≠z
 TITO:TI≠TO
 TIi1:TI≠i1
 TIi2:TI≠i2
 TOi1:TO≠i1
 TOi2:TO≠i2
 i12:i1≠i2
section
variable {X:Cx}
end
end
section
structure Zip3 (z TI TO i1 i2 i3:Addr):Prop where
 TIz:TI≠z
 TOz:TO≠z
 i1z:i1≠z
 i2z:i2≠z
 i3z:i3≠z
 TITO:TI≠TO
 TIi1:TI≠i1
 TIi2:TI≠i2
 TIi3:TI≠i3
 TOi1:TO≠i1
 TOi2:TO≠i2
 TOi3:TO≠i3
 i12:i1≠i2
 i13:i1≠i3
 i23:i2≠i3
structure Apart3 (z TO i1 i2 i3 l:Addr):Prop where
 lz:l≠z
 lTO:l≠TO
 l1:l≠i1
 l2:l≠i2
 l3:l≠i3
section
variable {prog:Program}{w:World}{A:Around}{E:Value->Shared->Prop}{s:Shared}
end
section
variable {X:Cx}
end
noncomputable def Ite (K:W.Frag)(l:Addr):It:=
 ⟨fun i H=>∃ xs x,SqL K H l xs/\xs[i]? =some x,
  fun i H v H'=>∃ t x,v= .ref t/\H t=none/\H'=upd H t (.tup [.int i,x])/\(∀ xs,SqL K H l xs->xs[i]? =some x),
  fun i H=>∃ xs,SqL K H l xs/\xs.length<=i⟩
theorem zp9 {P:Program}{w:World}{K:W.Frag}{es:List Expr}{tk:Nat}{tp:Pos}(e it l:Addr)(Y:e≠it):
  Turn P w K (.Tuple es tk tp) (Ite K l) [e,it] e (fun i h=>(∃ old,IsEnum h e it (i:Nat) old)/\h.IsListIter it l i) where
 mem:=by simp
 obj:=fun i h st b hb=>by
  obtain⟨⟨old,z⟩,⟨o1,e1,_,d1⟩⟩:=st
  simp only[mem_cons,not_mem_nil,or_false]at hb
  rcases hb with rfl|rfl
  .exact⟨_,z,fun v q=>by cases q⟩
  .exact⟨_,e1,fun v q=>by rw[d1]at q;cases q⟩
 keep:=fun i h h' st k=>by
  obtain⟨⟨old,z⟩,h1⟩:=st
  exact⟨⟨old,k e (by simp) _ z⟩,h1.at fun o q=>k it (by simp) o q⟩
 item:=by
  intro X hP hw hK G i pins s σ H E I hf st hg
  subst hP hw hK
  obtain⟨xs,x,L,hx⟩:=hg
  obtain⟨R,M,p1,_⟩:=I.list L
  obtain⟨u1,a5,a0⟩:=M.get hx
  obtain⟨⟨old,z⟩,h1⟩:=st
  refine wpAny_pyNext_enum_item z h1 p1.isList (x:=u1) (by simpa using a5) Y fun h' a1 a2 a3 a4 hk=>?_
  refine⟨_,rfl,?_⟩
  refine wpAny_letOwnedTupleGo_enum a1 fun O Z j=>?_
  have U:e<s.heap.objs.size:=Heap.lt_size z
  have kk:∀ c o,c∉[e,it]->s.heap.get? c=some o->O.get? c=some o:=fun c o G q=>by
   simp only[mem_cons,not_mem_nil,or_false,not_or]at G
   exact j.extBut _ _ G.1 (hk c o G.1 G.2 q)
  have hT:O.get? s.heap.objs.size=some { cls:=.type "tuple",data:=.seq #[.int i s.toks,u1] }:=j.extBut _ _ (Nat.ne_of_gt U) a3
  have I2:Inv X pins σ (upd H s.heap.objs.size (.tup [.int i,x])) { s with heap:=O,toks:=s.toks+1 }:=
   I.turnedN (T:=s.heap.objs.size) (o:=.tup [.int i,x]) kk hf (Nat.le_refl _) ⟨by show 2<=sizeLine;decide,[.int i s.toks,u1],.cons ⟨_,rfl⟩ (.cons a0 .nil),⟨_,hT,rfl,_,rfl⟩⟩
  refine⟨.ref s.heap.objs.size,_,I2,rfl,⟨_,x,rfl,I.fresh,rfl,fun zs S=>by rw[I.list_inj S L];exact hx⟩,
   ⟨⟨_,Z⟩,a2.extBut j.extBut Y.symm⟩,fun c N=>?_⟩
  have a6:c<s.heap.objs.size:=by
   obtain⟨o1,e1,_⟩:=h1
   simp only[mem_cons,not_mem_nil,or_false]at N
   rcases N with rfl|rfl
   .exact U
   .exact Heap.lt_size e1
  rw[x8 (Nat.ne_of_lt a6)]
  exact(hf c N).1
 done:=by
  intro X hP hw hK G i pins s σ H E I hf st hg
  subst hP hw hK
  obtain⟨xs,L,hl⟩:=hg
  obtain⟨R,M,p1,_⟩:=I.list L
  obtain⟨⟨old,z⟩,h1⟩:=st
  have a7:=M.length
  refine wpAny_pyNext_enum_end (I.ok.hd G) z h1 p1.isList (by simp;omega) fun h' hk=>⟨rfl,?_⟩
  exact I.turnedL (t':=s.toks) (fun c o G q=>by
   simp only[mem_cons,not_mem_nil,or_false,not_or]at G
   exact hk c o G.2 q) hf
 self:=fun A i s Q E st h=>by
  obtain⟨⟨old,z⟩,h1⟩:=st
  have hT:s.TypeIs (.ref e) "enumerate":=⟨_,z,rfl⟩
  refine wpAny_pyIter_slot hT F.slot_enumerate_iter (wpAny_call_entry F.slot_enumerate_iter hT F.entry_enumerate_iter ?_ (F.args_enumerate_iter_1 _))
  show wpAny _ _ (ret (.ref e)) _ _ s
  exact wpAny_pure ⟨_,rfl,"enumerate",_,hT,F.slot_enumerate_next.lookup,h⟩
section
variable {X:Cx}
def xe6 (K:W.Frag)(ta:TA):TI:=fun σ H R=>ta σ H fun vs H1=>∃ a xs,vs=[.ref a]/\SqL K H1 a xs/\R (Ite K a) H1
theorem xw1 {a:Expr}{ta:TA}{p pos:Pos}{es:List Expr}{tk:Nat}{tp:Pos}(Z:Gl X "enumerate")(hm:X.mg "enumerate"=none)(ha:PA X [a] ta)(Y:starEach [a] X.env=[(false,eval a X.env)]:=by rfl):
  PI X (.Tuple es tk tp) (.Call (.Name "enumerate" p) [a] [] pos) (xe6 X.K ta):=by
 intro pins s σ H R I h
 refine Call_ (J3 I Z hm boot_enumerate (PyProof.Rows.callWith_type1 (thn (ha pos pins s σ H _ I h) fun us s1 i=>?_) Y rfl))
 obtain⟨vs,H1,G,r1,L⟩:=i
 obtain⟨l,xs,e,L,q⟩:=L
 subst e
 cases r1 with
 |cons r rr=>
  cases rr
  cases r
  obtain⟨N,S,p1,_⟩:=G.list L
  refine call_enumerate_list p1.isList fun h' M j U hk=>?_
  have I2:Inv X pins σ H1 { s1 with heap:=h',toks:=s1.toks }:=G.kept hk
  have hT:({ s1 with heap:=h' }:Shared).TypeIs (.ref (s1.heap.objs.size+1)) "enumerate":=⟨_,M,rfl⟩
  refine(zp9 (P:=X.prog) (w:=X.w) (K:=X.K) (es:=es) (tk:=tk) (tp:=tp) (s1.heap.objs.size+1) s1.heap.objs.size l (Nat.ne_of_gt (Nat.lt_succ_self _))).self X.A 0 { s1 with heap:=h' } _ _ ⟨⟨_,M⟩,j⟩ ?_
  refine⟨_,[s1.heap.objs.size+1,s1.heap.objs.size],_,_,H1,rfl,I2,zp9 _ _ l (Nat.ne_of_gt (Nat.lt_succ_self _)),⟨⟨_,M⟩,j⟩,fun b O=>?_,q⟩
  have z:s1.heap.objs.size<=b:=by
   simp only[mem_cons,not_mem_nil,or_false]at O
   rcases O with rfl|rfl
   .exact Nat.le_succ _
   .exact Nat.le_refl _
  exact G.fpOk z (G.hok.fresh z)
end
end
section
def XAt (a C:Addr)(h:Heap):Prop:=∃ o vs,h.get? a=some o/\o.cls= .ref C/\o.data= .fields vs
noncomputable def yt7 (K:W.Frag)(C:Addr):Option Str:=match K.lookup C with
 |some ⟨_,_,.cls cd,_⟩=>some cd.name
 |_=>none
inductive D where
 |non|bl (b:Bool)|int (i:Int)|str (x:Str)|lst (ds:List D)|tup (ds:List D)|exc (c:Str)
 |ptr (a:Addr)|obj (c:Str) (ns:List Str) (ds:List D)
mutual
inductive Rep (K:W.Frag)(F:Hp):V->D->Prop
 |non:Rep K F .non .non
 |bl (b:Bool):Rep K F (.bl b) (.bl b)
 |int (i:Int):Rep K F (.int i) (.int i)
 |str (x:Str):Rep K F (.str x) (.str x)
 |lst {a:Addr} {xs:List V} {ds:List D}:SqL K F a xs->Reps K F xs ds->Rep K F (.ref a) (.lst ds)
 |tup {a:Addr} {xs:List V} {ds:List D}:SqT K F a xs->Reps K F xs ds->Rep K F (.ref a) (.tup ds)
 |exc {a C:Addr} {c:Str}:(W.nsIn K mainGlobals c=some (some (.ref C))/\yt7 K C=some c)->F a=some (.ext (XAt a C))->Rep K F (.ref a) (.exc c)
 |ptr (a:Addr):Rep K F (.ref a) (.ptr a)
 |obj {a dx C:Addr} {c:Str} {ns:List Str} {xs:List V} {ds:List D}:W.nsIn K mainGlobals c=some (some (.ref C))->ns.length=xs.length->F a=some (.ins C dx (ns.zip xs))->F dx=some (.own a)->Reps K F xs ds->Rep K F (.ref a) (.obj c ns ds)
inductive Reps (K:W.Frag)(F:Hp):List V->List D->Prop
 |nil:Reps K F [] []
 |cons {v:V} {d:D} {vs:List V} {ds:List D}:Rep K F v d->Reps K F vs ds->Reps K F (v::vs) (d::ds)
end
theorem Same.seqT {K:W.Frag}{H H':Hp}{a:Addr}{xs:List V}(e:Same H H')(h:SqT K H a xs):SqT K H' a xs:=by
 rcases h with (h|⟨o,h⟩)|h
 .exact .inl (.inl (e _ _ h))
 .exact .inl (.inr ⟨o,e _ _ h⟩)
 .exact .inr h
section
variable {K:W.Frag}{F F':Hp}
mutual
theorem Rep.mono (e:Same F F'):∀{v:V}{d:D},Rep K F v d->Rep K F' v d
 |_,_,.non=>.non
 |_,_,.bl b=>.bl b
 |_,_,.int i=>.int i
 |_,_,.str x=>.str x
 |_,_,.lst h r=>.lst (e.seq h) (Reps.mono e r)
 |_,_,.tup h r=>.tup (e.seqT h) (Reps.mono e r)
 |_,_,.exc h r=>.exc h (e _ _ r)
 |_,_,.ptr a=>.ptr a
 |_,_,.obj c l h h2 r=>.obj c l (e _ _ h) (e _ _ h2) (Reps.mono e r)
theorem Reps.mono (e:Same F F'):∀{vs:List V}{ds:List D},Reps K F vs ds->Reps K F' vs ds
 |_,_,.nil=>.nil
 |_,_,.cons h r=>.cons (Rep.mono e h) (Reps.mono e r)
end
theorem Reps.length:∀{vs:List V}{ds:List D},Reps K F vs ds->vs.length=ds.length
 |_,_,.nil=>rfl
 |_,_,.cons _ r=>congrArg (·+1) (Reps.length r)
theorem Reps.get:∀{vs:List V}{ds:List D}{i:Nat}{d:D},Reps K F vs ds->ds[i]? =some d->∃ v,vs[i]? =some v/\Rep K F v d
 |_,_,_,_,.nil,e=>by simp at e
 |_,_,0,_,.cons h _,e=>by simp at e;subst e;exact⟨_,rfl,h⟩
 |_,_,i+1,d,.cons _ r,e=>by
  obtain⟨v,h1,h2⟩:=Reps.get (i:=i) (d:=d) r (by simpa using e)
  exact⟨v,by simpa using h1,h2⟩
theorem Reps.get':∀{vs:List V}{ds:List D}{i:Nat}{v:V},Reps K F vs ds->vs[i]? =some v->∃ d,ds[i]? =some d/\Rep K F v d
 |_,_,_,_,.nil,e=>by simp at e
 |_,_,0,_,.cons h _,e=>by simp at e;subst e;exact⟨_,rfl,h⟩
 |_,_,i+1,d,.cons _ r,e=>by
  obtain⟨v,h1,h2⟩:=Reps.get' (i:=i) (v:=d) r (by simpa using e)
  exact⟨v,by simpa using h1,h2⟩
theorem Reps.append:∀{vs ws:List V}{ds es:List D},Reps K F vs ds->Reps K F ws es->Reps K F (vs++ws) (ds++es)
 |_,_,_,_,.nil,s=>s
 |_,_,_,_,.cons h r,s=>.cons h (Reps.append r s)
theorem Reps.take:∀{vs:List V}{ds:List D}(n:Nat),Reps K F vs ds->Reps K F (vs.take n) (ds.take n)
 |_,_,0,_=>.nil
 |_,_,_+1,.nil=>.nil
 |_,_,n+1,.cons h r=>.cons h (Reps.take n r)
theorem Reps.drop:∀{vs:List V}{ds:List D}(n:Nat),Reps K F vs ds->Reps K F (vs.drop n) (ds.drop n)
 |_,_,0,r=>r
 |_,_,_+1,.nil=>.nil
 |_,_,n+1,.cons _ r=>Reps.drop n r
theorem Reps.set {v:V}{d:D}(h:Rep K F v d):∀{vs:List V}{ds:List D}(i:Nat),Reps K F vs ds->Reps K F (vs.set i v) (ds.set i d)
 |_,_,_,.nil=>.nil
 |_,_,0,.cons _ r=>.cons h r
 |_,_,i+1,.cons q r=>.cons q (Reps.set h i r)
end
structure Ext (F H F' H':Hp):Prop where
 ff:Same F F'
 hh:Same H H'
 fh:Same F' H'
 new:∀ b,F b=none->F' b≠none->H b=none
 nf:∀ b o u,F' b=some (.frz o u)->F b=some (.frz o u)
theorem Ext.refl {F H:Hp}(h:Same F H):Ext F H F H:=⟨Same.refl _,Same.refl _,h,fun b e n=>absurd e n,fun _ _ _ z=>z⟩
theorem Ext.trans {F H F1 H1 F2 H2:Hp}(a:Ext F H F1 H1)(b:Ext F1 H1 F2 H2):Ext F H F2 H2:=
 ⟨a.ff.trans b.ff,a.hh.trans b.hh,b.fh,fun c e n=>by
  by_cases h:F1 c=none
  .exact a.hh.free (b.new c h n)
  .exact a.new c e h,fun c o u z=>a.nf c o u (b.nf c o u z)⟩
theorem Same.put {F H:Hp}{p:Addr}{o:HO}(h:Same F H)(hp:F p=none):Same F (upd H p o):=fun b u e=>by
 rw[x8 (n6 e hp)];exact h b u e
theorem Same.put2 {F H:Hp}{p:Addr}{o:HO}(h:Same F H):Same (upd F p o) (upd H p o):=fun b u e=>by
 by_cases i:b=p
 .subst i;rw[x9]at e ⊢;exact e
 .rw[x8 i]at e ⊢;exact h b u e
theorem Ext.laid {F H:Hp}{p:Addr}{o:HO}(h:Same F H)(hp:H p=none)(j:∀ a u,o≠ .frz a u:=by intro _ _ z;cases z):Ext F H (upd F p o) (upd H p o):=
 ⟨(Same.refl F).put (h.free hp),(Same.refl H).put hp,h.put2,fun b e n=>by
  by_cases i:b=p
  .subst i;exact hp
  .rw[x8 i]at n;exact absurd e n,fun b a u z=>by
  by_cases i:b=p
  .subst i;rw[x9]at z;exact absurd (Option.some.inj z) (j a u)
  .rw[x8 i]at z;exact z⟩
theorem Ext.own {F H:Hp}{p:Addr}{o:HO}(h:Same F H)(hp:H p=none):Ext F H F (upd H p o):=
 ⟨Same.refl F,(Same.refl H).put hp,h.put (h.free hp),fun b e n=>absurd e n,fun _ _ _ z=>z⟩
theorem Ext.freeze {F H F' H':Hp}{p:Addr}{o:HO}(a:Ext F H F' H')(j:F' p=none)(hp:H p=none)(I:H' p=some o)(G:∀ a u,o≠ .frz a u:=by intro _ _ z;cases z):Ext F H (upd F' p o) H':=
 ⟨a.ff.put (a.ff.free j),a.hh,fun b u e=>by
   by_cases i:b=p
   .subst i;rw[x9]at e;cases e;exact I
   .rw[x8 i]at e;exact a.fh b u e,fun b e n=>by
   by_cases i:b=p
   .subst i;exact hp
   .rw[x8 i]at n;exact a.new b e n,fun b c u z=>by
   by_cases i:b=p
   .subst i;rw[x9]at z;exact absurd (Option.some.inj z) (G c u)
   .rw[x8 i]at z;exact a.nf b c u z⟩
inductive S where
 |sh (d:D)|own (ds:List D)|ob (p:Addr) (ds:List D)
noncomputable abbrev Ro:=List (Option S)
structure Rl (K:W.Frag)(F0 H0 F H:Hp)(σ:St)(ρ:Ro):Prop where
 ext:Ext F0 H0 F H
 len:σ.length=ρ.length
 sh:∀(i:Nat) d,ρ[i]? =some (some (.sh d))->∃ v,σ[i]? =some (some v)/\Rep K F v d
 own:∀(i:Nat) ds,ρ[i]? =some (some (.own ds))->∃ p xs,σ[i]? =some (some (.ref p))/\F p=none/\H p=some (.lst xs)/\Reps K F xs ds/\H0 p=none
 inj:∀(i j:Nat) p ds es,i≠j->ρ[i]? =some (some (.own ds))->ρ[j]? =some (some (.own es))->σ[i]? =some (some (.ref p))->σ[j]? =some (some (.ref p))->False
 ob:∀(i:Nat) p ds,ρ[i]? =some (some (.ob p ds))->σ[i]? =some (some (.ref p))/\F p=none/\H0 p=none/\∃ xs,H p=some (.lst xs)/\Reps K F xs ds
 obn:∀(i j:Nat) p ds es,ρ[i]? =some (some (.ob p ds))->ρ[j]? =some (some (.own es))->σ[j]? =some (some (.ref p))->False
 ob1:∀(i j:Nat) p q ds es,ρ[i]? =some (some (.ob p ds))->ρ[j]? =some (some (.ob q es))->i=j
noncomputable def nob:Option S->Prop
 |some (.ob _ _)=>False
 |_=>True
theorem c9 {ρ:Ro}{i j:Nat}{x:Option S}{p:Addr}{ds:List D}(e:(ρ.set i x)[j]? =some (some (.ob p ds)))(I:nob x:=by exact True.intro):i≠j/\ρ[j]? =some (some (.ob p ds)):=by
 by_cases G:i=j
 .subst G
  rcases Nat.lt_or_ge i ρ.length with z|z
  .rw[getElem?_set_self z]at e;cases e;exact I.elim
  .rw[getElem?_eq_none (by simpa using z)]at e;cases e
 .rw[getElem?_set_ne G]at e;exact⟨G,e⟩
section
variable {K:W.Frag}{F0 H0 F H F' H':Hp}{σ:St}{ρ:Ro}
theorem Rl.fh (r:Rl K F0 H0 F H σ ρ):Same F H:=r.ext.fh
theorem Rl.go (r:Rl K F0 H0 F H σ ρ)(e:Ext F H F' H'):Rl K F0 H0 F' H' σ ρ where
 ext:=r.ext.trans e
 len:=r.len
 sh:=fun i d h=>let ⟨v,a,b⟩:=r.sh i d h;⟨v,a,b.mono e.ff⟩
 own:=fun i ds h=>by
  obtain⟨p,xs,a,b,c,d,z⟩:=r.own i ds h
  refine⟨p,xs,a,?_,e.hh _ _ c,d.mono e.ff,z⟩
  cases q:F' p with
  |none=>rfl
  |some o=>have:=e.new p b (by rw[q];simp);rw[this]at c;cases c
 inj:=r.inj
 ob:=fun i p ds h=>by
  obtain⟨a,b,c,xs,d,z⟩:=r.ob i p ds h
  refine⟨a,?_,c,xs,e.hh _ _ d,z.mono e.ff⟩
  cases q:F' p with
  |none=>rfl
  |some o=>have:=e.new p b (by rw[q];simp);rw[this]at d;cases d
 obn:=r.obn
 ob1:=r.ob1
theorem Rl.set (r:Rl K F0 H0 F H σ ρ){i:Nat}{v:V}{d:D}(h:Rep K F v d):Rl K F0 H0 F H (σ.set i (some v)) (ρ.set i (some (.sh d))) where
 ext:=r.ext
 len:=by simp[r.len]
 sh:=fun j d' e=>by
  by_cases I:i=j
  .subst I
   have G:i<ρ.length:=by
    rcases Nat.lt_or_ge i ρ.length with z|z
    .exact z
    .rw[getElem?_eq_none (by simpa using z)]at e;cases e
   rw[getElem?_set_self G]at e
   cases e
   exact⟨v,by rw[getElem?_set_self (by rw[r.len];exact G)],h⟩
  .rw[getElem?_set_ne I]at e ⊢
   exact r.sh j d' e
 own:=fun j ds e=>by
  by_cases I:i=j
  .subst I
   have G:i<ρ.length:=by
    rcases Nat.lt_or_ge i ρ.length with z|z
    .exact z
    .rw[getElem?_eq_none (by simpa using z)]at e;cases e
   rw[getElem?_set_self G]at e
   cases e
  .rw[getElem?_set_ne I]at e ⊢
   exact r.own j ds e
 inj:=fun j k p ds es M e1 e2 e3 N=>by
  have O:i≠j:=fun z=>by
   subst z
   have G:i<ρ.length:=by
    rcases Nat.lt_or_ge i ρ.length with z|z
    .exact z
    .rw[getElem?_eq_none (by simpa using z)]at e1;cases e1
   rw[getElem?_set_self G]at e1;cases e1
  have L:i≠k:=fun z=>by
   subst z
   have G:i<ρ.length:=by
    rcases Nat.lt_or_ge i ρ.length with z|z
    .exact z
    .rw[getElem?_eq_none (by simpa using z)]at e2;cases e2
   rw[getElem?_set_self G]at e2;cases e2
  rw[getElem?_set_ne O]at e1 e3
  rw[getElem?_set_ne L]at e2 N
  exact r.inj j k p ds es M e1 e2 e3 N
 ob:=fun j p ds e=>by
  obtain⟨n,e⟩:=c9 e
  rw[getElem?_set_ne n];exact r.ob j p ds e
 obn:=fun j k p ds es e1 e2 e3=>by
  obtain⟨n,e1⟩:=c9 e1
  have L:i≠k:=fun z=>by
   subst z
   have G:i<ρ.length:=by
    rcases Nat.lt_or_ge i ρ.length with z|z
    .exact z
    .rw[getElem?_eq_none (by simpa using z)]at e2;cases e2
   rw[getElem?_set_self G]at e2;cases e2
  rw[getElem?_set_ne L]at e2 e3
  exact r.obn j k p ds es e1 e2 e3
 ob1:=fun j k p q ds es e1 e2=>r.ob1 j k p q ds es (c9 e1).2 (c9 e2).2
theorem Rl.setOwn (r:Rl K F0 H0 F H σ ρ){i:Nat}{p:Addr}{xs:List V}{ds:List D}(U:F p=none)(S:H p=some (.lst xs))(h:Reps K F xs ds)(Y:H0 p=none)
  (fr:∀(j:Nat) es,i≠j->ρ[j]? =some (some (.own es))->σ[j]? =some (some (.ref p))->False) (Z:∀(j:Nat) q es,ρ[j]? =some (some (.ob q es))->q≠p):Rl K F0 H0 F H (σ.set i (some (.ref p))) (ρ.set i (some (.own ds))) where
 ext:=r.ext
 len:=by simp[r.len]
 sh:=fun j d' e=>by
  by_cases O:i=j
  .subst O
   have G:i<ρ.length:=by
    rcases Nat.lt_or_ge i ρ.length with z|z
    .exact z
    .rw[getElem?_eq_none (by simpa using z)]at e;cases e
   rw[getElem?_set_self G]at e
   cases e
  .rw[getElem?_set_ne O]at e ⊢
   exact r.sh j d' e
 own:=fun j es e=>by
  by_cases O:i=j
  .subst O
   have G:i<ρ.length:=by
    rcases Nat.lt_or_ge i ρ.length with z|z
    .exact z
    .rw[getElem?_eq_none (by simpa using z)]at e;cases e
   rw[getElem?_set_self G]at e
   cases e
   exact⟨p,xs,by rw[getElem?_set_self (by rw[r.len];exact G)],U,S,h,Y⟩
  .rw[getElem?_set_ne O]at e ⊢
   exact r.own j es e
 inj:=fun j k q es I M e1 e2 e3 L=>by
  by_cases R:i=j
  .subst R
   rw[getElem?_set_ne M]at e2 L
   have G:i<σ.length:=by
    rcases Nat.lt_or_ge i σ.length with z|z
    .exact z
    .rw[getElem?_eq_none (by simpa using z)]at e3;cases e3
   rw[getElem?_set_self G]at e3
   cases e3
   exact fr k I M e2 L
  .rw[getElem?_set_ne R]at e1 e3
   by_cases N:i=k
   .subst N
    have G:i<σ.length:=by
     rcases Nat.lt_or_ge i σ.length with z|z
     .exact z
     .rw[getElem?_eq_none (by simpa using z)]at L;cases L
    rw[getElem?_set_self G]at L
    cases L
    exact fr j es R e1 e3
   .rw[getElem?_set_ne N]at e2 L
    exact r.inj j k q es I M e1 e2 e3 L
 ob:=fun j q es e=>by
  obtain⟨n,e⟩:=c9 e
  rw[getElem?_set_ne n];exact r.ob j q es e
 obn:=fun j k q es I e1 e2 e3=>by
  obtain⟨n,e1⟩:=c9 e1
  by_cases N:i=k
  .subst N
   have G:i<σ.length:=by
    rcases Nat.lt_or_ge i σ.length with z|z
    .exact z
    .rw[getElem?_eq_none (by simpa using z)]at e3;cases e3
   rw[getElem?_set_self G]at e3
   cases e3
   exact Z j p es e1 rfl
  .rw[getElem?_set_ne N]at e2 e3
   exact r.obn j k q es I e1 e2 e3
 ob1:=fun j k p q ds es e1 e2=>r.ob1 j k p q ds es (c9 e1).2 (c9 e2).2
theorem Rl.freeze (r:Rl K F0 H0 F H σ ρ){i:Nat}{ds:List D}(h:ρ[i]? =some (some (.own ds))):∃ F',Rl K F0 H0 F' H σ (ρ.set i (some (.sh (.lst ds))))/\Same F F':=by
 obtain⟨p,xs,a,b,c,d,z⟩:=r.own i ds h
 have I:i<ρ.length:=(List.getElem?_eq_some_iff.mp h).1
 have e:Ext F0 H0 (upd F p (.lst xs)) H:=r.ext.freeze b z c
 have ff:Same F (upd F p (.lst xs)):=(Same.refl F).put b
 refine⟨upd F p (.lst xs),⟨e,by simp[r.len],fun j d' q=>?_,fun j es q=>?_,fun j k q es G N e1 e2 e3 e4=>?_,fun j q es e1=>?_,fun j k q es G e1 e2 e3=>?_,fun j k q Z es G e1 e2=>r.ob1 j k q Z es G (c9 e1).2 (c9 e2).2⟩,ff⟩
 .by_cases hj:i=j
  .subst hj
   rw[getElem?_set_self I]at q
   cases q
   exact⟨_,a,.lst (SqL.of x9) (d.mono ff)⟩
  .rw[getElem?_set_ne hj]at q
   obtain⟨v,Y,U⟩:=r.sh j d' q
   exact⟨v,Y,U.mono ff⟩
 .by_cases hj:i=j
  .subst hj
   rw[getElem?_set_self I]at q
   cases q
  .rw[getElem?_set_ne hj]at q
   obtain⟨O,L,R,b',c',d',S⟩:=r.own j es q
   have hp:O≠p:=fun w=>r.inj i j p ds es hj h q a (by rw[<-w];exact R)
   exact⟨O,L,R,by rw[x8 hp];exact b',c',d'.mono ff,S⟩
 .have n1:i≠j:=fun w=>by subst w;rw[getElem?_set_self I]at e1;cases e1
  have M:i≠k:=fun w=>by subst w;rw[getElem?_set_self I]at e2;cases e2
  rw[getElem?_set_ne n1]at e1
  rw[getElem?_set_ne M]at e2
  exact r.inj j k q es G N e1 e2 e3 e4
 .obtain⟨n,e1⟩:=c9 e1
  obtain⟨o1,o2,o3,zs,o4,o5⟩:=r.ob j q es e1
  have hp:q≠p:=fun w=>r.obn j i q es ds e1 h (by rw[w];exact a)
  exact⟨o1,by rw[x8 hp];exact o2,o3,zs,o4,o5.mono ff⟩
 .obtain⟨n,e1⟩:=c9 e1
  have M:i≠k:=fun w=>by subst w;rw[getElem?_set_self I]at e2;cases e2
  rw[getElem?_set_ne M]at e2
  exact r.obn j k q es G e1 e2 e3
theorem Rl.write (r:Rl K F0 H0 F H σ ρ){i:Nat}{p:Addr}{ys:List V}{ds es:List D}(h:ρ[i]? =some (some (.own ds)))(hp:σ[i]? =some (some (.ref p)))(hy:Reps K F ys es):
  Rl K F0 H0 F (upd H p (.lst ys)) σ (ρ.set i (some (.own es))):=by
 obtain⟨p',a0,a,b,c,d,z⟩:=r.own i ds h
 rw[hp]at a;cases a
 have U:i<ρ.length:=(List.getElem?_eq_some_iff.mp h).1
 refine⟨⟨r.ext.ff,r.ext.hh.put z,r.ext.fh.put b,r.ext.new,r.ext.nf⟩,by simp[r.len],fun j d' q=>?_,fun j fs q=>?_,fun j k q fs fs' L e1 e2 e3 e4=>?_,fun j q fs e1=>?_,fun j k q fs fs' e1 e2 e3=>?_,fun j k q q' es O e1 e2=>r.ob1 j k q q' es O (c9 e1).2 (c9 e2).2⟩
 .by_cases hj:i=j
  .subst hj
   rw[getElem?_set_self U]at q
   cases q
  .rw[getElem?_set_ne hj]at q
   exact r.sh j d' q
 .by_cases hj:i=j
  .subst hj
   rw[getElem?_set_self U]at q
   cases q
   exact⟨p,ys,hp,b,x9,hy,z⟩
  .rw[getElem?_set_ne hj]at q
   obtain⟨p2,I,Y,b2,c2,d2,Z⟩:=r.own j fs q
   have G:p2≠p:=fun w=>r.inj i j p ds fs hj h q hp (by rw[<-w];exact Y)
   exact⟨p2,I,Y,b2,by rw[x8 G];exact c2,d2,Z⟩
 .have back:∀(m:Nat) N,(ρ.set i (some (S.own es)))[m]? =some (some (.own N))->∃ M,ρ[m]? =some (some (.own M)):=fun m N e=>by
   by_cases hm:i=m
   .subst hm;exact⟨ds,h⟩
   .rw[getElem?_set_ne hm]at e;exact⟨N,e⟩
  obtain⟨g1,e1⟩:=back j fs e1
  obtain⟨g2,e2⟩:=back k fs' e2
  exact r.inj j k q g1 g2 L e1 e2 e3 e4
 .obtain⟨n,e1⟩:=c9 e1
  obtain⟨o1,o2,o3,zs,o4,o5⟩:=r.ob j q fs e1
  have G:q≠p:=fun w=>r.obn j i q fs ds e1 h (by rw[w];exact hp)
  exact⟨o1,o2,o3,zs,by rw[x8 G];exact o4,o5⟩
 .obtain⟨n,e1⟩:=c9 e1
  by_cases R:i=k
  .subst R;exact r.obn j i q fs ds e1 h e3
  .rw[getElem?_set_ne R]at e2
   exact r.obn j k q fs fs' e1 e2 e3
theorem Rl.writeB (r:Rl K F0 H0 F H σ ρ){i:Nat}{p:Addr}{ys:List V}{ds es:List D}(h:ρ[i]? =some (some (.ob p ds)))(hy:Reps K F ys es):
  Rl K F0 H0 F (upd H p (.lst ys)) σ (ρ.set i (some (.ob p es))):=by
 obtain⟨a,b,z,Y,c,d⟩:=r.ob i p ds h
 have N:i<ρ.length:=(List.getElem?_eq_some_iff.mp h).1
 have back:∀(j:Nat) q fs,(ρ.set i (some (S.ob p es)))[j]? =some (some (.ob q fs))->j=i/\q=p/\fs=es:=fun j q fs e=>by
  by_cases G:i=j
  .subst G;rw[getElem?_set_self N]at e;cases e;exact⟨rfl,rfl,rfl⟩
  .rw[getElem?_set_ne G]at e;exact absurd (r.ob1 i j p q ds fs h e) G
 have other:∀(j:Nat) fs,(ρ.set i (some (S.ob p es)))[j]? =some (some (.own fs))->i≠j/\ρ[j]? =some (some (.own fs)):=fun j fs e=>by
  by_cases G:i=j
  .subst G;rw[getElem?_set_self N]at e;cases e
  .rw[getElem?_set_ne G]at e;exact⟨G,e⟩
 refine⟨⟨r.ext.ff,r.ext.hh.put z,r.ext.fh.put b,r.ext.new,r.ext.nf⟩,by simp[r.len],fun j d' q=>?_,fun j fs q=>?_,fun j k q fs fs' O e1 e2 e3 I=>r.inj j k q fs fs' O (other j fs e1).2 (other k fs' e2).2 e3 I,fun j q fs e1=>?_,fun j k q fs fs' e1 e2 e3=>?_,fun j k q Z fs fs' e1 e2=>?_⟩
 .by_cases G:i=j
  .subst G;rw[getElem?_set_self N]at q;cases q
  .rw[getElem?_set_ne G]at q;exact r.sh j d' q
 .obtain⟨n,e⟩:=other j fs q
  obtain⟨p2,L,R,b2,c2,d2,U⟩:=r.own j fs e
  have M:p2≠p:=fun w=>r.obn i j p ds fs h e (by rw[<-w];exact R)
  exact⟨p2,L,R,b2,by rw[x8 M];exact c2,d2,U⟩
 .obtain⟨e2,e3,I⟩:=back j q fs e1
  subst e2 e3 I
  exact⟨a,b,z,ys,x9,hy⟩
 .obtain⟨I,e5,_⟩:=back j q fs e1
  subst I e5
  exact r.obn j k q ds fs' h (other k fs' e2).2 e3
 .rw[(back j q fs e1).1,(back k Z fs' e2).1]
end
theorem Rep.n' {K:W.Frag}{F:Hp}{x:V}(r:Rep K F x .non):x= .non:=by cases r;rfl
theorem Rep.b' {K:W.Frag}{F:Hp}{x:V}{i:Bool}(r:Rep K F x (.bl i)):x= .bl i:=by cases r;rfl
theorem Rep.i' {K:W.Frag}{F:Hp}{x:V}{i:Int}(r:Rep K F x (.int i)):x= .int i:=by cases r;rfl
theorem Rep.s' {K:W.Frag}{F:Hp}{x:V}{i:Str}(r:Rep K F x (.str i)):x= .str i:=by cases r;rfl
theorem Rep.l' {K:W.Frag}{F:Hp}{x:V}{ds:List D}(r:Rep K F x (.lst ds)):∃ a xs,x= .ref a/\SqL K F a xs/\Reps K F xs ds:=by cases r with |lst s r=>exact⟨_,_,rfl,s,r⟩
theorem Rep.t' {K:W.Frag}{F:Hp}{x:V}{ds:List D}(r:Rep K F x (.tup ds)):∃ a xs,x= .ref a/\SqT K F a xs/\Reps K F xs ds:=by cases r with |tup s r=>exact⟨_,_,rfl,s,r⟩
end
section
noncomputable abbrev ME:=Ro->Option D
noncomputable abbrev ML:=Ro->Option (List D)
noncomputable abbrev MB:=Ro->Option Bool
def TD (K:W.Frag)(m:ME):TE:=fun σ H Q=>∃ F0 H0 F ρ d,Rl K F0 H0 F H σ ρ/\m ρ=some d/\∀ v F' H',Ext F H F' H'->Rep K F' v d->Q v H'
def TF (K:W.Frag)(m:ML):TE:=fun σ H Q=>∃ F0 H0 F ρ ds,Rl K F0 H0 F H σ ρ/\m ρ=some ds/\∀ p xs F' H',Ext F H F' H'->H p=none->F' p=none->H' p=some (.lst xs)->Reps K F' xs ds->Q (.ref p) H'
def TB (K:W.Frag)(m:ML):TE:=fun σ H Q=>∃ F0 H0 F ρ ds,Rl K F0 H0 F H σ ρ/\m ρ=some ds/\∀ p xs F' H',Ext F H F' H'->SqL K H' p xs->Reps K F' xs ds->Q (.ref p) H'
def TC (K:W.Frag)(c:MB):TT:=fun σ H Q=>∃ F0 H0 F ρ b,Rl K F0 H0 F H σ ρ/\c ρ=some b/\∀ F' H',Ext F H F' H'->Q b H'
def TAs (K:W.Frag)(m:ML):TA:=fun σ H Q=>∃ F0 H0 F ρ ds,Rl K F0 H0 F H σ ρ/\m ρ=some ds/\∀ vs F' H',Ext F H F' H'->Reps K F' vs ds->Q vs H'
def PD (X:Cx)(e:Expr)(m:ME):Prop:=PE X e (TD X.K m)
def PF (X:Cx)(e:Expr)(m:ML):Prop:=PE X e (TF X.K m)
def PB (X:Cx)(e:Expr)(m:ML):Prop:=PE X e (TB X.K m)
def PC' (X:Cx)(e:Expr)(c:MB):Prop:=PT X e (TC X.K c)
def PCw (X:Cx)(e:Expr)(c:MB):Prop:=PW X e (TC X.K c)
def PAs (X:Cx)(es:List Expr)(m:ML):Prop:=PA X es (TAs X.K m)
section
variable {X:Cx}{a b c e:Expr}{ma mb:ME}{pos:Pos}
theorem PE.imp {t t':TE}(h:PE X e t)(i:∀ σ H Q,t' σ H Q->t σ H Q):PE X e t':=fun pins s σ H Q I q=>h pins s σ H Q I (i σ H Q q)
theorem PT.imp {t t':TT}(h:PT X e t)(i:∀ σ H Q,t' σ H Q->t σ H Q):PT X e t':=fun pins s σ H Q I q=>h pins s σ H Q I (i σ H Q q)
theorem PW.imp {t t':TT}(h:PW X e t)(i:∀ σ H Q,t' σ H Q->t σ H Q):PW X e t':=fun w pins s σ H Q I q=>h w pins s σ H Q I (i σ H Q q)
theorem PA.imp {es:List Expr}{t t':TA}(h:PA X es t)(i:∀ σ H Q,t' σ H Q->t σ H Q):PA X es t':=fun pos pins s σ H Q I q=>h pos pins s σ H Q I (i σ H Q q)
noncomputable def mvar (i:Nat):ME:=fun ρ=>match ρ[i]? with |some (some (.sh d))=>some d|_=>none
noncomputable def bvar (i:Nat):ML:=fun ρ=>match ρ[i]? with |some (some (.sh (.lst ds)))=>some ds|some (some (.own ds))=>some ds|some (some (.ob _ ds))=>some ds|_=>none
noncomputable def mc (d:D):ME:=fun _=>some d
theorem z5 (i:Nat){x:Str}{pos:Pos}(h:PE X (.Name x pos) (tVar i)):PD X (.Name x pos) (mvar i):=h.imp fun σ H Q j=>by
 obtain⟨F0,H0,F,ρ,d,r,e,q⟩:=j
 unfold mvar at e
 split at e
 .rename_i h'
  cases e
  obtain⟨v,e1,e2⟩:=r.sh i _ h'
  exact⟨v,e1,q v F H (.refl r.fh) e2⟩
 .cases e
theorem v6 (i:Nat){x:Str}{pos:Pos}(h:PE X (.Name x pos) (tVar i)):PB X (.Name x pos) (bvar i):=h.imp fun σ H Q j=>by
 obtain⟨F0,H0,F,ρ,d,r,e,q⟩:=j
 unfold bvar at e
 split at e
 .rename_i ds h'
  cases e
  obtain⟨v,e1,e2⟩:=r.sh i _ h'
  cases e2 with
  |lst s G=>exact⟨_,e1,q _ _ F H (.refl r.fh) (r.fh.seq s) G⟩
 .rename_i ds h'
  cases e
  obtain⟨p,xs,e1,e2,e3,z,_⟩:=r.own i _ h'
  exact⟨_,e1,q _ _ F H (.refl r.fh) (SqL.of e3) z⟩
 .rename_i p ds h'
  cases e
  obtain⟨e1,e2,_,xs,e3,z⟩:=r.ob i p _ h'
  exact⟨_,e1,q _ _ F H (.refl r.fh) (SqL.of e3) z⟩
 .cases e
theorem y8 {i:Int}{j pos}:PD X (.Constant (.int i) j pos) (mc (.int i)):=pe_int.imp fun σ H Q z=>by
 obtain⟨F0,H0,F,ρ,d,r,e,q⟩:=z
 cases e;exact q _ F H (.refl r.fh) (.int i)
theorem yp5 {b:Bool}{j pos}:PD X (.Constant (.bool b) j pos) (mc (.bl b)):=pe_bl.imp fun σ H Q i=>by
 obtain⟨F0,H0,F,ρ,d,r,e,q⟩:=i
 cases e;exact q _ F H (.refl r.fh) (.bl b)
theorem D4 {x:Str}{j pos}:PD X (.Constant (.str x) j pos) (mc (.str x)):=pe_str.imp fun σ H Q i=>by
 obtain⟨F0,H0,F,ρ,d,r,e,q⟩:=i
 cases e;exact q _ F H (.refl r.fh) (.str x)
noncomputable def mlst (m:ML):ME:=fun ρ=>(m ρ).map .lst
noncomputable def k7 (m:ME):ML:=fun ρ=>match m ρ with |some (.lst ds)=>some ds|_=>none
theorem Y1 {m:ML}(h:PF X e m):PD X e (mlst m):=h.imp fun σ H Q i=>by
 obtain⟨F0,H0,F,ρ,d,r,e,q⟩:=i
 unfold mlst at e
 cases hm:m ρ with
 |none=>rw[hm]at e;cases e
 |some ds=>
  rw[hm]at e;cases e
  refine⟨F0,H0,F,ρ,ds,r,hm,fun p xs F' H' x hp j G z=>?_⟩
  exact q _ (upd F' p (.lst xs)) H' (x.freeze j hp G) (.lst (SqL.of x9) (z.mono ((Same.refl F').put j)))
theorem zr6 (h:PD X e ma):PB X e (k7 ma):=h.imp fun σ H Q i=>by
 obtain⟨F0,H0,F,ρ,d,r,e,q⟩:=i
 unfold k7 at e
 split at e
 .rename_i ds hm
  cases e
  refine⟨F0,H0,F,ρ,_,r,hm,fun v F' H' x j=>?_⟩
  cases j with
  |lst s z=>exact q _ _ F' H' x (x.fh.seq s) z
 .cases e
theorem M1 {m:ML}(h:PF X e m):PB X e m:=h.imp fun σ H Q ⟨F0,H0,F,ρ,d,r,e,q⟩=>
 ⟨F0,H0,F,ρ,d,r,e,fun p xs F' H' x hp z j i=>q p xs F' H' x (SqL.of j) i⟩
@[irreducible] noncomputable def m2 (f:D->D->Option D)(x y:ME):ME:=fun ρ=>(x ρ).bind fun d=>(y ρ).bind fun e=>f d e
def OpD (K:W.Frag)(r:R2)(f:D->D->Option D):Prop:=∀(F H:Hp)(x y:V)(d e g:D)(Q:VK),Same F H->Rep K F x d->Rep K F y e->f d e=some g->(∀ v F' H',Ext F H F' H'->Rep K F' v g->Q v H')->r x y H Q
theorem xu4 {f:D->D->Option D}{ρ:Ro}{g:D}(h:m2 f ma mb ρ=some g):∃ d e,ma ρ=some d/\mb ρ=some e/\f d e=some g:=by
 unfold m2 at h
 cases h1:ma ρ with
 |none=>rw[h1]at h;cases h
 |some d=>
  cases h2:mb ρ with
  |none=>rw[h1,h2]at h;cases h
  |some e=>rw[h1,h2]at h;exact⟨d,e,rfl,rfl,h⟩
theorem op_d {r:R2}{f:D->D->Option D}(L:OpD X.K r f){σ:St}{H:Hp}{Q:VK}(h:TD X.K (m2 f ma mb) σ H Q):tOp r (TD X.K ma) (TD X.K mb) σ H Q:=by
 obtain⟨F0,H0,F,ρ,g,z,e,q⟩:=h
 obtain⟨d,G,h1,h2,M⟩:=xu4 e
 refine⟨F0,H0,F,ρ,d,z,h1,fun x F1 H1 j r1=>⟨F0,H0,F1,ρ,G,z.go j,h2,fun y F2 H2 i r2=>?_⟩⟩
 exact L F2 H2 x y d G g Q i.fh (r1.mono i.ff) r2 M fun v F' H' I=>q v F' H' ((j.trans i).trans I)
theorem yv5 {op:Operator}{r:R2}{f:D->D->Option D}(i:OpR X (binaryOp op) r)(j:OpD X.K r f)(ha:PD X a ma)(z:PD X b mb):PD X (.BinOp a op b pos) (m2 f ma mb):=(yf0 i ha z).imp fun _ _ _ h=>op_d j h
theorem xo7 {op:CmpOp}{r:R2}{f:D->D->Option D}(i:OpR X (compareOp op) r)(j:OpD X.K r f)(ha:PD X a ma)(z:PD X b mb)(hm:behindInMarks op b=false):PD X (.Compare a [op] [b] pos) (m2 f ma mb):=(xw3 i ha z hm).imp fun _ _ _ h=>op_d j h
noncomputable def v7 (m:ME):MB:=fun ρ=>match m ρ with |some (.bl b)=>some b|_=>none
theorem l5 {op:CmpOp}{r:R2}{f:D->D->Option D}(z:OpR X (compareOp op) r)(G:OpD X.K r f)(ha:PD X a ma)(I:PD X b mb)(hm:behindInMarks op b=false):PC' X (.Compare a [op] [b] pos) (v7 (m2 f ma mb)):=(zg3 z ha I hm).imp fun σ H Q i=>by
 obtain⟨F0,H0,F,ρ,g,j,e,q⟩:=i
 unfold v7 at e
 split at e
 .rename_i k hk
  cases e
  refine op_d G ⟨F0,H0,F,ρ,.bl g,j,hk,fun v F' H' x r=>?_⟩
  cases r
  exact⟨_,rfl,q F' H' x⟩
 .cases e
noncomputable def int2 (g:Int->Int->Option D):D->D->Option D
 | .int i,.int j=>g i j
 |_,_=>none
theorem yy1 {g:Int->Int->Option D}{d e w:D}(h:int2 g d e=some w):∃ i j,d= .int i/\e= .int j/\g i j=some w:=by
 cases d with
 |int i=>
  cases e with
  |int j=>exact⟨i,j,rfl,rfl,h⟩
  |_=>cases h
 |_=>cases h
theorem zy9 {K:W.Frag}{g:Int->Int->V}{g':Int->Int->D}(z:∀ F i j,Rep K F (g i j) (g' i j)):OpD K (rI0 g) (int2 fun i j=>some (g' i j)):=by
 intro F H x y d e w Q s r1 r2 h q
 obtain⟨i,j,rfl,rfl,h'⟩:=yy1 h
 clear h
 cases h'
 exact⟨i,j,r1.i',r2.i',q _ F H (.refl s) (z F i j)⟩
theorem za7 {K:W.Frag}{C:Int->Int->Prop}{ok:Int->Int->Bool}{g:Int->Int->V}{g':Int->Int->D}(G:∀ i j,ok i j=true->C i j)(z:∀ F i j,Rep K F (g i j) (g' i j)):
  OpD K (rI C g) (int2 fun i j=>if ok i j=true then some (g' i j)else none):=by
 intro F H x y d e w Q s r1 r2 h q
 obtain⟨i,j,rfl,rfl,h'⟩:=yy1 h
 clear h
 by_cases hk:ok i j=true
 .rw[if_pos hk]at h'
  cases h'
  exact⟨i,j,r1.i',r2.i',G i j hk,q _ F H (.refl s) (z F i j)⟩
 .rw[if_neg hk]at h'
  cases h'
noncomputable def subD:D->D->Option D:=int2 fun i j=>some (.int (i-j))
noncomputable def E3 (i j:Int):Bool:=(decide (-(2^64)<i)&&decide (i<2^64)) || (decide (-(2^64)<j)&&decide (j<2^64))
noncomputable def mulD:D->D->Option D:=int2 fun i j=>if E3 i j=true then some (.int (i*j))else none
noncomputable def zj4 (_ j:Int):Bool:=decide (0<j)&&decide (j<1073741824)
noncomputable def yk2:D->D->Option D:=int2 fun i j=>if zj4 i j=true then some (.int (i / j))else none
noncomputable def zf8 (_ j:Int):Bool:=decide (0<j)
noncomputable def modD:D->D->Option D:=int2 fun i j=>if zf8 i j=true then some (.int (i % j))else none
noncomputable def zn4 (i j:Int):Bool:=decide (0<=j)&&decide (j<=1000000)&&decide (i.natAbs<2^64)
noncomputable def powD:D->D->Option D:=int2 fun i j=>if zn4 i j=true then some (.int (i^j.toNat))else none
noncomputable def ltD:D->D->Option D:=int2 fun i j=>some (.bl (decide (i<j)))
noncomputable def leD:D->D->Option D:=int2 fun i j=>some (.bl (decide (i<=j)))
noncomputable def gtD:D->D->Option D:=int2 fun i j=>some (.bl (decide (j<i)))
noncomputable def geD:D->D->Option D:=int2 fun i j=>some (.bl (decide (j<=i)))
theorem zf3 {K:W.Frag}:OpD K (rI0 fun i j=>.int (i-j)) subD:=zy9 fun F i j=>.int _
theorem yp8 {K:W.Frag}:OpD K (rI CMul fun i j=>.int (i*j)) mulD:=za7 (fun i j h=>by
 unfold E3 at h
 simp only[Bool.or_eq_true,Bool.and_eq_true,decide_eq_true_eq]at h
 exact h) fun F i j=>.int _
theorem yf4 {K:W.Frag}:OpD K (rI CDiv fun i j=>.int (i / j)) yk2:=za7 (fun i j h=>by
 unfold zj4 at h
 simp only[Bool.and_eq_true,decide_eq_true_eq]at h
 exact h) fun F i j=>.int _
theorem xv2 {K:W.Frag}:OpD K (rI (fun _ j=>0<j) fun i j=>.int (i % j)) modD:=za7 (fun i j h=>of_decide_eq_true h) fun F i j=>.int _
theorem xv1 {K:W.Frag}:OpD K (rI CPow fun i j=>.int (i^j.toNat)) powD:=za7 (fun i j h=>by
 unfold zn4 at h
 simp only[Bool.and_eq_true,decide_eq_true_eq]at h
 exact⟨h.1.1,h.1.2,h.2⟩) fun F i j=>.int _
theorem K8 {K:W.Frag}:OpD K (rI0 fun i j=>.bl (decide (i<j))) ltD:=zy9 fun F i j=>.bl _
theorem xn1 {K:W.Frag}:OpD K (rI0 fun i j=>.bl (decide (i<=j))) leD:=zy9 fun F i j=>.bl _
theorem yp9 {K:W.Frag}:OpD K (rI0 fun i j=>.bl (decide (j<i))) gtD:=zy9 fun F i j=>.bl _
theorem zm5 {K:W.Frag}:OpD K (rI0 fun i j=>.bl (decide (j<=i))) geD:=zy9 fun F i j=>.bl _
noncomputable def eqS:D->D->Option Bool
 | .non,.non=>some true| .non,.int _=>some false| .int _,.non=>some false| .non,.bl _=>some false| .bl _,.non=>some false| .non,.str _=>some false| .str _,.non=>some false
 | .int i,.int j=>some (i==j)| .bl i,.bl j=>some (i==j)| .str i,.str j=>some (i==j)
 | .int _,.str _=>some false| .str _,.int _=>some false| .bl _,.str _=>some false| .str _,.bl _=>some false
 |_,_=>none
noncomputable def eqSD (d e:D):Option D:=(eqS d e).map .bl
noncomputable def neSD (d e:D):Option D:=(eqS d e).map fun b=>.bl (!b)
noncomputable def scV:D->V
 | .bl b=>.bl b| .int i=>.int i| .str x=>.str x|_=>.non
theorem yk3 {d e:D}{k:Bool}(h:eqS d e=some k):scal (scV d) (scV e)=true/\decide (scV d=scV e)=k:=by
 cases d with
 |non=>cases e <;> cases h <;> exact⟨rfl,rfl⟩
 |bl i=>
  cases e <;> cases h
  .exact⟨rfl,rfl⟩
  .exact⟨rfl,yk5⟩
  .exact⟨rfl,rfl⟩
 |int i=>
  cases e <;> cases h
  .exact⟨rfl,rfl⟩
  .exact⟨rfl,zd6⟩
  .exact⟨rfl,rfl⟩
 |str i=>
  cases e <;> cases h
  .exact⟨rfl,rfl⟩
  .exact⟨rfl,rfl⟩
  .exact⟨rfl,rfl⟩
  .exact⟨rfl,zd5⟩
 |_=>cases h
theorem yu8 {d e:D}{k:Bool}(h:eqS d e=some k){K:W.Frag}{F:Hp}{x:V}(r:Rep K F x d):x=scV d:=by
 cases d with
 |non=>exact r.n'
 |bl i=>exact r.b'
 |int i=>exact r.i'
 |str i=>exact r.s'
 |_=>cases h
theorem zd3 (d e:D)(k:Bool)(h:eqS d e=some k):∃ j,eqS e d=some j:=by
 cases d with
 |non=>cases e <;> cases h <;> exact⟨_,rfl⟩
 |bl i=>cases e <;> cases h <;> exact⟨_,rfl⟩
 |int i=>cases e <;> cases h <;> exact⟨_,rfl⟩
 |str i=>cases e <;> cases h <;> exact⟨_,rfl⟩
 |_=>cases h
theorem Z4 {K:W.Frag}:OpD K rEq eqSD:=by
 intro F H x y d e w Q s r1 r2 h q
 unfold eqSD at h
 cases hk:eqS d e with
 |none=>rw[hk]at h;cases h
 |some k=>
  rw[hk]at h
  cases h
  obtain⟨j,i⟩:=zd3 d e k hk
  obtain⟨h1,h2⟩:=yk3 hk
  rw[yu8 hk r1,yu8 i r2]
  refine⟨h1,?_⟩
  rw[h2]
  exact q _ F H (.refl s) (.bl _)
theorem yp7 {K:W.Frag}:OpD K rNe neSD:=by
 intro F H x y d e w Q s r1 r2 h q
 unfold neSD at h
 cases hk:eqS d e with
 |none=>rw[hk]at h;cases h
 |some k=>
  rw[hk]at h
  cases h
  obtain⟨j,i⟩:=zd3 d e k hk
  obtain⟨h1,h2⟩:=yk3 hk
  rw[yu8 hk r1,yu8 i r2]
  refine⟨h1,?_⟩
  rw[h2]
  exact q _ F H (.refl s) (.bl _)
noncomputable def m1 (f:D->Option D)(x:ME):ME:=fun ρ=>(x ρ).bind f
noncomputable def negD:D->Option D
 | .int i=>some (.int (-i))
 |_=>none
theorem ze6 {f:D->Option D}{ρ:Ro}{g:D}(h:m1 f ma ρ=some g):∃ d,ma ρ=some d/\f d=some g:=by
 unfold m1 at h
 cases h1:ma ρ with
 |none=>rw[h1]at h;cases h
 |some d=>rw[h1]at h;exact⟨d,rfl,h⟩
theorem T4 (ha:PD X a ma):PD X (.UnaryOp .USub a pos) (m1 negD ma):=(xg9 xr7 ha).imp fun σ H Q i=>by
 obtain⟨F0,H0,F,ρ,g,z,e,q⟩:=i
 obtain⟨d,h1,h2⟩:=ze6 e
 refine⟨F0,H0,F,ρ,d,z,h1,fun x F1 H1 j r1=>?_⟩
 cases r1 <;> first| (cases h2;done)|skip
 cases h2
 exact⟨_,rfl,q _ F1 H1 j (.int _)⟩
noncomputable def notD:D->Option D
 | .bl b=>some (.bl (!b))
 |_=>none
theorem xo6 (ha:PD X a ma):PD X (.UnaryOp .Not a pos) (m1 notD ma):=(xo4 ha).imp fun σ H Q i=>by
 obtain⟨F0,H0,F,ρ,g,z,e,q⟩:=i
 obtain⟨d,h1,h2⟩:=ze6 e
 refine⟨F0,H0,F,ρ,d,z,h1,fun x F1 H1 j r1=>?_⟩
 cases r1 <;> first| (cases h2;done)|skip
 cases h2
 exact⟨_,rfl,q _ F1 H1 j (.bl _)⟩
noncomputable def truD:D->Option Bool
 | .non=>some false
 | .bl b=>some b
 | .int i=>some (i != 0)
 | .str y=>if y.length<=sizeLine then some ((y.length:Int) != 0)else none
 | .lst ds=>some (!ds.isEmpty)
 | .tup ds=>some (!ds.isEmpty)
 | .exc _=>none
 | .ptr _=>none
 | .obj _ _ _=>none
noncomputable def mtru (m:ME):MB:=fun ρ=>(m ρ).bind truD
theorem C2 {K:W.Frag}{F:Hp}{vs:List V}{ds:List D}(h:Reps K F vs ds):(!ds.isEmpty)= !vs.isEmpty:=by cases h <;> rfl
theorem xo8 (ha:PD X a ma)(L:∀ i,isTrue a X.env i=(do let v ← i;standAt a.pos;holding [v] (truthy v)):=by intro _;rfl):PC' X a (mtru ma):=(yg0 ha L).imp fun σ H Q j=>by
 obtain⟨F0,H0,F,ρ,b,I,e,q⟩:=j
 unfold mtru at e
 cases h1:ma ρ with
 |none=>rw[h1]at e;cases e
 |some d=>
  rw[h1]at e
  refine⟨F0,H0,F,ρ,d,I,h1,fun x F1 H1 z r1=>⟨b,?_,q F1 H1 z⟩⟩
  cases r1 with
  |non=>cases e;rfl
  |bl=>cases e;rfl
  |int=>cases e;rfl
  |str x=>
   have e:(if x.length<=sizeLine then some ((x.length:Int) != 0)else none)=some b:=e
   split at e
   .rename_i hz
    cases e
    exact⟨hz,rfl⟩
   .cases e
  |lst s G=>cases e;exact .inl ⟨_,z.fh.seq s,C2 G⟩
  |tup s G=>cases e;exact .inr (.inl ⟨_,z.fh.seqT s,C2 G⟩)
  |exc=>cases e
  |ptr=>cases e
  |obj=>cases e
variable {ca cb:MB}
noncomputable def cor (x y:MB):MB:=fun ρ=>match x ρ with |some true=>some true|some false=>y ρ|none=>none
theorem pc_w (h:PCw X a ca):PC' X a ca:=h.pt
theorem yr4 (h:PC' X a ca):PCw X (.BoolOp .Or [a] pos) ca:=xp7 h
theorem yp6 {rest:List Expr}(ha:PC' X a ca)(I:PCw X (.BoolOp .Or (b::rest) pos) cb):PCw X (.BoolOp .Or (a::b::rest) pos) (cor ca cb):=(xg6 ha I).imp fun σ H Q i=>by
 obtain⟨F0,H0,F,ρ,g,z,e,q⟩:=i
 unfold cor at e
 split at e
 .rename_i h1
  cases e
  refine⟨F0,H0,F,ρ,_,z,h1,fun F1 H1 j=>?_⟩
  refine iteT ?_
  exact q F1 H1 j
 .rename_i h1
  refine⟨F0,H0,F,ρ,_,z,h1,fun F1 H1 j=>?_⟩
  refine iteF ?_
  exact⟨F0,H0,F1,ρ,g,z.go j,e,fun F2 H2 G=>q F2 H2 (j.trans G)⟩
 .cases e
noncomputable def mite (c:MB)(x y:ME):ME:=fun ρ=>match c ρ with |some true=>x ρ|some false=>y ρ|none=>none
theorem ya3 (I:PC' X c ca)(ha:PD X a ma)(L:PD X b mb):PD X (.IfExp c a b pos) (mite ca ma mb):=(yf1 I ha L).imp fun σ H Q j=>by
 obtain⟨F0,H0,F,ρ,g,z,e,q⟩:=j
 unfold mite at e
 split at e
 .rename_i h1
  refine⟨F0,H0,F,ρ,_,z,h1,fun F1 H1 i=>?_⟩
  refine iteT ?_
  exact⟨F0,H0,F1,ρ,g,z.go i,e,fun v F2 H2 G=>q v F2 H2 (i.trans G)⟩
 .rename_i h1
  refine⟨F0,H0,F,ρ,_,z,h1,fun F1 H1 i=>?_⟩
  refine iteF ?_
  exact⟨F0,H0,F1,ρ,g,z.go i,e,fun v F2 H2 G=>q v F2 H2 (i.trans G)⟩
 .cases e
noncomputable def anil:ML:=fun _=>some []
@[irreducible] noncomputable def z7 (x:ME)(r:ML):ML:=fun ρ=>(x ρ).bind fun d=>(r ρ).bind fun ds=>some (d::ds)
theorem zs6 {r:ML}{ρ:Ro}{i:List D}(h:z7 ma r ρ=some i):∃ d ds,ma ρ=some d/\r ρ=some ds/\i=d::ds:=by
 unfold z7 at h
 cases h1:ma ρ with
 |none=>rw[h1]at h;cases h
 |some d=>
  cases h2:r ρ with
  |none=>rw[h1,h2]at h;cases h
  |some ds=>rw[h1,h2]at h;cases h;exact⟨d,ds,rfl,rfl,rfl⟩
theorem z8:PAs X [] anil:=pa_nil.imp fun σ H Q i=>by
 obtain⟨F0,H0,F,ρ,g,j,e,q⟩:=i
 cases e;exact q [] F H (.refl j.fh) .nil
theorem z0 {es:List Expr}{m:ML}(ha:PD X a ma)(L:PAs X es m)(I:starEach (a::es) X.env=(false,eval a X.env)::starEach es X.env:=by rfl):PAs X (a::es) (z7 ma m):=(g5 ha L I).imp fun σ H Q i=>by
 obtain⟨F0,H0,F,ρ,g,G,e,q⟩:=i
 obtain⟨d,ds,h1,h2,rfl⟩:=zs6 e
 refine⟨F0,H0,F,ρ,d,G,h1,fun x F1 H1 z r1=>⟨F0,H0,F1,ρ,ds,G.go z,h2,fun xs F2 H2 j r2=>?_⟩⟩
 exact q _ F2 H2 (z.trans j) (.cons (r1.mono j.ff) r2)
@[irreducible] noncomputable def t7 (m:ML):ML:=fun ρ=>match m ρ with |some ds=>if ds.length<=sizeLine then some ds else none|none=>none
theorem zt1 {m:ML}{ρ:Ro}{i:List D}(h:t7 m ρ=some i):m ρ=some i/\i.length<=sizeLine:=by
 unfold t7 at h
 cases h1:m ρ with
 |none=>rw[h1]at h;cases h
 |some ds=>
  rw[h1]at h
  have h:(if ds.length<=sizeLine then some ds else none)=some i:=h
  split at h
  .rename_i hz;cases h;exact⟨rfl,hz⟩
  .cases h
theorem j4 {es:List Expr}{m:ML}(h:PAs X es m):PF X (.List es pos) (t7 m):=(za3 h).imp fun σ H Q i=>by
 obtain⟨F0,H0,F,ρ,g,z,e,q⟩:=i
 obtain⟨h1,h2⟩:=zt1 e
 refine⟨F0,H0,F,ρ,g,z,h1,fun vs F1 H1 j r1=>⟨by rw[r1.length];exact h2,fun p hp=>?_⟩⟩
 exact q p vs F1 _ (j.trans (Ext.own j.fh hp)) (j.hh.free hp) (j.fh.free hp) x9 r1
noncomputable def mtup (m:ML):ME:=fun ρ=>(t7 m ρ).map .tup
theorem g4 {es:List Expr}{m:ML}{k:Nat}(h:PAs X es m):PD X (.Tuple es k pos) (mtup m):=(ya0 h).imp fun σ H Q i=>by
 obtain⟨F0,H0,F,ρ,g,z,e,q⟩:=i
 unfold mtup at e
 cases h1:t7 m ρ with
 |none=>rw[h1]at e;cases e
 |some ds=>
  rw[h1]at e;cases e
  obtain⟨h1,h2⟩:=zt1 h1
  refine⟨F0,H0,F,ρ,ds,z,h1,fun vs F1 H1 j r1=>⟨by rw[r1.length];exact h2,fun p hp=>?_⟩⟩
  exact q _ _ _ (j.trans (Ext.laid j.fh hp)) (.tup (SqT.of x9) (r1.mono ((Same.refl F1).put (j.fh.free hp))))
noncomputable def mlen (m:ML):ME:=fun ρ=>(m ρ).map fun ds=>.int ds.length
@[irreducible] noncomputable def mix (m:ML)(i:ME):ME:=fun ρ=>(m ρ).bind fun ds=>(i ρ).bind fun| .int k=>atI ds k|_=>none
theorem yx4 {K:W.Frag}{F:Hp}{vs:List V}{ds:List D}{k:Int}{d:D}(r:Reps K F vs ds)(h:atI ds k=some d):∃ v,atI vs k=some v/\Rep K F v d:=by
 unfold atI at h ⊢
 rw[r.length]
 cases q:ixN ds.length k with
 |none=>rw[q]at h;cases h
 |some j=>
  rw[q]at h
  exact r.get h
theorem V7 {G:ML}(ha:PB X a G)(N:PD X b mb)(M:zp5 b:=by exact fun _ _=>rfl):PD X (.Subscript a b pos) (mix G mb):=(xw2 ym2 ha N M).imp fun σ H Q j=>by
 obtain⟨F0,H0,F,ρ,g,L,e,q⟩:=j
 unfold mix at e
 cases h1:G ρ with
 |none=>rw[h1]at e;cases e
 |some ds=>
  cases h2:mb ρ with
  |none=>rw[h1,h2]at e;cases e
  |some i=>
   rw[h1,h2]at e
   refine⟨F0,H0,F,ρ,ds,L,h1,fun p xs F1 H1 I s1 r1=>⟨F0,H0,F1,ρ,i,L.go I,h2,fun y F2 H2 z r2=>?_⟩⟩
   cases r2 <;> first| (cases e;done)|skip
   rename_i k
   obtain⟨v,R,O⟩:=yx4 (r1.mono z.ff) (show atI ds k=some g from e)
   exact⟨p,xs,k,v,rfl,rfl,z.hh.seq s1,R,q v F2 H2 (I.trans z) O⟩
theorem yc5 {K:W.Frag}{F:Hp}{vs:List V}{ds:List D}(r:Reps K F vs ds)(lo hi:Option Int):Reps K F (cutV vs lo hi) ((ds.drop (HT.sIx ds.length 0 lo)).take (HT.sIx ds.length ds.length hi-HT.sIx ds.length 0 lo)):=by
 unfold cutV
 rw[r.length]
 exact(r.drop _).take _
noncomputable def cutL (ds:List D)(lo hi:Option Int):List D:=(ds.drop (HT.sIx ds.length 0 lo)).take (HT.sIx ds.length ds.length hi-HT.sIx ds.length 0 lo)
noncomputable abbrev MO:=Ro->Option (Option Int)
noncomputable def B4:MO:=fun _=>some none
noncomputable def F7 (m:ME):MO:=fun ρ=>(m ρ).bind fun| .int i=>some (some i)|_=>none
noncomputable def TOs (K:W.Frag)(m:MO):TO:=fun σ H Q=>∃ F0 H0 F ρ i,Rl K F0 H0 F H σ ρ/\m ρ=some i/\∀ F' H',Ext F H F' H'->Q i H'
def POs (X:Cx)(e:Option Expr)(m:MO):Prop:=PO X e (TOs X.K m)
theorem PO.imp {e:Option Expr}{t t':TO}(h:PO X e t)(i:∀ σ H Q,t' σ H Q->t σ H Q):PO X e t':=fun pins s σ H Q I q=>h pins s σ H Q I (i σ H Q q)
theorem K7:POs X none B4:=PO.imp xw0 fun σ H Q j=>by obtain⟨F0,H0,F,ρ,i,z,e,q⟩:=j;cases e;exact q F H (.refl z.fh)
theorem K6 (h:PD X a ma):POs X (some a) (F7 ma):=PO.imp (xx9 h) fun σ H Q j=>by
 obtain⟨F0,H0,F,ρ,i,G,e,q⟩:=j
 unfold F7 at e
 cases h1:ma ρ with
 |none=>rw[h1]at e;cases e
 |some d=>
  rw[h1]at e
  refine⟨F0,H0,F,ρ,d,G,h1,fun v F1 H1 z r1=>?_⟩
  cases r1 <;> first| (cases e;done)|skip
  cases e
  exact⟨_,rfl,q F1 H1 z⟩
@[irreducible] noncomputable def mcut (m:ML)(lo hi:MO):ML:=fun ρ=>(m ρ).bind fun ds=>(lo ρ).bind fun l=>(hi ρ).bind fun h=>some (cutL ds l h)
theorem xo2 {L:ML}{lo hi:Option Expr}{l h:MO}(ha:PB X a L)(U:POs X lo l)(hh:POs X hi h)(R:PE X e (tSl (rSlL X.K) (TB X.K L) (TOs X.K l) (TOs X.K h))):PF X e (mcut L l h):=R.imp fun σ H Q G=>by
 obtain⟨F0,H0,F,ρ,g,N,e,q⟩:=G
 unfold mcut at e
 cases h1:L ρ with
 |none=>rw[h1]at e;cases e
 |some ds=>
  cases h2:l ρ with
  |none=>rw[h1,h2]at e;cases e
  |some i=>
   cases h3:h ρ with
   |none=>rw[h1,h2,h3]at e;cases e
   |some j=>
    rw[h1,h2,h3]at e;cases e
    refine⟨F0,H0,F,ρ,ds,N,h1,fun p xs F1 H1 M s1 r1=>⟨F0,H0,F1,ρ,i,N.go M,h2,fun F2 H2 I=>⟨F0,H0,F2,ρ,j,(N.go M).go I,h3,fun S Y z=>?_⟩⟩⟩
    refine⟨p,xs,rfl,z.hh.seq (I.hh.seq s1),fun w hw=>?_⟩
    have O:=(M.trans I).trans z
    exact q w _ S _ (O.trans (Ext.own z.fh hw)) (O.hh.free hw) (z.fh.free hw) x9 (yc5 (r1.mono (I.ff.trans z.ff)) i j)
end
end
section
theorem zk7 (l:Addr)(j:Array Value)(n:Nat)(b:Addr)(i:Array Value)(I:Nat)(dd G:Option Addr)(sl z:Array (Option Value))(M:j.size+i.size<=sizeLine):
  Meets (Builtin.«list.__add__» ⟨[.ref l,.ref b],[]⟩) (fun _ R s=>s.heap.get? l=some { cls:=.type "list",dict:=dd,data:=.seq j n,slots:=sl }/\s.heap.get? b=some { cls:=.type "list",dict:=G,data:=.seq i I,slots:=z }/\R (.ok (.ret (Value.ref s.heap.objs.size))) { s with heap:=s.heap.push { cls:=Value.type "list",data:=Data.seq (j++i) },toks:=s.toks }):=
 .of_wp fun prog w A R s h=>by obtain⟨hp,g,d,tk,os⟩:=s;obtain⟨L,N,h⟩:=h;have Z:=AutoSeq1.idx_int;have Y:=AutoSeq1.sub_tuple_tuple;have U:=AutoSeq1.sub_list_list;have S:=AutoSeq1.sub_tuple_list;have O:=AutoSeq1.sub_list_tuple;wp_walk using AutoSeq1.wpAny_loadPart' L,AutoSeq1.wpAny_loadPart' N;exact⟨_,rfl,h⟩
section
variable {X:Cx}{a b c e:Expr}{ma mb:ME}{pos:Pos}
def xp6 (K:W.Frag):R2:=fun x y H Q=>∃ l b xs zs,x= .ref l/\y= .ref b/\SqL K H l xs/\SqL K H b zs/\xs.length+zs.length<=sizeLine/\∀ p,H p=none->Q (.ref p) (upd H p (.lst (xs++zs)))
theorem F8:OpR X (binaryOp .Add) (xp6 X.K):=by
 intro pins s σ H x y v u Q I rx R h
 obtain⟨l,b,xs,zs,rfl,rfl,U,Y,hz,q⟩:=h
 cases rx
 cases R
 obtain⟨its,r,⟨⟨cl,dd,dt,sl⟩,n,e,O,hd,N⟩,z⟩:=I.list U
 obtain⟨i,r2,⟨⟨a2,a1,a0,M⟩,S,e2,L,G,j⟩,z2⟩:=I.list Y
 simp only at O hd N L G j
 subst O hd N L G j
 have l1:=r.length
 have l2:=r2.length
 refine concat_meets (T:="list") ⟨_,e,rfl⟩ ⟨_,e2,rfl⟩ PySem.noFill_list_add PySem.seq_list_add F.slot_list_add F.entry_list_add (F.args_list_add_2 _ _) (zk7 l its.toArray n b i.toArray S none none sl M (by rw[size_toArray,size_toArray];omega)) ⟨e,e2,?_⟩
 have Z:its.toArray++i.toArray=(its++i).toArray:=by simp
 rw[Z]
 exact⟨.ref _,_,I.lnew (t':=s.toks) (r.append r2) (by rw[length_append];omega),rfl,q _ I.fresh⟩
@[irreducible] noncomputable def mcat (x y:ML):ML:=fun ρ=>(x ρ).bind fun ds=>(y ρ).bind fun es=>if ds.length+es.length<=sizeLine then some (ds++es)else none
theorem yn5 {x y:ML}{ρ:Ro}{i:List D}(h:mcat x y ρ=some i):∃ ds es,x ρ=some ds/\y ρ=some es/\ds.length+es.length<=sizeLine/\i=ds++es:=by
 unfold mcat at h
 cases h1:x ρ with
 |none=>rw[h1]at h;cases h
 |some ds=>
  cases h2:y ρ with
  |none=>rw[h1,h2]at h;cases h
  |some es=>
   rw[h1,h2]at h
   have h:(if ds.length+es.length<=sizeLine then some (ds++es)else none)=some i:=h
   split at h
   .rename_i hz;cases h;exact⟨ds,es,rfl,rfl,hz,rfl⟩
   .cases h
theorem zy6 {x y:ML}(ha:PB X a x)(M:PB X b y):PF X (.BinOp a .Add b pos) (mcat x y):=(yf0 F8 ha M).imp fun σ H Q j=>by
 obtain⟨F0,H0,F,ρ,g,I,e,q⟩:=j
 obtain⟨ds,es,h1,h2,L,rfl⟩:=yn5 e
 refine⟨F0,H0,F,ρ,ds,I,h1,fun p xs F1 H1 G s1 r1=>⟨F0,H0,F1,ρ,es,I.go G,h2,fun p2 ys F2 H2 i s2 r2=>?_⟩⟩
 refine⟨p,p2,xs,ys,rfl,rfl,i.hh.seq s1,s2,by rw[r1.length,r2.length];exact L,fun w hw=>?_⟩
 have z:=G.trans i
 exact q w _ F2 _ (z.trans (Ext.own i.fh hw)) (z.hh.free hw) (i.fh.free hw) x9 ((r1.mono i.ff).append r2)
noncomputable def addD:D->D->Option D
 | .int i,.int j=>some (.int (i+j))
 | .lst ds,.lst es=>if ds.length+es.length<=sizeLine then some (.lst (ds++es))else none
 |_,_=>none
theorem zx0 {K:W.Frag}:OpD K (fun x y H Q=>(rI0 fun i j=>V.int (i+j)) x y H Q\/xp6 K x y H Q) addD:=by
 intro F H x y d e w Q s r1 r2 h q
 cases d with
 |int i=>
  cases e with
  |int j=>
   cases h
   exact .inl ⟨_,_,r1.i',r2.i',q _ F H (.refl s) (.int _)⟩
  |_=>cases h
 |lst G=>
  cases e with
  |lst z=>
   obtain⟨p1,O,e1,s1,M⟩:=r1.l'
   obtain⟨p2,N,e2,s2,L⟩:=r2.l'
   have h:(if G.length+z.length<=sizeLine then some (D.lst (G++z))else none)=some w:=h
   by_cases I:G.length+z.length<=sizeLine
   .rw[if_pos I]at h
    cases h
    refine .inr ⟨_,_,_,_,e1,e2,s.seq s1,s.seq s2,by rw[M.length,L.length];exact I,fun p hp=>?_⟩
    exact q _ _ _ (Ext.laid s hp) (.lst (SqL.of x9) ((M.append L).mono ((Same.refl F).put (s.free hp))))
   .rw[if_neg I]at h;cases h
  |_=>cases h
 |_=>cases h
theorem c6 (ha:PD X a ma)(i:PD X b mb):PD X (.BinOp a .Add b pos) (m2 addD ma mb):=yv5 (OpR.or zm6 F8) zx0 ha i
theorem P0 (ha:PD X a ma)(i:PD X b mb):PD X (.BinOp a .Sub b pos) (m2 subD ma mb):=yv5 yo0 zf3 ha i
theorem zm4 (ha:PD X a ma)(i:PD X b mb):PD X (.BinOp a .Mult b pos) (m2 mulD ma mb):=yv5 ya4 yp8 ha i
theorem yp4 (ha:PD X a ma)(i:PD X b mb):PD X (.BinOp a .FloorDiv b pos) (m2 yk2 ma mb):=yv5 xv5 yf4 ha i
theorem zt8 (ha:PD X a ma)(i:PD X b mb):PD X (.BinOp a .Mod b pos) (m2 modD ma mb):=yv5 xn5 xv2 ha i
theorem zt7 (ha:PD X a ma)(i:PD X b mb):PD X (.BinOp a .Pow b pos) (m2 powD ma mb):=yv5 xn3 xv1 ha i
@[irreducible] noncomputable def D1 (f:List D->Option D)(m:ML):ME:=fun ρ=>(m ρ).bind f
def xh4 (K:W.Frag)(r:List V->Hp->VK->Prop)(f:List D->Option D):Prop:=∀(F H:Hp)(vs:List V)(ds:List D)(g:D)(Q:VK),Same F H->Reps K F vs ds->f ds=some g->(∀ v F' H',Ext F H F' H'->Rep K F' v g->Q v H')->r vs H Q
theorem ya9 {r:List V->Hp->VK->Prop}{f:List D->Option D}{m:ML}(G:xh4 X.K r f){σ:St}{H:Hp}{Q:VK}(h:TD X.K (D1 f m) σ H Q):tCB r (TAs X.K m) σ H Q:=by
 obtain⟨F0,H0,F,ρ,g,z,e,q⟩:=h
 unfold D1 at e
 cases h1:m ρ with
 |none=>rw[h1]at e;cases e
 |some ds=>
  rw[h1]at e
  exact⟨F0,H0,F,ρ,ds,z,h1,fun vs F1 H1 i r1=>G F1 H1 vs ds g Q i.fh r1 e fun v F' H' j=>q v F' H' (i.trans j)⟩
theorem m8 {e:Expr}{p:Pos}{m:ML}(L:Gl X "len")(hm:X.mg "len"=none)(ha:PB X e m)(I:starEach (e::[]) X.env=(false,eval e X.env)::starEach [] X.env:=by rfl)(M:starEach [e] X.env=(false,eval e X.env)::starEach [] X.env:=by rfl)(j:(backTo pos (starEach [] X.env)).any (·.1)=false:=by rfl):PD X (.Call (.Name "len" p) [e] [] pos) (mlen m):=
 (U3 zi2 L hm PySem.boot_len (g5 ha pa_nil I) (by decide) (by decide) M j).imp fun σ H Q i=>by
  obtain⟨F0,H0,F,ρ,g,G,e,q⟩:=i
  unfold mlen at e
  cases h1:m ρ with
  |none=>rw[h1]at e;cases e
  |some ds=>
   rw[h1]at e;cases e
   refine⟨F0,H0,F,ρ,ds,G,h1,fun p xs F1 H1 z s1 r1=>⟨p,xs,rfl,.inl s1,?_⟩⟩
   rw[r1.length]
   exact q _ F1 H1 z (.int _)
noncomputable def two2 (k:Int->Int->Int):List D->Option D
 |[.int i,.int j]=>some (.int (k i j))
 |_=>none
theorem yi9 {k:Int->Int->Int}{ds:List D}{g:D}(h:two2 k ds=some g):∃ i j,ds=[.int i,.int j]/\g= .int (k i j):=by
 cases ds with
 |nil=>cases h
 |cons d ds=>
  cases ds with
  |nil=>cases d <;> cases h
  |cons e ds=>
   cases ds with
   |cons f ds=>cases d <;> first| (cases h;done)| (cases e <;> cases h)
   |nil=>
    cases d with
    |int i=>
     cases e with
     |int j=>cases h;exact⟨i,j,rfl,rfl⟩
     |_=>cases h
    |_=>cases h
theorem zi0 {K:W.Frag}{k:Int->Int->Int}:xh4 K (fun xs H Q=>∃ i j,xs=[.int i,.int j]/\Q (.int (k i j)) H) (two2 k):=by
 intro F H vs ds g Q s r h q
 obtain⟨i,j,rfl,rfl⟩:=yi9 h
 cases r with
 |cons r rr=>
  cases rr with
  |cons r2 rr=>
   cases rr
   rw[r.i',r2.i']
   exact⟨_,_,rfl,q _ F H (.refl s) (.int _)⟩
noncomputable def ye7:List D->Option D:=two2 fun i j=>if j>i then j else i
noncomputable def ze0:List D->Option D:=two2 fun i j=>if j<i then j else i
theorem xw8 {x y:Expr}{p:Pos}{m:ML}(L:X.calm=true)(G:Gl X "max")(hm:X.mg "max"=none)(ha:PAs X [x,y] m)(I:starEach [x,y] X.env=(false,eval x X.env)::starEach [y] X.env:=by rfl)(z:(backTo pos (starEach [y] X.env)).any (·.1)=false:=by rfl):PD X (.Call (.Name "max" p) [x,y] [] pos) (D1 ye7 m):=
 (U3 (yj6 L) G hm PyProof.Rows.boot_max ha (by decide) (by decide) I z).imp fun _ _ _ h=>ya9 (zi0 (k:=fun i j=>if j>i then j else i)) h
theorem zf1 {x y:Expr}{p:Pos}{m:ML}(L:X.calm=true)(G:Gl X "min")(hm:X.mg "min"=none)(ha:PAs X [x,y] m)(I:starEach [x,y] X.env=(false,eval x X.env)::starEach [y] X.env:=by rfl)(z:(backTo pos (starEach [y] X.env)).any (·.1)=false:=by rfl):PD X (.Call (.Name "min" p) [x,y] [] pos) (D1 ze0 m):=
 (U3 (yj4 L) G hm PyProof.Rows.boot_min ha (by decide) (by decide) I z).imp fun _ _ _ h=>ya9 (zi0 (k:=fun i j=>if j<i then j else i)) h
noncomputable def intF:List D->Option D
 |[.int i]=>some (.int i)
 |[.bl k]=>some (.int (if k then 1 else 0))
 |_=>none
theorem yp1 {e:Expr}{p:Pos}{m:ML}(M:Gl X "list")(hm:X.mg "list"=none)(ha:PB X e m)(L:bootBuiltins "list"=some (.type "list"))(G:starEach (e::[]) X.env=(false,eval e X.env)::starEach [] X.env:=by rfl)(z:(backTo pos (starEach [] X.env)).any (·.1)=false:=by rfl):PF X (.Call (.Name "list" p) [e] [] pos) m:=
 (zm1 zi1 M hm L (g5 ha pa_nil G) (by decide) (by decide) G z).imp fun σ H Q i=>by
  obtain⟨F0,H0,F,ρ,ds,I,e,q⟩:=i
  refine⟨F0,H0,F,ρ,ds,I,e,fun p xs F1 H1 j s1 r1=>⟨p,xs,rfl,.inl s1,fun w hw=>?_⟩⟩
  exact q w _ F1 _ (j.trans (Ext.own j.fh hw)) (j.hh.free hw) (j.fh.free hw) x9 r1
end
end
section
inductive Out where
 |nx (ρ:Ro)|bk (ρ:Ro)|ct (ρ:Ro)|rt (d:D)|rf (ds:List D)|rp (d:D) (ds:List D)|rg (d:D) (p:Addr) (r:List D)|rgf (ds:List D) (p:Addr) (r:List D)
noncomputable abbrev MS:=Ro->Option Out
noncomputable def okO (K:W.Frag)(F0 H0 Fb:Hp)(Dn:Ends):Out->Prop
 | .nx ρ=>∀ F H σ,Rl K F0 H0 F H σ ρ->Same Fb F->Dn.nx σ H
 | .bk ρ=>∀ F H σ,Rl K F0 H0 F H σ ρ->Same Fb F->Dn.bk σ H
 | .ct ρ=>∀ F H σ,Rl K F0 H0 F H σ ρ->Same Fb F->Dn.ct σ H
 | .rt d=>∀ v F H,Ext F0 H0 F H->Rep K F v d->Dn.rt v H
 | .rf ds=>∀ p xs F H,Ext F0 H0 F H->H0 p=none->F p=none->H p=some (.lst xs)->Reps K F xs ds->Dn.rt (.ref p) H
 | .rp d ds=>∀ t v p xs F H,Ext F0 H0 F H->H0 t=none->H0 p=none->t≠p->F t=none->F p=none->H t=some (.tup [v,.ref p])->H p=some (.lst xs)->Rep K F v d->Reps K F xs ds->Dn.rt (.ref t) H
 | .rg d p r=>∀ v F H xs,Ext F0 H0 F H->Rep K F v d->F p=none->H p=some (.lst xs)->Reps K F xs r->Dn.rt v H
 | .rgf ds p r=>∀ q ys F H xs,Ext F0 H0 F H->H0 q=none->F q=none->q≠p->H q=some (.lst ys)->Reps K F ys ds->F p=none->H p=some (.lst xs)->Reps K F xs r->Dn.rt (.ref q) H
def TSd (K:W.Frag)(m:MS):TS:=fun Dn σ H=>∃ F0 H0 F ρ o,Rl K F0 H0 F H σ ρ/\m ρ=some o/\okO K F0 H0 F Dn o
theorem okO.mono {K:W.Frag}{F0 H0 z j:Hp}{G:Ends}(s:Same z j):∀{o:Out},okO K F0 H0 z G o->okO K F0 H0 j G o
 | .nx _,h=>fun F H σ i q=>h F H σ i (s.trans q)
 | .bk _,h=>fun F H σ i q=>h F H σ i (s.trans q)
 | .ct _,h=>fun F H σ i q=>h F H σ i (s.trans q)
 | .rt _,h=>h
 | .rf _,h=>h
 | .rp _ _,h=>h
 | .rg _ _ _,h=>h
 | .rgf _ _ _,h=>h
def PSd (X:Cx)(st:Stmt)(m:MS):Prop:=PS X st (TSd X.K m)
def PSsd (X:Cx)(st:List Stmt)(m:MS):Prop:=PSs X st (TSd X.K m)
section
variable {X:Cx}{a b c e:Expr}{ma mb:ME}{pos:Pos}{st:Stmt}{rest:List Stmt}{m1 m2':MS}
theorem PS.imp {t t':TS}(h:PS X st t)(i:∀ D σ H,t' D σ H->t D σ H):PS X st t':=fun pins s σ H D I q=>h pins s σ H D I (i D σ H q)
theorem PSs.imp {sts:List Stmt}{t t':TS}(h:PSs X sts t)(i:∀ D σ H,t' D σ H->t D σ H):PSs X sts t':=fun pins s σ H D I q=>h pins s σ H D I (i D σ H q)
noncomputable def W6:MS:=fun ρ=>some (.nx ρ)
noncomputable def mseq (x y:MS):MS:=fun ρ=>match x ρ with |some (.nx ρ')=>y ρ'|o=>o
theorem d6:PSsd X [] W6:=pss_nil.imp fun D σ H i=>by obtain⟨F0,H0,F,ρ,o,j,e,ok⟩:=i;cases e;exact ok F H σ j (Same.refl _)
theorem x6 (h1:PSd X st m1)(h2:PSsd X rest m2'):PSsd X (st::rest) (mseq m1 m2'):=(K3 h1 h2).imp fun D σ H j=>by
 obtain⟨F0,H0,F,ρ,o,i,e,ok⟩:=j
 unfold mseq at e
 cases h:m1 ρ with
 |none=>rw[h]at e;cases e
 |some L=>
  rw[h]at e
  cases L with
  |nx ρ1=>exact⟨F0,H0,F,ρ,_,i,h,fun F' H' G z I=>⟨F0,H0,F',ρ1,o,z,e,ok.mono I⟩⟩
  |bk ρ1=>cases e;exact⟨F0,H0,F,ρ,_,i,h,ok⟩
  |ct ρ1=>cases e;exact⟨F0,H0,F,ρ,_,i,h,ok⟩
  |rt d=>cases e;exact⟨F0,H0,F,ρ,_,i,h,ok⟩
  |rf d=>cases e;exact⟨F0,H0,F,ρ,_,i,h,ok⟩
  |rp d ds=>cases e;exact⟨F0,H0,F,ρ,_,i,h,ok⟩
  |rg d p r=>cases e;exact⟨F0,H0,F,ρ,_,i,h,ok⟩
  |rgf d p r=>cases e;exact⟨F0,H0,F,ρ,_,i,h,ok⟩
theorem w5 (h1:PSd X st m1):PSsd X [st] m1:=G8 h1
noncomputable def mif (c:MB)(x y:MS):MS:=fun ρ=>match c ρ with |some true=>x ρ|some false=>y ρ|none=>none
theorem U0 {ca:MB}{x y:List Stmt}{mx G:MS}(M:PC' X c ca)(L:PSsd X x mx)(I:PSsd X y G):PSd X (.If c x y pos) (mif ca mx G):=(yv4 M L I).imp fun D σ H j=>by
 obtain⟨F0,H0,F,ρ,o,z,e,ok⟩:=j
 unfold mif at e
 split at e
 .rename_i h1
  refine⟨F0,H0,F,ρ,_,z,h1,fun F1 H1 i=>iteT ⟨F0,H0,F1,ρ,o,z.go i,e,ok.mono i.ff⟩⟩
 .rename_i h1
  refine⟨F0,H0,F,ρ,_,z,h1,fun F1 H1 i=>iteF ⟨F0,H0,F1,ρ,o,z.go i,e,ok.mono i.ff⟩⟩
 .cases e
noncomputable def zs0:MS:=fun _=>none
theorem K5:PSd X st zs0:=ps_never.imp fun D σ H i=>by obtain⟨F0,H0,F,ρ,o,j,e,ok⟩:=i;cases e
noncomputable def mset (i:Nat)(x:ME):MS:=fun ρ=>(x ρ).map fun d=>.nx (ρ.set i (some (.sh d)))
noncomputable def P3 (i:Nat)(x:ML):MS:=fun ρ=>(x ρ).map fun ds=>.nx (ρ.set i (some (.own ds)))
theorem xi9 {t:TE}{i:Nat}(h:PS X st (tAsg t (O0 i)))(I:∀ σ H Q,TD X.K ma σ H Q->t σ H Q):PSd X st (mset i ma):=h.imp fun D σ H j=>by
 obtain⟨F0,H0,F,ρ,o,G,e,ok⟩:=j
 unfold mset at e
 cases h1:ma ρ with
 |none=>rw[h1]at e;cases e
 |some d=>
  rw[h1]at e;cases e
  exact I _ _ _ ⟨F0,H0,F,ρ,d,G,h1,fun v F1 H1 z r1=>ok F1 H1 _ ((G.go z).set r1) z.ff⟩
theorem xd4 {t:TE}{i:Nat}{mf:ML}(h:PS X st (tAsg t (O0 i)))(M:∀ σ H Q,TF X.K mf σ H Q->t σ H Q):PSd X st (P3 i mf):=h.imp fun D σ H I=>by
 obtain⟨F0,H0,F,ρ,o,G,e,ok⟩:=I
 unfold P3 at e
 cases h1:mf ρ with
 |none=>rw[h1]at e;cases e
 |some ds=>
  rw[h1]at e;cases e
  refine M _ _ _ ⟨F0,H0,F,ρ,ds,G,h1,fun p xs F1 H1 L hp O N r1=>ok F1 H1 _ ?_ L.ff⟩
  refine(G.go L).setOwn O N r1 (G.ext.hh.free hp) (fun j es R e1 e2=>?_) fun j q es e1 z=>?_
  .obtain⟨q,ys,a1,a2,a3,_⟩:=G.own j es e1
   rw[a1]at e2;cases e2
   rw[hp]at a3;cases a3
  .obtain⟨_,_,_,ys,a3,_⟩:=G.ob j q es e1
   rw[z,hp]at a3;cases a3
theorem l8 {i:Nat}{x:Str}{pos':Pos}(L:X.N.Nodup)(hi:X.N[i]? =some x)(j:Loc X.env.scope x)(I:PD X e ma)(z:swapsWith e (some (.Name x pos')) pos.line X.env=pure false:=by rfl)(G:X.fn x=true\/X.env.scope.names.lookup x=some .local:=by first|exact .inl rfl|exact .inr rfl|assumption):
  PSd X (.Assign [.Name x pos'] e pos) (mset i ma):=xi9 (zt4 L hi j I z G) fun _ _ _ h=>h
theorem S5 {i:Nat}{x:Str}{pos':Pos}{mf:ML}(L:X.N.Nodup)(hi:X.N[i]? =some x)(j:Loc X.env.scope x)(I:PF X e mf)(z:swapsWith e (some (.Name x pos')) pos.line X.env=pure false:=by rfl)(G:X.fn x=true\/X.env.scope.names.lookup x=some .local:=by first|exact .inl rfl|exact .inr rfl|assumption):
  PSd X (.Assign [.Name x pos'] e pos) (P3 i mf):=xd4 (zt4 L hi j I z G) fun _ _ _ h=>h
noncomputable def P6 (x:ME):MS:=fun ρ=>(x ρ).map fun _=>.nx ρ
theorem S6 (I:PD X e ma)(G:swapsWith e none pos.line X.env=pure false:=by rfl):PSd X (.Expr e pos) (P6 ma):=(S7 I G).imp fun D σ H i=>by
 obtain⟨F0,H0,F,ρ,o,z,e,ok⟩:=i
 unfold P6 at e
 cases h1:ma ρ with
 |none=>rw[h1]at e;cases e
 |some d=>
  rw[h1]at e;cases e
  exact⟨F0,H0,F,ρ,d,z,h1,fun v F1 H1 j r1=>ok F1 H1 _ (z.go j) j.ff⟩
noncomputable def mret (x:ME):MS:=fun ρ=>(x ρ).map .rt
noncomputable def zq6 (x:ML):MS:=fun ρ=>(x ρ).map .rf
noncomputable def yo7 (i:Nat):MS:=fun ρ=>match ρ[i]? with |some (some (.own ds))=>some (.rf ds)|some (some (.sh d))=>some (.rt d)|_=>none
theorem X9 (G:PD X e ma):PSd X (.Return (some e) pos) (mret ma):=(U1 G).imp fun D σ H i=>by
 obtain⟨F0,H0,F,ρ,o,j,e,ok⟩:=i
 unfold mret at e
 cases h1:ma ρ with
 |none=>rw[h1]at e;cases e
 |some d=>
  rw[h1]at e;cases e
  exact⟨F0,H0,F,ρ,d,j,h1,fun v F1 H1 z r1=>ok v F1 H1 (j.ext.trans z) r1⟩
theorem zr5 {mf:ML}(G:PF X e mf):PSd X (.Return (some e) pos) (zq6 mf):=(U1 G).imp fun D σ H i=>by
 obtain⟨F0,H0,F,ρ,o,j,e,ok⟩:=i
 unfold zq6 at e
 cases h1:mf ρ with
 |none=>rw[h1]at e;cases e
 |some ds=>
  rw[h1]at e;cases e
  exact⟨F0,H0,F,ρ,ds,j,h1,fun p xs F1 H1 z hp L I r1=>ok p xs F1 H1 (j.ext.trans z) (j.ext.hh.free hp) L I r1⟩
theorem zb8 (i:Nat){x:Str}{pos':Pos}(h:PE X (.Name x pos') (tVar i)):PSd X (.Return (some (.Name x pos')) pos) (yo7 i):=(U1 h).imp fun D σ H j=>by
 obtain⟨F0,H0,F,ρ,o,z,e,ok⟩:=j
 unfold yo7 at e
 split at e
 .rename_i ds h1
  cases e
  obtain⟨p,xs,e1,e2,e3,I,G⟩:=z.own i _ h1
  exact⟨_,e1,ok p xs F H z.ext G e2 e3 I⟩
 .rename_i d h1
  cases e
  obtain⟨v,e1,e2⟩:=z.sh i _ h1
  exact⟨_,e1,ok v F H z.ext e2⟩
 .cases e
noncomputable def mapp (i:Nat)(x:ME):MS:=fun ρ=>match ρ[i]? with |some (some (.own ds))=>(x ρ).bind fun d=>if ds.length<sizeLine then some (.nx (ρ.set i (some (.own (ds++[d])))))else none|_=>none
theorem G9 {i:Nat}{x:Str}{e:Expr}{G apos cpos:Pos}(R:PE X (.Name x G) (tVar i))(S:PD X e ma)
  (N:∀ t,PA X [e] t->PE X (.Call (.Attribute (.Name x G) "append" apos) [e] [] cpos) (tBM X.K "list" zg2 (tVar i) t)) (O:PAs X [e] (z7 ma anil)) (M:swapsWith (.Call (.Attribute (.Name x G) "append" apos) [e] [] cpos) none pos.line X.env=pure false:=by rfl):
  PSd X (.Expr (.Call (.Attribute (.Name x G) "append" apos) [e] [] cpos) pos) (mapp i ma):=(S7 (N _ O) M).imp fun D σ H j=>by
 obtain⟨F0,H0,F,ρ,o,I,e,ok⟩:=j
 unfold mapp at e
 split at e
 .rename_i ds h1
  obtain⟨p,xs,e1,e2,e3,L,U⟩:=I.own i _ h1
  cases h2:ma ρ with
  |none=>rw[h2]at e;cases e
  |some d=>
   rw[h2]at e
   have e:(if ds.length<sizeLine then some (Out.nx (ρ.set i (some (.own (ds++[d])))))else none)=some o:=e
   split at e
   .rename_i hz
    cases e
    refine⟨_,e1,.inl ⟨rfl,_,SqL.of e3⟩,F0,H0,F,ρ,[d],I,by unfold z7 anil;rw[h2];rfl,fun vs F1 H1 z r1=>?_⟩
    cases r1 with
    |cons r rr=>
     cases rr
     have hp:H1 p=some (.lst xs):=z.hh _ _ e3
     exact⟨p,xs,_,rfl,rfl,hp,by rw[L.length];exact hz,ok F1 _ σ ((I.go z).write h1 e1 ((L.mono z.ff).append (.cons r .nil))) z.ff⟩
   .cases e
 .cases e
noncomputable def T6 (i:Nat)(ix v:ME):MS:=fun ρ=>(v ρ).bind fun d=>match ρ[i]? with
 |some (some (.own ds))=>(ix ρ).bind (fun x=>match x with | .int k=>(ixN ds.length k).map fun j=>.nx (ρ.set i (some (.own (ds.set j d))))|_=>none)
 |some (some (.ob p ds))=>(ix ρ).bind (fun x=>match x with | .int k=>(ixN ds.length k).map fun j=>.nx (ρ.set i (some (.ob p (ds.set j d))))|_=>none)
 |_=>none
theorem T1 {i:Nat}(S:PS X st (tAsg (TD X.K mb) (gSub (tVar i) (TD X.K ma) xp5))):PSd X st (T6 i ma mb):=S.imp fun D σ H N=>by
 obtain⟨F0,H0,F,ρ,o,M,e,ok⟩:=N
 unfold T6 at e
 cases h1:mb ρ with
 |none=>rw[h1]at e;cases e
 |some d=>
  rw[h1]at e
  refine⟨F0,H0,F,ρ,d,M,h1,fun y F1 H1 I r1=>?_⟩
  dsimp only[Option.bind]at e
  split at e
  .rename_i ds h2
   obtain⟨p,xs,e1,e2,e3,O,U⟩:=(M.go I).own i _ h2
   cases h3:ma ρ with
   |none=>rw[h3]at e;cases e
   |some R=>
    rw[h3]at e
    refine⟨_,e1,F0,H0,F1,ρ,R,M.go I,h3,fun z F2 H2 G r2=>?_⟩
    cases r2 <;> first| (cases e;done)|skip
    rename_i k
    have e:(ixN ds.length k).map (fun j=>Out.nx (ρ.set i (some (.own (ds.set j d)))))=some o:=e
    cases h4:ixN ds.length k with
    |none=>rw[h4]at e;cases e
    |some j=>
     rw[h4]at e;cases e
     have L:=(M.go I).go G
     refine⟨p,xs,k,j,rfl,rfl,G.hh _ _ e3,by rw[O.length];exact h4,ok F2 _ σ (L.write h2 e1 (Reps.set (r1.mono G.ff) j (O.mono G.ff))) (I.ff.trans G.ff)⟩
  .rename_i p ds h2
   obtain⟨e1,e2,U,xs,e3,O⟩:=(M.go I).ob i p _ h2
   cases h3:ma ρ with
   |none=>rw[h3]at e;cases e
   |some R=>
    rw[h3]at e
    refine⟨_,e1,F0,H0,F1,ρ,R,M.go I,h3,fun z F2 H2 G r2=>?_⟩
    cases r2 <;> first| (cases e;done)|skip
    rename_i k
    have e:(ixN ds.length k).map (fun j=>Out.nx (ρ.set i (some (.ob p (ds.set j d)))))=some o:=e
    cases h4:ixN ds.length k with
    |none=>rw[h4]at e;cases e
    |some j=>
     rw[h4]at e;cases e
     have L:=(M.go I).go G
     refine⟨p,xs,k,j,rfl,rfl,G.hh _ _ e3,by rw[O.length];exact h4,ok F2 _ σ (L.writeB h2 (Reps.set (r1.mono G.ff) j (O.mono G.ff))) (I.ff.trans G.ff)⟩
  .cases e
noncomputable def V5 (i:Nat)(m:MS):MS:=fun ρ=>match ρ[i]? with |some (some (.own ds))=>m (ρ.set i (some (.sh (.lst ds))))|_=>m ρ
theorem Y7 (i:Nat){sts:List Stmt}{m:MS}(h:PSsd X sts m):PSsd X sts (V5 i m):=h.imp fun D σ H j=>by
 obtain⟨F0,H0,F,ρ,o,G,e,ok⟩:=j
 unfold V5 at e
 split at e
 .rename_i ds h1
  obtain⟨F',z,I⟩:=G.freeze h1
  exact⟨F0,H0,F',_,o,z,e,ok.mono I⟩
 .exact⟨F0,H0,F,ρ,o,G,e,ok⟩
inductive Tg where
 |nm (i:Nat)|tp (is:List Nat)|nt (i:Nat) (is:List Nat)
noncomputable def zz9:List Nat->List D->Ro->Option Ro
 |[],[],ρ=>some ρ
 |i::is,d::ds,ρ=>zz9 is ds (ρ.set i (some (.sh d)))
 |_,_,_=>none
noncomputable def tgD:Tg->D->Ro->Option Ro
 | .nm i,d,ρ=>some (ρ.set i (some (.sh d)))
 | .tp is,.tup ds,ρ=>zz9 is ds ρ
 | .nt i is,.tup [d,.tup ds],ρ=>zz9 is ds (ρ.set i (some (.sh d)))
 |_,_,_=>none
def TGd (K:W.Frag)(g:Tg):TG:=fun v σ H Q=>∃ F0 H0 F ρ d ρ',Rl K F0 H0 F H σ ρ/\Rep K F v d/\tgD g d ρ=some ρ'/\∀ F' H' σ',Rl K F0 H0 F' H' σ' ρ'->Ext F H F' H'->Q σ' H'
def PGd (X:Cx)(tg:Expr)(g:Tg):Prop:=PG X tg (TGd X.K g)
theorem PG.imp {tg:Expr}{t t':TG}(h:PG X tg t)(i:∀ v σ H Q,t' v σ H Q->t v σ H Q):PG X tg t':=fun pins s σ H v u Q I r q=>h pins s σ H v u Q I r (i v σ H Q q)
theorem g8 {i:Nat}{x:Str}{pos:Pos}(h:PG X (.Name x pos) (O0 i)):PGd X (.Name x pos) (.nm i):=PG.imp h fun v σ H Q j=>by
 obtain⟨F0,H0,F,ρ,d,ρ',z,r,e,q⟩:=j
 cases e;exact q F H _ (z.set r) (.refl z.fh)
noncomputable def gAll:List Nat->TGs
 |[]=>gNil
 |i::is=>xj2 (O0 i) (gAll is)
theorem yk1 {K:W.Frag}{F0 H0 F H:Hp}{Q:St->Hp->Prop}:∀(is:List Nat)(vs:List V)(ds:List D)(σ:St)(ρ ρ':Ro),Rl K F0 H0 F H σ ρ->Reps K F vs ds->zz9 is ds ρ=some ρ'->(∀ j,Rl K F0 H0 F H j ρ'->Q j H)->gAll is vs σ H Q
 |[],_,[],σ,ρ,ρ',rl,r,e,q=>by cases r;cases e;exact⟨rfl,q σ rl⟩
 |[],_,_::_,_,_,_,_,_,e,_=>by cases e
 |_::_,_,[],_,_,_,_,_,e,_=>by cases e
 |i::is,_,d::ds,σ,ρ,ρ',rl,r,e,q=>by
  cases r with
  |cons r rr=>exact⟨_,_,rfl,yk1 is _ ds _ _ ρ' (rl.set r) rr e q⟩
theorem zt2:∀(is:List Nat)(ds:List D)(ρ ρ':Ro),zz9 is ds ρ=some ρ'->ds.length=is.length
 |[],[],_,_,_=>rfl
 |[],_::_,_,_,e=>by cases e
 |_::_,[],_,_,e=>by cases e
 |_::is,_::ds,ρ,ρ',e=>congrArg (·+1) (zt2 is ds _ ρ' e)
theorem Z1 {es:List Expr}{k n:Nat}{is:List Nat}{pos:Pos}(h:PG X (.Tuple es k pos) (gTup X.K n (gAll is)))(hn:is.length=n:=by rfl):PGd X (.Tuple es k pos) (.tp is):=PG.imp h fun v σ H Q i=>by
 obtain⟨F0,H0,F,ρ,d,ρ',G,r,e,q⟩:=i
 cases r with
 |tup s t=>exact⟨_,_,rfl,G.fh.seqT s,by rw[t.length,zt2 _ _ _ _ e,hn],yk1 is _ _ σ ρ ρ' G t e fun j z=>q F H j z (.refl G.fh)⟩
 |_=>cases e
noncomputable def masg (g:Tg)(x:ME):MS:=fun ρ=>(x ρ).bind fun d=>(tgD g d ρ).map .nx
theorem Q9 {g:Tg}(h:PS X st (tAsg (TD X.K ma) (TGd X.K g))):PSd X st (masg g ma):=h.imp fun D σ H i=>by
 obtain⟨F0,H0,F,ρ,o,I,e,ok⟩:=i
 unfold masg at e
 cases h1:ma ρ with
 |none=>rw[h1]at e;cases e
 |some d=>
  rw[h1]at e
  have e:(tgD g d ρ).map Out.nx=some o:=e
  cases h2:tgD g d ρ with
  |none=>rw[h2]at e;cases e
  |some ρ'=>
   rw[h2]at e;cases e
   exact⟨F0,H0,F,ρ,d,I,h1,fun v F1 H1 G r1=>⟨F0,H0,F1,ρ,d,ρ',I.go G,r1,h2,fun F' H' j z L=>ok F' H' j z (G.ff.trans L.ff)⟩⟩
structure ItD (K:W.Frag)(F:Hp)(J:It)(its:List D):Prop where
 go:∀(i:Nat) F1 H1,Same F F1->Same F1 H1->i<its.length->J.go i H1
 yld:∀(i:Nat) F1 H1 x H2 d,Same F F1->Same F1 H1->its[i]? =some d->J.yld i H1 x H2->∃ F2,Ext F1 H1 F2 H2/\Rep K F2 x d
 stop:∀ F1 H1,Same F F1->Same F1 H1->J.stop its.length H1
def TId (K:W.Frag)(mi:ML):TI:=fun σ H R=>∃ F0 H0 F ρ its,Rl K F0 H0 F H σ ρ/\mi ρ=some its/\∀ J F' H',Ext F H F' H'->ItD K F' J its->R J H'
def PId (X:Cx)(tg iter:Expr)(mi:ML):Prop:=PI X tg iter (TId X.K mi)
theorem PI.imp {tg it:Expr}{t t':TI}(h:PI X tg it t)(i:∀ σ H R,t' σ H R->t σ H R):PI X tg it t':=fun pins s σ H R I q=>h pins s σ H R I (i σ H R q)
theorem yd5 {K:W.Frag}{F:Hp}{p:Addr}{xs:List V}{ds:List D}(s:SqL K F p xs)(r:Reps K F xs ds):ItD K F (Itl K p) ds where
 go:=fun i F1 H1 a b hi=>by
  obtain⟨v,e,_⟩:=r.get (getElem?_eq_getElem hi)
  exact⟨xs,v,b.seq (a.seq s),e⟩
 yld:=fun i F1 H1 x H2 d a b e y=>by
  obtain⟨rfl,y⟩:=y
  obtain⟨v,e1,e2⟩:=r.get e
  have:=y xs (b.seq (a.seq s))
  rw[e1]at this;cases this
  exact⟨F1,.refl b,e2.mono a⟩
 stop:=fun F1 H1 a b=>⟨xs,b.seq (a.seq s),by rw[r.length];exact Nat.le_refl _⟩
theorem Y8 {tg:Expr}(hd:PD X e ma):PId X tg e (k7 ma):=PI.imp (yq8 hd) fun σ H R i=>by
 obtain⟨F0,H0,F,ρ,its,z,e,q⟩:=i
 unfold k7 at e
 split at e
 .rename_i ds h1
  cases e
  refine⟨F0,H0,F,ρ,_,z,h1,fun v F1 H1 j r1=>?_⟩
  cases r1 with
  |lst s t=>exact⟨_,rfl,⟨_,j.fh.seq s⟩,q _ F1 H1 j (yd5 s t)⟩
 .cases e
noncomputable def R7 (lo:Int)(n:Nat):List D:=(List.range n).map fun(i:Nat)=>D.int (lo+(i:Int))
theorem L8 (lo:Int)(n:Nat):(R7 lo n).length=n:=by unfold R7;simp
theorem zk8 {K:W.Frag}{F:Hp}{lo:Int}{n:Nat}:ItD K F (Itr lo n) (R7 lo n) where
 go:=fun i F1 H1 a b hi=>by rw[L8]at hi;exact hi
 yld:=fun i F1 H1 x H2 d a b e y=>by
  obtain⟨rfl,rfl⟩:=y
  unfold R7 at e
  rw[getElem?_map]at e
  have hi:i<n:=by
   rcases Nat.lt_or_ge i n with h|h
   .exact h
   .rw[getElem?_eq_none (by simpa using h)]at e;cases e
  rw[getElem?_range hi]at e
  cases e
  exact⟨F1,.refl b,.int _⟩
 stop:=fun F1 H1 a b=>by rw[L8];exact Nat.le_refl n
noncomputable def okR (j:Int):Bool:=decide (-(2^62)<=j)&&decide (j<2^62)
noncomputable def rng1:List D->Option (List D)
 |[.int j]=>if okR j=true then some (R7 0 j.toNat)else none
 |_=>none
noncomputable def rng2:List D->Option (List D)
 |[.int i,.int j]=>if (okR i&&okR j)=true then some (R7 i (j-i).toNat)else none
 |_=>none
@[irreducible] noncomputable def Y3 (f:List D->Option (List D))(m:ML):ML:=fun ρ=>(m ρ).bind f
theorem N1 {f:List D->Option (List D)}{m:ML}{ρ:Ro}{i:List D}(h:Y3 f m ρ=some i):∃ ds,m ρ=some ds/\f ds=some i:=by
 unfold Y3 at h
 cases h1:m ρ with
 |none=>rw[h1]at h;cases h
 |some ds=>rw[h1]at h;exact⟨ds,rfl,h⟩
theorem zt5 {tg a:Expr}{m:ML}{p pos:Pos}(L:Gl X "range")(hm:X.mg "range"=none)(ha:PAs X [a] m)(I:starEach [a] X.env=[(false,eval a X.env)]:=by rfl):PId X tg (.Call (.Name "range" p) [a] [] pos) (Y3 rng1 m):=PI.imp (yq7 L hm ha I) fun σ H R i=>by
 obtain⟨F0,H0,F,ρ,its,G,e,q⟩:=i
 obtain⟨ds,h1,h2⟩:=N1 e
 refine⟨F0,H0,F,ρ,ds,G,h1,fun vs F1 H1 z r1=>?_⟩
 unfold rng1 at h2
 split at h2
 .rename_i j
  split at h2
  .rename_i hk
   cases h2
   unfold okR at hk
   simp only[Bool.and_eq_true,decide_eq_true_eq]at hk
   cases r1 with
   |cons r rr=>
    cases rr;cases r
    exact⟨j,rfl,hk.1,hk.2,q _ F1 H1 z zk8⟩
  .cases h2
 .cases h2
theorem T2 {tg a b:Expr}{m:ML}{p pos:Pos}(N:Gl X "range")(hm:X.mg "range"=none)(ha:PAs X [a,b] m)(M:starEach [a,b] X.env=[(false,eval a X.env),(false,eval b X.env)]:=by rfl)(G:starEach [b] X.env=[(false,eval b X.env)]:=by rfl):PId X tg (.Call (.Name "range" p) [a,b] [] pos) (Y3 rng2 m):=PI.imp (yq6 N hm ha M G) fun σ H R z=>by
 obtain⟨F0,H0,F,ρ,its,L,e,q⟩:=z
 obtain⟨ds,h1,h2⟩:=N1 e
 refine⟨F0,H0,F,ρ,ds,L,h1,fun vs F1 H1 I r1=>?_⟩
 unfold rng2 at h2
 split at h2
 .rename_i i j
  split at h2
  .rename_i hk
   cases h2
   unfold okR at hk
   simp only[Bool.and_eq_true,decide_eq_true_eq]at hk
   cases r1 with
   |cons r rr=>
    cases rr with
    |cons r2 rr=>
     cases rr;cases r;cases r2
     exact⟨i,j,rfl,⟨hk.1.1,hk.1.2,hk.2.1,hk.2.2⟩,q _ F1 H1 I zk8⟩
  .cases h2
 .cases h2
noncomputable def zw7:Nat->List D->List D
 |_,[]=>[]
 |i,d::ds=>.tup [.int i,d]::zw7 (i+1) ds
theorem O1:∀ i ds,(zw7 i ds).length=ds.length
 |_,[]=>rfl
 |i,_::ds=>by simp[zw7,O1 (i+1) ds]
theorem zj6:∀(k:Nat) ds (i:Nat) d,ds[i]? =some d->(zw7 k ds)[i]? =some (.tup [.int ((k+i:Nat):Int),d])
 |_,[],_,_,h=>by simp at h
 |k,_::ds,0,d,h=>by simp at h;subst h;rfl
 |k,_::ds,i+1,d,h=>by
  have:=zj6 (k+1) ds i d (by simpa using h)
  have e:k+1+i=k+(i+1):=by omega
  rw[e]at this
  simpa[zw7]using this
noncomputable def zd4:List D->Option (List D)
 |[.lst ds]=>some (zw7 0 ds)
 |_=>none
theorem yd6 {K:W.Frag}{F:Hp}{p:Addr}{xs:List V}{ds:List D}(s:SqL K F p xs)(r:Reps K F xs ds):ItD K F (Ite K p) (zw7 0 ds) where
 go:=fun i F1 H1 a b hi=>by
  rw[O1]at hi
  obtain⟨v,e,_⟩:=r.get (getElem?_eq_getElem hi)
  exact⟨xs,v,b.seq (a.seq s),e⟩
 yld:=fun i F1 H1 x H2 d a b e y=>by
  obtain⟨t,u,rfl,z,rfl,j⟩:=y
  have j:=j xs (b.seq (a.seq s))
  obtain⟨I,e1,r1⟩:=r.get' j
  rw[zj6 0 ds i I e1,Nat.zero_add]at e
  cases e
  refine⟨upd F1 t (.tup [.int i,u]),Ext.laid b z,.tup (SqT.of x9) ?_⟩
  have G:Same F (upd F1 t (.tup [.int i,u])):=a.trans ((Same.refl F1).put (b.free z))
  exact .cons (.int _) (.cons (r1.mono G) .nil)
 stop:=fun F1 H1 a b=>⟨xs,b.seq (a.seq s),by rw[r.length,O1];exact Nat.le_refl _⟩
theorem zb9 {es:List Expr}{tk:Nat}{tp:Pos}{a:Expr}{m:ML}{p pos:Pos}(I:Gl X "enumerate")(hm:X.mg "enumerate"=none)(ha:PAs X [a] m)(G:starEach [a] X.env=[(false,eval a X.env)]:=by rfl):PId X (.Tuple es tk tp) (.Call (.Name "enumerate" p) [a] [] pos) (Y3 zd4 m):=PI.imp (xw1 I hm ha G) fun σ H R i=>by
 obtain⟨F0,H0,F,ρ,its,z,e,q⟩:=i
 obtain⟨ds,h1,h2⟩:=N1 e
 refine⟨F0,H0,F,ρ,ds,z,h1,fun vs F1 H1 j r1=>?_⟩
 unfold zd4 at h2
 split at h2
 .cases h2
  cases r1 with
  |cons r rr=>
   cases rr
   cases r with
   |lst s t=>exact⟨_,_,rfl,j.fh.seq s,q _ F1 H1 j (yd6 s t)⟩
 .cases h2
end
end
section
noncomputable def forD (g:Tg)(body:MS):List D->MS
 |[],ρ=>some (.nx ρ)
 |d::ds,ρ=>match tgD g d ρ with
  |some ρ1=>match body ρ1 with
   |some (.nx ρ2)=>forD g body ds ρ2
   |some (.ct ρ2)=>forD g body ds ρ2
   |some (.bk ρ2)=>some (.nx ρ2)
   |o=>o
  |none=>none
noncomputable def mfor (mi:ML)(g:Tg)(body:MS):MS:=fun ρ=>(mi ρ).bind fun its=>forD g body its ρ
theorem W7 {j:Type}{xs:List j}{i:Nat}{d:j}(h:xs[i]? =some d):xs.drop i=d::xs.drop (i+1):=by
 obtain⟨z,e⟩:=List.getElem?_eq_some_iff.mp h
 rw[drop_eq_getElem_cons z,e]
section
variable {X:Cx}{a b c e:Expr}{ma mb:ME}{pos:Pos}{st:Stmt}{rest:List Stmt}
theorem zy5 {tg iter:Expr}{body:List Stmt}{mi:ML}{g:Tg}{mb:MS}(hp:PassesOwn (model X.prog X.w) X.A X.env X.xe)(hc:X.calm=true)(hi:PId X tg iter mi)(hg:PGd X tg g)(hb:PSsd X body mb)
  (hs:∀ x,foldedSetIterable iter X.env x=pure x:=by intro _;rfl):PSd X (.For tg iter body [] pos) (mfor mi g mb):=(yq3 hp hc hi hg hb hs).imp fun Dn σ H U=>by
 obtain⟨F0,H0,F,ρ,o,rl,e,ok⟩:=U
 unfold mfor at e
 cases h1:mi ρ with
 |none=>rw[h1]at e;cases e
 |some its=>
  rw[h1]at e
  have e:forD g mb its ρ=some o:=e
  refine⟨F0,H0,F,ρ,its,rl,h1,fun J F1 H1 x1 I=>?_⟩
  refine⟨fun i m M H'=>∃ F' ρ',Rl X.K F0 H0 F' H' M ρ'/\Same F1 F'/\i<=its.length/\m=its.length-i/\forD g mb (its.drop i) ρ'=some o,⟨_,F1,ρ,rl.go x1,Same.refl _,Nat.zero_le _,rfl,e⟩,?_⟩
  rintro i m M H' ⟨F',ρ',G,R,a2,rfl,j⟩
  by_cases N:i<its.length
  .right
   have hd:=getElem?_eq_getElem N
   refine⟨I.go i F' H' R G.fh N,fun O H2=>∃ F2 ρ2,Rl X.K F0 H0 F2 H2 O ρ2/\Same F1 F2/\forD g mb (its.drop (i+1)) ρ2=some o,?_,fun x H2 y=>?_⟩
   .rintro O H2 ⟨F2,ρ2,rl2,sf2,e2⟩
    exact⟨its.length-(i+1),by omega,F2,ρ2,rl2,sf2,N,rfl,e2⟩
   .obtain⟨F2,x2,r2⟩:=I.yld i F' H' x H2 _ R G.fh hd y
    rw[W7 hd]at j
    unfold forD at j
    cases h2:tgD g its[i] ρ' with
    |none=>simp only[h2]at j;cases j
    |some ρ1=>
     simp only[h2]at j
     refine⟨F0,H0,F2,ρ',_,ρ1,G.go x2,r2,h2,fun F3 H3 a1 a0 x3=>?_⟩
     have s3:Same F1 F3:=(R.trans x2.ff).trans x3.ff
     cases h3:mb ρ1 with
     |none=>simp only[h3]at j;cases j
     |some o1=>
      simp only[h3]at j
      refine⟨F0,H0,F3,ρ1,o1,a0,h3,?_⟩
      cases o1 with
      |nx ρ2=>exact fun Z H4 L z S=>⟨Z,ρ2,z,s3.trans S,j⟩
      |ct ρ2=>exact fun Z H4 L z S=>⟨Z,ρ2,z,s3.trans S,j⟩
      |bk ρ2=>
       cases j
       exact fun Z H4 L z S=>ok Z H4 L z ((x1.ff.trans s3).trans S)
      |rt d=>cases j;exact ok
      |rf d=>cases j;exact ok
      |rp d ds=>cases j;exact ok
      |rg d p r=>cases j;exact ok
      |rgf d p r=>cases j;exact ok
  .left
   have Y:i=its.length:=by omega
   subst Y
   rw[drop_length]at j
   have j:some (Out.nx ρ')=some o:=j
   cases j
   exact⟨I.stop F' H' R G.fh,ok F' H' M G (x1.ff.trans R)⟩
end
end
section
noncomputable def V9 (src:List (Option Nat))(ρ:Ro):Ro:=src.map fun o=>o.bind fun i=>match ρ[i]? with |some (some (.sh d))=>some (.sh d)|_=>none
noncomputable def S0 (g:Tg)(c:MB)(elt:ME):List D->Ro->List D->Option (List D)
 |[],_,acc=>some acc
 |d::ds,ρ,acc=>match tgD g d ρ with
  |some ρ1=>match c ρ1 with
   |some true=>match elt ρ1 with
    |some x=>if acc.length<sizeLine then S0 g c elt ds ρ1 (acc++[x])else none
    |none=>none
   |some false=>S0 g c elt ds ρ1 acc
   |none=>none
  |none=>none
@[irreducible] noncomputable def U7 (src:List (Option Nat))(mi:ML)(g:Tg)(c:MB)(elt:ME):ML:=fun ρ=>(mi ρ).bind fun its=>S0 g c elt its (V9 src ρ) []
def NoOwn (ρ:Ro):Prop:=∀(i:Nat) ds,ρ[i]? ≠some (some (.own ds))/\∀ p,ρ[i]? ≠some (some (.ob p ds))
theorem NoOwn.set {ρ:Ro}(h:NoOwn ρ)(i:Nat)(d:D):NoOwn (ρ.set i (some (.sh d))):=fun j ds=>⟨fun e=>by
 by_cases G:i=j
 .subst G
  have I:i<ρ.length:=by
   rcases Nat.lt_or_ge i ρ.length with z|z
   .exact z
   .rw[getElem?_eq_none (by simpa using z)]at e;cases e
  rw[getElem?_set_self I]at e;cases e
 .rw[getElem?_set_ne G]at e;exact(h j ds).1 e,fun p e=>(h j ds).2 p (c9 e).2⟩
theorem NoOwn.all:∀(is:List Nat)(ds:List D){ρ ρ':Ro},NoOwn ρ->zz9 is ds ρ=some ρ'->NoOwn ρ'
 |[],[],ρ,ρ',h,e=>by cases e;exact h
 |[],_::_,_,_,_,e=>by cases e
 |_::_,[],_,_,_,e=>by cases e
 |i::is,d::ds,ρ,ρ',h,e=>NoOwn.all is ds (h.set i d) e
theorem NoOwn.tg {g:Tg}{d:D}{ρ ρ':Ro}(h:NoOwn ρ)(e:tgD g d ρ=some ρ'):NoOwn ρ':=by
 cases g with
 |nm i=>cases e;exact h.set i d
 |tp is=>cases d <;> first| (cases e;done)|exact NoOwn.all is _ h e
 |nt i is=>
  cases d with
  |tup ds=>
   match ds,e with
   |[d,.tup ds],e=>exact NoOwn.all is _ (h.set i d) e
  |_=>cases e
theorem Rl.blk {K:W.Frag}{F0 H0 F H:Hp}{σ:St}{ρ:Ro}(r:Rl K F0 H0 F H σ ρ)(src:List (Option Nat)):Rl K F H F H (blk0 src σ) (V9 src ρ)/\NoOwn (V9 src ρ):=by
 have I:∀(i:Nat) x,(V9 src ρ)[i]? =some (some x)->∃ d,x=S.sh d:=fun i x e=>by
  unfold V9 at e
  rw[getElem?_map]at e
  cases h:src[i]? with
  |none=>rw[h]at e;cases e
  |some o=>
   rw[h]at e
   cases o with
   |none=>cases e
   |some k=>
    simp only[Option.map_some,Option.bind_some]at e
    split at e
    .cases e;exact⟨_,rfl⟩
    .cases e
 have G:NoOwn (V9 src ρ):=fun i ds=>⟨fun e=>(by obtain⟨d,z⟩:=I i _ e;cases z),fun p e=>(by obtain⟨d,z⟩:=I i _ e;cases z)⟩
 refine⟨⟨.refl r.fh,by unfold blk0 V9;simp,fun i d e=>?_,fun i ds e=>absurd e (G i ds).1,fun i j p ds es _ e=>absurd e (G i ds).1,fun i p ds e=>absurd e ((G i ds).2 p),fun i j p ds es e=>absurd e ((G i ds).2 p),fun i j p q ds es e=>absurd e ((G i ds).2 p)⟩,G⟩
 unfold V9 at e
 unfold blk0
 rw[getElem?_map]at e ⊢
 cases h:src[i]? with
 |none=>rw[h]at e;cases e
 |some o=>
  rw[h]at e
  cases o with
  |none=>cases e
  |some k=>
   simp only[Option.map_some,Option.bind_some]at e ⊢
   split at e
   .rename_i d' h'
    cases e
    obtain⟨v,e1,e2⟩:=r.sh k _ h'
    exact⟨v,by rw[e1];rfl,e2⟩
   .cases e
theorem Rl.other {K:W.Frag}{F0 H0 F H:Hp}{σ:St}{ρ:Ro}(r:Rl K F0 H0 F H σ ρ)(j:NoOwn ρ){p:Addr}{o:HO}(G:H0 p=none)(z:F p=none):Rl K F0 H0 F (upd H p o) σ ρ:=
 ⟨⟨r.ext.ff,r.ext.hh.put G,r.ext.fh.put z,r.ext.new,r.ext.nf⟩,r.len,r.sh,fun i ds e=>absurd e (j i ds).1,r.inj,fun i p ds e=>absurd e ((j i ds).2 p),r.obn,r.ob1⟩
theorem Rl.rebase {K:W.Frag}{F1 F H:Hp}{σ:St}{ρ:Ro}{p:Addr}{xs ys:List V}(r:Rl K F1 (upd F1 p (.lst xs)) F H σ ρ)(G:F p=none)(I:F1 p=none):Rl K F1 (upd F1 p (.lst ys)) F (upd H p (.lst ys)) σ ρ:=by
 have ne:∀ q,upd F1 p (.lst xs) q=none->q≠p:=fun q z w=>by rw[w,x9]at z;cases z
 refine⟨⟨r.ext.ff,fun b u e=>?_,r.fh.put G,fun b e n=>?_,r.ext.nf⟩,r.len,r.sh,fun i ds e=>?_,r.inj,fun i q ds e=>?_,r.obn,r.ob1⟩
 .by_cases hb:b=p
  .subst hb;rw[x9]at e ⊢;exact e
  .rw[x8 hb]at e ⊢
   exact r.ext.hh b u (by rw[x8 hb];exact e)
 .have hb:b≠p:=fun w=>by rw[w,G]at n;exact n rfl
  rw[x8 hb];exact e
 .obtain⟨q,zs,a,b,c,d,z⟩:=r.own i ds e
  have j:=ne q z
  rw[x8 j]at z
  exact⟨q,zs,a,b,by rw[x8 j];exact c,d,by rw[x8 j];exact z⟩
 .obtain⟨a,b,z,zs,c,d⟩:=r.ob i q ds e
  have j:=ne q z
  rw[x8 j]at z
  exact⟨a,b,by rw[x8 j];exact z,zs,by rw[x8 j];exact c,d⟩
theorem Ext.acc {F H F' H':Hp}{p:Addr}{o:HO}(x:Ext F H F' H')(hp:H p=none)(i:F' p=none):Ext F H F' (upd H' p o):=⟨x.ff,x.hh.put hp,x.fh.put i,x.new,x.nf⟩
theorem Ext.stay {F' H' z I:Hp}{p:Addr}{o:HO}(G:Ext F' H' z I)(j:F' p=none)(i:H' p=some o):z p=none:=by
 cases qq:z p with
 |none=>rfl
 |some u=>have:=G.new p j (by rw[qq];simp);rw[this]at i;cases i
theorem Rl.noB {K:W.Frag}{F H:Hp}{σ:St}{ρ:Ro}{p:Addr}(r:Rl K F H F H σ ρ)(j:NoOwn ρ)(hp:H p=none):Rl K F (upd F p (.lst [])) F (upd H p (.lst [])) σ ρ:=
 ⟨⟨Same.refl F,r.fh.put2,r.fh.put (r.fh.free hp),fun b e n=>absurd e n,fun _ _ _ z=>z⟩,r.len,r.sh,fun i ds e=>absurd e (j i ds).1,r.inj,fun i p ds e=>absurd e ((j i ds).2 p),r.obn,r.ob1⟩
theorem yt0 {g:Tg}{c:MB}{i:ME}{d:D}{ds acc out:List D}{ρ:Ro}(h:S0 g c i (d::ds) ρ acc=some out):∃ ρ1,tgD g d ρ=some ρ1/\((c ρ1=some false/\S0 g c i ds ρ1 acc=some out)\/∃ x,c ρ1=some true/\i ρ1=some x/\acc.length<sizeLine/\S0 g c i ds ρ1 (acc++[x])=some out):=by
 rw[S0]at h
 cases h2:tgD g d ρ with
 |none=>rw[h2]at h;cases h
 |some ρ1=>
  rw[h2]at h
  simp only at h
  refine⟨ρ1,rfl,?_⟩
  cases h3:c ρ1 with
  |none=>rw[h3]at h;cases h
  |some k=>
   rw[h3]at h
   cases k with
   |false=>exact .inl ⟨rfl,h⟩
   |true=>
    simp only at h
    cases h4:i ρ1 with
    |none=>rw[h4]at h;cases h
    |some x=>
     rw[h4]at h
     simp only at h
     by_cases j:acc.length<sizeLine
     .rw[if_pos j]at h;exact .inr ⟨x,rfl,rfl,j,h⟩
     .rw[if_neg j]at h;cases h
theorem zj7 {K:PySem.W.Frag}{src:List (Option Nat)}{g:Tg}{c:MB}{a0:ME}{its out:List D}{F1 H1:Hp}{σ:St}{ρb:Ro}{p:Addr}{J:It}{Q:VK}(f1:Same F1 H1)(hp:H1 p=none)(rb:Rl K F1 (upd F1 p (.lst [])) F1 (upd H1 p (.lst [])) (blk0 src σ) ρb)(I:ItD K F1 J its)(e:S0 g c a0 its ρb []=some out)
  (q:∀ xs F' H',Ext F1 H1 F' H'->F' p=none->H' p=some (.lst xs)->Reps K F' xs out->Q (.ref p) H'):
  ∃ W:Nat->Nat->St->Hp->Prop,(∃ m,W 0 m (blk0 src σ) (upd H1 p (.lst [])))/\∀ i m L H',W i m L H'->
   (J.stop i H'/\Q (.ref p) H')\/(J.go i H'/\∃ N:St->Hp->Prop,(∀ G H2,N G H2->∃ m',m'<m/\W (i+1) m' G H2)/\∀ x H2,J.yld i H' x H2->TGd K g x L H2 fun z H3=>TC K c z H3 fun b H4=>
    if b=true then TD K a0 z H4 fun y H5=>∃ xs,H5 p=some (.lst xs)/\xs.length<sizeLine/\N z (upd H5 p (.lst (xs++[y])))else N z H4):=by
 have a1:F1 p=none:=f1.free hp
 refine⟨fun i m L H'=>∃ F' ρ' acc xs,Rl K F1 (upd F1 p (.lst xs)) F' H' L ρ'/\Ext F1 H1 F' H'/\H' p=some (.lst xs)/\F' p=none/\Reps K F' xs acc/\i<=its.length/\m=its.length-i/\S0 g c a0 (its.drop i) ρ' acc=some out,
  ⟨_,F1,ρb,[],[],rb,(Ext.refl f1).acc hp a1,x9,a1,.nil,Nat.zero_le _,rfl,e⟩,?_⟩
 clear rb e
 rintro i m L H' ⟨F',ρ',acc,xs,Z,xe,S,a2,ra,a5,rfl,e'⟩
 by_cases R:i<its.length
 .right
  have hd:=getElem?_eq_getElem R
  refine⟨I.go i F' H' xe.ff Z.fh R,fun G H2=>∃ F2 ρ2 j M,Rl K F1 (upd F1 p (.lst M)) F2 H2 G ρ2/\Ext F1 H1 F2 H2/\H2 p=some (.lst M)/\F2 p=none/\Reps K F2 M j/\S0 g c a0 (its.drop (i+1)) ρ2 j=some out,?_,fun x H2 y=>?_⟩
  .rintro G H2 ⟨F2,ρ2,j,M,b1,b2,b3,b4,b5,b6⟩
   exact⟨its.length-(i+1),Nat.sub_lt_sub_left R (Nat.lt_succ_self i),F2,ρ2,j,M,b1,b2,b3,b4,b5,R,rfl,b6⟩
  .obtain⟨F2,x2,r2⟩:=I.yld i F' H' x H2 _ xe.ff Z.fh hd y
   rw[W7 hd]at e'
   obtain⟨ρ1,h2,e3⟩:=yt0 e'
   clear e' I q y hd
   refine⟨F1,_,F2,ρ',_,ρ1,Z.go x2,r2,h2,fun F3 H3 z O x3=>?_⟩
   have a3:=x2.trans x3
   rcases e3 with⟨h3,e4⟩|⟨d,h3,h4,hz,e4⟩
   .refine⟨F1,_,F3,ρ1,false,O,h3,fun F4 H4 x4=>?_⟩
    have Y:=a3.trans x4
    exact iteF ⟨F4,ρ1,acc,xs,O.go x4,xe.trans Y,Y.hh _ _ S,Y.stay a2 S,ra.mono Y.ff,e4⟩
   .refine⟨F1,_,F3,ρ1,true,O,h3,fun F4 H4 x4=>iteT ⟨F1,_,F4,ρ1,d,O.go x4,h4,fun v F5 H5 x5 r5=>?_⟩⟩
    have U:=(a3.trans x4).trans x5
    have pn:=U.stay a2 S
    exact⟨xs,U.hh _ _ S,by rw[ra.length];exact hz,F5,ρ1,acc++[d],xs++[v],((O.go x4).go x5).rebase pn a1,(xe.trans U).acc hp pn,x9,pn,(ra.mono U.ff).append (.cons r5 .nil),e4⟩
 .left
  have a4:i=its.length:=Nat.le_antisymm a5 (Nat.le_of_not_lt R)
  subst a4
  rw[drop_length]at e'
  have e':some acc=some out:=e'
  cases e'
  exact⟨I.stop F' H' xe.ff Z.fh,q xs F' H' xe a2 S ra⟩
section
variable {X:Cx}{a b c e:Expr}{ma mb:ME}{pos:Pos}{st:Stmt}{rest:List Stmt}
def PTsd (X:Cx)(ifs:List Expr)(c:MB):Prop:=PTs X ifs (TC X.K c)
noncomputable def cyes:MB:=fun _=>some true
theorem W4:PTsd X [] cyes:=fun pins s σ H Q I i=>by
 obtain⟨F0,H0,F,ρ,b,j,e,q⟩:=i
 cases e
 exact yr5 pins s σ H Q I (q F H (.refl j.fh))
theorem O6 {ca:MB}(h:PC' X c ca):PTsd X [c] ca:=xx1 h
theorem yj0 {K:W.Frag}{src:List (Option Nat)}{mi:ML}{g:Tg}{c:MB}{i:ME}{σ:St}{H:Hp}{Q:VK}(h:TF K (U7 src mi g c i) σ H Q):zo3 src (TId K mi) (TGd K g) (TC K c) (TD K i) σ H Q:=by
 obtain⟨F0,H0,F,ρ,out,L,e,q⟩:=h
 unfold U7 at e
 cases h1:mi ρ with
 |none=>rw[h1]at e;cases e
 |some its=>
  rw[h1]at e
  refine⟨F0,H0,F,ρ,its,L,h1,fun J F1 H1 j I p hp=>?_⟩
  obtain⟨rb,N⟩:=(L.go j).blk src
  exact zj7 j.fh hp (rb.noB N hp) I e fun xs F' H' xe G z M=>q p xs F' H' (j.trans xe) (j.hh.free hp) G z M
theorem S8 {sc:Scope}{N:List Str}{src:List (Option Nat)}{tg j iter:Expr}{i:List Expr}{mi:ML}{g:Tg}{cc:MB}{z:ME}(B:Blk X sc N src)(O:X.calm=true)
  (hi:PId X tg iter mi) (L:∀ C fp s H,PGd (W8 X sc C N fp s H) tg g) (G:∀ C fp s H,PTsd (W8 X sc C N fp s H) i cc) (M:∀ C fp s H,PD (W8 X sc C N fp s H) j z)
  (I:∀ x,foldedSetIterable iter X.env x=pure x:=by intro _;rfl):
  PF X (.ListComp j [⟨tg,iter,i,0⟩] sc pos) (U7 src mi g cc z):=(zg8 (g:=TGd X.K g) (tc:=TC X.K cc) (te:=TD X.K z) B O hi (fun C fp s H=>L C fp s H) (fun C fp s H=>G C fp s H) (fun C fp s H=>M C fp s H) I).imp fun _ _ _ h=>yj0 h
theorem xo1 {mf:ML}{σ:St}{H:Hp}{Q:VK}(h:TD X.K (mlst mf) σ H Q):TF X.K mf σ H Q:=by
 obtain⟨F0,H0,F,ρ,d,r,e,q⟩:=h
 unfold mlst at e
 cases hm:mf ρ with
 |none=>rw[hm]at e;cases e
 |some ds=>
  rw[hm]at e;cases e
  refine⟨F0,H0,F,ρ,ds,r,hm,fun p xs F' H' x hp i z j=>?_⟩
  exact q _ (upd F' p (.lst xs)) H' (x.freeze i hp z) (.lst (SqL.of x9) (j.mono ((Same.refl F').put i)))
theorem yq1 {i:Nat}{src:List (Option Nat)}{mi:ML}{g:Tg}{cc:MB}{j:ME}(h:PS X st (tAsg (zo3 src (TId X.K mi) (TGd X.K g) (TC X.K cc) (TD X.K j)) (O0 i))):PSd X st (mset i (mlst (U7 src mi g cc j))):=xi9 h fun _ _ _ q=>yj0 (xo1 q)
noncomputable def M9 (c:MB)(body:MS):Nat->MS
 |0,_=>none
 |n+1,ρ=>match c ρ with
  |some true=>match body ρ with
   |some (.nx ρ2)=>M9 c body n ρ2
   |some (.ct ρ2)=>M9 c body n ρ2
   |some (.bk ρ2)=>some (.nx ρ2)
   |o=>o
  |some false=>some (.nx ρ)
  |none=>none
theorem yq0 {body:List Stmt}{ca:MB}{mb:MS}(n:Nat)(hp:PassesOwn (model X.prog X.w) X.A X.env X.xe)(hc:PC' X c ca)(hb:PSsd X body mb):PSd X (.While c body [] pos) (M9 ca mb n):=(yg7 hp hc hb).imp fun Dn σ H N=>by
 obtain⟨F0,H0,F,ρ,o,Z,e,ok⟩:=N
 refine⟨fun m G H'=>∃ F' ρ',Rl X.K F0 H0 F' H' G ρ'/\Same F F'/\M9 ca mb m ρ'=some o,⟨n,F,ρ,Z,Same.refl _,e⟩,?_⟩
 rintro m G H' ⟨F',ρ',I,U,i⟩
 cases m with
 |zero=>cases i
 |succ m=>
  unfold M9 at i
  cases h1:ca ρ' with
  |none=>simp only[h1]at i;cases i
  |some k=>
   refine⟨F0,H0,F',ρ',k,I,h1,fun F1 H1 R=>?_⟩
   cases k with
   |false=>
    simp only[h1]at i
    cases i
    exact iteF (ok F1 H1 G (I.go R) (U.trans R.ff))
   |true=>
    simp only[h1]at i
    refine iteT ⟨fun L H2=>∃ F2 ρ2,Rl X.K F0 H0 F2 H2 L ρ2/\Same F F2/\M9 ca mb m ρ2=some o,fun L H2 ⟨F2,ρ2,a1,a2,a3⟩=>⟨m,Nat.lt_succ_self m,F2,ρ2,a1,a2,a3⟩,?_⟩
    cases h2:mb ρ' with
    |none=>simp only[h2]at i;cases i
    |some Y=>
     simp only[h2]at i
     refine⟨F0,H0,F1,ρ',Y,I.go R,h2,?_⟩
     have s1:=U.trans R.ff
     cases Y with
     |nx ρ2=>exact fun O S z j M=>⟨O,ρ2,j,s1.trans M,i⟩
     |ct ρ2=>exact fun O S z j M=>⟨O,ρ2,j,s1.trans M,i⟩
     |bk ρ2=>cases i;exact fun O S z j M=>ok O S z j (s1.trans M)
     |rt d=>cases i;exact ok
     |rf d=>cases i;exact ok
     |rp d ds=>cases i;exact ok
     |rg d p r=>cases i;exact ok
     |rgf d p r=>cases i;exact ok
inductive Rt where
 |sh (d:D)|fr (ds:List D)|pr (d:D) (ds:List D)
noncomputable abbrev MF:=List D->Option Rt
noncomputable def okT (K:W.Frag)(F H:Hp)(Q:VK):Rt->Prop
 | .sh d=>∀ v F' H',Ext F H F' H'->Rep K F' v d->Q v H'
 | .fr ds=>∀ p xs F' H',Ext F H F' H'->H p=none->F' p=none->H' p=some (.lst xs)->Reps K F' xs ds->Q (.ref p) H'
 | .pr d ds=>∀ t v p xs F' H',Ext F H F' H'->H t=none->H p=none->t≠p->F' t=none->F' p=none->H' t=some (.tup [v,.ref p])->H' p=some (.lst xs)->Rep K F' v d->Reps K F' xs ds->Q (.ref t) H'
def spR (K:W.Frag)(n:Nat)(m:MF):Sp:=fun vs H Q _=>vs.length=n/\∃ F ds r,Same F H/\Reps K F vs ds/\m ds=some r/\okT K F H Q r
noncomputable def v3 (n:Nat)(ds:List D):Ro:=ds.map (fun d=>some (.sh d))++List.replicate (n-ds.length) none
noncomputable def runB (n:Nat)(m:MS):MF:=fun ds=>match m (v3 n ds)with
 |some (.nx _)=>some (.sh .non)
 |some (.rt d)=>some (.sh d)
 |some (.rf es)=>some (.fr es)
 |some (.rp d es)=>some (.pr d es)
 |_=>none
theorem O5 {K:W.Frag}{F H:Hp}{N:List Str}{vs:List V}{ds:List D}(s:Same F H)(r:Reps K F vs ds):Rl K F H F H (start N vs) (v3 N.length ds):=by
 have get:∀(i:Nat) x,(v3 N.length ds)[i]? =some (some x)->∃ d,x=S.sh d/\ds[i]? =some d:=fun i x e=>by
  unfold v3 at e
  by_cases hi:i<ds.length
  .rw[getElem?_append_left (by simpa using hi),getElem?_map]at e
   cases q:ds[i]? with
   |none=>rw[q]at e;cases e
   |some d=>rw[q]at e;cases e;exact⟨d,rfl,rfl⟩
  .rw[getElem?_append_right (by simpa using hi),getElem?_replicate]at e
   split at e <;> cases e
 refine⟨.refl s,?_,fun i d e=>?_,fun i ds e=>?_,fun i j p ds es _ e=>?_,fun i p ds e=>?_,fun i j p ds es e=>?_,fun i j p q ds es e=>?_⟩
 .unfold start v3;simp[r.length]
 .obtain⟨d',e1,e2⟩:=get i _ e
  cases e1
  obtain⟨v,e3,G⟩:=r.get e2
  have z:i<vs.length:=(List.getElem?_eq_some_iff.mp e3).1
  refine⟨v,?_,G⟩
  unfold start
  rw[getElem?_append_left (by simpa using z),getElem?_map,e3];rfl
 .obtain⟨d',e1,_⟩:=get i _ e
  cases e1
 .obtain⟨d',e1,_⟩:=get i _ e
  cases e1
 .obtain⟨d',e1,_⟩:=get i _ e
  cases e1
 .obtain⟨d',e1,_⟩:=get i _ e
  cases e1
 .obtain⟨d',e1,_⟩:=get i _ e
  cases e1
theorem Fun.okD {P:Program}{w:World}{K:W.Frag}{mg:Str->Option Value}{base:Heap}{x qual:Str}{st:Stmt}{f:Addr}{fd:FuncData}{N ps:List Str}{k:Nat}{m:MS}(O:Fun K x qual st f fd)(M:FnScope N ps (z9 st))
  (i:∀(cdv:Value)(A:Around)(outer:List Env)(s:Shared)(H:Hp)(E:XK),Room k (A.deeper (envOfC qual (z9 st) s.heap.objs.size f cdv))->PSsd (cxOf CX0 P w K mg base N qual (z9 st) f cdv A outer s H E).nox (v4 st) m):
  FnOk P w K mg base CX0 (k+1) f fd ps (spR K ps.length (runB N.length m)):=by
 refine O.ok M (fun vs H Q E h=>h.1) fun cdv A outer s H vs Q E L h=>?_
 obtain⟨R,F,ds,r,z,G,e,ok⟩:=h
 unfold runB at e
 cases h1:m (v3 N.length ds)with
 |none=>rw[h1]at e;cases e
 |some o=>
  rw[h1]at e
  refine⟨_,i cdv A outer s H E L,F,H,F,v3 N.length ds,o,O5 z G,h1,?_⟩
  cases o with
  |nx ρ=>cases e;exact fun F' H' j I _=>ok .non F' H' I.ext .non
  |rt d=>cases e;exact ok
  |rf es=>cases e;exact ok
  |rp d es=>cases e;exact ok
  |rg d p r=>cases e
  |rgf d p r=>cases e
  |bk ρ=>cases e
  |ct ρ=>cases e
@[irreducible] noncomputable def Z5 (f:MF)(m:ML):ME:=fun ρ=>(m ρ).bind fun ds=>match f ds with |some (.sh d)=>some d|some (.fr es)=>some (.lst es)|some (.pr d es)=>some (.tup [d,.lst es])|none=>none
variable {E:XK}{es:List Expr}{mf:MF}{m:ML}
theorem i9 {n:Nat}(h:∀ t,PA X es t->PE X e (zh2 (spR X.K n mf) [] E t))(hl:es.length=n)(ha:PAs X es m)(hm:∀ ρ ds,m ρ=some ds->ds.length=es.length):PD X e (Z5 mf m):=(h _ ha).imp fun σ H Q G=>by
 obtain⟨F0,H0,F,ρ,d,rl,e,q⟩:=G
 unfold Z5 at e
 cases h1:m ρ with
 |none=>rw[h1]at e;cases e
 |some ds=>
  rw[h1]at e
  refine⟨F0,H0,F,ρ,ds,rl,h1,fun vs F1 H1 j r1=>?_⟩
  dsimp only[Option.bind]at e
  show spR X.K n mf (vs++[]) H1 Q E
  rw[append_nil]
  refine⟨by rw[r1.length,hm ρ ds h1,hl],F1,ds,?_⟩
  split at e
  .rename_i d' h2
   cases e
   exact⟨_,j.fh,r1,h2,fun v F2 H2 z r2=>q v F2 H2 (j.trans z) r2⟩
  .rename_i es' h2
   cases e
   exact⟨_,j.fh,r1,h2,fun p xs F2 H2 z hp S hH r2=>q _ (upd F2 p (.lst xs)) H2 (j.trans (z.freeze S hp hH)) (.lst (SqL.of x9) (r2.mono ((Same.refl F2).put S)))⟩
  .rename_i d' es' h2
   cases e
   refine⟨_,j.fh,r1,h2,fun t v p xs F2 H2 z ht hp I O L M N Y Z=>?_⟩
   have U:=z.freeze L hp N
   have i:upd F2 p (.lst xs) t=none:=by rw[x8 I];exact O
   have s2:Same F2 (upd F2 p (.lst xs)):=(Same.refl F2).put L
   have R:Same (upd F2 p (.lst xs)) (upd (upd F2 p (.lst xs)) t (.tup [v,.ref p])):=(Same.refl _).put i
   exact q _ (upd (upd F2 p (.lst xs)) t (.tup [v,.ref p])) H2 (j.trans (U.freeze i ht M)) (.tup (SqT.of x9) (.cons (Y.mono (s2.trans R)) (.cons (.lst (SqL.of (by rw[x8 (Ne.symm I)];exact x9)) (Z.mono (s2.trans R))) .nil)))
  .cases e
theorem w4 (ρ:Ro)(ds:List D)(h:anil ρ=some ds):ds.length=0:=by cases h;rfl
theorem y7 {x:ME}{r:ML}{n:Nat}(i:∀ ρ ds,r ρ=some ds->ds.length=n)(ρ:Ro)(ds:List D)(h:z7 x r ρ=some ds):ds.length=n+1:=by
 obtain⟨d,es,_,h2,rfl⟩:=zs6 h
 rw[length_cons,i ρ es h2]
end
end
section
section
variable {X:Cx}{a b c e:Expr}{ma mb:ME}{pos:Pos}
noncomputable def bl2 (g:Bool->Bool->Bool):D->D->Option D
 | .bl i,.bl j=>some (.bl (g i j))
 |_,_=>none
def xg4:List V->Hp->VK->Prop:=fun vs H Q=>∃ j:Int,vs=[.int j]/\∀ p,H p=none->Q (.ref p) (upd H p (.rng 0 j))
theorem yj3:zv5 X (.type "range") xg4:=by
 intro pins s σ H xs us Q I r h
 obtain⟨j,rfl,q⟩:=h
 obtain⟨u,rfl,t,rfl⟩:=zz6 r
 refine call_range_1 ⟨.ref s.heap.objs.size,_,I.laid (o:=.rng 0 j) (fun b o e=>Heap.get?_push_of_some _ e) (Nat.le_refl _) ⟨_,_,_,Heap.get?_push_size _ rfl⟩,rfl,q _ I.fresh⟩
theorem zy1 {K:W.Frag}{F:Hp}:∀ ns:List Int,Reps K F (ns.map V.int) (ns.map D.int)
 |[]=>.nil
 |n::ns=>.cons (.int n) (zy1 ns)
theorem xp0 {K:W.Frag}{m:MF}(h:∀ ns:List Int,ns.length<=63->m [.lst (ns.map .int)]=some (.sh (.bl true)))(H:Hp)(a:Addr)(ns:List Int)(i:ns.length<=63)(j:SqL K H a (ns.map V.int))(E:XK):
  spR K 1 m [.ref a] H (fun v _=>v= .bl true) E:=
 ⟨rfl,H,_,_,Same.refl H,.cons (.lst j (zy1 ns)) .nil,h ns i,fun v F' H' _ r=>by cases r;rfl⟩
end
end
section
noncomputable def xi7 (fsc:Scope)(fN:List Str)(sc:Scope)(N:List Str)(src:List (Option Nat)):Bool:=
 (sc.kind== .function)&&sc.names.all (fun y=>y.2 != .cell)&&sc.names.all (fun y=>y.2 != .local || sc.names.lookup y.1==some .local)
  &&sc.names.all (fun y=>y.2 != .free || (fsc.names.lookup y.1==some .cell || fsc.names.lookup y.1==some .free))&&(src.length==N.length)
  &&(List.range src.length).all fun j=>match src[j]? with
   |some (some i)=>match N[j]? with
    |some x=>fN[i]? ==some x&&sc.names.lookup x==some .free
    |none=>false
   |_=>true
theorem W2 {X:Cx}{sc:Scope}{N:List Str}{src:List (Option Nat)}(G:Scope)(fN:List Str)(h1:X.env.scope=G)(h2:X.N=fN)(h:xi7 G fN sc N src=true):Blk X sc N src:=by
 unfold xi7 at h
 simp only[Bool.and_eq_true,all_eq_true,beq_iff_eq,Bool.or_eq_true,bne_iff_ne,ne_eq]at h
 obtain⟨⟨⟨⟨⟨U,S⟩,R⟩,O⟩,M⟩,L⟩:=h
 refine⟨U,S,fun y I hk=>?_,fun y I hk=>?_,fun j i e=>?_,M⟩
 .rcases R y I with z|z
  .exact absurd hk z
  .exact z
 .have k:∀ x,X.env.kindOf x=G.names.lookup x:=fun x=>by rw[<-h1];rfl
  rw[k]
  rcases O y I with z|z
  .exact absurd hk z
  .exact z
 .have hj:j<src.length:=(List.getElem?_eq_some_iff.mp e).1
  have:=L j (List.mem_range.mpr hj)
  rw[e]at this
  simp only at this
  cases hx:N[j]? with
  |none=>rw[hx]at this;cases this
  |some x=>
   rw[hx]at this
   simp only[Bool.and_eq_true,beq_iff_eq]at this
   exact⟨x,rfl,by rw[h2];exact this.1,this.2⟩
end
section
theorem yp0 {X:Cx}{a:Expr}{i:ML}{lo hi:Option Expr}{l h:MO}{p2 pos:Pos}(ha:PB X a i)(j:POs X lo l)(hh:POs X hi h):PF X (.Subscript a (.Slice lo hi none p2) pos) (mcut i l h):=xo2 ha j hh (yg9 xy4 ha j hh)
end
section
noncomputable def zipE (f:D->D->Option Bool):List D->List D->Option Bool
 |d::ds,e::es=>(f d e).bind fun a=>(zipE f ds es).bind fun b=>some (a&&b)
 |_,_=>some true
noncomputable def eqF:Nat->D->D->Option Bool
 |0,_,_=>none
 |n+1,.lst ds,.lst es=>if ds.length=es.length then zipE (eqF n) ds es else some false
 |n+1,.tup ds,.tup es=>(zipE (eqF n) ds es).map fun b=>b&&ds.length==es.length
 |_+1,d,e=>eqS d e
theorem zs8 {f:D->D->Option Bool}:∀{ds es:List D}{k:Bool},zipE f ds es=some k->∃ g:Nat->Bool,(∀ j d e,ds[j]? =some d->es[j]? =some e->f d e=some (g j))/\k=(List.range (min ds.length es.length)).all g
 |[],es,k,h=>by
  have h:some true=some k:=by simpa[zipE]using h
  cases h
  exact⟨fun _=>true,by simp,by simp⟩
 |_::_,[],k,h=>by
  have h:some true=some k:=by simpa[zipE]using h
  cases h
  exact⟨fun _=>true,by simp,by simp⟩
 |d::ds,e::es,k,h=>by
  unfold zipE at h
  cases h1:f d e with
  |none=>rw[h1]at h;cases h
  |some a=>
   rw[h1]at h
   cases h2:zipE f ds es with
   |none=>rw[h2]at h;cases h
   |some b=>
    rw[h2]at h
    have h:some (a&&b)=some k:=h
    cases h
    obtain⟨g,z,i⟩:=zs8 h2
    refine⟨fun j=>match j with |0=>a|j+1=>g j,?_,?_⟩
    .intro j d' e' hd he
     cases j with
     |zero=>simp at hd he;subst hd he;exact h1
     |succ j=>exact z j d' e' (by simpa using hd) (by simpa using he)
    .rw[i,length_cons,length_cons,Nat.add_min_add_right,range_succ_eq_map,all_cons,all_map]
     rfl
section
variable {X:Cx}{pins:List (Addr×Obj)}{σ:St}{H:Hp}{s:Shared}
theorem Inv.xat (I:Inv X pins σ H s){a C:Addr}(h:H a=some (.ext (XAt a C))):XAt a C s.heap:=(show ObjOk X.prog X.w H s.heap a (.ext (XAt a C))from I.hok a _ h).1
theorem zz2 {f:D->D->Option Bool}(i:∀{v:V}{d e:D}{k:Bool},Rep X.K H v d->Rep X.K H v e->f d e=some k->k=true):∀{vs:List V}{ds es:List D}{k:Bool},Reps X.K H vs ds->Reps X.K H vs es->zipE f ds es=some k->k=true
 |_,_,_,_,.nil,.nil,h=>by simp[zipE]at h;exact h
 |_::_,d::ds,e::es,k,.cons r1 s1,.cons r2 s2,h=>by
  unfold zipE at h
  cases h1:f d e with
  |none=>rw[h1]at h;cases h
  |some a=>
   rw[h1]at h
   cases h2:zipE f ds es with
   |none=>rw[h2]at h;cases h
   |some b=>
    rw[h2]at h
    have h:some (a&&b)=some k:=h
    cases h
    rw[i r1 r2 h1,zz2 i s1 s2 h2];rfl
theorem Rep.eqT (I:Inv X pins σ H s):∀(n:Nat){v:V}{d e:D}{k:Bool},Rep X.K H v d->Rep X.K H v e->eqF n d e=some k->k=true
 |0,_,_,_,_,_,_,h=>by simp[eqF]at h
 |n+1,v,d,e,k,r1,r2,h=>by
  cases r1 with
  |non=>cases r2;exact(Option.some.inj (show some true=some k from h)).symm
  |bl b=>cases r2;exact(Option.some.inj (show some (b==b)=some k from h)).symm.trans (beq_self_eq_true b)
  |int b=>cases r2;exact(Option.some.inj (show some (b==b)=some k from h)).symm.trans (beq_self_eq_true b)
  |str b=>cases r2;exact(Option.some.inj (show some (b==b)=some k from h)).symm.trans (beq_self_eq_true b)
  |lst G z=>
   cases r2 with
   |lst j i=>
    have e:=I.list_inj G j
    subst e
    simp only[eqF]at h
    split at h
    .exact zz2 (fun a b c=>Rep.eqT I n a b c) z i h
    .rename_i hl;exact absurd (z.length.symm.trans i.length) hl
   |_=>cases h
  |tup G z=>
   cases r2 with
   |tup j i=>
    have e:=I.tuple_inj G j
    subst e
    simp only[eqF]at h
    cases hz:zipE (eqF n) _ _ with
    |none=>rw[hz]at h;cases h
    |some L=>
     rw[hz]at h
     have h:=Option.some.inj h
     rw[<-h,zz2 (fun a b c=>Rep.eqT I n a b c) z i hz,z.length.symm.trans i.length]
     simp
   |_=>cases h
  |_=>cases h
open PySem.SeqAt in
theorem xi4 {K:W.Frag}{H:Hp}{A:Around}{s:Shared}{x y:V}{v u:Value}{d e:D}{k:Bool}(r1:Rep K H x d)(r2:Rep K H y e)(z:RelV x v)(j:RelV y u)(h:eqS d e=some k):EqAt A s v u k/\RcAt A s v u k/\RcNeAt A s v u (!k):=by
 obtain⟨L,G⟩:=zd3 d e k h
 rw[yu8 h r1]at z
 rw[yu8 G r2]at j
 clear r1 r2 G
 cases d with
 |non=>
  cases z
  cases e with
  |non=>cases j;cases h;exact⟨EqAt.same _,.none_none,.none_none⟩
  |bl b=>cases j;cases h;exact⟨.none_bool _,.none_bool _,.none_bool _⟩
  |int b=>obtain⟨t,rfl⟩:=j;cases h;exact⟨.none_int _ _,.none_int _ _,.none_int _ _⟩
  |str b=>obtain⟨t,rfl⟩:=j;cases h;exact⟨.none_str _ _,.none_str _ _,.none_str _ _⟩
  |_=>cases h
 |bl i=>
  cases z
  cases e with
  |non=>cases j;cases h;exact⟨.bool_none _,.bool_none _,.bool_none _⟩
  |bl b=>cases j;cases h;exact⟨.bool_bool _ _,.bool_bool _ _,.bool_bool _ _⟩
  |str b=>obtain⟨t,rfl⟩:=j;cases h;exact⟨.bool_str _ _ _,.bool_str _ _ _,.bool_str _ _ _⟩
  |_=>cases h
 |int i=>
  obtain⟨I,rfl⟩:=z
  cases e with
  |non=>cases j;cases h;exact⟨.int_none _ _,.int_none _ _,.int_none _ _⟩
  |int b=>obtain⟨t,rfl⟩:=j;cases h;exact⟨.int_int _ _ _ _,.int_int _ _ _ _,.int_int _ _ _ _⟩
  |str b=>obtain⟨t,rfl⟩:=j;cases h;exact⟨.int_str _ _ _ _,.int_str _ _ _ _,.int_str _ _ _ _⟩
  |_=>cases h
 |str i=>
  obtain⟨I,rfl⟩:=z
  cases e with
  |non=>cases j;cases h;exact⟨.str_none _ _,.str_none _ _,.str_none _ _⟩
  |bl b=>cases j;cases h;exact⟨.str_bool _ _ _,.str_bool _ _ _,.str_bool _ _ _⟩
  |int b=>obtain⟨t,rfl⟩:=j;cases h;exact⟨.str_int _ _ _ _,.str_int _ _ _ _,.str_int _ _ _ _⟩
  |str b=>obtain⟨t,rfl⟩:=j;cases h;exact⟨.str_str _ _ _ _,.str_str _ _ _ _,.str_str _ _ _ _⟩
  |_=>cases h
 |_=>cases h
theorem xt9 {n:Nat}{d e:D}{k:Bool}(h:eqF (n+1) d e=some k):eqS d e=some k\/(∃ ds es,d= .lst ds/\e= .lst es/\(if ds.length=es.length then zipE (eqF n) ds es else some false)=some k)\/∃ ds es i,d= .tup ds/\e= .tup es/\zipE (eqF n) ds es=some i/\(i&&ds.length==es.length)=k:=by
 cases d with
 |lst ds=>
  cases e with
  |lst es=>exact .inr (.inl ⟨ds,es,rfl,rfl,h⟩)
  |_=>exact .inl h
 |tup ds=>
  cases e with
  |tup es=>
   have h:((zipE (eqF n) ds es).map fun b=>b&&ds.length==es.length)=some k:=h
   cases hz:zipE (eqF n) ds es with
   |none=>rw[hz]at h;cases h
   |some i=>rw[hz]at h;exact .inr (.inr ⟨ds,es,i,rfl,rfl,hz,Option.some.inj h⟩)
  |_=>exact .inl h
 |_=>exact .inl h
theorem yy0 {K:W.Frag}{H:Hp}{A:Around}{s:Shared}{n:Nat}{xs ys:List V}{ds es:List D}{its i:List Value}{g:Nat->Bool}(ih:∀{x y:V}{v u:Value}{d e:D}{k:Bool},Rep K H x d->Rep K H y e->RelV x v->RelV y u->eqF n d e=some k->PySem.SeqAt.EqAt A s v u k)(rs:Reps K H xs ds)(G:Reps K H ys es)(Z:Vals xs its)(z:Vals ys i)
  (g1:∀(j:Nat) d e,ds[j]? =some d->es[j]? =some e->eqF n d e=some (g j)) (j:Nat) (h1:j<its.toArray.size) (h2:j<i.toArray.size):PySem.SeqAt.EqAt A s its.toArray[j] i.toArray[j] (g j):=by
 have z1:its.length=ds.length:=by rw[<-Z.length,rs.length]
 have z2:i.length=es.length:=by rw[<-z.length,G.length]
 simp only[size_toArray]at h1 h2
 obtain⟨d',M⟩:∃ d',ds[j]? =some d':=⟨_,getElem?_eq_getElem (z1 ▸ h1)⟩
 obtain⟨Y,L⟩:∃ Y,es[j]? =some Y:=⟨_,getElem?_eq_getElem (z2 ▸ h2)⟩
 obtain⟨v',S,N⟩:=rs.get M
 obtain⟨u',U,O⟩:=G.get L
 obtain⟨p,hp,rp⟩:=Z.get S
 obtain⟨p2,I,R⟩:=z.get U
 have e1:its.toArray[j]=p:=by
  rw[getElem?_eq_getElem h1]at hp
  simpa using hp
 have e2:i.toArray[j]=p2:=by
  rw[getElem?_eq_getElem h2]at I
  simpa using I
 rw[e1,e2]
 exact ih N O rp R (g1 j d' Y M L)
open PySem.SeqAt in
theorem yc4 (I:Inv X pins σ H s):∀(n:Nat){A:Around}{x y:V}{v u:Value}{d e:D}{k:Bool},A.units+n<cLine->Rep X.K H x d->Rep X.K H y e->RelV x v->RelV y u->eqF n d e=some k->EqAt A s v u k/\RcAt A s v u k/\RcNeAt A s v u (!k)
 |0,A,x,y,v,u,d,e,k,hu,r1,r2,q1,q2,h=>by simp[eqF]at h
 |n+1,A,x,y,v,u,d,e,k,hu,r1,r2,q1,q2,h=>by
  have G:A.units<cLine:=by omega
  have a0:A.in1.units+n<cLine:=by show A.units+1+n<cLine;omega
  rcases xt9 h with h1|⟨ds,es,rfl,rfl,h1⟩|⟨ds,es,kk,rfl,rfl,U,hk⟩
  .exact xi4 r1 r2 q1 q2 h1
  .obtain⟨a,xs,rfl,sq,rs⟩:=r1.l'
   obtain⟨b,ys,rfl,M,z⟩:=r2.l'
   cases q1;cases q2
   obtain⟨its,vr,⟨o,m,ho,hc,_,hd⟩,_⟩:=I.list sq
   obtain⟨i,L,⟨o2,m2,N,R,_,O⟩,_⟩:=I.list M
   have Y:s.heap.IsList a its.toArray:=⟨o,ho,hc,m,hd⟩
   have L2:s.heap.IsList b i.toArray:=⟨o2,N,R,m2,O⟩
   clear ho hc hd N R O
   have Z:its.length=ds.length:=by rw[<-vr.length,rs.length]
   have z2:i.length=es.length:=by rw[<-L.length,z.length]
   have j:RcAt A s (.ref a) (.ref b) k/\RcNeAt A s (.ref a) (.ref b) (!k):=by
    by_cases hl:ds.length=es.length
    .rw[if_pos hl]at h1
     obtain⟨g,g1,g2⟩:=zs8 h1
     have he:=yy0 (fun a b c d e=>(yc4 I n a0 a b c d e).1) rs z vr L g1
     have U:its.toArray.size=i.toArray.size:=by simp only[size_toArray];rw[Z,z2,hl]
     have hk:k=(List.range its.toArray.size).all g:=by
      rw[g2];simp only[size_toArray];rw[Z,hl,Nat.min_self]
     rw[hk]
     exact⟨.lists Y L2 U G he,.lists Y L2 U G he⟩
    .rw[if_neg hl]at h1
     cases h1
     have U:(its.toArray.size != i.toArray.size)=true:=by simp only[size_toArray];rw[Z,z2];exact bne_iff_ne.mpr hl
     exact⟨.lists_lengths Y L2 U G,.lists_lengths Y L2 U G⟩
   refine⟨?_,j⟩
   by_cases S:a=b
   .subst S
    rw[Rep.eqT I (n+1) (.lst sq rs) (.lst M z) h]
    exact EqAt.same _
   .exact .of_refs S j.1
  .obtain⟨a,xs,rfl,sq,rs⟩:=r1.t'
   obtain⟨b,ys,rfl,M,z⟩:=r2.t'
   cases q1;cases q2
   obtain⟨its,vr,⟨o,ho,hc,m,hd⟩,_⟩:=I.tuple sq
   obtain⟨i,L,⟨o2,N,R,m2,O⟩,_⟩:=I.tuple M
   have Y:s.heap.IsTuple a its.toArray:=⟨o,ho,hc,m,hd⟩
   have L2:s.heap.IsTuple b i.toArray:=⟨o2,N,R,m2,O⟩
   clear ho hc hd N R O
   have Z:its.length=ds.length:=by rw[<-vr.length,rs.length]
   have z2:i.length=es.length:=by rw[<-L.length,z.length]
   have j:RcAt A s (.ref a) (.ref b) k/\RcNeAt A s (.ref a) (.ref b) (!k):=by
    obtain⟨g,g1,g2⟩:=zs8 U
    have he:=yy0 (fun a b c d e=>(yc4 I n a0 a b c d e).1) rs z vr L g1
    have hk:k=((List.range (min its.toArray.size i.toArray.size)).all g&&its.toArray.size==i.toArray.size):=by
     rw[<-hk,g2];simp only[size_toArray];rw[Z,z2]
    rw[hk]
    exact⟨.tuples Y L2 G he,.tuples Y L2 G he⟩
   refine⟨?_,j⟩
   by_cases S:a=b
   .subst S
    rw[Rep.eqT I (n+1) (.tup sq rs) (.tup M z) h]
    exact EqAt.same _
   .exact .of_refs S j.1
end
end
section
section
variable {X:Cx}{a b c e:Expr}{ma mb:ME}{la lb:ML}{pos:Pos}
def rEqF (K:W.Frag)(neg:Bool):R2:=fun x y H Q=>∃ d e k,Rep K H x d/\Rep K H y e/\eqF 8 d e=some k/\Q (.bl (if neg then !k else k)) H
theorem za8 (j:X.A.units+64<cLine):OpR X (compareOp .NotEq) (rEqF X.K true):=by
 intro pins s σ H x y v u Q I rx i h
 obtain⟨d,e,k,r1,r2,h,q⟩:=h
 exact(yc4 I 8 (by omega) r1 r2 rx i h).2.2 X.prog X.w _ _ ⟨.bl (!k),H,I,rfl,q⟩
noncomputable def eqFD (neg:Bool)(d e:D):Option D:=(eqF 8 d e).map fun k=>.bl (if neg then !k else k)
theorem zf4 {K:W.Frag}{i:Bool}:OpD K (rEqF K i) (eqFD i):=by
 intro F H x y d e w Q s r1 r2 h q
 unfold eqFD at h
 cases hk:eqF 8 d e with
 |none=>rw[hk]at h;cases h
 |some k=>
  rw[hk]at h;cases h
  exact⟨d,e,k,r1.mono s,r2.mono s,hk,q _ F H (.refl s) (.bl _)⟩
@[irreducible] noncomputable def meqB (neg:Bool)(x y:ML):ME:=fun ρ=>(x ρ).bind fun ds=>(y ρ).bind fun es=>eqFD neg (.lst ds) (.lst es)
theorem xd0 {i:Bool}{σ:St}{H:Hp}{Q:VK}(h:TD X.K (meqB i la lb) σ H Q):tOp (rEqF X.K i) (TB X.K la) (TB X.K lb) σ H Q:=by
 obtain⟨F0,H0,F,ρ,g,G,e,q⟩:=h
 unfold meqB at e
 cases h1:la ρ with
 |none=>rw[h1]at e;cases e
 |some ds=>
  cases h2:lb ρ with
  |none=>rw[h1,h2]at e;cases e
  |some es=>
   rw[h1,h2]at e
   have e:eqFD i (.lst ds) (.lst es)=some g:=e
   refine⟨F0,H0,F,ρ,ds,G,h1,fun p xs F1 H1 z s1 r1=>⟨F0,H0,F1,ρ,es,G.go z,h2,fun p2 I F2 H2 j s2 r2=>?_⟩⟩
   unfold eqFD at e
   cases hk:eqF 8 (.lst ds) (.lst es)with
   |none=>rw[hk]at e;cases e
   |some k=>
    rw[hk]at e;cases e
    exact⟨_,_,k,.lst (j.hh.seq s1) (r1.mono (j.ff.trans j.fh)),.lst s2 (r2.mono j.fh),hk,q _ F2 H2 (z.trans j) (.bl _)⟩
theorem xo9 {op:CmpOp}{i:Bool}(G:OpR X (compareOp op) (rEqF X.K i))(ha:PB X a la)(I:PB X b lb)(hm:behindInMarks op b=false):PC' X (.Compare a [op] [b] pos) (v7 (meqB i la lb)):=(zg3 G ha I hm).imp fun σ H Q j=>by
 obtain⟨F0,H0,F,ρ,g,z,e,q⟩:=j
 unfold v7 at e
 split at e
 .rename_i k hk
  cases e
  refine xd0 ⟨F0,H0,F,ρ,.bl g,z,hk,fun v F' H' x r=>?_⟩
  cases r
  exact⟨_,rfl,q F' H' x⟩
 .cases e
end
end
section
section
variable {X:Cx}{a b c e k:Expr}{te:TE}{ma mb:ME}{la lb:ML}{pos p2:Pos}{st:Stmt}
end
end
section
section
variable {X:Cx}{a b c e:Expr}{ma mb:ME}{la lb:ML}{pos:Pos}{st:Stmt}
end
end
section
section
variable {K:W.Frag}{F0 H0 F H:Hp}{σ:St}{ρ:Ro}
end
noncomputable def isSc:D->Bool
 | .lst _=>false
 | .tup _=>false
 | .exc _=>false
 | .ptr _=>false
 | .obj _ _ _=>false
 |_=>true
theorem ys4 {K:W.Frag}{F G:Hp}{v:V}{d:D}(h:isSc d=true)(r:Rep K F v d):Rep K G v d:=by
 cases r with
 |non=>exact .non
 |bl b=>exact .bl b
 |int i=>exact .int i
 |str x=>exact .str x
 |lst _ _=>cases h
 |tup _ _=>cases h
 |exc _ _=>cases h
 |ptr _=>cases h
 |obj _ _ _ _ _=>cases h
end
section
section
variable {X:Cx}{a b c e:Expr}{ma mb mz:ME}{la lb:ML}{pos:Pos}
noncomputable def maxI:List Int->Int
 |[]=>0
 |a::r=>r.foldl (fun x y=>if y>x then y else x) a
theorem zd2:∀(r:List Int)(a:Int),(r.foldl (fun x y=>if y>x then y else x) a∈a::r)/\∀ y∈a::r,y<=r.foldl (fun x y=>if y>x then y else x) a
 |[],a=>⟨by simp,fun y i=>by simp at i;subst i;exact Int.le_refl _⟩
 |b::r,a=>by
  obtain⟨h1,h2⟩:=zd2 r (if b>a then b else a)
  rw[foldl_cons]
  refine⟨?_,fun y i=>?_⟩
  .rcases List.mem_cons.mp h1 with h|h
   .rw[h];split <;> simp
   .exact mem_cons_of_mem _ (mem_cons_of_mem _ h)
  .have h0:=h2 _ mem_cons_self
   rcases List.mem_cons.mp i with h|h
   .subst h;refine Int.le_trans ?_ h0;split <;> omega
   .rcases List.mem_cons.mp h with h|h
    .subst h;refine Int.le_trans ?_ h0;split <;> omega
    .exact h2 y (mem_cons_of_mem _ h)
theorem yz6 {ns:List Int}(h:ns≠[]):maxI ns∈ns:=by
 cases ns with
 |nil=>exact absurd rfl h
 |cons a r=>exact(zd2 r a).1
theorem yn7 {ns:List Int}{y:Int}(h:y∈ns):y<=maxI ns:=by
 cases ns with
 |nil=>cases h
 |cons a r=>exact(zd2 r a).2 y h
theorem S2:∀{ns:List Int}{its:List Value},Vals (ns.map V.int) its->∃ xs:List (Int×Tok),its.toArray=intItems xs.toArray/\xs.map (·.1)=ns
 |[],_,.nil=>⟨[],by unfold intItems;simp,rfl⟩
 |n::ns,_,.cons r t=>by
  obtain⟨k,rfl⟩:=r
  obtain⟨xs,h1,h2⟩:=S2 t
  refine⟨(n,k)::xs,?_,by rw[map_cons,h2]⟩
  have:=congrArg Array.toList h1
  unfold intItems at this ⊢
  simp at this ⊢
  exact this
theorem zm9 (xs:List (Int×Tok)){i:Nat}(h:i<xs.length):numAt xs.toArray i=(xs[i]).1:=by
 unfold numAt
 simp[h]
def xg5 (K:W.Frag):List V->Hp->VK->Prop:=fun vs H Q=>∃ p ns,vs=[.ref p]/\SqL K H p (ns.map V.int)/\ns≠[]/\Q (.int (maxI ns)) H
theorem yj5 (hc:X.calm=true):zv5 X (.builtin "max") (xg5 X.K):=by
 intro pins s σ H xs us Q I r h
 obtain⟨p,ns,rfl,S,L,q⟩:=h
 obtain⟨u,rfl,rx⟩:=zz6 r
 cases rx
 obtain⟨its,R,pl,hz⟩:=I.list S
 obtain⟨z,h1,h2⟩:=S2 R
 have hp:=pl.isList
 rw[h1]at hp
 have M:0<z.length:=by
  cases z with
  |nil=>simp at h2;exact absurd h2.symm (by simpa using L)
  |cons _ _=>simp
 refine max_intList (I.ok.hd hc) hp (by simpa using M) fun v h' tk e k=>?_
 obtain⟨O,N⟩:=argBest_gt (numAt z.toArray) (z.toArray.size-1)
 rw[size_toArray]at O N e
 generalize hi:argBest (fun i j=>decide (numAt z.toArray i>numAt z.toArray j)) (z.length-1)=i at O N e
 have G:i<z.length:=by omega
 have U:v=Value.int (z[i]).1 (z[i]).2:=by
  unfold intItems at e
  simp[G]at e
  exact e.symm
 have hm:(z[i]).1=maxI ns:=by
  have m1:(z[i]).1∈ns:=by rw[<-h2];exact mem_map_of_mem (getElem_mem G)
  refine Int.le_antisymm (yn7 m1) ?_
  have m2:=yz6 L
  rw[<-h2]at m2
  obtain⟨t,Y,e2⟩:=List.mem_map.mp m2
  obtain⟨j,Z,e3⟩:=getElem_of_mem Y
  have:=N j (by omega)
  rw[zm9 z Z,zm9 z G,e3,e2,h2]at this
  exact this
 subst U
 exact⟨.int (maxI ns),H,I.kept k,⟨_,by rw[hm]⟩,q⟩
noncomputable def M3:List D->Option (List Int)
 |[]=>some []
 | .int i::r=>match M3 r with |some ns=>some (i::ns)|none=>none
 |_=>none
theorem N4 {K:W.Frag}{F:Hp}:∀{vs:List V}{ds:List D}{ns:List Int},Reps K F vs ds->M3 ds=some ns->vs=ns.map V.int
 |_,_,_,.nil,h=>by cases h;rfl
 |_,_,_,.cons (d:=d) (ds:=ds) r t,h=>by
  cases r with
  |int i=>
   unfold M3 at h
   cases h1:M3 ds with
   |none=>simp only[h1]at h;cases h
   |some ns=>simp only[h1]at h;cases h;rw[N4 t h1];rfl
  |_=>cases h
theorem J5:∀ ns:List Int,M3 (ns.map D.int)=some ns
 |[]=>rfl
 |n::ns=>by show (match M3 (ns.map D.int)with |some ns=>some (n::ns)|none=>none)=_;rw[J5 ns]
@[irreducible] noncomputable def yn0 (m:ML):ME:=fun ρ=>match m ρ with |some ds=>(match M3 ds with |some (n::ns)=>some (.int (maxI (n::ns)))|_=>none)|none=>none
theorem xw6 {p:Pos}{m:ML}(N:X.calm=true)(L:Gl X "max")(hm:X.mg "max"=none)(ha:PB X e m)(I:starEach (e::[]) X.env=(false,eval e X.env)::starEach [] X.env:=by rfl)(M:starEach [e] X.env=(false,eval e X.env)::starEach [] X.env:=by rfl)(j:(backTo pos (starEach [] X.env)).any (·.1)=false:=by rfl):PD X (.Call (.Name "max" p) [e] [] pos) (yn0 m):=
 (U3 (yj5 N) L hm PyProof.Rows.boot_max (g5 ha pa_nil I) (by decide) (by decide) M j).imp fun σ H Q i=>by
  obtain⟨F0,H0,F,ρ,g,G,e,q⟩:=i
  unfold yn0 at e
  cases h1:m ρ with
  |none=>rw[h1]at e;cases e
  |some ds=>
   rw[h1]at e
   cases h2:M3 ds with
   |none=>simp only[h2]at e;cases e
   |some ns=>
    cases ns with
    |nil=>simp only[h2]at e;cases e
    |cons n ns=>
     simp only[h2]at e;cases e
     refine⟨F0,H0,F,ρ,ds,G,h1,fun p xs F1 H1 z s1 r1=>⟨p,n::ns,rfl,?_,by simp,q _ F1 H1 z (.int _)⟩⟩
     rw[<-N4 r1 h2];exact s1
noncomputable def ys2:List (Str×Str)->List DictEntry->Prop
 |[],[]=>True
 | (k,v)::r,e::es=>(∃ t,e.key= .str k t)/\(∃ t,e.val= .str v t)/\ys2 r es
 |_,_=>False
structure KTab (w:World)(K:W.Frag)(a:Addr)(tab:List (Str×Str)):Prop where
 ns:(a==sysModules)=false
 nd:(tab.map (·.1)).Nodup
 obj:∃ es ep,K.lookup a=some ⟨.type "dict",none,.dict es ep,#[]⟩/\ys2 tab es.toList/\∀ e∈es.toList,∀ k t,e.key= .str k t->e.hash=hashStr w k
theorem zo1 {P:Program}{w:World}:∀{tab:List (Str×Str)}{es:List DictEntry},ys2 tab es->∃ kvs:List (Key×Value),Pairs (zx2 P w) es kvs/\kvs.map (·.1)=tab.map (fun p=>Sum.inr p.1)/\∀ k,(∀ v,tab.lookup k=some v->∃ t,valueAt kvs (Sum.inr k)=some (.str v t))/\(tab.lookup k=none->valueAt kvs (Sum.inr k)=none)
 |[],[],_=>⟨[],.nil,rfl,fun k=>⟨fun v h=>by simp at h,fun _=>rfl⟩⟩
 |[],_::_,h=>h.elim
 |_::_,[],h=>h.elim
 | (k,v)::r,e::es,⟨⟨t1,h1⟩,⟨t2,h2⟩,h3⟩=>by
  obtain⟨kvs,R,O,N⟩:=zo1 (P:=P) (w:=w) h3
  refine⟨(Sum.inr k,.str v t2)::kvs,.cons (by rw[h1];exact zw0 k t1) h2 R,by rw[map_cons,map_cons,O],fun j=>?_⟩
  unfold valueAt
  by_cases hk:j=k
  .subst hk
   refine⟨fun G h=>?_,fun h=>?_⟩
   .rw[lookup_cons_self]at h;cases h
    exact⟨t2,by simp⟩
   .rw[lookup_cons_self]at h;cases h
  .have hb:(j==k)=false:=by simpa using hk
   have i:¬ ((Sum.inr k:Key)=Sum.inr j):=fun z=>hk (Sum.inr.inj z).symm
   obtain⟨M,L⟩:=N j
   refine⟨fun G h=>?_,fun h=>?_⟩
   .rw[lookup_cons,hb]at h
    obtain⟨t,I⟩:=M G h
    unfold valueAt at I
    exact⟨t,by simpa[i]using I⟩
   .rw[lookup_cons,hb]at h
    have:=L h
    unfold valueAt at this
    simpa[i]using this
theorem KTab.dict {t:Addr}{tab:List (Str×Str)}{pins:List (Addr×Obj)}{σ:St}{H:Hp}{s:Shared}(T:KTab X.w X.K t tab)(I:Inv X pins σ H s):∃ kvs:List (Key×Value),s.heap.DictOf (zx2 X.prog X.w) t kvs/\∀ k,(∀ v,tab.lookup k=some v->∃ t,valueAt kvs (Sum.inr k)=some (.str v t))/\(tab.lookup k=none->valueAt kvs (Sum.inr k)=none):=by
 obtain⟨es,ep,h1,h2,L⟩:=T.obj
 obtain⟨kvs,S,R,O⟩:=zo1 (P:=X.prog) (w:=X.w) h2
 refine⟨kvs,⟨_,es,ep,I.kIn t _ h1,⟨rfl,rfl,rfl⟩,rfl,fun e i=>?_,S,?_⟩,O⟩
 .have key:∀{tab:List (Str×Str)}{es:List DictEntry},ys2 tab es->∀ e∈es,∃ k t,e.key= .str k t:=by
   intro tab
   induction tab with
   |nil=>intro es h e i;cases es with
    |nil=>cases i
    |cons _ _=>exact h.elim
   |cons p r G=>
    intro es h e i
    cases es with
    |nil=>cases i
    |cons U es=>
     obtain⟨⟨j,N⟩,_,M⟩:=h
     rcases List.mem_cons.mp i with z|z
     .subst z;exact⟨_,j,N⟩
     .exact G M e z
  obtain⟨k,tk,hk⟩:=key h2 e (by simpa using i)
  exact⟨Sum.inr k,by rw[hk];exact zw0 k tk,L e (by simpa using i) k tk hk⟩
 .rw[R]
  have:=T.nd
  rw[show tab.map (fun p=>(Sum.inr p.1:Key))=(tab.map (·.1)).map Sum.inr by rw[map_map];rfl]
  exact List.Pairwise.map _ (fun _ _ h z=>h (Sum.inr.inj z)) this
def rTab (t:Addr)(tab:List (Str×Str)):R2:=fun x y H Q=>∃ k v,x= .ref t/\y= .str k/\tab.lookup k=some v/\Q (.str v) H
theorem xj0 {t:Addr}{tab:List (Str×Str)}(T:KTab X.w X.K t tab):IxR X (rTab t tab):=by
 intro value i pins s σ H x y v u Q I rx G h M
 obtain⟨k,z,rfl,rfl,N,q⟩:=h
 cases rx
 obtain⟨tk,rfl⟩:=G
 obtain⟨kvs,dd,hk⟩:=T.dict I
 obtain⟨j,L⟩:=(hk k).1 z N
 exact subscriptTail_builtinR (x:=.str z j) dd.typeIs slot_dict_getitem.lookup
  (wpAny_getItem_of (Q:=fun r s'=>r= .str z j/\EP X pins σ Q r s') (zw0 k tk) dd.mapOf L ⟨rfl,.str z,H,I.tok _,⟨_,rfl⟩,q⟩) M
noncomputable def tabD (tab:List (Str×Str)):D->Option D
 | .str k=>(tab.lookup k).map .str
 |_=>none
theorem xo5 {x:Str}{t:Addr}{tab:List (Str×Str)}{p:Pos}(T:KTab X.w X.K t tab)(L:Gl X x)(hm:X.mg x=some (.ref t))(M:PD X b mb)(I:zp5 b:=by exact fun _ _=>rfl)(hd:(x==("__debug__":Str))=false:=by decide):PD X (.Subscript (.Name x p) b pos) (m1 (tabD tab) mb):=
 (xw2 (xj0 T) (zg7 (v:=.ref t) L hm rfl hd) M I).imp fun σ H Q i=>by
  obtain⟨F0,H0,F,ρ,g,G,e,q⟩:=i
  obtain⟨d,h1,h2⟩:=ze6 e
  refine⟨F0,H0,F,ρ,d,G,h1,fun v F1 H1 j r1=>?_⟩
  cases r1 with
  |str k=>
   have h2:(tab.lookup k).map D.str=some g:=h2
   cases h3:tab.lookup k with
   |none=>rw[h3]at h2;cases h2
   |some z=>rw[h3]at h2;cases h2;exact⟨k,z,rfl,rfl,h3,q _ F1 H1 j (.str _)⟩
  |_=>cases h2
end
end
section
section
variable {prog:Program}{w:World}{A:Around}{E:Value->Shared->Prop}{s:Shared}
structure ApT (z TO i1 i2 l:Addr):Prop where
 lz:l≠z
 lTO:l≠TO
 l1:l≠i1
 l2:l≠i2
end
end
section
section
variable {prog:Program}{w:World}{A:Around}{E:Value->Shared->Prop}{s:Shared}
end
section
variable {X:Cx}
end
end
section
section
variable {X:Cx}{a b c e:Expr}{ma mb:ME}{la lb:ML}{pos:Pos}
@[irreducible] noncomputable def yf9 (x:ME)(i:Nat):MS:=fun ρ=>match x ρ,ρ[i]? with |some d,some (some (.own ds))=>some (.rp d ds)|_,_=>none
theorem yg5 {i:Nat}{x:Str}{G tp:Pos}{I:Nat}(Y:PD X e ma)(S:PE X (.Name x G) (tVar i))(U:starEach (e::[.Name x G]) X.env=(false,eval e X.env)::starEach [.Name x G] X.env:=by rfl)(O:starEach [.Name x G] X.env=(false,eval (.Name x G) X.env)::starEach [] X.env:=by rfl):
  PSd X (.Return (some (.Tuple [e,.Name x G] I tp)) pos) (yf9 ma i):=(U1 (ya0 (g5 Y (g5 S pa_nil O) U))).imp fun D σ H M=>by
 obtain⟨F0,H0,F,ρ,o,R,e,ok⟩:=M
 unfold yf9 at e
 split at e
 .rename_i d ds h1 h2
  cases e
  refine⟨F0,H0,F,ρ,d,R,h1,fun v F1 H1 I r1=>?_⟩
  have j:=R.go I
  obtain⟨p,xs,e1,e2,e3,e4,Z⟩:=j.own i ds h2
  refine⟨_,e1,⟨by show 2<=sizeLine;rw[sizeLine_eq];decide,fun t L=>?_⟩⟩
  have N:t≠p:=fun z=>by rw[z,e3]at L;cases L
  exact ok t v p xs F1 _ (j.ext.trans (Ext.own I.fh L)) (j.ext.hh.free L) Z N (I.fh.free L) e2 x9 (by rw[x8 (Ne.symm N)];exact e3) r1 e4
 .cases e
end
section
variable {K:W.Frag}{F0 H0 F H H':Hp}{σ:St}{ρ:Ro}
end
section
variable {X:Cx}{a b c e3:Expr}{ma mb:ME}{la lb:ML}{pos:Pos}{E:XK}{es:List Expr}{mf:MF}{m:ML}{rb:List Stmt}{mx:MS}{cc:MB}{y:D}
end
end
section
noncomputable abbrev MEm:=Ro->Option (D×Ro)
noncomputable abbrev MLm:=Ro->Option (List D×Ro)
def TDm (K:W.Frag)(m:MEm):TE:=fun σ H Q=>∃ F0 H0 F ρ d ρ',Rl K F0 H0 F H σ ρ/\m ρ=some (d,ρ')/\∀ v F' H',Rl K F0 H0 F' H' σ ρ'->Same F F'->Rep K F' v d->Q v H'
def TAm (K:W.Frag)(m:MLm):TA:=fun σ H Q=>∃ F0 H0 F ρ ds ρ',Rl K F0 H0 F H σ ρ/\m ρ=some (ds,ρ')/\∀ vs F' H',Rl K F0 H0 F' H' σ ρ'->Same F F'->Reps K F' vs ds->Q vs H'
def PDm (X:Cx)(e:Expr)(m:MEm):Prop:=PE X e (TDm X.K m)
def PAm (X:Cx)(es:List Expr)(m:MLm):Prop:=PA X es (TAm X.K m)
section
variable {X:Cx}{a b c e:Expr}{ma mb:ME}{na nb:MEm}{pos:Pos}{es:List Expr}
@[irreducible] noncomputable def mpu (m:ME):MEm:=fun ρ=>match m ρ with |some d=>some (d,ρ)|none=>none
@[irreducible] noncomputable def apu (m:ML):MLm:=fun ρ=>match m ρ with |some d=>some (d,ρ)|none=>none
theorem l0 (h:PD X e ma):PDm X e (mpu ma):=h.imp fun σ H Q i=>by
 obtain⟨F0,H0,F,ρ,d,ρ',j,e,q⟩:=i
 unfold mpu at e
 split at e
 .rename_i d' hm;cases e;exact⟨F0,H0,F,ρ,d,j,hm,fun v F' H' x r=>q v F' H' (j.go x) x.ff r⟩
 .cases e
theorem u6 {m:ML}(h:PAs X es m):PAm X es (apu m):=h.imp fun σ H Q i=>by
 obtain⟨F0,H0,F,ρ,d,ρ',j,e,q⟩:=i
 unfold apu at e
 split at e
 .rename_i d' hm;cases e;exact⟨F0,H0,F,ρ,d,j,hm,fun v F' H' x r=>q v F' H' (j.go x) x.ff r⟩
 .cases e
@[irreducible] noncomputable def m2m (f:D->D->Option D)(x y:MEm):MEm:=fun ρ=>match x ρ with
 |some (d,ρ1)=>(match y ρ1 with |some (e,ρ2)=>(match f d e with |some g=>some (g,ρ2)|none=>none)|none=>none)
 |none=>none
theorem xn0 {r:R2}{f:D->D->Option D}(L:OpD X.K r f){σ:St}{H:Hp}{Q:VK}(h:TDm X.K (m2m f na nb) σ H Q):tOp r (TDm X.K na) (TDm X.K nb) σ H Q:=by
 obtain⟨F0,H0,F,ρ,g,ρ',G,e,q⟩:=h
 unfold m2m at e
 split at e
 .rename_i d ρ1 h1
  split at e
  .rename_i d2 ρ2 h2
   split at e
   .rename_i g' h3
    cases e
    refine⟨F0,H0,F,ρ,d,ρ1,G,h1,fun x F1 H1 j s1 r1=>⟨F0,H0,F1,ρ1,d2,ρ',j,h2,fun y F2 H2 i s2 r2=>?_⟩⟩
    exact L F2 H2 x y d d2 g Q i.fh (r1.mono s2) r2 h3 fun v F' H' z I=>q v F' H' (i.go z) (s1.trans (s2.trans z.ff)) I
   .cases e
  .cases e
 .cases e
theorem zy7 {op:Operator}{r:R2}{f:D->D->Option D}(i:OpR X (binaryOp op) r)(j:OpD X.K r f)(ha:PDm X a na)(z:PDm X b nb):PDm X (.BinOp a op b pos) (m2m f na nb):=(yf0 i ha z).imp fun _ _ _ h=>xn0 j h
noncomputable def ixLD:D->D->Option D
 | .lst ds,.int k=>atI ds k
 |_,_=>none
theorem xv3 {K:W.Frag}:OpD K (rIxL K) ixLD:=by
 intro F H x y d e w Q s r1 r2 h q
 cases d with
 |lst ds=>
  cases e with
  |int k=>
   obtain⟨a,xs,e1,i,j⟩:=r1.l'
   obtain⟨v,G,z⟩:=yx4 j (show atI _ k=some w from h)
   exact⟨_,_,k,v,e1,r2.i',s.seq i,G,q v F H (.refl s) z⟩
  |_=>cases h
 |_=>cases h
theorem zm3 (ha:PDm X a na)(j:PDm X b nb)(i:zp5 b:=by exact fun _ _=>rfl):PDm X (.Subscript a b pos) (m2m ixLD na nb):=(xw2 ym2 ha j i).imp fun σ H Q h=>xn0 xv3 h
@[irreducible] noncomputable def d8 (x:MEm)(r:MLm):MLm:=fun ρ=>match x ρ with |some (d,ρ1)=>(match r ρ1 with |some (ds,ρ2)=>some (d::ds,ρ2)|none=>none)|none=>none
theorem j8 {m:MLm}(ha:PDm X a na)(L:PAm X es m)(I:starEach (a::es) X.env=(false,eval a X.env)::starEach es X.env:=by rfl):PAm X (a::es) (d8 na m):=(g5 ha L I).imp fun σ H Q i=>by
 obtain⟨F0,H0,F,ρ,g,ρ',G,e,q⟩:=i
 unfold d8 at e
 split at e
 .rename_i d ρ1 h1
  split at e
  .rename_i ds ρ2 h2
   cases e
   refine⟨F0,H0,F,ρ,d,ρ1,G,h1,fun x F1 H1 z s1 r1=>⟨F0,H0,F1,ρ1,ds,ρ',z,h2,fun xs F2 H2 j s2 r2=>?_⟩⟩
   exact q _ F2 H2 j (s1.trans s2) (.cons (r1.mono s2) r2)
  .cases e
 .cases e
@[irreducible] noncomputable def zf9 (m:MLm):MEm:=fun ρ=>match m ρ with |some (ds,ρ1)=>if ds.length<=sizeLine then some (.lst ds,ρ1)else none|none=>none
theorem zf0 {m:MLm}(h:PAm X es m):PDm X (.List es pos) (zf9 m):=(za3 h).imp fun σ H Q j=>by
 obtain⟨F0,H0,F,ρ,g,ρ',z,e,q⟩:=j
 unfold zf9 at e
 split at e
 .rename_i ds ρ1 h1
  split at e
  .rename_i hz
   cases e
   refine⟨F0,H0,F,ρ,ds,ρ',z,h1,fun vs F1 H1 i s1 r1=>⟨by rw[r1.length];exact hz,fun p hp=>?_⟩⟩
   have x:=Ext.laid (o:=.lst vs) i.fh hp
   exact q _ _ _ (i.go x) (s1.trans x.ff) (.lst (SqL.of x9) (r1.mono x.ff))
  .cases e
 .cases e
variable {st:Stmt}
@[irreducible] noncomputable def E4 (i:Nat)(x:MEm):MS:=fun ρ=>match x ρ with |some (d,ρ1)=>some (.nx (ρ1.set i (some (.sh d))))|none=>none
theorem K4 {i:Nat}{x:Str}{pos':Pos}(R:X.N.Nodup)(hi:X.N[i]? =some x)(I:Loc X.env.scope x)(O:PDm X e na)(L:swapsWith e (some (.Name x pos')) pos.line X.env=pure false:=by rfl)(M:X.fn x=true\/X.env.scope.names.lookup x=some .local:=by first|exact .inl rfl|exact .inr rfl|assumption):
  PSd X (.Assign [.Name x pos'] e pos) (E4 i na):=(zt4 R hi I O L M).imp fun D σ H j=>by
 obtain⟨F0,H0,F,ρ,o,G,e,ok⟩:=j
 unfold E4 at e
 split at e
 .rename_i d ρ1 h1
  cases e
  exact⟨F0,H0,F,ρ,d,ρ1,G,h1,fun v F1 H1 z s1 r1=>ok F1 H1 _ (z.set r1) s1⟩
 .cases e
@[irreducible] noncomputable def N7 (i:Nat)(x:MEm):MS:=fun ρ=>match x ρ with
 |some (d,ρ1)=>(match ρ1[i]? with |some (some (.ob p r))=>some (.rg d p r)|_=>none)
 |none=>none
theorem W5 (i:Nat)(N:PDm X e na):PSd X (.Return (some e) pos) (N7 i na):=(U1 N).imp fun D σ H z=>by
 obtain⟨F0,H0,F,ρ,o,G,e,ok⟩:=z
 unfold N7 at e
 split at e
 .rename_i d ρ1 h1
  split at e
  .rename_i p r h2
   cases e
   refine⟨F0,H0,F,ρ,d,ρ1,G,h1,fun v F1 H1 j s1 r1=>?_⟩
   obtain⟨R,M,O,xs,L,I⟩:=j.ob i p r h2
   exact ok v F1 H1 xs j.ext r1 M L I
  .cases e
 .cases e
end
noncomputable abbrev MG:=Addr->List D->List D->Option (Rt×List D)
noncomputable def del (H:Hp)(p:Addr):Hp:=fun b=>if b=p then none else H b
theorem A5 {H:Hp}{p:Addr}:del H p p=none:=by unfold del;rw[if_pos rfl]
theorem Q5 {H:Hp}{p b:Addr}(h:b≠p):del H p b=H b:=by unfold del;rw[if_neg h]
noncomputable def okG (K:W.Frag)(F H:Hp)(p:Addr)(Q:VK)(r':List D):Rt->Prop
 | .sh d=>∀ v F' H' xs,Ext F (del H p) F' H'->Rep K F' v d->F' p=none->H' p=some (.lst xs)->Reps K F' xs r'->Q v H'
 | .fr ds=>∀ q ys F' H' xs,Ext F (del H p) F' H'->H q=none->F' q=none->H' q=some (.lst ys)->Reps K F' ys ds->F' p=none->H' p=some (.lst xs)->Reps K F' xs r'->Q (.ref q) H'
 | .pr _ _=>False
def spG (K:W.Frag)(n:Nat)(m:MG):Sp:=fun vs H Q _=>vs.length=n/\∃ p ws F r0 ds r r1 xs,vs= .ref p::ws/\H p=some (.lst xs)/\F p=none/\Same F H/\Reps K F xs r0/\Reps K F ws ds/\m p r0 ds=some (r,r1)/\okG K F H p Q r1 r
noncomputable def L7 (n:Nat)(p:Addr)(r:List D)(ds:List D):Ro:=some (.ob p r)::v3 (n-1) ds
noncomputable def runG (n:Nat)(m:MS):MG:=fun p r ds=>match m (L7 n p r ds)with
 |some (.rg d q r')=>if q=p then some (.sh d,r')else none
 |some (.rgf es q r')=>if q=p then some (.fr es,r')else none
 |_=>none
theorem yr2 {K:W.Frag}{F H:Hp}{N:List Str}{p:Addr}{xs ws:List V}{r ds:List D}(hn:0<N.length)(s:Same F H)(O:F p=none)(M:H p=some (.lst xs))(L:Reps K F xs r)(I:Reps K F ws ds):Rl K F (del H p) F H (start N (.ref p::ws)) (L7 N.length p r ds):=by
 have R:start N (.ref p::ws)=some (.ref p)::start N.tail ws:=by
  unfold start
  rw[map_cons,cons_append,length_cons,length_tail]
  congr 2
  congr 1
  omega
 have e1:L7 N.length p r ds=some (.ob p r)::v3 N.tail.length ds:=by unfold L7;rw[length_tail]
 have base:=O5 (N:=N.tail) s I
 have only:∀(j:Nat) x,(v3 N.tail.length ds)[j]? =some (some x)->∃ d,x=S.sh d:=fun j x e=>by
  unfold v3 at e
  by_cases hi:j<ds.length
  .rw[getElem?_append_left (by simpa using hi),getElem?_map]at e
   cases q:ds[j]? with
   |none=>rw[q]at e;cases e
   |some d=>rw[q]at e;cases e;exact⟨d,rfl⟩
  .rw[getElem?_append_right (by simpa using hi),getElem?_replicate]at e
   split at e <;> cases e
 rw[R,e1]
 refine⟨⟨Same.refl F,fun b o e=>?_,s,fun b e n=>absurd e n,fun _ _ _ z=>z⟩,by rw[length_cons,length_cons,base.len],fun i d e=>?_,fun i es e=>?_,fun i j q es G _ e=>?_,fun i q es e=>?_,fun i j q es G e e2=>?_,fun i j q U es G e e2=>?_⟩
 .by_cases hb:b=p
  .subst hb;rw[A5]at e;cases e
  .rw[Q5 hb]at e;exact e
 .cases i with
  |zero=>cases e
  |succ i=>exact base.sh i d e
 .cases i with
  |zero=>cases e
  |succ i=>obtain⟨d,z⟩:=only i _ e;cases z
 .cases i with
  |zero=>cases e
  |succ i=>obtain⟨d,z⟩:=only i _ e;cases z
 .cases i with
  |zero=>cases e;exact⟨rfl,O,A5,xs,M,L⟩
  |succ i=>obtain⟨d,z⟩:=only i _ e;cases z
 .cases j with
  |zero=>cases e2
  |succ j=>obtain⟨d,z⟩:=only j _ e2;cases z
 .cases i with
  |zero=>
   cases j with
   |zero=>rfl
   |succ j=>obtain⟨d,z⟩:=only j _ e2;cases z
  |succ i=>obtain⟨d,z⟩:=only i _ e;cases z
theorem Fun.okGl {P:Program}{w:World}{K:W.Frag}{mg:Str->Option Value}{base:Heap}{x qual:Str}{st:Stmt}{f:Addr}{fd:FuncData}{N ps:List Str}{k:Nat}{m:MS}(Fn:Fun K x qual st f fd)(Sc:FnScope N ps (z9 st))(hn:0<N.length)
  (z:∀(cdv:Value)(A:Around)(outer:List Env)(s:Shared)(H:Hp)(E:XK),Room k (A.deeper (envOfC qual (z9 st) s.heap.objs.size f cdv))->PSsd (cxOf CX0 P w K mg base N qual (z9 st) f cdv A outer s H E).nox (v4 st) m):
  FnOk P w K mg base CX0 (k+1) f fd ps (spG K ps.length (runG N.length m)):=by
 refine Fn.ok Sc (fun vs H Q E h=>h.1) fun cdv A outer s H vs Q E hr h=>?_
 obtain⟨hl,p,ws,F,r0,ds,r,r1,xs,rfl,hH,hF,R,rx,U,e,ok⟩:=h
 unfold runG at e
 cases h1:m (L7 N.length p r0 ds)with
 |none=>rw[h1]at e;cases e
 |some o=>
  rw[h1]at e
  refine⟨_,z cdv A outer s H E hr,F,del H p,F,L7 N.length p r0 ds,o,yr2 hn R hF hH rx U,h1,?_⟩
  cases o with
  |rg d q G=>
   have e:(if q=p then some (Rt.sh d,G)else none)=some (r,r1):=e
   by_cases j:q=p
   .rw[if_pos j]at e
    cases e
    subst j
    exact fun v F' H' i x S M h1 rr=>ok v F' H' i x S M h1 rr
   .rw[if_neg j]at e;cases e
  |rgf es q G=>
   have e:(if q=p then some (Rt.fr es,G)else none)=some (r,r1):=e
   by_cases j:q=p
   .rw[if_pos j]at e
    cases e
    subst j
    exact fun Z ys F' H' i x O f0 L I Y M h1 rr=>ok Z ys F' H' i x (by rw[Q5 L]at O;exact O) f0 I Y M h1 rr
   .rw[if_neg j]at e;cases e
  |nx _=>cases e
  |bk _=>cases e
  |ct _=>cases e
  |rt _=>cases e
  |rf _=>cases e
  |rp _ _=>cases e
end
section
section
variable {K:W.Frag}{F0 H0 F H F' H':Hp}{σ:St}{ρ:Ro}
theorem Ext.lent (a:Ext F0 H0 F H){p:Addr}(G:H0 p=none)(x:Ext F (del H p) F' H'):Ext F0 H0 F' H':=
 ⟨a.ff.trans x.ff,fun b o e=>by
  have i:b≠p:=fun z=>by rw[z,G]at e;cases e
  exact x.hh b o (by rw[Q5 i];exact a.hh b o e),x.fh,fun b e n=>by
  by_cases j:F b=none
  .by_cases i:b=p
   .rw[i];exact G
   .have:=x.new b j n
    rw[Q5 i]at this
    exact a.hh.free this
  .exact a.new b e j,fun b o u z=>a.nf b o u (x.nf b o u z)⟩
theorem Rl.lent (r:Rl K F0 H0 F H σ ρ){i:Nat}{p:Addr}{xs:List V}{r0 r1:List D}(h:ρ[i]? =some (some (.own r0)))(hp:σ[i]? =some (some (.ref p)))(x:Ext F (del H p) F' H')(hF:F' p=none)(hH:H' p=some (.lst xs))(hr:Reps K F' xs r1):Rl K F0 H0 F' H' σ (ρ.set i (some (.own r1))):=by
 obtain⟨p',a0,a,b,c,d,z⟩:=r.own i r0 h
 rw[hp]at a;cases a
 have hl:i<ρ.length:=(List.getElem?_eq_some_iff.mp h).1
 have I:∀ q,q≠p->F q=none->(∃ o,H q=some o)->F' q=none:=fun q O f N=>by
  obtain⟨o,R⟩:=N
  cases w:F' q with
  |none=>rfl
  |some u=>have:=x.new q f (by rw[w];simp);rw[Q5 O,R]at this;cases this
 have G:∀ q o,q≠p->H q=some o->H' q=some o:=fun q o O R=>x.hh q o (by rw[Q5 O];exact R)
 have back:∀(j:Nat) fs,(ρ.set i (some (S.own r1)))[j]? =some (some (.own fs))->(j=i/\fs=r1)\/(i≠j/\ρ[j]? =some (some (.own fs))):=fun j fs e=>by
  by_cases M:i=j
  .subst M;rw[getElem?_set_self hl]at e;cases e;exact .inl ⟨rfl,rfl⟩
  .rw[getElem?_set_ne M]at e;exact .inr ⟨M,e⟩
 refine⟨r.ext.lent z x,by simp[r.len],fun j d' q=>?_,fun j fs q=>?_,fun j k q fs fs' U e1 e2 e3 e4=>?_,fun j q fs e1=>?_,fun j k q fs fs' e1 e2 e3=>?_,fun j k q q' es Y e1 e2=>r.ob1 j k q q' es Y (c9 e1).2 (c9 e2).2⟩
 .by_cases M:i=j
  .subst M;rw[getElem?_set_self hl]at q;cases q
  .rw[getElem?_set_ne M]at q
   obtain⟨v,v1,v2⟩:=r.sh j d' q
   exact⟨v,v1,v2.mono x.ff⟩
 .rcases back j fs q with⟨rfl,rfl⟩|⟨n,e⟩
  .exact⟨p,xs,hp,hF,hH,hr,z⟩
  .obtain⟨p2,xs2,a2,Z,c2,d2,z2⟩:=r.own j fs e
   have L:p2≠p:=fun w=>r.inj i j p r0 fs n h e hp (by rw[<-w];exact a2)
   exact⟨p2,xs2,a2,I p2 L Z ⟨_,c2⟩,G _ _ L c2,d2.mono x.ff,z2⟩
 .have b1:∃ g,ρ[j]? =some (some (.own g)):=by
   rcases back j fs e1 with⟨rfl,_⟩|⟨_,w⟩
   .exact⟨_,h⟩
   .exact⟨_,w⟩
  have Z:∃ g,ρ[k]? =some (some (.own g)):=by
   rcases back k fs' e2 with⟨rfl,_⟩|⟨_,w⟩
   .exact⟨_,h⟩
   .exact⟨_,w⟩
  obtain⟨g1,w1⟩:=b1
  obtain⟨g2,w2⟩:=Z
  exact r.inj j k q g1 g2 U w1 w2 e3 e4
 .obtain⟨n,e1⟩:=c9 e1
  obtain⟨o1,o2,o3,zs,o4,o5⟩:=r.ob j q fs e1
  have L:q≠p:=fun w=>r.obn j i q fs r0 e1 h (by rw[w];exact hp)
  exact⟨o1,I q L o2 ⟨_,o4⟩,o3,zs,G _ _ L o4,o5.mono x.ff⟩
 .obtain⟨n,e5⟩:=c9 e1
  rcases back k fs' e2 with⟨e6,_⟩|⟨_,w⟩
  .rw[e6]at e3;exact r.obn j i q fs r0 e5 h e3
  .exact r.obn j k q fs fs' e5 w e3
theorem Rl.lentB (r:Rl K F0 H0 F H σ ρ){i:Nat}{p:Addr}{xs:List V}{r0 r1:List D}(h:ρ[i]? =some (some (.ob p r0)))(x:Ext F (del H p) F' H')(hF:F' p=none)(hH:H' p=some (.lst xs))(hr:Reps K F' xs r1):Rl K F0 H0 F' H' σ (ρ.set i (some (.ob p r1))):=by
 obtain⟨a,b,z,a1,c,d⟩:=r.ob i p r0 h
 have Z:i<ρ.length:=(List.getElem?_eq_some_iff.mp h).1
 have L:∀ q,q≠p->F q=none->(∃ o,H q=some o)->F' q=none:=fun q U f N=>by
  obtain⟨o,Y⟩:=N
  cases w:F' q with
  |none=>rfl
  |some u=>have:=x.new q f (by rw[w];simp);rw[Q5 U,Y]at this;cases this
 have I:∀ q o,q≠p->H q=some o->H' q=some o:=fun q o U Y=>x.hh q o (by rw[Q5 U];exact Y)
 have back:∀(j:Nat) q fs,(ρ.set i (some (S.ob p r1)))[j]? =some (some (.ob q fs))->j=i/\q=p/\fs=r1:=fun j q fs e=>by
  by_cases G:i=j
  .subst G;rw[getElem?_set_self Z]at e;cases e;exact⟨rfl,rfl,rfl⟩
  .rw[getElem?_set_ne G]at e;exact absurd (r.ob1 i j p q r0 fs h e) G
 have other:∀(j:Nat) fs,(ρ.set i (some (S.ob p r1)))[j]? =some (some (.own fs))->i≠j/\ρ[j]? =some (some (.own fs)):=fun j fs e=>by
  by_cases G:i=j
  .subst G;rw[getElem?_set_self Z]at e;cases e
  .rw[getElem?_set_ne G]at e;exact⟨G,e⟩
 refine⟨r.ext.lent z x,by simp[r.len],fun j d' q=>?_,fun j fs q=>?_,fun j k q fs fs' a0 e1 e2 e3 O=>r.inj j k q fs fs' a0 (other j fs e1).2 (other k fs' e2).2 e3 O,fun j q fs e1=>?_,fun j k q fs fs' e1 e2 e3=>?_,fun j k q q' fs fs' e1 e2=>?_⟩
 .by_cases G:i=j
  .subst G;rw[getElem?_set_self Z]at q;cases q
  .rw[getElem?_set_ne G]at q
   obtain⟨v,v1,v2⟩:=r.sh j d' q
   exact⟨v,v1,v2.mono x.ff⟩
 .obtain⟨n,e⟩:=other j fs q
  obtain⟨p2,R,a2,b2,c2,d2,z2⟩:=r.own j fs e
  have M:p2≠p:=fun w=>r.obn i j p r0 fs h e (by rw[<-w];exact a2)
  exact⟨p2,R,a2,L p2 M b2 ⟨_,c2⟩,I _ _ M c2,d2.mono x.ff,z2⟩
 .obtain⟨e2,e3,O⟩:=back j q fs e1
  subst e2 e3 O
  exact⟨a,hF,z,xs,hH,hr⟩
 .obtain⟨O,e5,_⟩:=back j q fs e1
  subst O e5
  exact r.obn j k q r0 fs' h (other k fs' e2).2 e3
 .rw[(back j q fs e1).1,(back k q' fs' e2).1]
end
open Classical in
noncomputable def anyP {α:Type}(f:Addr->Option α):Option α:=if h:∃ x,∀ p,f p=some x then some (Classical.choose h)else none
theorem yi0 {i:Type}{f:Addr->Option i}{x:i}(h:anyP f=some x):∀ p,f p=some x:=by
 unfold anyP at h
 split at h
 .rename_i hx
  cases h
  exact Classical.choose_spec hx
 .cases h
theorem xs9 {i:Type}{f:Addr->Option i}{x:i}(h:∀ p,f p=some x):anyP f=some x:=by
 unfold anyP
 have j:∃ x,∀ p,f p=some x:=⟨x,h⟩
 rw[dif_pos j]
 have:=Classical.choose_spec j 0
 rw[h 0]at this
 exact this.symm
noncomputable def rtD:Rt->Option D
 | .sh d=>some d
 | .fr es=>some (.lst es)
 | .pr _ _=>none
@[irreducible] noncomputable def m9 (f:MG)(i:Nat)(m:MLm):MEm:=fun ρ=>match ρ[i]? with
 |some (some (.own _))=>(match m ρ with
  |some (ds,ρ1)=>(match ρ1[i]? with
   |some (some (.own r0))=>(match anyP (fun p=>f p r0 ds)with
    |some (t,r1)=>(match rtD t with |some d=>some (d,ρ1.set i (some (.own r1)))|none=>none)
    |none=>none)
   |_=>none)
  |none=>none)
 |some (some (.ob _ _))=>(match m ρ with
  |some (ds,ρ1)=>(match ρ1[i]? with
   |some (some (.ob p r0))=>(match f p r0 ds with
    |some (t,r1)=>(match rtD t with |some d=>some (d,ρ1.set i (some (.ob p r1)))|none=>none)
    |none=>none)
   |_=>none)
  |none=>none)
 |_=>none
theorem j3 {m:ML}{n:Nat}(h:∀ ρ ds,m ρ=some ds->ds.length=n)(ρ:Ro)(ds:List D)(ρ':Ro)(e:apu m ρ=some (ds,ρ')):ds.length=n:=by
 unfold apu at e
 split at e
 .rename_i d hm;cases e;exact h ρ _ hm
 .cases e
theorem N6 {x:MEm}{r:MLm}{n:Nat}(i:∀ ρ ds ρ',r ρ=some (ds,ρ')->ds.length=n)(ρ:Ro)(ds:List D)(ρ':Ro)(h:d8 x r ρ=some (ds,ρ')):ds.length=n+1:=by
 unfold d8 at h
 split at h
 .rename_i d ρ1 h1
  split at h
  .rename_i ds' ρ2 h2;cases h;rw[length_cons,i ρ1 ds' _ h2]
  .cases h
 .cases h
section
variable {X:Cx}{e:Expr}{pos:Pos}{es:List Expr}{E:XK}{mf:MG}{m:MLm}
theorem t5 {n i:Nat}{x:Str}{px:Pos}(h:∀ t,PA X (.Name x px::es) t->PE X e (zh2 (spG X.K n mf) [] E t))(hl:es.length+1=n)(hv:PE X (.Name x px) (tVar i))(ha:PAm X es m)(hm:∀ ρ ds ρ',m ρ=some (ds,ρ')->ds.length=es.length)
  (hs:starEach (.Name x px::es) X.env=(false,eval (.Name x px) X.env)::starEach es X.env:=by rfl):PDm X e (m9 mf i m):=(h _ (g5 hv ha hs)).imp fun σ H Q Y=>by
 obtain⟨F0,H0,F,ρ,d,ρ',rl,e,q⟩:=Y
 unfold m9 at e
 split at e
 .rename_i r00 h0
  obtain⟨p,xs,N,a2,a3,a4,a5⟩:=rl.own i r00 h0
  split at e
  .rename_i ds ρ1 h1
   split at e
   .rename_i r0 h2
    split at e
    .rename_i t r1 Z
     split at e
     .rename_i d' h4
      cases e
      have Z:=yi0 Z
      refine⟨_,N,F0,H0,F,ρ,ds,ρ1,rl,h1,fun vs F1 H1 j s1 U=>?_⟩
      obtain⟨p',ys,b1,b2,b3,b4,b5⟩:=j.own i r0 h2
      rw[N]at b1;cases b1
      show spG X.K n mf ((.ref p::vs)++[]) H1 Q E
      rw[append_nil]
      refine⟨by rw[length_cons,U.length,hm ρ ds ρ1 h1,hl],p,vs,F1,r0,ds,t,r1,ys,rfl,b3,b2,j.fh,b4,U,Z p,?_⟩
      cases t with
      |sh g=>
       cases h4
       exact fun v F' H' zs x rg M L I=>q v F' H' (j.lent h2 N x M L I) (s1.trans x.ff) rg
      |fr gs=>
       cases h4
       intro w zs F' H' us x hw fw R O M L I
       have G:w≠p:=fun z=>by rw[z,b3]at hw;cases hw
       have a0:=j.lent h2 N x M L I
       have fz:Ext F' H' (upd F' w (.lst zs)) H'->True:=fun _=>True.intro
       have S:Ext F1 (del H1 p) (upd F' w (.lst zs)) H':=x.freeze fw (by rw[Q5 G];exact hw) R
       have s2:Same F' (upd F' w (.lst zs)):=(Same.refl F').put fw
       exact q _ (upd F' w (.lst zs)) H' (j.lent h2 N S (by rw[x8 (Ne.symm G)];exact M) L (I.mono s2)) (s1.trans S.ff) (.lst (SqL.of x9) (O.mono s2))
      |pr _ _=>cases h4
     .cases e
    .cases e
   .cases e
  .cases e
 .rename_i p00 r00 h0
  obtain⟨N,a2,a5,xs,a3,a4⟩:=rl.ob i p00 r00 h0
  split at e
  .rename_i ds ρ1 h1
   split at e
   .rename_i p r0 h2
    split at e
    .rename_i t r1 Z
     split at e
     .rename_i d' h4
      cases e
      refine⟨_,N,F0,H0,F,ρ,ds,ρ1,rl,h1,fun vs F1 H1 j s1 U=>?_⟩
      obtain⟨b1,b2,b5,ys,b3,b4⟩:=j.ob i p r0 h2
      rw[N]at b1;cases b1
      show spG X.K n mf ((.ref p00::vs)++[]) H1 Q E
      rw[append_nil]
      refine⟨by rw[length_cons,U.length,hm ρ ds ρ1 h1,hl],p00,vs,F1,r0,ds,t,r1,ys,rfl,b3,b2,j.fh,b4,U,Z,?_⟩
      cases t with
      |sh g=>
       cases h4
       exact fun v F' H' zs x rg M L I=>q v F' H' (j.lentB h2 x M L I) (s1.trans x.ff) rg
      |fr gs=>
       cases h4
       intro w zs F' H' us x hw fw R O M L I
       have G:w≠p00:=fun z=>by rw[z,b3]at hw;cases hw
       have S:Ext F1 (del H1 p00) (upd F' w (.lst zs)) H':=x.freeze fw (by rw[Q5 G];exact hw) R
       have s2:Same F' (upd F' w (.lst zs)):=(Same.refl F').put fw
       exact q _ (upd F' w (.lst zs)) H' (j.lentB h2 S (by rw[x8 (Ne.symm G)];exact M) L (I.mono s2)) (s1.trans S.ff) (.lst (SqL.of x9) (O.mono s2))
      |pr _ _=>cases h4
     .cases e
    .cases e
   .cases e
  .cases e
 .cases e
end
end
section
section
variable {X:Cx}{a b c e:Expr}{ma mb:ME}{pos:Pos}
end
end
section
def LtAt (A:Around)(s:Shared)(v u:Value)(k:Bool):Prop:=∀(prog:Program)(w:World)(E:Value->Shared->Prop)(Q:Value->Shared->Prop),Q (.bool k) s->wpAny (model prog w) A (richCompare .Lt v u) Q E s
noncomputable def yt2 (A:Around)(s:Shared):List Value->List Value->Bool->Prop
 |[],[],k=>k=false
 |[],_::_,k=>k=true
 |_::_,[],k=>k=false
 |y::ys,x::xs,k=>∃ e,SeqAt.EqAt A s y x e/\((e=true/\yt2 A s ys xs k)\/(e=false/\LtAt A s y x k))
section
open PySem.SeqAt
open PySem.AutoSeq1 (wpAny_loadPart')
open PySem.MeetsSeq PySem.MeetsSeq2 PySem.MeetsSeq3
set_option maxHeartbeats 4000000 in
theorem xr9 (l b:Addr)(j i:Array Value)(n Y:Nat)(dd U:Option Addr)(sl N:Array (Option Value))(k:Bool):
  Meets (Builtin.«tuple.__lt__» ⟨[.ref l,.ref b],[]⟩)
   (fun A R s=>s.heap.get? l=some { cls:=.type "tuple",dict:=dd,data:=.seq j n,slots:=sl }/\s.heap.get? b=some { cls:=.type "tuple",dict:=U,data:=.seq i Y,slots:=N }/\
    yt2 A.in1 s j.toList i.toList k/\R (.ok (.ret (.bool k))) s):=
 .of_wp fun prog w A R s h=>by
  obtain⟨hp,g,d,tk,os⟩:=s;obtain⟨hl,hb,hx,h⟩:=h
  have f2:=AutoSeq1.sub_tuple_tuple
  wp_walk using wpAny_loadPart' hl,wpAny_loadPart' hb,wpAny_forIn_list _ (fun rest b s'=>b.1=none/\s'=⟨hp,g,d,tk,os⟩/\∃(vs ws:List Value),rest=vs.zip ws/\
   vs.length+i.size=ws.length+j.size/\yt2 A.in1 ⟨hp,g,d,tk,os⟩ vs ws k) _
  case turn=>
   rintro⟨y,x⟩ rest b s' ⟨M,rfl,vs,ws,I,z,G⟩
   cases vs with
   |nil=>rw[zip_nil_left]at I;cases I
   |cons a vs=>
    cases ws with
    |nil=>rw[zip_nil_right]at I;cases I
    |cons c ws=>
     rw[zip_cons_cons]at I
     injection I with O L
     injection O with Z S
     subst Z S
     simp only[length_cons]at z
     obtain⟨e,he,G⟩:=G
     refine wpAny_bind (he prog w _ _ ?_)
     rcases G with⟨rfl,G⟩|⟨rfl,G⟩
     .wp_walk
      exact⟨rfl,rfl,vs,ws,L,by omega,G⟩
     .have hri:=G prog w
      wp_walk using hri
      exact⟨_,rfl,by simpa using h⟩
  case fin=>
   rintro⟨b1,b2⟩ s' ⟨M,rfl,vs,ws,I,z,G⟩
   simp only at M
   subst M
   have hv:k=decide (j.size<i.size):=by
    cases vs with
    |nil=>
     cases ws with
     |nil=>
      simp only[length_nil]at z
      rw[show k=false from G]
      exact(decide_eq_false (by omega)).symm
     |cons c ws=>
      simp only[length_nil,length_cons]at z
      rw[show k=true from G]
      exact(decide_eq_true (by omega)).symm
    |cons a vs=>
     cases ws with
     |nil=>
      simp only[length_nil,length_cons]at z
      rw[show k=false from G]
      exact(decide_eq_false (by omega)).symm
     |cons c ws=>
      rw[zip_cons_cons]at I
      cases I
   rw[hv]at h
   wp_walk
   exact⟨_,rfl,by simpa[Builtin.Tuple.tupleCompareSizes]using h⟩
  case h=>
   exact⟨rfl,rfl,j.toList,i.toList,rfl,by simp;omega,hx⟩
set_option maxHeartbeats 4000000 in
theorem ze7 (l b:Addr)(G j:Array Value)(n n2:Nat)(dd Z:Option Addr)(sl U:Array (Option Value))(r:Bool)(k:Nat):
  ∀ i:Nat,G.size-i=k->i<=G.size->i<=j.size->Meets (Builtin.«list.__eq__.loop» ⟨[.ref l,.ref b,rawInt i,rawInt 0],[]⟩)
   (fun A R s=>s.heap.get? l=some { cls:=.type "list",dict:=dd,data:=.seq G n,slots:=sl }/\s.heap.get? b=some { cls:=.type "list",dict:=Z,data:=.seq j n2,slots:=U }/\
    yt2 A.in1 s (G.toList.drop i) (j.toList.drop i) r/\R (.ok (.ret (.bool r))) s):=by
 induction k with
 |zero=>
  intro i hk h1 h2 prog w A R s h
  obtain⟨hp,g,d,tk,os⟩:=s;obtain⟨N,O,I,h⟩:=h
  wp_walk using wpAny_loadPart' N,wpAny_loadPart' O
  have L:G[((i:Nat):Int).toNat]? =none:=by simp;omega
  have e1:G.toList.drop i=[]:=drop_eq_nil_of_le (by simp;omega)
  rw[e1]at I
  have Y:r=decide (G.size<j.size):=by
   cases e2:j.toList.drop i with
   |nil=>
    rw[e2]at I
    have:j.size<=i:=by simpa using e2
    rw[show r=false from I]
    exact(decide_eq_false (by omega)).symm
   |cons c ws=>
    rw[e2]at I
    have:i<j.size:=by
     rcases Nat.lt_or_ge i j.size with z|z
     .exact z
     .rw[drop_eq_nil_of_le (by simpa using z)]at e2;cases e2
    rw[show r=true from I]
    exact(decide_eq_true (by omega)).symm
  rw[L]
  wp_walk using wpAny_loadPart' N,wpAny_loadPart' O
  rw[Y]at h
  exact h
 |succ k ih=>
  intro i hk h1 h2 prog w A R s h
  obtain⟨hp,g,d,tk,os⟩:=s;obtain⟨N,O,I,h⟩:=h
  have S:i<G.size:=by omega
  have L:G[((i:Nat):Int).toNat]? =some G[i]:=by simp[S]
  have e1:G.toList.drop i=G[i]::G.toList.drop (i+1):=by rw[drop_eq_getElem_cons (by simpa using S)];simp
  have hc:((i:Int)+1)=((i+1:Nat):Int):=by push_cast;rfl
  rw[e1]at I
  by_cases M:i<j.size
  .have hi2:j[((i:Nat):Int).toNat]? =some j[i]:=by simp[M]
   have e2:j.toList.drop i=j[i]::j.toList.drop (i+1):=by rw[drop_eq_getElem_cons (by simpa using M)];simp
   rw[e2]at I
   obtain⟨e,he,I⟩:=I
   wp_walk using wpAny_loadPart' N,wpAny_loadPart' O
   rw[L,hi2]
   refine wpAny_bind (he prog w _ _ ?_)
   rcases I with⟨rfl,I⟩|⟨rfl,I⟩
   .wp_walk
    rw[hc]
    exact⟨plainId_quiet plain_eq_loop _,codeAny_builtin entry_eq_loop (by
     rw[Around.under_plainId plain_eq_loop _]
     exact ih (i+1) (by omega) (by omega) (by omega) prog w A R _ ⟨N,O,I,h⟩)⟩
   .have hri:=I prog w
    wp_walk using wpAny_loadPart' N,wpAny_loadPart' O
    rw[L,hi2]
    wp_walk using hri
    exact h
  .have hi2:j[((i:Nat):Int).toNat]? =none:=by simp;omega
   have e2:j.toList.drop i=[]:=drop_eq_nil_of_le (by simp;omega)
   rw[e2]at I
   have Y:r=decide (G.size<j.size):=by
    rw[show r=false from I]
    exact(decide_eq_false (by omega)).symm
   wp_walk using wpAny_loadPart' N,wpAny_loadPart' O
   rw[L,hi2]
   wp_walk using wpAny_loadPart' N,wpAny_loadPart' O
   rw[Y]at h
   exact h
set_option maxHeartbeats 4000000 in
theorem xk4 (l b:Addr)(j i:Array Value)(n I:Nat)(dd G:Option Addr)(sl z:Array (Option Value))(r:Bool):
  Meets (Builtin.«list.__lt__» ⟨[.ref l,.ref b],[]⟩)
   (fun A R s=>s.heap.get? l=some { cls:=.type "list",dict:=dd,data:=.seq j n,slots:=sl }/\s.heap.get? b=some { cls:=.type "list",dict:=G,data:=.seq i I,slots:=z }/\
    yt2 A.in1 s j.toList i.toList r/\R (.ok (.ret (.bool r))) s):=by
 intro prog w A R s h
 obtain⟨hp,g,d,tk,os⟩:=s;obtain⟨L,M,N,h⟩:=h
 have O:=AutoSeq1.sub_list_list
 wp_walk using wpAny_loadPart' L,wpAny_loadPart' M
 exact⟨plainId_quiet plain_eq_loop _,codeAny_builtin entry_eq_loop (by
  rw[Around.under_plainId plain_eq_loop _]
  exact ze7 l b j i n I dd G sl z r _ 0 rfl (Nat.zero_le _) (Nat.zero_le _) prog w A R _ ⟨L,M,by simpa using N,h⟩)⟩
end
noncomputable def lexF (eq lt:D->D->Option Bool):List D->List D->Option Bool
 |[],[]=>some false
 |[],_::_=>some true
 |_::_,[]=>some false
 |d::ds,e::es=>match eq d e with
  |some true=>lexF eq lt ds es
  |some false=>lt d e
  |none=>none
noncomputable def ltF:Nat->D->D->Option Bool
 |0,_,_=>none
 |n+1,.lst ds,.lst es=>lexF (eqF n) (ltF n) ds es
 |n+1,.tup ds,.tup es=>lexF (eqF n) (ltF n) ds es
 |_+1,.int i,.int j=>some (decide (i<j))
 |_+1,_,_=>none
section
variable {X:Cx}{pins:List (Addr×Obj)}{σ:St}{H:Hp}{s:Shared}
theorem ym1 (I:Inv X pins σ H s)(n:Nat){A:Around}(j:A.units+n<cLine)(i:∀{x y:V}{v u:Value}{d e:D}{k:Bool},Rep X.K H x d->Rep X.K H y e->RelV x v->RelV y u->ltF n d e=some k->LtAt A s v u k):
  ∀{xs ys:List V}{vs us:List Value}{ds es:List D}{k:Bool},Reps X.K H xs ds->Reps X.K H ys es->Vals xs vs->Vals ys us->lexF (eqF n) (ltF n) ds es=some k->yt2 A s vs us k
 |_,_,_,_,_,_,k,.nil,.nil,.nil,.nil,h=>by cases h;exact rfl
 |_,_,_,_,_,_,k,.nil,.cons _ _,.nil,.cons _ _,h=>by cases h;exact rfl
 |_,_,_,_,_,_,k,.cons _ _,.nil,.cons _ _,.nil,h=>by cases h;exact rfl
 |_,_,_,_,_,_,k,.cons (d:=d) r1 t1,.cons (d:=e) r2 t2,.cons q1 p1,.cons q2 p2,h=>by
  unfold lexF at h
  cases hq:eqF n d e with
  |none=>rw[hq]at h;cases h
  |some b=>
   rw[hq]at h
   refine⟨b,(yc4 I n j r1 r2 q1 q2 hq).1,?_⟩
   cases b with
   |true=>exact .inl ⟨rfl,ym1 I n j i t1 t2 p1 p2 h⟩
   |false=>exact .inr ⟨rfl,i r1 r2 q1 q2 h⟩
theorem xu5 (I:Inv X pins σ H s):∀(n:Nat){A:Around}{x y:V}{v u:Value}{d e:D}{k:Bool},A.units+n<cLine->Rep X.K H x d->Rep X.K H y e->RelV x v->RelV y u->ltF n d e=some k->LtAt A s v u k
 |0,A,x,y,v,u,d,e,k,hu,r1,r2,q1,q2,h=>by simp[ltF]at h
 |n+1,A,x,y,v,u,d,e,k,hu,r1,r2,q1,q2,h=>by
  have a0:A.units<cLine:=by omega
  have O:A.in1.units+n<cLine:=by show A.units+1+n<cLine;omega
  cases d with
  |int i=>
   cases e with
   |int j=>
    obtain rfl:=r1.i'
    obtain rfl:=r2.i'
    obtain⟨t,rfl⟩:=q1
    obtain⟨t',rfl⟩:=q2
    cases h
    exact fun prog w E Q hQ=>HT.rcLt_int A s i t j t' prog w E Q hQ
   |_=>cases h
  |lst a7=>
   cases e with
   |lst a6=>
    obtain⟨a1,a5,rfl,sq,rs⟩:=r1.l'
    obtain⟨a2,a4,rfl,S,Y⟩:=r2.l'
    cases q1;cases q2
    obtain⟨its,vr,⟨⟨cls,dd,data,sl⟩,m,ho,hc,a9,hd⟩,_⟩:=I.list sq
    obtain⟨z,R,⟨⟨a3,Z,data2,U⟩,m2,G,N,a8,M⟩,_⟩:=I.list S
    simp only at hc hd N M
    subst hc hd N M
    have L:=ym1 I n O (fun a b c d e=>xu5 I n O a b c d e) rs Y vr R (show lexF (eqF n) (ltF n) _ _=some k from h)
    intro prog w E Q hQ
    exact richCompare_meets_room (op:=.Lt) ⟨_,ho,rfl⟩ ⟨_,G,rfl⟩ PySem.F.slot_list_lt PySem.F.entry_list_lt (PySem.F.args_list_lt_2 _ _) (xk4 _ _ its.toArray z.toArray m m2 dd Z sl U k)
     ⟨ho,G,by simpa using L,show Value.bool k≠Value.notImplemented/\Q (.bool k) s from⟨(fun x=>nomatch x),hQ⟩⟩ a0
   |_=>cases h
  |tup a7=>
   cases e with
   |tup a6=>
    obtain⟨a1,a5,rfl,sq,rs⟩:=r1.t'
    obtain⟨a2,a4,rfl,S,Y⟩:=r2.t'
    cases q1;cases q2
    obtain⟨its,vr,⟨⟨cls,dd,data,sl⟩,ho,hc,m,hd⟩,_⟩:=I.tuple sq
    obtain⟨z,R,⟨⟨a3,Z,data2,U⟩,G,N,m2,M⟩,_⟩:=I.tuple S
    simp only at hc hd N M
    subst hc hd N M
    have L:=ym1 I n O (fun a b c d e=>xu5 I n O a b c d e) rs Y vr R (show lexF (eqF n) (ltF n) _ _=some k from h)
    intro prog w E Q hQ
    exact richCompare_meets_room (op:=.Lt) ⟨_,ho,rfl⟩ ⟨_,G,rfl⟩ PySem.F.slot_tuple_lt PySem.F.entry_tuple_lt (PySem.F.args_tuple_lt_2 _ _) (xr9 _ _ its.toArray z.toArray m m2 dd Z sl U k)
     ⟨ho,G,by simpa using L,show Value.bool k≠Value.notImplemented/\Q (.bool k) s from⟨(fun x=>nomatch x),hQ⟩⟩ a0
   |_=>cases h
  |_=>cases h
end
end
section
def yb0 (X:Cx)(kv:Value)(mk:D->Option D):Prop:=∀(pins:List (Addr×Obj))(σ:St)(H F:Hp)(s:Shared)(x:V)(u:Value)(d kd:D),Inv X pins σ H s->Same F H->Rep X.K F x d->RelV x u->mk d=some kd->
 wpAny (model X.prog X.w) X.A.in1 (call kv [u]) (fun w s'=>∃ y F' H',Inv X pins σ H' s'/\RelV y w/\Ext F H F' H'/\Rep X.K F' y kd) (fun _ _=>False) s
noncomputable def shOf:Option Rt->Option D
 |some (.sh d)=>some d
 |some (.fr es)=>some (.lst es)
 |_=>none
theorem yd4 {X:Cx}{k:Nat}{f:Addr}{fd:FuncData}{p:Str}{m:MF}(F:FnOk X.prog X.w X.K X.mg X.base CX0 k f fd [p] (spR X.K 1 m))(S:Room k X.A.in1)(U:Binds X.K fd [p] []):yb0 X (.ref f) (fun d=>shOf (m [d])):=by
 intro pins σ H L s x u d kd I M r rx hm
 have hm:shOf (m [d])=some kd:=hm
 have sp:spR X.K 1 m [x] H (fun v H'=>∃ F',Ext L H F' H'/\Rep X.K F' v kd) E0:=by
  cases h:m [d]with
  |none=>rw[h]at hm;cases hm
  |some t=>
   rw[h]at hm
   cases t with
   |sh g=>cases hm;exact⟨rfl,L,[d],_,M,.cons r .nil,h,fun v F' H' j G=>⟨F',j,G⟩⟩
   |fr gs=>cases hm;exact⟨rfl,L,[d],_,M,.cons r .nil,h,fun q xs F' H' j hp N Y R=>⟨upd F' q (.lst xs),j.freeze N hp Y,.lst (SqL.of x9) (R.mono ((Same.refl F').put N))⟩⟩
   |pr _ _=>cases hm
 have i:=I.env0
 have env:Env0 X.prog X.w X.K X.mg X.base X.A.in1 X.stack s H:=⟨i.frames,i.mod,i.bs,i.bsz,i.funs,i.frf,i.hok,i.bare⟩
 refine wpAny_call (codeAny_mono (F.run X.A.in1 X.stack s H ⟨[u],[]⟩ [u] [x] _ E0 S env (U s [u] I.kIn rfl) (.cons rx .nil) sp) fun r s' z=>?_)
 cases r with
 |error e=>exact z.elim
 |ok Z=>
  cases Z with
  |ret v=>
   obtain⟨y,H',I',O,F',j,G⟩:=I.after z
   exact⟨y,F',H',I',O,j,G⟩
  |next=>exact z.elim
  |brk=>exact z.elim
  |cont=>exact z.elim
noncomputable def minF (mk:D->Option D):List D->D->D->Option D
 |[],b,_=>some b
 |d::ds,b,kb=>match mk d with
  |some kd=>(match ltF 8 kd kb with |some true=>minF mk ds d kd|some false=>minF mk ds b kb|none=>none)
  |none=>none
section
variable {X:Cx}{pins:List (Addr×Obj)}{σ:St}
theorem FpOk.now {H H':Hp}{b:Addr}(h:FpOk X pins H b)(hn:H' b=none):FpOk X pins H' b:=⟨hn,h.2⟩
theorem Inv.pin2 {H:Hp}{s:Shared}{a b:Addr}{i ob:Obj}(I:Inv X pins σ H s)(ha:FpOk X pins H a)(j:FpOk X pins H b)(G:s.heap.get? a=some i)(z:s.heap.get? b=some ob)(M:∀ v,i.data≠ .cell v)(L:∀ v,ob.data≠ .cell v):Inv X (pins++[(a,i),(b,ob)]) σ H s:=
 I.pins_of fun p hp=>by
  rcases List.mem_append.mp hp with hp|hp
  .exact I.pin p (mem_append_right _ hp)
  .simp only[mem_cons,not_mem_nil,or_false]at hp
   rcases hp with rfl|rfl
   .exact⟨G,ha.1,ha.2.1,ha.2.2.1,M⟩
   .exact⟨z,j.1,j.2.1,j.2.2.1,L⟩
set_option maxHeartbeats 8000000 in
theorem ye3 {q:Addr}{mk:D->Option D}(hk:yb0 X (.ref q) mk)(hc:X.calm=true)(hu:X.A.units+64<cLine){l I S:Addr}{xs:List V}{ds:List D}{kw:List (Str×Value)}{dm:D}(Z:I≠S)(ae:l≠I)(ad:l≠S):
  ∀(r j:Nat)(H F H0 F0:Hp)(s:Shared)(xb yb:V)(N O:Value)(db G:D)(c:Nat)(R:Result->Shared->Prop),
   ds.length-(j+1)=r->j+1<=ds.length->Inv X pins σ H s->Ext F0 H0 F H->SqL X.K H l xs->Reps X.K F xs ds->s.heap.IsListIter I l (j+1)->s.heap.get? S=some (seqObj "list" #[N,O] c)->FpOk X pins H I->FpOk X pins H S->
   RelV xb N->Rep X.K F xb db->RelV yb O->Rep X.K F yb G->minF mk (ds.drop (j+1)) db G=some dm->
   (∀ x v F' H' s',Inv X pins σ H' s'->RelV x v->Ext F0 H0 F' H'->Rep X.K F' x dm->R (.ok (.ret v)) s')->
   codeAny (model X.prog X.w) X.A (.builtin "min.loop" ⟨[.ref I,.ref q,.ref S],kw⟩) R s:=by
 have M:(toString "min"++toString ".loop":String)="min.loop":=by decide
 intro r
 induction r with
 |zero=>
  intro j H F H0 F0 s xb yb N O db G c R hr hj I' ext sq rs Y hS fI fS rb pb ry py hm hR
  have a9:j+1=ds.length:=by omega
  obtain⟨its,vr,pl,_⟩:=I'.list sq
  have zl:its.length=ds.length:=by rw[<-vr.length,rs.length]
  rw[a9,drop_length]at hm
  have hm:some db=some dm:=hm
  cases hm
  refine codeAny_builtin PySem.F.entry_min_loop ?_
  rw[Around.under_plainId PySem.F.plain_min_loop _]
  show wpAny _ X.A.in1 (seqItems? (.ref S) >>= _) _ _ _
  refine wpAny_bind (wpAny_seqItems hS rfl ?_)
  show wpAny _ X.A.in1 (tryCatch (pyNext (.ref I)) _ >>= _) _ _ _
  refine wpAny_bind (wpAny_tryCatch (wpAny_pyNext_list_end (I'.ok.hd hc) Y pl.isList (by simp;omega) fun h' a4=>?_))
  have ac:h'.get? S=some (seqObj "list" #[N,O] c):=a4 S _ (Ne.symm Z) hS
  have s1:=Heap.SameBut.update h' S (Obj.mapSeq fun _=>(#[]:Array Value))
  show wpAny _ X.A.in1 (updateSeq S (fun _=>#[]) >>= _) _ _ _
  refine wpAny_bind ?_
  refine wpAny_updateSeq ac rfl (wpAny_bind (wpAny_letGo (wpAny_pure ?_)))
  have I9:Inv X pins σ H { s with heap:=h'.update S (Obj.mapSeq fun _=>(#[]:Array Value)),toks:=s.toks }:=I'.turnedL (fp:=[I,S]) (t':=s.toks) (fun b o i e=>by
   simp only[mem_cons,not_mem_nil,or_false,not_or]at i
   exact(s1.2 b i.2).trans (a4 b o i.1 e)) (fun b i=>by
   simp only[mem_cons,not_mem_nil,or_false]at i
   rcases i with rfl|rfl <;> assumption)
  exact hR xb N F H _ I9 rb ext pb
 |succ r ih=>
  intro j H F H0 F0 s xb yb N O db G c R hr hj I' ext sq rs Y hS fI fS rb pb ry py hm hR
  have U:j+1<ds.length:=by omega
  obtain⟨its,vr,pl,_⟩:=I'.list sq
  have zl:its.length=ds.length:=by rw[<-vr.length,rs.length]
  obtain⟨d,hd⟩:∃ d,ds[j+1]? =some d:=⟨_,getElem?_eq_getElem U⟩
  obtain⟨x,hx,px⟩:=rs.get hd
  obtain⟨v,hv,rx⟩:=vr.get hx
  rw[W7 hd]at hm
  unfold minF at hm
  cases hkd:mk d with
  |none=>rw[hkd]at hm;cases hm
  |some kd=>
   rw[hkd]at hm
   dsimp only at hm
   refine codeAny_builtin PySem.F.entry_min_loop ?_
   rw[Around.under_plainId PySem.F.plain_min_loop _]
   show wpAny _ X.A.in1 (seqItems? (.ref S) >>= _) _ _ _
   refine wpAny_bind (wpAny_seqItems hS rfl ?_)
   show wpAny _ X.A.in1 (tryCatch (pyNext (.ref I)) _ >>= _) _ _ _
   refine wpAny_bind (wpAny_tryCatch (wpAny_pyNext_list_item Y pl.isList (by simpa using hv) fun h1 a6 s1=>?_))
   have I1:Inv X pins σ H { s with heap:=h1,toks:=s.toks }:=I'.turnedL (fp:=[I]) (fun b o i e=>s1.extBut b o (by simpa using i) e) (fun b i=>by rw[List.mem_singleton.mp i];exact fI)
   have ab:h1.get? S=some (seqObj "list" #[N,O] c):=s1.extBut _ _ (Ne.symm Z) hS
   obtain⟨oI,eI,cI,dI⟩:=id a6
   have Ip:=I1.pin2 fI fS eI ab (fun v z=>by rw[dI]at z;cases z) (fun v z=>by cases z)
   show wpAny _ X.A.in1 (tryCatch (holding [v] (call (.ref q) [v])) _ >>= _) _ _ _
   refine wpAny_bind (wpAny_tryCatch (wpAny_holding (wpAny_mono (hk (pins++[(I,oI),(S,seqObj "list" #[N,O] c)]) σ H F _ x v d kd Ip ext.fh px rx hkd) (fun w s2 hw=>?_) fun _ _ z=>z.elim)))
   obtain⟨y,F2,H2,I2,a2,L,a3⟩:=hw
   have pI:=I2.pin (I,oI) (by simp)
   have pS:=I2.pin (S,seqObj "list" #[N,O] c) (by simp)
   have a1:Inv X pins σ H2 s2:=I2.unpinned
   have a8:FpOk X pins H2 I:=fI.now pI.2.1
   have a0:FpOk X pins H2 S:=fS.now pS.2.1
   have a5:s2.heap.IsListIter I l (j+1+1):=⟨oI,pI.1,cI,dI⟩
   cases hlt8:ltF 8 kd G with
   |none=>rw[hlt8]at hm;cases hm
   |some bt=>
    rw[hlt8]at hm
    have a7:=xu5 a1 8 (A:=X.A.in1) (by show X.A.units+1+8<cLine;omega) (a3.mono L.fh) ((py.mono L.ff).mono L.fh) a2 ry hlt8
    show wpAny _ X.A.in1 (tryCatch (holding [v,w] (richCompare .Lt w O >>= _)) _ >>= _) _ _ _
    refine wpAny_bind (wpAny_tryCatch (wpAny_holding (wpAny_bind (a7 X.prog X.w _ _ ?_))))
    refine wpAny_bind (wpAny_holding (wpAny_truthy_bool ?_))
    refine wpAny_bind (wpAny_letGo (wpAny_pure ?_))
    cases bt with
    |true=>
     have s3:=Heap.SameBut.update s2.heap S (Obj.mapSeq fun _=>#[v,w])
     obtain⟨c2,aa⟩:∃ c2,(s2.heap.update S (Obj.mapSeq fun _=>#[v,w])).get? S=some (seqObj "list" #[v,w] c2):=⟨_,get?_update_seq pS.1 fun _=>#[v,w]⟩
     simp only[if_true]
     refine wpAny_bind ?_
     refine wpAny_updateSeq pS.1 rfl (wpAny_bind (wpAny_letGo ?_))
     rw[M]
     have I3:Inv X pins σ H2 { s2 with heap:=s2.heap.update S (Obj.mapSeq fun _=>#[v,w]),toks:=s2.toks }:=a1.turnedL (fp:=[S]) (fun b o i e=>(s3.2 b (by simpa using i)).trans e) (fun b i=>by rw[List.mem_singleton.mp i];exact a0)
     refine wpAny_pure ⟨plainId_quiet PySem.F.plain_min_loop _,ih (j+1) H2 F2 H0 F0 _ x y v w d kd c2 R (by omega) U I3 (ext.trans L) (L.hh.seq sq) (rs.mono L.ff) ⟨oI,(s3.2 I Z).trans pI.1,cI,dI⟩ aa a8 a0 rx (px.mono L.ff) a2 a3 hm hR⟩
    |false=>
     simp only[Bool.false_eq_true,if_false]
     refine wpAny_bind (wpAny_letGo ?_)
     rw[M]
     refine wpAny_pure ⟨plainId_quiet PySem.F.plain_min_loop _,ih (j+1) H2 F2 H0 F0 _ xb yb N O db G c R (by omega) U a1 (ext.trans L) (L.hh.seq sq) (rs.mono L.ff) a5 pS.1 a8 a0 rb (pb.mono L.ff) ry (py.mono L.ff) hm hR⟩
end
end
section
section
variable {X:Cx}{pins:List (Addr×Obj)}{σ:St}
end
end
section
section
variable {prog:Program}{w:World}{A:Around}{E:Value->Shared->Prop}{s:Shared}
theorem B3:isSubtype (.type "range_iterator") (.type "reversed")=pure false:=by rw[isSubtype_type];kernel_rfl
noncomputable def zn1 (x left step:Int):Obj:={ cls:=.type "range_iterator",dict:=none,data:=.fields #[rawInt x,rawInt left,rawInt step],slots:=#[] }
theorem M6 {l:Addr}{j:Int}{t u v:Tok}{Q:Value->Shared->Prop}(i:IsRange s.heap l 0 j 1 t u v)(h1:-(2^62)<=j)(h2:j<2^62)
  (h:Q (.ref s.heap.objs.size) { s with heap:=s.heap.push (zn1 ((j.toNat:Int)-1) j.toNat (-1)) }):wpAny (model prog w) A (call (.builtin "range.__reversed__") [.ref l]) Q E s:=by
 have I:s.TypeIs (.ref l) "range":=⟨_,i,rfl⟩
 refine wpAny_call_entry F.slot_range_reversed I F.entry_range_reversed ?_ (F.args_range_reversed_1 _)
 have z:Builtin.Range.rangeSize 0 j 1=(j.toNat:Int):=by rw[rangeSize_one];split <;> omega
 unfold Builtin.«range.__reversed__»
 refine wpAny_bind (wpAny_of_eq (a:=Value.ref l) rfl ?_)
 unfold Builtin.Range.rangeFields
 refine wpAny_bind ?_
 refine wpAny_bind (wpAny_field i rfl (x:=.int 0 t) rfl ?_)
 refine wpAny_bind (wpAny_of_eq (a:=some (0:Int)) rfl ?_)
 refine wpAny_bind (wpAny_field i rfl (x:=.int j u) rfl ?_)
 refine wpAny_bind (wpAny_of_eq (a:=some j) rfl ?_)
 refine wpAny_bind (wpAny_field i rfl (x:=.int 1 v) rfl ?_)
 refine wpAny_bind (wpAny_of_eq (a:=some (1:Int)) rfl ?_)
 refine wpAny_pure ?_
 dsimp only
 rw[z]
 have G:(Builtin.Range.rangeFitsLong 0&&Builtin.Range.rangeFitsLong j&&Builtin.Range.rangeFitsLong 1&&Builtin.Range.rangeFitsLong (-1)&&Builtin.Range.rangeFitsLong (0-1)&&Builtin.Range.rangeFitsLong (j.toNat:Int))=true:=by
  simp only[Builtin.Range.rangeFitsLong,Bool.and_eq_true,decide_eq_true_eq]
  omega
 simp only[G,Bool.not_true,Bool.false_eq_true,if_false,if_true]
 have e:(0:Int)+((j.toNat:Int)-1)*1=(j.toNat:Int)-1:=by omega
 rw[e]
 exact wpAny_bind (wpAny_newObj_type (wpAny_pure ⟨_,rfl,h⟩))
theorem J8 {l:Addr}{j:Int}{t u v:Tok}{Q₁:Value->Shared->Prop}(i:IsRange s.heap l 0 j 1 t u v)(h1:-(2^62)<=j)(h2:j<2^62)
  (h:Q₁ (.ref s.heap.objs.size) { s with heap:=s.heap.push (zn1 ((j.toNat:Int)-1) j.toNat (-1)) }):
  codeAny (model prog w) A (.call (.builtin "reversed.__new__") ⟨[.type "reversed",.ref l],[]⟩) (wants Q₁ E) s:=by
 have z:s.TypeIs (.ref l) "range":=⟨_,i,rfl⟩
 refine codeAny_of_tree ?_
 show wpAny _ A.in1 (do checkBuiltinCall "reversed.__new__" ⟨[.type "reversed",.ref l],[]⟩;again (.builtin "reversed.__new__" ⟨[.type "reversed",.ref l],[]⟩)) _ _ s
 refine wpAny_bind (wpAny_of_eq (F.newCall_reversed_1 _) (wpAny_pure ⟨plainId_quiet F.plain_reversed_new _,codeAny_builtin F.entry_reversed_new ?_⟩))
 rw[Around.under_plainId F.plain_reversed_new _]
 unfold Builtin.«reversed.__new__»
 refine wpAny_bind (wpAny_of_eq (newClass_reversed _) ?_)
 try dsimp only
 refine wpAny_bind (wpAny_of_eq (a:=()) (by first|rfl|kernel_rfl) ?_)
 refine wpAny_bind (wpAny_of_eq (a:=()) (by first|rfl|kernel_rfl) ?_)
 try dsimp only
 refine wpAny_bind (wpAny_specialOf z F.slot_range_reversed.lookup ?_)
 try dsimp only
 refine wpAny_bind (wpAny_of_eq (F.slot_range_reversed.bind _) ?_)
 try dsimp only
 first
 |rw[if_neg (show ¬ ((Value.builtin "range.__reversed__"==Value.none)=true)from Bool.false_ne_true)]
 | (show wpAny _ _ (if (Value.builtin "range.__reversed__"==Value.none)=true then _ else _) _ _ _;rw[if_neg (show ¬ ((Value.builtin "range.__reversed__"==Value.none)=true)from Bool.false_ne_true)])
 refine wpAny_bind (wpAny_rule ?_)
 refine wpAny_bind (m:=runValue (.call (.builtin "range.__reversed__") ⟨[.ref l],[]⟩)) (show wpAny _ _ (call (.builtin "range.__reversed__") [.ref l]) _ _ _ from M6 i h1 h2 ?_)
 first
 |exact wpAny_pure h
 |exact wpAny_bind (wpAny_pure (wpAny_pure h))
theorem M5 {l:Addr}{j:Int}{t u v:Tok}{Q:Value->Shared->Prop}(z:IsRange s.heap l 0 j 1 t u v)(h1:-(2^62)<=j)(h2:j<2^62)
  (h:Q (.ref s.heap.objs.size) { s with heap:=s.heap.push (zn1 ((j.toNat:Int)-1) j.toNat (-1)) }):wpAny (model prog w) A (call (.type "reversed") [.ref l]) Q E s:=by
 refine callType_other (U:="range_iterator") (Q₁:=fun obj i=>obj= .ref s.heap.objs.size/\i={ s with heap:=s.heap.push (zn1 ((j.toNat:Int)-1) j.toNat (-1)) }) (by decide +kernel) F.create_reversed ⟨_,_,F.mro_reversed⟩ F.made_reversed B3 (F.typeCall_reversed_1 _) (J8 z h1 h2 ⟨rfl,rfl⟩) ?_
 rintro obj i ⟨rfl,rfl⟩
 exact⟨⟨_,Heap.get?_push_size _ rfl,rfl⟩,h⟩
end
noncomputable def Itdn (hi:Int)(n:Nat):It:=⟨fun i _=>i<n,fun i H x H'=>H'=H/\x= .int (hi-i),fun i _=>n<=i⟩
theorem ys1 {P:Program}{w:World}{K:PySem.W.Frag}{tg:Expr}(it:Addr)(lo:Int)(n:Nat):Turn P w K tg (Itdn lo n) [it] it (fun i h=>IsRangeIter h it (lo+(i:Nat)*(-1)) ((n:Int)-(i:Nat)) (-1)) where
 mem:=by simp
 obj:=fun i h st b j=>by
  have e:b=it:=by simpa using j
  subst e
  exact⟨_,st,fun v z=>by
   have z':Data.fields _=Data.cell v:=z
   cases z'⟩
 keep:=fun i h h' st k=>k it (by simp) _ st
 item:=by
  intro X O hw R N i pins s σ H E I L st M
  subst O hw R
  obtain⟨f0,Z,f2,Y,U,S⟩:=L it (by simp)
  have W:=Walks.range (prog:=X.prog) (w:=X.w) (I.ok.hd N) it lo (-1) n
  refine W.item i s _ _ M st fun v h' tk hv G kk=>?_
  obtain⟨t,rfl⟩:=hv
  have I1:Inv X pins σ H { s with heap:=h',toks:=tk }:=I.turned (fun b o j e=>kk b o (by simpa using j) e) f0 Z Y U S
  refine⟨_,rfl,xt0 (s:={ s with heap:=h',toks:=tk }) (n:="range_iterator") G rfl rfl (by decide) ⟨.int (lo-i),H,I1,⟨t,?_⟩,⟨rfl,rfl⟩,G,fun b j=>(L b j).1⟩⟩
  rw[show lo+(i:Int)*(-1)=lo-i by omega]
 done:=by
  intro X O hw R N i pins s σ H E I L st M
  subst O hw R
  obtain⟨f0,Z,f2,Y,U,S⟩:=L it (by simp)
  exact wpAny_pyNext_range_end (I.ok.hd N) st (by have:n<=i:=M;omega) fun h' eb=>⟨rfl,I.turned (t':=s.toks) (fun b o j e=>eb b o j e) f0 Z Y U S⟩
 self:=fun _ _ _ _ _ st h=>wpAny_pyIter_rangeiter st h
section
variable {X:Cx}
noncomputable def zp0 (n:Nat):List D:=(List.range n).map fun(i:Nat)=>D.int ((n:Int)-1-(i:Int))
theorem C3 (n:Nat):(zp0 n).length=n:=by unfold zp0;simp
theorem yd7 {K:W.Frag}{F:Hp}{n:Nat}:ItD K F (Itdn ((n:Int)-1) n) (zp0 n) where
 go:=fun i F1 H1 a b hi=>by rw[C3]at hi;exact hi
 yld:=fun i F1 H1 x H2 d a b e y=>by
  obtain⟨rfl,rfl⟩:=y
  unfold zp0 at e
  rw[getElem?_map]at e
  have hi:i<n:=by
   rcases Nat.lt_or_ge i n with h|h
   .exact h
   .rw[getElem?_eq_none (by simpa using h)]at e;cases e
  rw[getElem?_range hi]at e
  cases e
  exact⟨F1,.refl b,.int _⟩
 stop:=fun F1 H1 a b=>by rw[C3];exact Nat.le_refl n
noncomputable def rngD:List D->Option (List D)
 |[.int j]=>if okR j=true then some (zp0 j.toNat)else none
 |_=>none
theorem zn8 {tg a:Expr}{m:ML}{p p2 pos i:Pos}(hg:Gl X "reversed")(hm:X.mg "reversed"=none)(S:Gl X "range")(O:X.mg "range"=none)(ha:PAs X [a] m)(he:starEach [a] X.env=(false,eval a X.env)::starEach [] X.env:=by rfl)
  (z:∀ pos,(backTo pos (starEach [] X.env)).any (·.1)=false:=by intro _;rfl)
  (U:starEach (Expr.Call (.Name "range" p2) [a] [] i::[]) X.env=(false,eval (Expr.Call (.Name "range" p2) [a] [] i) X.env)::starEach [] X.env:=by rfl):
  PId X tg (.Call (.Name "reversed" p) [.Call (.Name "range" p2) [a] [] i] [] pos) (Y3 rngD m):=by
 intro pins s σ H R I h
 obtain⟨F0,H0,F,ρ,its,rl,e,q⟩:=h
 obtain⟨ds,h1,h2⟩:=N1 e
 have A:=g5 (zm1 yj3 S O boot_range ha (by decide) (by decide) he (z _)) pa_nil U pos pins s σ H (fun vs H1=>∃ p j F1 H2,vs=[.ref p]/\ds=[.int j]/\H2 p=none/\H1=upd H2 p (.rng 0 j)/\Ext F H F1 H2) I ⟨F0,H0,F,ρ,ds,rl,h1,fun vs F1 H1 M r1=>by
  unfold rngD at h2
  split at h2
  .rename_i j
   cases r1 with
   |cons r rr=>
    cases rr;cases r
    exact⟨j,rfl,fun p hp=>⟨p,j,F1,H1,rfl,rfl,hp,rfl,M⟩⟩
  .cases h2⟩
 refine Call_ (J3 I hg hm boot_reversed (PyProof.Rows.callWith_type1 (thn A fun us s1 G=>?_) U (z _)))
 obtain⟨vs,H1,N,r1,q1⟩:=G
 obtain⟨l,j,F1,H2,ev,ed,hn,eH,M⟩:=q1
 subst ev ed eH
 obtain⟨u,rfl,Z⟩:=zz6 r1
 cases Z
 have h2:(if okR j=true then some (zp0 j.toNat)else none)=some its:=h2
 split at h2
 case isFalse=>cases h2
 rename_i hk
 cases h2
 unfold okR at hk
 simp only[Bool.and_eq_true,decide_eq_true_eq]at hk
 obtain⟨t,u,v,eo⟩:=N.hok l _ x9
 refine M5 (j:=j) eo hk.1 hk.2 ?_
 have L:IsRangeIter (s1.heap.push (zn1 ((j.toNat:Int)-1) j.toNat (-1))) s1.heap.objs.size ((j.toNat:Int)-1) j.toNat (-1):=Heap.get?_push_size _ rfl
 refine wpAny_pyIter_rangeiter L ?_
 have Y:Ext F H F1 (upd H2 l (.rng 0 j)):=M.trans (Ext.own M.fh hn)
 refine⟨s1.heap.objs.size,[s1.heap.objs.size],_,_,_,rfl,N.kept (t':=s1.toks) fun b o e=>Heap.get?_push_of_some _ e,ys1 _ ((j.toNat:Int)-1) j.toNat,?_,fun b hb=>?_,q _ F1 _ Y yd7⟩
 .have e1:((j.toNat:Int)-1)+((0:Nat):Int)*(-1)=(j.toNat:Int)-1:=by simp
  have e2:((j.toNat:Nat):Int)-((0:Nat):Int)=j.toNat:=by simp
  show IsRangeIter _ _ (((j.toNat:Int)-1)+((0:Nat):Int)*(-1)) (((j.toNat:Nat):Int)-((0:Nat):Int)) (-1)
  rw[e1,e2]
  exact L
 .have e:b=s1.heap.objs.size:=by simpa using hb
  subst e
  exact N.fpOk (Nat.le_refl _) (N.hok.fresh (Nat.le_refl _))
end
end
section
section
variable {X:Cx}{a b:Expr}{pos:Pos}
end
end
section
section
variable {X:Cx}{e:Expr}{pos:Pos}{es:List Expr}{E:XK}{mf:MG}{st:Stmt}{na:MEm}
end
section
variable {X:Cx}{a b:Expr}{pos:Pos}
noncomputable def zr4 (n:Nat)(k:Int):Bool:=decide (-(2^62)<=k)&&decide (k<2^62)&&decide (n*k.toNat<=sizeLine)
@[irreducible] noncomputable def mrep (x:ML)(y:ME):ML:=fun ρ=>(x ρ).bind fun ds=>match y ρ with
 |some (.int k)=>if zr4 ds.length k=true then some (List.replicate k.toNat ds).flatten else none
 |_=>none
theorem yo8 {x:ML}{y:ME}{ρ:Ro}{i:List D}(h:mrep x y ρ=some i):∃ ds k,x ρ=some ds/\y ρ=some (.int k)/\zr4 ds.length k=true/\i=(List.replicate k.toNat ds).flatten:=by
 unfold mrep at h
 cases h1:x ρ with
 |none=>rw[h1]at h;cases h
 |some ds=>
  rw[h1,Option.bind_some]at h
  split at h
  .rename_i k h2
   split at h
   .rename_i hk
    exact⟨ds,k,rfl,h2,hk,(Option.some.inj h).symm⟩
   .cases h
  .cases h
theorem zf7 {x:ML}{y:ME}{ρ:Ro}{ds:List D}{k:Int}(h1:x ρ=some ds)(h2:y ρ=some (.int k))(hk:zr4 ds.length k=true):mrep x y ρ=some (List.replicate k.toNat ds).flatten:=by
 unfold mrep
 rw[h1,Option.bind_some,h2]
 simp only[hk,if_true]
theorem zn2 {K:W.Frag}{F:Hp}{xs:List V}{ds:List D}(r:Reps K F xs ds):∀ k:Nat,Reps K F (List.replicate k xs).flatten (List.replicate k ds).flatten
 |0=>.nil
 |k+1=>by
  rw[replicate_succ,replicate_succ,flatten_cons,flatten_cons]
  exact r.append (zn2 r k)
theorem zn9 {x:ML}{y:ME}(ha:PF X a x)(L:PD X b y):PF X (.BinOp a .Mult b pos) (mrep x y):=(yf0 xn2 ha L).imp fun σ H Q j=>by
 obtain⟨F0,H0,F,ρ,g,I,e,q⟩:=j
 obtain⟨ds,k,h1,h2,hk,rfl⟩:=yo8 e
 unfold zr4 at hk
 simp only[Bool.and_eq_true,decide_eq_true_eq]at hk
 refine⟨F0,H0,F,ρ,ds,I,h1,fun p xs F1 H1 G N O M r1=>⟨F0,H0,F1,ρ,.int k,I.go G,h2,fun v F2 H2 i r2=>?_⟩⟩
 cases r2
 refine⟨p,k,xs,rfl,rfl,i.hh _ _ M,by omega,by omega,by rw[r1.length];exact hk.2,fun w hw=>?_⟩
 have z:=G.trans i
 exact q w _ F2 _ (z.trans (Ext.own i.fh hw)) (z.hh.free hw) (i.fh.free hw) x9 (zn2 (r1.mono i.ff) k.toNat)
end
end
section
noncomputable def minN (mk:D->Option D)(ds:List D):Option D:=match ds with
 |[]=>none
 |d::ds=>(match mk d with |some kd=>minF mk ds d kd|none=>none)
section
variable {X:Cx}{pins:List (Addr×Obj)}{σ:St}
set_option maxHeartbeats 8000000 in
theorem ye2 {q:Addr}{mk:D->Option D}(hk:yb0 X (.ref q) mk)(hc:X.calm=true)(hu:X.A.units+64<cLine){l:Addr}{xs:List V}{ds:List D}{dm:D}{H F:Hp}{s:Shared}{E:Value->Shared->Prop}{Q:Value->Shared->Prop}
  (I:Inv X pins σ H s) (sf:Same F H) (sq:SqL X.K H l xs) (rs:Reps X.K F xs ds) (hm:minN mk ds=some dm)
  (hQ:∀ x v F' H' s',Inv X pins σ H' s'->RelV x v->Ext F H F' H'->Rep X.K F' x dm->Q v s'):
  wpAny (model X.prog X.w) X.A (call (.builtin "min") [.ref l] [(Str.ofString "key",.ref q)]) Q E s:=by
 have j:(toString "min"++toString ".loop":String)="min.loop":=by decide
 obtain⟨its,vr,pl,_⟩:=I.list sq
 have O:=pl.isList
 obtain⟨ol,a3,_⟩:=id O
 have R:l<s.heap.objs.size:=Heap.lt_size a3
 refine kmk_tree PySem.F.kind_min PySem.F.plain_min PySem.F.entry_min (kmk_min_key _ _) ?_
 show wpAny _ X.A.in1 (Builtin.Builtins.bindParams "min" ["key","default"] 0 ⟨[],[(Str.ofString "key",.ref q)]⟩ >>= _) _ _ s
 refine wpAny_bind (wpAny_of_eq (show Builtin.Builtins.bindParams "min" ["key","default"] 0 ⟨[],[(Str.ofString "key",.ref q)]⟩=pure [some (.ref q),none]from rfl) ?_)
 refine wpAny_bind (wpAny_pure ?_)
 refine wpAny_bind (wpAny_pyIter_list O ?_)
 refine wpAny_bind (wpAny_newList ?_ (Nat.zero_le _))
 rw[j]
 refine wpAny_pure ⟨plainId_quiet PySem.F.plain_min_loop _,?_⟩
 generalize L:({ cls:=.type "list_iterator",data:=.fields #[.ref l,.int 0 0] }:Obj)=oI0
 have hS:(s.heap.push oI0).objs.size=s.heap.objs.size+1:=size_push' ..
 have a5:l≠s.heap.objs.size:=Nat.ne_of_lt R
 have a4:l≠(s.heap.push oI0).objs.size:=by rw[hS];exact Nat.ne_of_lt (Nat.lt_succ_of_lt R)
 have M:s.heap.objs.size≠(s.heap.push oI0).objs.size:=by rw[hS];exact Nat.ne_of_lt (Nat.lt_succ_self _)
 have gI:((s.heap.push oI0).push (seqObj "list" #[] 0)).get? s.heap.objs.size=some oI0:=Heap.get?_push_of_some _ (Heap.get?_push_size _ (by rw[<-L];rfl))
 have gS:((s.heap.push oI0).push (seqObj "list" #[] 0)).get? (s.heap.push oI0).objs.size=some (seqObj "list" #[] 0):=Heap.get?_push_size _ rfl
 have fI:FpOk X pins H s.heap.objs.size:=I.fpOk (Nat.le_refl _) (I.hok.fresh (Nat.le_refl _))
 have fS:FpOk X pins H (s.heap.push oI0).objs.size:=I.fpOk (by rw[hS];exact Nat.le_succ _) (I.hok.fresh (by rw[hS];exact Nat.le_succ _))
 have I0:Inv X pins σ H { s with heap:=(s.heap.push oI0).push (seqObj "list" #[] 0),toks:=s.toks }:=I.turnedL (fp:=[]) (fun b o _ e=>Heap.get?_push_of_some _ (Heap.get?_push_of_some _ e)) (fun b G=>by cases G)
 generalize (s.heap.push oI0).objs.size=S at*
 generalize hI:s.heap.objs.size=J at*
 generalize (s.heap.push oI0).push (seqObj "list" #[] 0)=h0 at*
 have a6:h0.IsListIter J l 0:=⟨_,gI,by rw[<-L],by rw[<-L];rfl⟩
 have zl:its.length=ds.length:=by rw[<-vr.length,rs.length]
 obtain⟨its',N,a2,_⟩:=I0.list sq
 have ab:its'.length=ds.length:=by rw[<-N.length,rs.length]
 refine codeAny_builtin PySem.F.entry_min_loop ?_
 rw[Around.under_plainId PySem.F.plain_min_loop _]
 show wpAny _ X.A.in1 (seqItems? (.ref S) >>= _) _ _ _
 refine wpAny_bind (wpAny_seqItems gS rfl ?_)
 show wpAny _ X.A.in1 (tryCatch (pyNext (.ref J)) _ >>= _) _ _ _
 cases ds with
 |nil=>cases hm
 |cons d ds=>
  obtain⟨x,hx,px⟩:=rs.get (i:=0) (d:=d) rfl
  obtain⟨v,hv,rx⟩:=N.get hx
  unfold minN at hm
  dsimp only at hm
  cases hkd:mk d with
  |none=>rw[hkd]at hm;cases hm
  |some kd=>
   rw[hkd]at hm
   dsimp only at hm
   refine wpAny_bind (wpAny_tryCatch (wpAny_pyNext_list_item a6 a2.isList (by simpa using hv) fun h1 U s1=>?_))
   have I1:=I0.turnedL (h':=h1) (t':=s.toks) (fp:=[J]) (fun b o G e=>s1.extBut b o (by simpa using G) e) (fun b G=>by rw[List.mem_singleton.mp G];exact fI)
   have a8:h1.get? S=some (seqObj "list" #[] 0):=s1.extBut _ _ (Ne.symm M) gS
   obtain⟨oI,eI,cI,dI⟩:=id U
   have Ip:=I1.pin2 fI fS eI a8 (fun v z=>by rw[dI]at z;cases z) (fun v z=>by cases z)
   show wpAny _ X.A.in1 (tryCatch (holding [v] (call (.ref q) [v])) _ >>= _) _ _ _
   refine wpAny_bind (wpAny_tryCatch (wpAny_holding (wpAny_mono (hk (pins++[(J,oI),(S,seqObj "list" #[] 0)]) σ H F _ x v d kd Ip sf px rx hkd) (fun w s2 hw=>?_) fun _ _ z=>z.elim)))
   obtain⟨y,F2,H2,I2,a0,Z,a1⟩:=hw
   have pI:=I2.pin (J,oI) (by simp)
   have pS:=I2.pin (S,seqObj "list" #[] 0) (by simp)
   have aa:Inv X pins σ H2 s2:=I2.unpinned
   have a9:FpOk X pins H2 J:=fI.now pI.2.1
   have Y:FpOk X pins H2 S:=fS.now pS.2.1
   have s3:=Heap.SameBut.update s2.heap S (Obj.mapSeq fun _=>#[v,w])
   obtain⟨c2,a7⟩:∃ c2,(s2.heap.update S (Obj.mapSeq fun _=>#[v,w])).get? S=some (seqObj "list" #[v,w] c2):=⟨_,get?_update_seq pS.1 fun _=>#[v,w]⟩
   show wpAny _ X.A.in1 (updateSeq S (fun _=>#[v,w]) >>= _) _ _ _
   refine wpAny_bind (wpAny_updateSeq pS.1 rfl ?_)
   rw[j]
   have I3:Inv X pins σ H2 { s2 with heap:=s2.heap.update S (Obj.mapSeq fun _=>#[v,w]),toks:=s2.toks }:=aa.turnedL (fp:=[S]) (fun b o G e=>(s3.2 b (by simpa using G)).trans e) (fun b G=>by rw[List.mem_singleton.mp G];exact Y)
   refine wpAny_pure ⟨plainId_quiet PySem.F.plain_min_loop _,ye3 hk hc hu (ds:=d::ds) (dm:=dm) M a5 a4 _ 0 H2 F2 H F _ x y v w d kd c2 _ rfl (by simp) I3 Z (Z.hh.seq sq) (rs.mono Z.ff) ⟨oI,(s3.2 J M).trans pI.1,cI,dI⟩ a7 a9 Y rx (px.mono Z.ff) a0 a1 hm fun x v F' H' s' a b c d=>hQ x v F' H' s' a b c d⟩
@[irreducible] noncomputable def yo9 (mk:D->Option D)(m:ML):ME:=fun ρ=>(m ρ).bind fun ds=>minN mk ds
theorem ye0 {mk:D->Option D}{m:ML}{ρ:Ro}{ds:List D}(h1:m ρ=some ds):yo9 mk m ρ=minN mk ds:=by
 unfold yo9
 rw[h1];rfl
theorem xw5 {q:Addr}{mk:D->Option D}{x:Str}{p R kp pos:Pos}{e:Expr}{m:ML}(hk:yb0 X (.ref q) mk)(hc:X.calm=true)(hu:X.A.units+64<cLine)(hg:Gl X "min")(hm:X.mg "min"=none)(M:Gl X x)(L:X.mg x=some (.ref q))(ha:PB X e m)
  (N:(x==("__debug__":Str))=false:=by decide) (G:starEach (e::[]) X.env=(false,eval e X.env)::starEach [] X.env:=by rfl):
  PD X (.Call (.Name "min" p) [e] [⟨some "key",.Name x R,kp⟩] pos) (yo9 mk m):=by
 intro pins s σ H Q I h
 obtain⟨F0,H0,F,ρ,g,rl,em,q0⟩:=h
 unfold yo9 at em
 cases h1:m ρ with
 |none=>rw[h1]at em;cases em
 |some ds=>
  rw[h1,Option.bind_some]at em
  refine wpAny_Call_Name_kw (J3 I hg hm PyProof.Rows.boot_min ?_ (by decide) (by decide))
  have A:=g5 ha pa_nil G pos pins s σ H (fun vs H1=>∃ p xs F1,vs=[.ref p]/\Ext F H F1 H1/\SqL X.K H1 p xs/\Reps X.K F1 xs ds) I ⟨F0,H0,F,ρ,ds,rl,h1,fun p xs F1 H1 j s1 r1=>⟨p,xs,F1,rfl,j,s1,r1⟩⟩
  refine callWith_kw (thn A fun us s1 i=>?_) (by rw[G];rfl) (by rw[G];rfl)
  obtain⟨vs,H1,I1,r1,p,xs,F1,O,j,U,Z⟩:=i
  subst O
  obtain⟨u,rfl,Y⟩:=zz6 r1
  cases Y
  have B:=yq5 (nm:=some "key") (kpos:=kp) (zg7 (v:=.ref q) (pos:=R) M L rfl N) yb9 pos pins s1 σ H1 (fun vs H2=>vs=[.ref q]/\H2=H1) I1 ⟨rfl,rfl⟩
  refine thn B fun us s2 i=>?_
  obtain⟨vs,H2,I2,r2,O,eH⟩:=i
  subst O eH
  obtain⟨u1,rfl,z⟩:=zz6 r2
  cases z
  exact ye2 hk hc hu I2 j.fh U Z em fun x v F' H' s' I' rx S px=>⟨x,H',I',rx,q0 x F' H' (j.trans S) px⟩
end
end
section
noncomputable def gtI:D->D->Option Bool
 | .int i,.int j=>some (decide (i>j))
 |_,_=>none
theorem xu8 {d e:D}{k:Bool}(h:gtI d e=some k):∃ i j,d= .int i/\e= .int j/\k=decide (i>j):=by
 cases d with
 |int i=>
  cases e with
  |int j=>cases h;exact⟨i,j,rfl,rfl,rfl⟩
  |_=>cases h
 |_=>cases h
theorem xe8 {K:W.Frag}{F F':Hp}{A:Around}{s:Shared}{x y:V}{v u:Value}{d e:D}{k:Bool}(r1:Rep K F x d)(r2:Rep K F' y e)(G:RelV x v)(z:RelV y u)(h:gtI d e=some k)(prog:Program)(w:World)(E:Value->Shared->Prop)(Q:Value->Shared->Prop)(I:Q (.bool k) s):wpAny (model prog w) A (richCompare .Gt v u) Q E s:=by
 obtain⟨i,j,rfl,rfl,rfl⟩:=xu8 h
 obtain rfl:=r1.i'
 obtain rfl:=r2.i'
 obtain⟨t,rfl⟩:=G
 obtain⟨t',rfl⟩:=z
 exact CmpOf.ints_gt (prog:=prog) (w:=w) (A:=A) (P:=fun n v=>∃ t,v= .int (if n=1 then i else j) t) (fun n=>if n=1 then i else j) (fun i v h=>h) 1 0 _ _ _ _ _ ⟨t,rfl⟩ ⟨t',rfl⟩ I
section
variable {X:Cx}{pins:List (Addr×Obj)}{σ:St}
end
end
section
section
variable {X:Cx}{pins:List (Addr×Obj)}{σ:St}
end
section
variable {X:Cx}
end
end
section
theorem yt1 (a u:Value):argsOk "max" ⟨[a],[(Str.ofString "default",u)]⟩:=by unfold argsOk;kernel_rfl
noncomputable def maxP:List D->D->Option D
 |[],b=>some b
 |d::ds,b=>(match gtI d b with |some true=>maxP ds d|some false=>maxP ds b|none=>none)
noncomputable def maxE (ds:List D)(d0:D):Option D:=match ds with
 |[]=>some d0
 |d::ds=>maxP ds d
section
variable {X:Cx}{pins:List (Addr×Obj)}{σ:St}
set_option maxHeartbeats 8000000 in
theorem yn6 (hc:X.calm=true)(hu:X.A.units+64<cLine){l I S:Addr}{xs:List V}{ds:List D}{kw:List (Str×Value)}{dm:D}(U:I≠S)(a6:l≠I)(a5:l≠S):
  ∀(r j:Nat)(H F H0 F0:Hp)(s:Shared)(Z:V)(z:Value)(Y:D)(c:Nat)(R:Result->Shared->Prop),
   ds.length-(j+1)=r->j+1<=ds.length->Inv X pins σ H s->Ext F0 H0 F H->SqL X.K H l xs->Reps X.K F xs ds->s.heap.IsListIter I l (j+1)->s.heap.get? S=some (seqObj "list" #[z,z] c)->FpOk X pins H I->FpOk X pins H S->
   RelV Z z->Rep X.K F Z Y->maxP (ds.drop (j+1)) Y=some dm->
   (∀ x v F' H' s',Inv X pins σ H' s'->RelV x v->Ext F0 H0 F' H'->Rep X.K F' x dm->R (.ok (.ret v)) s')->
   codeAny (model X.prog X.w) X.A (.builtin "max.loop" ⟨[.ref I,.none,.ref S],kw⟩) R s:=by
 have G:(toString "max"++toString ".loop":String)="max.loop":=by decide
 intro r
 induction r with
 |zero=>
  intro j H F H0 F0 s Z z Y c R hr hj I' ext sq rs N hS fI fS rb pb hm hR
  have a2:j+1=ds.length:=by omega
  obtain⟨its,vr,pl,_⟩:=I'.list sq
  have zl:its.length=ds.length:=by rw[<-vr.length,rs.length]
  rw[a2,drop_length]at hm
  have hm:some Y=some dm:=hm
  cases hm
  refine codeAny_builtin PySem.F.entry_max_loop ?_
  rw[Around.under_plainId PySem.F.plain_max_loop _]
  show wpAny _ X.A.in1 (seqItems? (.ref S) >>= _) _ _ _
  refine wpAny_bind (wpAny_seqItems hS rfl ?_)
  show wpAny _ X.A.in1 (tryCatch (pyNext (.ref I)) _ >>= _) _ _ _
  refine wpAny_bind (wpAny_tryCatch (wpAny_pyNext_list_end (I'.ok.hd hc) N pl.isList (by simp;omega) fun h' a0=>?_))
  have a4:h'.get? S=some (seqObj "list" #[z,z] c):=a0 S _ (Ne.symm U) hS
  have s1:=Heap.SameBut.update h' S (Obj.mapSeq fun _=>(#[]:Array Value))
  show wpAny _ X.A.in1 (updateSeq S (fun _=>#[]) >>= _) _ _ _
  refine wpAny_bind ?_
  refine wpAny_updateSeq a4 rfl (wpAny_bind (wpAny_letGo (wpAny_pure ?_)))
  have I9:Inv X pins σ H { s with heap:=h'.update S (Obj.mapSeq fun _=>(#[]:Array Value)),toks:=s.toks }:=I'.turnedL (fp:=[I,S]) (t':=s.toks) (fun b o i e=>by
   simp only[mem_cons,not_mem_nil,or_false,not_or]at i
   exact(s1.2 b i.2).trans (a0 b o i.1 e)) (fun b i=>by
   simp only[mem_cons,not_mem_nil,or_false]at i
   rcases i with rfl|rfl <;> assumption)
  exact hR Z z F H _ I9 rb ext pb
 |succ r ih=>
  intro j H F H0 F0 s Z z Y c R hr hj I' ext sq rs N hS fI fS rb pb hm hR
  have M:j+1<ds.length:=by omega
  obtain⟨its,vr,pl,_⟩:=I'.list sq
  have zl:its.length=ds.length:=by rw[<-vr.length,rs.length]
  obtain⟨d,hd⟩:∃ d,ds[j+1]? =some d:=⟨_,getElem?_eq_getElem M⟩
  obtain⟨x,hx,px⟩:=rs.get hd
  obtain⟨v,hv,rx⟩:=vr.get hx
  rw[W7 hd]at hm
  unfold maxP at hm
  refine codeAny_builtin PySem.F.entry_max_loop ?_
  rw[Around.under_plainId PySem.F.plain_max_loop _]
  show wpAny _ X.A.in1 (seqItems? (.ref S) >>= _) _ _ _
  refine wpAny_bind (wpAny_seqItems hS rfl ?_)
  show wpAny _ X.A.in1 (tryCatch (pyNext (.ref I)) _ >>= _) _ _ _
  refine wpAny_bind (wpAny_tryCatch (wpAny_pyNext_list_item N pl.isList (by simpa using hv) fun h1 L s1=>?_))
  have I1:Inv X pins σ H { s with heap:=h1,toks:=s.toks }:=I'.turnedL (fp:=[I]) (fun b o i e=>s1.extBut b o (by simpa using i) e) (fun b i=>by rw[List.mem_singleton.mp i];exact fI)
  have O:h1.get? S=some (seqObj "list" #[z,z] c):=s1.extBut _ _ (Ne.symm U) hS
  cases hlt8:gtI d Y with
  |none=>rw[hlt8]at hm;cases hm
  |some bt=>
   rw[hlt8]at hm
   have a1:=xe8 (A:=X.A.in1) (s:={ s with heap:=h1,toks:=s.toks }) px pb rx rb hlt8
   refine wpAny_bind (wpAny_pure ?_)
   show wpAny _ X.A.in1 (tryCatch (holding [v,v] (richCompare .Gt v z >>= _)) _ >>= _) _ _ _
   refine wpAny_bind (wpAny_tryCatch (wpAny_holding (wpAny_bind (a1 X.prog X.w _ _ ?_))))
   refine wpAny_bind (wpAny_holding (wpAny_truthy_bool ?_))
   refine wpAny_bind (wpAny_letGo (wpAny_pure ?_))
   cases bt with
   |true=>
    have s3:=Heap.SameBut.update h1 S (Obj.mapSeq fun _=>#[v,v])
    obtain⟨c2,a3⟩:∃ c2,(h1.update S (Obj.mapSeq fun _=>#[v,v])).get? S=some (seqObj "list" #[v,v] c2):=⟨_,get?_update_seq O fun _=>#[v,v]⟩
    simp only[if_true]
    refine wpAny_bind ?_
    refine wpAny_updateSeq O rfl (wpAny_bind (wpAny_letGo ?_))
    rw[G]
    have I3:=I1.turnedL (h':=h1.update S (Obj.mapSeq fun _=>#[v,v])) (t':=s.toks) (fp:=[S]) (fun b o i e=>(s3.2 b (by simpa using i)).trans e) (fun b i=>by rw[List.mem_singleton.mp i];exact fS)
    refine wpAny_pure ⟨plainId_quiet PySem.F.plain_max_loop _,ih (j+1) H F H0 F0 _ x v d c2 R (by omega) M I3 ext sq rs (L.at fun o e=>(s3.2 I U).trans e) a3 fI fS rx px hm hR⟩
   |false=>
    simp only[Bool.false_eq_true,if_false]
    refine wpAny_bind (wpAny_letGo ?_)
    rw[G]
    refine wpAny_pure ⟨plainId_quiet PySem.F.plain_max_loop _,ih (j+1) H F H0 F0 _ Z z Y c R (by omega) M I1 ext sq rs L O fI fS rb pb hm hR⟩
set_option maxHeartbeats 8000000 in
theorem ye6 (hc:X.calm=true)(hu:X.A.units+64<cLine){l:Addr}{xs:List V}{ds:List D}{dm d0:D}{H F:Hp}{s:Shared}{x0:V}{M:Value}{E:Value->Shared->Prop}{Q:Value->Shared->Prop}
  (I:Inv X pins σ H s) (sf:Same F H) (sq:SqL X.K H l xs) (rs:Reps X.K F xs ds) (r0:RelV x0 M) (p0:Rep X.K F x0 d0) (hm:maxE ds d0=some dm)
  (hQ:∀ x v F' H' s',Inv X pins σ H' s'->RelV x v->Ext F H F' H'->Rep X.K F' x dm->Q v s'):
  wpAny (model X.prog X.w) X.A (call (.builtin "max") [.ref l] [(Str.ofString "default",M)]) Q E s:=by
 have z:(toString "max"++toString ".loop":String)="max.loop":=by decide
 obtain⟨its,vr,pl,_⟩:=I.list sq
 have U:=pl.isList
 obtain⟨ol,a2,_⟩:=id U
 have Y:l<s.heap.objs.size:=Heap.lt_size a2
 refine kmk_tree PySem.F.kind_max PySem.F.plain_max PySem.F.entry_max (yt1 _ _) ?_
 show wpAny _ X.A.in1 (Builtin.Builtins.bindParams "max" ["key","default"] 0 ⟨[],[(Str.ofString "default",M)]⟩ >>= _) _ _ s
 refine wpAny_bind (wpAny_of_eq (show Builtin.Builtins.bindParams "max" ["key","default"] 0 ⟨[],[(Str.ofString "default",M)]⟩=pure [none,some M]from rfl) ?_)
 refine wpAny_bind (wpAny_pure ?_)
 refine wpAny_bind (wpAny_pyIter_list U ?_)
 refine wpAny_bind (wpAny_newList ?_ (Nat.zero_le _))
 rw[z]
 refine wpAny_pure ⟨plainId_quiet PySem.F.plain_max_loop _,?_⟩
 generalize G:({ cls:=.type "list_iterator",data:=.fields #[.ref l,.int 0 0] }:Obj)=oI0
 have hS:(s.heap.push oI0).objs.size=s.heap.objs.size+1:=size_push' ..
 have a4:l≠s.heap.objs.size:=Nat.ne_of_lt Y
 have a3:l≠(s.heap.push oI0).objs.size:=by rw[hS];exact Nat.ne_of_lt (Nat.lt_succ_of_lt Y)
 have L:s.heap.objs.size≠(s.heap.push oI0).objs.size:=by rw[hS];exact Nat.ne_of_lt (Nat.lt_succ_self _)
 have gI:((s.heap.push oI0).push (seqObj "list" #[] 0)).get? s.heap.objs.size=some oI0:=Heap.get?_push_of_some _ (Heap.get?_push_size _ (by rw[<-G];rfl))
 have gS:((s.heap.push oI0).push (seqObj "list" #[] 0)).get? (s.heap.push oI0).objs.size=some (seqObj "list" #[] 0):=Heap.get?_push_size _ rfl
 have fI:FpOk X pins H s.heap.objs.size:=I.fpOk (Nat.le_refl _) (I.hok.fresh (Nat.le_refl _))
 have fS:FpOk X pins H (s.heap.push oI0).objs.size:=I.fpOk (by rw[hS];exact Nat.le_succ _) (I.hok.fresh (by rw[hS];exact Nat.le_succ _))
 have I0:Inv X pins σ H { s with heap:=(s.heap.push oI0).push (seqObj "list" #[] 0),toks:=s.toks }:=I.turnedL (fp:=[]) (fun b o _ e=>Heap.get?_push_of_some _ (Heap.get?_push_of_some _ e)) (fun b j=>by cases j)
 generalize (s.heap.push oI0).objs.size=S at*
 generalize hI:s.heap.objs.size=J at*
 generalize (s.heap.push oI0).push (seqObj "list" #[] 0)=h0 at*
 have a0:h0.IsListIter J l 0:=⟨_,gI,by rw[<-G],by rw[<-G];rfl⟩
 have zl:its.length=ds.length:=by rw[<-vr.length,rs.length]
 obtain⟨its',O,R,_⟩:=I0.list sq
 have N:its'.length=ds.length:=by rw[<-O.length,rs.length]
 refine codeAny_builtin PySem.F.entry_max_loop ?_
 rw[Around.under_plainId PySem.F.plain_max_loop _]
 show wpAny _ X.A.in1 (seqItems? (.ref S) >>= _) _ _ _
 refine wpAny_bind (wpAny_seqItems gS rfl ?_)
 show wpAny _ X.A.in1 (tryCatch (pyNext (.ref J)) _ >>= _) _ _ _
 cases ds with
 |nil=>
  have hm:some d0=some dm:=hm
  cases hm
  refine wpAny_bind (wpAny_tryCatch (wpAny_pyNext_list_end (I.ok.hd hc) a0 R.isList (by simp at N ⊢;simp[N]) fun h' a5=>?_))
  refine wpAny_bind (wpAny_rule (wpAny_pure ?_))
  have I9:=I0.turnedL (h':=h') (fp:=[J]) (t':=s.toks) (fun b o j e=>a5 b o (by simpa using j) e) (fun b j=>by rw[List.mem_singleton.mp j];exact fI)
  exact hQ x0 M F H _ I9 r0 (Ext.refl sf) p0
 |cons d ds=>
  obtain⟨x,hx,px⟩:=rs.get (i:=0) (d:=d) rfl
  obtain⟨v,hv,rx⟩:=O.get hx
  refine wpAny_bind (wpAny_tryCatch (wpAny_pyNext_list_item a0 R.isList (by simpa using hv) fun h1 Z s1=>?_))
  have I1:=I0.turnedL (h':=h1) (t':=s.toks) (fp:=[J]) (fun b o j e=>s1.extBut b o (by simpa using j) e) (fun b j=>by rw[List.mem_singleton.mp j];exact fI)
  have a1:h1.get? S=some (seqObj "list" #[] 0):=s1.extBut _ _ (Ne.symm L) gS
  refine wpAny_bind (wpAny_pure ?_)
  have s3:=Heap.SameBut.update h1 S (Obj.mapSeq fun _=>#[v,v])
  obtain⟨c2,a6⟩:∃ c2,(h1.update S (Obj.mapSeq fun _=>#[v,v])).get? S=some (seqObj "list" #[v,v] c2):=⟨_,get?_update_seq a1 fun _=>#[v,v]⟩
  show wpAny _ X.A.in1 (updateSeq S (fun _=>#[v,v]) >>= _) _ _ _
  refine wpAny_bind (wpAny_updateSeq a1 rfl ?_)
  rw[z]
  have I3:=I1.turnedL (h':=h1.update S (Obj.mapSeq fun _=>#[v,v])) (t':=s.toks) (fp:=[S]) (fun b o j e=>(s3.2 b (by simpa using j)).trans e) (fun b j=>by rw[List.mem_singleton.mp j];exact fS)
  exact wpAny_pure ⟨plainId_quiet PySem.F.plain_max_loop _,yn6 hc hu (ds:=d::ds) (dm:=dm) L a4 a3 _ 0 H F H F _ x v d c2 _ rfl (by simp) I3 (.refl sf) sq rs (Z.at fun o e=>(s3.2 J L).trans e) a6 fI fS rx px hm fun x v F' H' s' a b c d=>hQ x v F' H' s' a b c d⟩
@[irreducible] noncomputable def zk1 (m:ML)(md:ME):ME:=fun ρ=>(m ρ).bind fun ds=>(md ρ).bind fun d0=>maxE ds d0
theorem yv6 {m:ML}{i:ME}{ρ:Ro}{g:D}(h:zk1 m i ρ=some g):∃ ds d0,m ρ=some ds/\i ρ=some d0/\maxE ds d0=some g:=by
 unfold zk1 at h
 cases h1:m ρ with
 |none=>rw[h1]at h;cases h
 |some d=>
  cases h2:i ρ with
  |none=>rw[h1,h2]at h;cases h
  |some e=>rw[h1,h2]at h;exact⟨d,e,rfl,rfl,h⟩
theorem mmaxE_ev {m:ML}{i:ME}{ρ:Ro}{ds:List D}{d0:D}(h1:m ρ=some ds)(h2:i ρ=some d0):zk1 m i ρ=maxE ds d0:=by
 unfold zk1
 rw[h1,h2];rfl
theorem xw7 {p z pos:Pos}{e S:Expr}{m:ML}{R:ME}(hc:X.calm=true)(hu:X.A.units+64<cLine)(hg:Gl X "max")(hm:X.mg "max"=none)(ha:PB X e m)(hd:PD X S R)
  (M:starEach (e::[]) X.env=(false,eval e X.env)::starEach [] X.env:=by rfl):
  PD X (.Call (.Name "max" p) [e] [⟨some "default",S,z⟩] pos) (zk1 m R):=by
 intro pins s σ H Q I h
 obtain⟨F0,H0,F,ρ,g,O,em,q0⟩:=h
 obtain⟨ds,d0,h1,h2,h3⟩:=yv6 em
 refine wpAny_Call_Name_kw (J3 I hg hm PyProof.Rows.boot_max ?_ (by decide) (by decide))
 have A:=g5 ha pa_nil M pos pins s σ H (fun vs H1=>∃ p xs F1,vs=[.ref p]/\Ext F H F1 H1/\SqL X.K H1 p xs/\Reps X.K F1 xs ds) I ⟨F0,H0,F,ρ,ds,O,h1,fun p xs F1 H1 G s1 r1=>⟨p,xs,F1,rfl,G,s1,r1⟩⟩
 refine callWith_kw (thn A fun us s1 i=>?_) (by rw[M];rfl) (by rw[M];rfl)
 obtain⟨vs,H1,I1,r1,p,xs,F1,N,G,Y,rs⟩:=i
 subst N
 obtain⟨u,rfl,Z⟩:=zz6 r1
 cases Z
 have B:=yq5 (nm:=some "default") (kpos:=z) hd yb9 pos pins s1 σ H1 (fun vs H2=>∃ y F2,vs=[y]/\Ext F1 H1 F2 H2/\Rep X.K F2 y d0) I1 ⟨F0,H0,F1,ρ,d0,O.go G,h2,fun y F2 H2 j r2=>⟨y,F2,rfl,j,r2⟩⟩
 refine thn B fun us s2 i=>?_
 obtain⟨vs,H2,I2,r2,y,F2,N,j,p0⟩:=i
 subst N
 obtain⟨u2,rfl,L⟩:=zz6 r2
 exact ye6 hc hu I2 j.fh (j.hh.seq Y) (rs.mono j.ff) L p0 h3 fun x v F' H' s' I' rx U px=>⟨x,H',I',rx,q0 x F' H' ((G.trans j).trans U) px⟩
end
end
end L2
namespace L2
open List
open PySem PySem.Spec PyProof.Rows PySem.Builtin PySem.Builtin.Str
section
section
variable {X:Cx}{a b c e o:Expr}{ma mb mo:ME}{pos:Pos}
noncomputable def strM (g:Str->List D->Option D):D->List D->Option D
 | .str z,ds=>g z ds
 |_,_=>none
@[irreducible] noncomputable def xe1 (g:Str->List D->Option D)(x:ME)(m:ML):ME:=fun ρ=>(x ρ).bind fun d=>(m ρ).bind fun ds=>strM g d ds
end
end
section
section
variable {X:Cx}{a b c e o:Expr}{ma mb mo:ME}{pos:Pos}
end
end
end L2
namespace L2
open List
open PySem PySem.Spec PyProof.Rows
section
noncomputable def C6 (src:List (Option Nat))(ρ:Ro):Ro:=src.map fun o=>o.bind fun i=>match ρ[i]? with |some (some (.sh d))=>some (.sh d)|some (some (.own ds))=>some (.own ds)|_=>none
@[irreducible] noncomputable def P7 (src:List (Option Nat))(mi:ML)(g:Tg)(c:MB)(elt:ME):ML:=fun ρ=>(mi ρ).bind fun its=>S0 g c elt its (C6 src ρ) []
def yh5 (src:List (Option Nat)):Prop:=∀ i j k:Nat,src[i]? =some (some k)->src[j]? =some (some k)->i=j
theorem B8 {src:List (Option Nat)}(h:∀ i,i<src.length->∀ j,j<src.length->src[i]? =src[j]?->src[i]? =some none\/i=j):yh5 src:=fun i j k hi z=>by
 have I:=(List.getElem?_eq_some_iff.mp hi).1
 have G:=(List.getElem?_eq_some_iff.mp z).1
 rcases h i I j G (by rw[hi,z])with e|e
 .rw[hi]at e;cases e
 .exact e
theorem M7 {src:List (Option Nat)}{ρ:Ro}{i:Nat}{x:S}(e:(C6 src ρ)[i]? =some (some x)):∃ k,src[i]? =some (some k)/\ρ[k]? =some (some x)/\nob (some x):=by
 unfold C6 at e
 rw[getElem?_map]at e
 cases h:src[i]? with
 |none=>rw[h]at e;cases e
 |some o=>
  rw[h]at e
  cases o with
  |none=>cases e
  |some k=>
   simp only[Option.map_some,Option.bind_some]at e
   split at e
   .rename_i d h';cases e;exact⟨k,rfl,h',True.intro⟩
   .rename_i ds h';cases e;exact⟨k,rfl,h',True.intro⟩
   .cases e
theorem zp2 {src:List (Option Nat)}{σ:St}{i k:Nat}{v:V}(h:src[i]? =some (some k))(j:σ[k]? =some (some v)):(blk0 src σ)[i]? =some (some v):=by
 unfold blk0
 rw[getElem?_map,h]
 simp only[Option.map_some,Option.bind_some,j];rfl
theorem zi3 {src:List (Option Nat)}{σ:St}{i k:Nat}{v:V}(h:src[i]? =some (some k))(j:(blk0 src σ)[i]? =some (some v)):σ[k]? =some (some v):=by
 unfold blk0 at j
 rw[getElem?_map,h]at j
 simp only[Option.map_some,Option.bind_some]at j
 cases hk:σ[k]? with
 |none=>rw[hk]at j;cases j
 |some o=>rw[hk]at j;simpa using j
theorem Rl.blkO {K:W.Frag}{F0 H0 F H:Hp}{σ:St}{ρ:Ro}(r:Rl K F0 H0 F H σ ρ){src:List (Option Nat)}(ok:yh5 src){p:Addr}(hp:H p=none):Rl K F (upd F p (.lst [])) F (upd H p (.lst [])) (blk0 src σ) (C6 src ρ):=by
 have M:F p=none:=r.fh.free hp
 refine⟨⟨Same.refl F,r.fh.put2,r.fh.put M,fun b e n=>absurd e n,fun _ _ _ z=>z⟩,by unfold blk0 C6;simp,fun i d e=>?_,fun i ds e=>?_,fun i j q ds es G e1 e2 s1 s2=>?_,fun i q ds e=>?_,fun i j q ds es e=>?_,fun i j q O ds es e=>?_⟩
 .obtain⟨k,h1,h2,_⟩:=M7 e
  obtain⟨v,a,b⟩:=r.sh k d h2
  exact⟨v,zp2 h1 a,b⟩
 .obtain⟨k,h1,h2,_⟩:=M7 e
  obtain⟨q,xs,a,b,c,d,z⟩:=r.own k ds h2
  have I:q≠p:=fun w=>by rw[w,hp]at c;cases c
  exact⟨q,xs,zp2 h1 a,b,by rw[x8 I];exact c,d,by rw[x8 I];exact b⟩
 .obtain⟨k,h1,h2,_⟩:=M7 e1
  obtain⟨l,L,N,_⟩:=M7 e2
  refine r.inj k l q ds es (fun w=>?_) h2 N (zi3 h1 s1) (zi3 L s2)
  subst w
  exact G (ok i j k h1 L)
 .obtain⟨k,h1,h2,n⟩:=M7 e;exact n.elim
 .obtain⟨k,h1,h2,n⟩:=M7 e;exact n.elim
 .obtain⟨k,h1,h2,n⟩:=M7 e;exact n.elim
theorem yc6 {K:W.Frag}{src:List (Option Nat)}{mi:ML}{g:Tg}{c:MB}{i:ME}(M:yh5 src){σ:St}{H:Hp}{Q:VK}(h:TF K (P7 src mi g c i) σ H Q):zo3 src (TId K mi) (TGd K g) (TC K c) (TD K i) σ H Q:=by
 obtain⟨F0,H0,F,ρ,out,L,e,q⟩:=h
 unfold P7 at e
 cases h1:mi ρ with
 |none=>rw[h1]at e;cases e
 |some its=>
  rw[h1]at e
  refine⟨F0,H0,F,ρ,its,L,h1,fun J F1 H1 j I p hp=>?_⟩
  exact zj7 j.fh hp ((L.go j).blkO M hp) I e fun xs F' H' xe G z N=>q p xs F' H' (j.trans xe) (j.hh.free hp) G z N
section
variable {X:Cx}{a b c e o:Expr}{ma mb mo:ME}{pos:Pos}{st:Stmt}
theorem A2 {sc:Scope}{N:List Str}{src:List (Option Nat)}{tg j iter:Expr}{i:List Expr}{mi:ML}{g:Tg}{cc:MB}{z:ME}(G:yh5 src)(B:Blk X sc N src)(R:X.calm=true)
  (hi:PId X tg iter mi) (M:∀ C fp s H,PGd (W8 X sc C N fp s H) tg g) (I:∀ C fp s H,PTsd (W8 X sc C N fp s H) i cc) (O:∀ C fp s H,PD (W8 X sc C N fp s H) j z)
  (L:∀ x,foldedSetIterable iter X.env x=pure x:=by intro _;rfl):
  PF X (.ListComp j [⟨tg,iter,i,0⟩] sc pos) (P7 src mi g cc z):=(zg8 (g:=TGd X.K g) (tc:=TC X.K cc) (te:=TD X.K z) B R hi (fun C fp s H=>M C fp s H) (fun C fp s H=>I C fp s H) (fun C fp s H=>O C fp s H) L).imp fun _ _ _ h=>yc6 G h
def rSum (K:W.Frag):List V->Hp->VK->Prop:=fun vs H Q=>∃(p:Addr)(ns:List Int),vs=[.ref p]/\SqL K H p (ns.map V.int)/\Q (.int ns.sum) H
theorem yc7 (z:X.calm=true):zv5 X (.builtin "sum") (rSum X.K):=by
 intro pins s σ H xs us Q I r h
 obtain⟨p,ns,rfl,j,q⟩:=h
 obtain⟨u,rfl,rx⟩:=zz6 r
 cases rx
 obtain⟨its,i,pl,L⟩:=I.list j
 obtain⟨G,h1,h2⟩:=S2 i
 have hp:=pl.isList
 rw[h1]at hp
 refine sum_intListG (I.ok.hd z) hp fun h' tk t' k=>?_
 refine⟨.int ns.sum,H,I.kept k,⟨t',?_⟩,q⟩
 rw[preSum_eq,take_of_length_le (by simp),<-h2]
@[irreducible] noncomputable def msum (m:ML):ME:=fun ρ=>match m ρ with |some ds=>(match M3 ds with |some ns=>some (.int ns.sum)|none=>none)|none=>none
theorem ya2 {p:Pos}{m:ML}(O:X.calm=true)(M:Gl X "sum")(hm:X.mg "sum"=none)(ha:PB X e m)(I:bootBuiltins "sum"=some (.builtin "sum"))(L:starEach (e::[]) X.env=(false,eval e X.env)::starEach [] X.env:=by rfl)(N:starEach [e] X.env=(false,eval e X.env)::starEach [] X.env:=by rfl)(j:(backTo pos (starEach [] X.env)).any (·.1)=false:=by rfl):PD X (.Call (.Name "sum" p) [e] [] pos) (msum m):=
 (U3 (yc7 O) M hm I (g5 ha pa_nil L) (by decide) (by decide) N j).imp fun σ H Q i=>by
  obtain⟨F0,H0,F,ρ,g,G,e,q⟩:=i
  unfold msum at e
  cases h1:m ρ with
  |none=>rw[h1]at e;cases e
  |some ds=>
   rw[h1]at e
   cases h2:M3 ds with
   |none=>simp only[h2]at e;cases e
   |some ns=>
    simp only[h2]at e;cases e
    refine⟨F0,H0,F,ρ,ds,G,h1,fun p xs F1 H1 z s1 r1=>⟨p,ns,rfl,?_,q _ F1 H1 z (.int _)⟩⟩
    rw[<-N4 r1 h2];exact s1
end
end
section
section
variable {prog:Program}{w:World}{A:Around}{E:Value->Shared->Prop}{s:Shared}{l:Addr}{xs:Array (Int×Tok)}
end
section
variable {X:Cx}{a b c e o:Expr}{ma mb mo:ME}{pos:Pos}{st:Stmt}
end
section
variable {X:Cx}{a b c e:Expr}{na nb:MEm}{pos:Pos}{st:Stmt}{es:List Expr}{E:XK}{mf:MF}{m:MLm}
noncomputable abbrev MBm:=Ro->Option (Bool×Ro)
end
end
section
section
variable {X:Cx}{a b c e:Expr}{na nb:MEm}{pos:Pos}{st:Stmt}{es:List Expr}{m:MLm}
end
noncomputable def Q6 (elt:MEm):List D->Ro->List D->Option (List D×Ro)
 |[],ρ,acc=>some (acc,ρ)
 |d::ds,ρ,acc=>match elt (ρ.set 0 (some (.sh d)))with
  |some (x,ρ1)=>if acc.length<sizeLine then Q6 elt ds ρ1 (acc++[x])else none
  |none=>none
theorem Rl.rebaseB {K:W.Frag}{F1 F H B:Hp}{σ:St}{ρ:Ro}{p:Addr}{xs ys:List V}(r:Rl K F1 (upd B p (.lst xs)) F H σ ρ)(G:F p=none):Rl K F1 (upd B p (.lst ys)) F (upd H p (.lst ys)) σ ρ:=by
 have ne:∀ q,upd B p (.lst xs) q=none->q≠p:=fun q z w=>by rw[w,x9]at z;cases z
 refine⟨⟨r.ext.ff,fun b u e=>?_,r.fh.put G,fun b e n=>?_,r.ext.nf⟩,r.len,r.sh,fun i ds e=>?_,r.inj,fun i q ds e=>?_,r.obn,r.ob1⟩
 .by_cases hb:b=p
  .subst hb;rw[x9]at e ⊢;exact e
  .rw[x8 hb]at e ⊢
   exact r.ext.hh b u (by rw[x8 hb];exact e)
 .have hb:b≠p:=fun w=>by rw[w,G]at n;exact n rfl
  have:=r.ext.new b e n
  rw[x8 hb]at this ⊢;exact this
 .obtain⟨q,zs,a,b,c,d,z⟩:=r.own i ds e
  have j:=ne q z
  rw[x8 j]at z
  exact⟨q,zs,a,b,by rw[x8 j];exact c,d,by rw[x8 j];exact z⟩
 .obtain⟨a,b,z,zs,c,d⟩:=r.ob i q ds e
  have j:=ne q z
  rw[x8 j]at z
  exact⟨a,b,by rw[x8 j];exact z,zs,by rw[x8 j];exact c,d⟩
theorem zd8 {i:MEm}{d:D}{ds acc:List D}{ρ:Ro}{r:List D×Ro}(h:Q6 i (d::ds) ρ acc=some r):∃ x ρ1,i (ρ.set 0 (some (.sh d)))=some (x,ρ1)/\acc.length<sizeLine/\Q6 i ds ρ1 (acc++[x])=some r:=by
 rw[Q6]at h
 cases h4:i (ρ.set 0 (some (.sh d)))with
 |none=>rw[h4]at h;cases h
 |some z=>
  rw[h4]at h
  obtain⟨x,ρ1⟩:=z
  simp only at h
  by_cases j:acc.length<sizeLine
  .rw[if_pos j]at h;exact⟨x,ρ1,rfl,j,h⟩
  .rw[if_neg j]at h;cases h
theorem Rl.stayB {K:W.Frag}{F1 F H B:Hp}{σ:St}{ρ:Ro}{p:Addr}{o:HO}(r:Rl K F1 (upd B p o) F H σ ρ)(h:F1 p=none):F p=none:=by
 cases w:F p with
 |none=>rfl
 |some u=>have:=r.ext.new p h (by rw[w];simp);rw[x9]at this;cases this
theorem yu9 {K:PySem.W.Frag}{src:List (Option Nat)}{U:MEm}{its out r1:List D}{ρb a1:Ro}{j:Nat}{F1 H1:Hp}{σ:St}{p rr:Addr}{J:It}{Q:VK}(f1:Same F1 H1)(hp:H1 p=none)(a3:rr≠p)(hj:j≠0)(I:ItD K F1 J its)(rb:Rl K F1 (upd (del H1 rr) p (.lst [])) F1 (upd H1 p (.lst [])) (blk0 src σ) a1)(Y:(blk0 src σ)[j]? =some (some (.ref rr)))(h2:Q6 U its a1 []=some (out,ρb))(h3:ρb[j]? =some (some (.own r1)))
  (q:∀ xs zs F' H',Ext F1 (del H1 rr) F' H'->F' rr=none->H' rr=some (.lst zs)->Reps K F' zs r1->F' p=some (.lst xs)->Reps K F' xs out->Q (.ref p) H'):
  ∃ W:Nat->Nat->St->Hp->Prop,(∃ m,W 0 m (blk0 src σ) (upd H1 p (.lst [])))/\∀ i m M H',W i m M H'->
   (J.stop i H'/\Q (.ref p) H')\/(J.go i H'/\∃ N:St->Hp->Prop,(∀ L H2,N L H2->∃ m',m'<m/\W (i+1) m' L H2)/\∀ x H2,J.yld i H' x H2->O0 0 x M H2 fun R H3=>tYes R H3 fun b H4=>
    if b=true then TDm K U R H4 fun y H5=>∃ xs,H5 p=some (.lst xs)/\xs.length<sizeLine/\N R (upd H5 p (.lst (xs++[y])))else N R H4):=by
 have a6:F1 p=none:=f1.free hp
 have a5:del H1 rr p=none:=by rw[Q5 (Ne.symm a3)];exact hp
 refine⟨fun k m M H'=>∃ F' ρ' acc xs,Rl K F1 (upd (del H1 rr) p (.lst xs)) F' H' M ρ'/\Reps K F' xs acc/\M[j]? =some (some (.ref rr))/\k<=its.length/\m=its.length-k/\Q6 U (its.drop k) ρ' acc=some (out,ρb),
  ⟨_,F1,_,[],[],rb,.nil,Y,Nat.zero_le _,rfl,h2⟩,?_⟩
 clear rb Y h2
 rintro k m M H' ⟨F',ρ',acc,xs,z,ra,a2,a8,rfl,e'⟩
 by_cases O:k<its.length
 .right
  have hd:=getElem?_eq_getElem O
  refine⟨I.go k F' H' z.ext.ff z.fh O,fun L H2=>∃ F2 ρ2 G S,Rl K F1 (upd (del H1 rr) p (.lst S)) F2 H2 L ρ2/\Reps K F2 S G/\L[j]? =some (some (.ref rr))/\Q6 U (its.drop (k+1)) ρ2 G=some (out,ρb),?_,fun x H2 y=>?_⟩
  .rintro L H2 ⟨F2,ρ2,G,S,b1,b2,b3,b4⟩
   exact⟨its.length-(k+1),Nat.sub_lt_sub_left O (Nat.lt_succ_self k),F2,ρ2,G,S,b1,b2,b3,O,rfl,b4⟩
  .obtain⟨F2,x2,r2⟩:=I.yld k F' H' x H2 _ z.ext.ff z.fh hd y
   rw[W7 hd]at e'
   obtain⟨d,ρ1,h4,hz,e4⟩:=zd8 e'
   clear e' I q y hd h3
   unfold O0 tYes
   refine iteT ⟨F1,_,F2,_,d,ρ1,(z.go x2).set r2,h4,fun v F5 H5 Z s5 r5=>?_⟩
   exact⟨xs,Z.ext.hh p _ x9,by rw[ra.length];exact hz,F5,ρ1,acc++[d],xs++[v],Z.rebaseB (Z.stayB a6),(ra.mono (x2.ff.trans s5)).append (.cons r5 .nil),by rw[getElem?_set_ne (Ne.symm hj)];exact a2,e4⟩
 .left
  have a4:k=its.length:=Nat.le_antisymm a8 (Nat.le_of_not_lt O)
  subst a4
  rw[drop_length]at e'
  have e':some (acc,ρ')=some (out,ρb):=e'
  cases e'
  refine⟨I.stop F' H' z.ext.ff z.fh,?_⟩
  have a0:=z.stayB a6
  obtain⟨q',zs,a7,f2,f3,f4,f5⟩:=z.own j r1 h3
  rw[a2]at a7;cases a7
  have x:Ext F1 (del H1 rr) F' H':=⟨z.ext.ff,fun b u hb=>z.ext.hh b u (by
    have:b≠p:=fun w=>by rw[w,a5]at hb;cases hb
    rw[x8 this];exact hb),z.fh,fun b hb n=>by
    have nb:b≠p:=fun w=>by rw[w,a0]at n;exact n rfl
    have:=z.ext.new b hb n
    rwa [x8 nb]at this,z.ext.nf⟩
  have s2:Same F' (upd F' p (.lst xs)):=(Same.refl F').put a0
  exact q xs zs _ H' (x.freeze a0 a5 (z.ext.hh p _ x9)) (by rw[x8 a3];exact f2) f3 (f4.mono s2) x9 (ra.mono s2)
section
variable {X:Cx}{pos:Pos}
end
end
section
section
variable {X:Cx}{e:Expr}{na:MEm}{pos:Pos}{st:Stmt}{es:List Expr}{m:ML}{mf:MG}{E:XK}
open Classical in
end
end
section
section
variable {X:Cx}
end
end
section
section
variable {X:Cx}{e:Expr}{pos:Pos}
@[irreducible] noncomputable def many (m:ML):ME:=fun ρ=>match m ρ with |some ds=>(match M3 ds with |some ns=>some (.bl (ns.any fun i=>i != 0))|none=>none)|none=>none
end
end
section
section
variable {X:Cx}{e:Expr}{ma:ME}{pos:Pos}
end
end
section
section
variable {X:Cx}{e:Expr}{ma:ME}{pos:Pos}
end
end
section
section
variable {prog:Program}{w:World}{A:Around}{E:Value->Shared->Prop}{s:Shared}
end
section
variable {X:Cx}
end
end
section
section
variable {X:Cx}{a:Expr}{na:MEm}{pos:Pos}{ca:MBm}
end
end
section
section
variable {X:Cx}{a b:Expr}{m:ML}{pos:Pos}
end
end
end L2
namespace L2
open List
open PySem PySem.Spec PyProof.Rows PySem.W PySem.Builtin PySem.Builtin.ObjectAttr PySem.Builtin.Getset_descriptor
section
structure XCls (K:W.Frag)(C:Addr):Prop where
 ga:findIn K (.ref C) "__getattribute__"=some (some (.builtin "BaseException.__getattribute__"))
 nog:findIn K (.ref C) "__getattr__"=some none
 cl:findIn K (.ref C) "__class__"=some (some (.builtin "object.__class__"))
 ob:mroIn K C (.type "object")=some true
 be:mroIn K C (.type "BaseException")=some true
section
variable {prog:Program}{w:World}{A:Around}{E:Value->Shared->Prop}{K:W.Frag}{x C:Addr}{ox:Obj}{h:Heap}{g:Array GenState}{d:Drawn}{t:Nat}{os:OsState}
theorem xr4 {tp:Value}{R:Result->Shared->Prop}(X:K.In h)(LT:∀ M:Model,Looks M h (typeOf (.ref x)) (.ref C))(hm:mroIn K C (.type "object")=some true)
  (i:R (.ok (.ret (.ref C))) ⟨h,g,d,t,os⟩):codeAny (model prog w) A (.call (.builtin "getset_descriptor.__get__") ⟨[.builtin "object.__class__",.ref x,tp],[]⟩) R ⟨h,g,d,t,os⟩:=by
 have z:=LT (model prog w)
 have j:=looks_mroIn (M:=model prog w) X hm
 refine codeAny_call_builtin F.slot_gs_get.plain F.entry_gs_get (F.slot_gs_get.check _ _ _ _ _ _ _ _ F.typeOf_object_class (F.args_gs_get _ _ tp) ?_)
 unfold Builtin.«getset_descriptor.__get__» descrGet
 rw[dga_obj]
 refine wpAny_bind (wpAny_pure ?_)
 unfold descrGetter;unfold descrCheckInstance;unfold descrNameAndClass isInstance
 simp only[KF.owner_class]
 repeat lk
 refine And.intro (Code.quiet_builtin _ (by decide +kernel)) (codeAny_builtin F.entry_object_class ?_)
 unfold Builtin.«object.__class__»;unfold shownTypeOf
 repeat lk
 exact i
theorem yi6 {tk:Tok}{Q:PySem.Fin->Shared->Prop}(Z:XCls K C)(X:K.In h)(LT:∀ M:Model,Looks M h (typeOf (.ref x)) (.ref C))(i:Q (.done (.ret (.ref C))) ⟨h,g,d,t,os⟩):
  wpAny (model prog w) A (Builtin.«object.__getattribute__» ⟨[.ref x,.str "__class__" tk],[]⟩) Q E ⟨h,g,d,t,os⟩:=by
 have I:=LT (model prog w)
 have G:=looks_findIn (M:=model prog w) X Z.cl
 have L2:Looks (model prog w) h (typeOf (.builtin "object.__class__")) (.type "getset_descriptor"):=Looks.of_pure F.typeOf_object_class
 have z:Looks (model prog w) h (typeLookup (.type "getset_descriptor") "__get__") (some (.builtin "getset_descriptor.__get__")):=Looks.of_pure F.slot_gs_get.lookup
 have j:Looks (model prog w) h (typeLookup (.type "getset_descriptor") "__set__") (some (.builtin "getset_descriptor.__set__")):=Looks.of_pure F.slot_gs_set.lookup
 repeat (first|with_reducible refine wpAny_call (xr4 X LT Z.ob ?_)|lk)
 exact i
theorem xz0 {tk:Tok}{R:Result->Shared->Prop}(Z:XCls K C)(X:K.In h)(LT:∀ M:Model,Looks M h (typeOf (.ref x)) (.ref C))(i:R (.ok (.ret (.ref C))) ⟨h,g,d,t,os⟩):
  codeAny (model prog w) A (.call (.builtin "BaseException.__getattribute__") ⟨[.ref x,.str "__class__" tk],[]⟩) R ⟨h,g,d,t,os⟩:=by
 have k1:builtinKind "BaseException.__getattribute__"=some .slot:=by decide +kernel
 have k2:splitId "BaseException.__getattribute__"=some ("BaseException","__getattribute__"):=by decide +kernel
 have k3:=F.args_bexc_ga (.ref x) (.str "__class__" tk)
 have z:=LT (model prog w)
 have j:=looks_mroIn (M:=model prog w) X Z.be
 refine codeAny_call_builtin (by decide +kernel) F.entry_bexc_ga ?_
 simp only[checkBuiltinCall,k1,k2]
 refine wpAny_bind ?_
 unfold isInstance
 refine wpAny_bind (z.at (j.at ?_))
 rw[if_neg (by decide)]
 exact wpAny_of_eq (a:=()) k3 (yi6 Z X LT i)
theorem yi7 {Q:Option Value->Shared->Prop}(Z:XCls K C)(X:K.In h)(LT:∀ M:Model,Looks M h (typeOf (.ref x)) (.ref C))(i:Q (some (.ref C)) ⟨h,g,d,t+1,os⟩):
  wpAny (model prog w) A (getAttr? (.ref x) "__class__") Q E ⟨h,g,d,t,os⟩:=by
 have I:=LT (model prog w)
 have G:=looks_findIn (M:=model prog w) X Z.ga
 have L2:=looks_findIn (M:=model prog w) X Z.nog
 unfold getAttr? getAttrBy? getAttrBy
 refine wpAny_bind (wpAny_mkText (wpAny_bind (wpAny_attempt (wpAny_holding (wpAny_bind (I.at (wpAny_bind (G.at ?_))))))))
 dsimp only
 rw[if_neg (by intro z;rw[Bool.and_eq_true]at z;exact absurd z.2 (by decide))]
 unfold getAttrByItsOwn hookBefore
 rw[if_pos (by rfl)]
 refine wpAny_bind (L2.at (wpAny_bind (wpAny_attempt (wpAny_holding ?_))))
 unfold callGetattribute
 rw[if_neg (by decide)]
 unfold boundAndCalled
 have j:bindSpecial (.builtin "BaseException.__getattribute__") (.ref x)=pure (.builtin "BaseException.__getattribute__",[.ref x]):=F.attr_ValueError.ga.bind _
 refine wpAny_bind (wpAny_of_eq j (wpAny_call (xz0 Z X LT ?_)))
 exact handed_on rfl (wpAny_pure i)
theorem XAt.looks {a C:Addr}(p:XAt a C h)(M:Model):Looks M h (typeOf (.ref a)) (.ref C):=by
 obtain⟨o,vs,h1,h2,_⟩:=p
 exact h2 ▸ (Looks.ld h1).andThen .now
theorem yd2 {a C:Addr}(Z:XCls K C):KitX K (.ref a) (.ref C) (XAt a C) where
 ty:=fun M h _ p=>p.looks M
 it:=fun M h X _=>by
  have q:=Z.ob
  unfold mroIn at q
  cases hc:clsIn K C with
  |none=>rw[hc]at q;cases q
  |some cd=>
   unfold clsIn at hc
   split at hc
   .rename_i c' d' cd' sl' ho
    intro O L N s1 G j
    unfold isType loadHead
    exact wpAny_bind (wpAny_loadPart (G _ _ (X C _ ho)) (wpAny_pure j))
   .cases hc
 ne:=fun h tp dd its n sl X i=>by
  refine Bool.eq_false_iff.mpr fun z=>?_
  have e:C=tp:=Value.ref.inj (beq_iff_eq.mp z)
  subst e
  have q:=Z.ob
  unfold mroIn at q
  cases hc:clsIn K C with
  |none=>rw[hc]at q;cases q
  |some cd=>
   unfold clsIn at hc
   split at hc
   .rename_i c' d' cd' sl' ho
    cases (X _ _ ho).symm.trans i
   .cases hc
 ca:=fun{prog w A E Q s} X p I=>by
  obtain⟨hh,g,d,t,os⟩:=s
  exact yi7 Z X p.looks I
end
end
end L2
namespace L2
open List
open PySem PySem.Spec PyProof.Rows
section
structure Flown (P:Program)(w:World)(outer:List Env)(H:Hp)(s:Shared)(H':Hp)(B h':Heap):Prop where
 un:Un (frs outer) [] H H' s.heap h'
 ok:HOk P w H' h'
 st:B.StaysIn h'
 trk:∀ b o,H' b=some o->∃ ob,B.get? b=some ob
 old:∀ b o,s.heap.get? b=some o->b∉frs outer->∃ ob,B.get? b=some ob
def CXx (P:Program)(w:World):CXT:=fun outer H s E ev s'=>∃(e C:Addr)(a0:Value)(H':Hp)(B:Heap),ev= .ref e/\s'.os=s.os/\AllBare s'.gens/\Flown P w outer H s H' B s'.heap/\
 Heap.FlyingW B outer e (.ref C) a0 s'.heap/\E (.ref C) none H'
section
variable {P:Program}{w:World}{outer:List Env}{H H':Hp}{s:Shared}{B h1 h2 base:Heap}
theorem Flown.on (f:Flown P w outer H s H' B h1)(fr:h1.FunFrames base outer)(st:B.StaysIn h2)(O:h1.UpToSlots h2):Flown P w outer H s H' B h2:=by
 have same:∀ b o,h1.get? b=some o->(∃ ob,B.get? b=some ob)->h2.get? b=some o:=fun b o e L=>by
  obtain⟨ob,M⟩:=L
  have:=f.st b ob M
  rw[e]at this;cases this
  exact st b o M
 have i:∀ b o,b∈frs outer->h1.get? b=some o->∃ sl,h2.get? b=some { o with slots:=sl }:=fun b o j e=>by
  obtain⟨_,o',N,hd⟩:=fr.mem j
  rw[e]at N;cases N
  exact O b o e hd
 refine⟨⟨fun b o e n j I=>same b o (f.un.keep b o e n j I) (f.old b o e j),fun b o e n j I=>?_,f.un.free,fun b o e I=>?_,f.un.tups,f.un.frzs,f.un.tbls⟩,fun b u e=>?_,st,f.trk,f.old⟩
 .obtain⟨sl,e1⟩:=f.un.slot b o e n j I
  obtain⟨G,e2⟩:=i b _ j e1
  exact⟨G,e2⟩
 .by_cases j:b∈frs outer
  .obtain⟨o1,e1⟩:=f.un.there b o e I
   obtain⟨G,e2⟩:=i b _ j e1
   exact⟨_,e2⟩
  .obtain⟨ob,M⟩:=f.old b o e j
   exact⟨ob,st b ob M⟩
 .refine(f.ok b u e).stay (fun c v R q=>same c v q ?_) (fun _ q=>q) fun _ _ q=>q
  rcases R with z|z
  .rw[z];exact f.trk b u e
  .exact f.trk c _ z
end
structure Top (X:Cx):Prop where
 stk:X.stack=X.env::X.outer
 frm:X.env.frame=some X.env.locals
 ex:X.ex=[]
section
variable {X:Cx}{pins:List (Addr×Obj)}{σ:St}{H H':Hp}{s:Shared}{B h1:Heap}
theorem Flown.inv {s':Shared}(I:Inv X pins σ H s)(f:Flown X.prog X.w X.stack H s H' B s'.heap)(os:s'.os=s.os)(bare:AllBare s'.gens):Inv X pins σ H' s':=
 I.call' (ch:=[]) os f.un f.ok bare fun b z=>absurd z (by simp)
theorem Flown.out {s':Shared}(T:Top X)(I:Inv X pins σ H s)(f:Flown X.prog X.w X.stack H s H' B s'.heap)(os:s'.os=s.os)(bare:AllBare s'.gens):Flown X.prog X.w X.outer X.H₀ X.s₀ H' B s'.heap:=by
 have G:=f.inv I os bare
 refine⟨by have:=G.base;rw[T.ex]at this;exact this,f.ok,f.st,f.trk,fun b o e j=>?_⟩
 obtain⟨i,e1⟩:=I.base.there b o e (by rw[T.ex];simp)
 refine f.old b i e1 fun z=>?_
 rcases List.mem_cons.mp (I.stkSub b z)with z|z
 .exact absurd (Nat.lt_of_lt_of_le (Heap.lt_size e) I.ok.above) (by rw[z];exact Nat.lt_irrefl _)
 .exact j z
end
theorem ObjOk.there {P:Program}{w:World}{H:Hp}{h:Heap}{a:Addr}{o:HO}(x:ObjOk P w H h a o):∃ ob,h.get? a=some ob:=by
 cases o with
 |lst xs=>obtain⟨_,_,_,_,e⟩:=x;exact⟨_,e⟩
 |tup xs=>obtain⟨_,_,_,⟨_,e,_⟩⟩:=x;exact⟨_,e⟩
 |dK kvs=>obtain⟨_,_,_,_,o,_,_,e,_⟩:=x;exact⟨_,e⟩
 |dT kvs=>obtain⟨_,_,_,_,o,_,_,e,_⟩:=x;exact⟨_,e⟩
 |set S n=>obtain⟨o,_,_,_,e,_⟩:=x;exact⟨_,e⟩
 |ins C dx fs=>obtain⟨_,_,_,e,_⟩:=x;exact⟨_,e⟩
 |own y=>exact x
 |xd fs=>obtain⟨_,⟨_,_,_,e,_⟩,_⟩:=x;exact⟨_,e⟩
 |rng lo hi=>obtain⟨_,_,_,e⟩:=x;exact⟨_,e⟩
 |frz ob u=>exact⟨_,x.1⟩
 |tbl ps=>exact⟨_,show h.get? a=some _ from x⟩
 |met f y=>exact⟨_,show h.get? a=some _ from x⟩
 |ext φ=>exact x.2.1
noncomputable abbrev bmV:List Value:=[.type "ValueError",.type "Exception",.type "BaseException",.type "object"]
theorem xobj {K:W.Frag}{h:Heap}{C:Addr}{j:List Value}{i:String}(X:K.In h)(q:W.excIn K C j i=true):
  ∃ bm N nm S bs hdct sn sub ab col dd k0 k1 k2 k3 k5 L,h.get? C=some (excClassObj nm S C N bs bm hdct sn sub ab col dd k0 k1 k2 k3 k5 i)/\h.Ns N L/\L "__init__"=none/\OwnTail h j bm:=by
 unfold W.excIn at q
 split at q
 .rename_i d1 cd sl ho
  split at q
  .rename_i C1 bm k0 k1 k2 k3 n1 k5 hm hs
   simp only[beq_iff_eq,Bool.not_eq_true',Bool.and_eq_true]at q
   obtain⟨⟨⟨⟨⟨R,O⟩,I⟩,M⟩,z⟩,G⟩:=q
   subst R O
   obtain⟨a1,a2,a3,a4,a5,a6,a7,a8,a9,Z,Y⟩:=cd
   dsimp only at hm I z G
   subst hm I
   obtain⟨l⟩:=sl
   have U:l=[k0,k1,k2,k3,some (.builtin n1),k5]:=hs
   subst U
   exact⟨bm,_,_,_,_,_,_,_,_,_,_,k0,k1,k2,k3,k5,_,X _ _ ho,.of_isNs (W.isNs_of_in X z),W.nsMap_none_of_in X z G,W.tail_of_in X M⟩
  .cases q
 .cases q
def XC (K:W.Frag)(c:Str)(C:Addr):Prop:=W.nsIn K mainGlobals c=some (some (.ref C))/\yt7 K C=some c
def RXp (X:Cx)(pins:List (Addr×Obj))(W:Str->St->Hp->Prop)(ev:Value)(s3:Shared):Prop:=
 ∃(e C:Addr)(a0:Value)(σ':St)(H1:Hp)(s1:Shared)(H':Hp)(B:Heap)(c:Str),ev= .ref e/\Inv X pins σ' H1 s1/\s3.os=s1.os/\AllBare s3.gens/\Flown X.prog X.w X.stack H1 s1 H' B s3.heap/\
  Heap.FlyingW B X.stack e (.ref C) a0 s3.heap/\XC X.K c C/\W c σ' H'
def RX (X:Cx)(pins:List (Addr×Obj))(W:Str->St->Hp->Prop)(ev:Value)(s':Shared):Prop:=
 wpAny (model X.prog X.w) X.A (noteFrame ev X.env) (fun _ s2=>wpAny (model X.prog X.w) X.A (setFlight ev none) (fun _ s3=>RXp X pins W ev s3) noE s2) noE s'
section
variable {X:Cx}{pins:List (Addr×Obj)}{σ:St}{H:Hp}{s:Shared}{W:Str->St->Hp->Prop}
theorem zh7 {E:XK}{M:Value}{s':Shared}(T:Top X)(I:Inv X pins σ H s)(h:CXx X.prog X.w X.stack H s E M s')(R:∀ v o H',E v o H'->∃ c C,v= .ref C/\XC X.K c C/\W c σ H'):RX X pins W M s':=by
 obtain⟨e,C,a0,H',B,rfl,os,bare,f,L,q⟩:=h
 obtain⟨c,U,z,N,w⟩:=R _ _ _ q
 cases z
 have fr:X.A.frames=some (X.env::X.outer):=by rw[<-T.stk];exact I.ok.frames
 have G:=L
 rw[T.stk]at L
 refine wpAny_looks_onW fr T.frm L fun h1 hh O=>?_
 have S:=f.on G.2.2.1 hh.1 O
 refine wpAny_landsW hh fun h2 i j=>?_
 rw[<-T.stk]at i hh
 exact⟨e,C,a0,σ,H,s,H',B,c,rfl,I,os,bare,S.on hh.2.2.1 i.1 j,i,N,w⟩
theorem xy6 {e C:Addr}{c:Str}{us:List Value}{h1:Heap}(T:Top X)(I:Inv X pins σ H s)(hm:Heap.MadeExcOf s.heap h1 e (.ref C) us)(N:XC X.K c C)(q:W c σ H):RX X pins W (.ref e) { s with heap:=h1 }:=by
 have fr:X.A.frames=some (X.env::X.outer):=by rw[<-T.stk];exact I.ok.frames
 have G:∀ env∈X.stack,∀ a,env.frame=some a->a∈frs X.stack:=fun env j a ha=>List.mem_filterMap.mpr ⟨env,j,ha⟩
 have ff:=PySem.W.funFrames_hide I.stack G
 have i:(PySem.W.hideAll s.heap (frs X.stack)).StaysIn s.heap:=fun b o z=>PySem.W.of_hideAll _ z
 have Z:Flown X.prog X.w X.stack H s H (PySem.W.hideAll s.heap (frs X.stack)) s.heap:=
  ⟨Un.refl,I.hok,i,fun b o z=>(by
   obtain⟨ob,eb⟩:=(I.hok b o z).there
   exact⟨ob,PySem.W.hideAll_get _ eb fun y=>by rw[I.stkFree b y]at z;cases z⟩),fun b o z U=>⟨o,PySem.W.hideAll_get _ z U⟩⟩
 obtain⟨t,j,S,ht⟩:=hm.there
 have L:s.heap.FunFrames (PySem.W.hideAll s.heap (frs X.stack)) (X.env::X.outer):=by rw[<-T.stk];exact ff
 have M:(PySem.W.hideAll s.heap (frs X.stack)).get? e=none:=by
  cases z:(PySem.W.hideAll s.heap (frs X.stack)).get? e with
  |none=>rfl
  |some o=>have:=i e o z;rw[hm.new]at this;cases this
 have key:wpAny (model X.prog X.w) X.A (noteFrame (.ref e) X.env) (fun _ s2=>wpAny (model X.prog X.w) X.A (setFlight (.ref e) none) (fun _ O=>RXp X pins W (.ref e) O) noE s2) noE { s with heap:=h1 }:=by
  unfold noteFrame
  simp only[T.frm]
  refine wpAny_bind (wpAny_field (s:={ s with heap:=h1 }) (x:=Value.none) j rfl (by rfl) ?_)
  rw[if_neg (by decide)]
  refine wpAny_newEntryW (s:={ s with heap:=h1 }) (a0:=.ref t) fr (L.of_keeps fun b o z _=>⟨o,hm.keeps b o z,rfl⟩) T.frm j (fun b o z=>hm.keeps b o (i b o z)) M rfl (by simp) (by rfl) fun h2 Y=>?_
  obtain⟨k1,k2,k3,R⟩:=Y
  rw[<-T.stk]at k2
  exact⟨e,C,.ref t,σ,H,s,H,_,c,rfl,I,rfl,I.bare,Z.on I.stack k1 ((Heap.UpToSlots.of_keeps hm.keeps).trans R),⟨k1,M,k2,k3⟩,N,q⟩
 exact key
theorem ys5 {E:XK}{j:Value}{s':Shared}(T:Top X)(h:RX X pins (fun c _ H'=>∀ C,XC X.K c C->E (.ref C) none H') j s'):
  wpAny (model X.prog X.w) X.A (leaving X.env j) (fun _ i=>CXx X.prog X.w X.outer X.H₀ X.s₀ E j i) (fun R i=>CXx X.prog X.w X.outer X.H₀ X.s₀ E R i) s':=by
 unfold leaving
 refine wpAny_bind (wpAny_mono h (fun _ s2 h2=>wpAny_mono h2 (fun _ S N=>?_) fun _ _ z=>z.elim) fun _ _ z=>z.elim)
 obtain⟨e,C,a0,G,H1,s1,H',B,c,rfl,I,os,bare,f,O,L,q⟩:=N
 obtain⟨l1,l2,l3,M⟩:=O
 rw[T.stk]at l3
 exact⟨e,C,a0,H',B,rfl,by rw[os];exact I.os,bare,f.out T I os bare,⟨l1,l2,l3.2.2,M⟩,q C L⟩
end
noncomputable abbrev Cx.bear (X:Cx)(pins:List (Addr×Obj))(E:Value->Shared->Prop):Cx:={ X with pn:=X.pn++pins,xe:=E }
section
variable {X:Cx}{pins pins':List (Addr×Obj)}{σ:St}{H:Hp}{s:Shared}{E:Value->Shared->Prop}
theorem Cx.Ok.bear (ok:X.Ok):(X.bear pins E).Ok:=⟨ok.mod,ok.kind,ok.glob,ok.blt,ok.above,ok.inj,ok.has,ok.cab,ok.hd,ok.frames,ok.stk,ok.exf,ok.bs,ok.bsz,ok.noex,ok.exfs,ok.funs,ok.frf⟩
theorem Cx.Ok.unbear (ok:(X.bear pins E).Ok):X.Ok:=⟨ok.mod,ok.kind,ok.glob,ok.blt,ok.above,ok.inj,ok.has,ok.cab,ok.hd,ok.frames,ok.stk,ok.exf,ok.bs,ok.bsz,ok.noex,ok.exfs,ok.funs,ok.frf⟩
theorem Inv.bear (I:Inv X (pins++pins') σ H s):Inv (X.bear pins E) pins' σ H s:=⟨I.ok.bear,I.os,I.bare,I.base,I.loc,I.cell,I.free,I.freeC,fun p hp=>I.pin p (by rw[<-append_assoc];exact hp),I.hok,I.len⟩
theorem Inv.unbear (I:Inv (X.bear pins E) pins' σ H s):Inv X (pins++pins') σ H s:=⟨I.ok.unbear,I.os,I.bare,I.base,I.loc,I.cell,I.free,I.freeC,fun p hp=>I.pin p (by rw[<-append_assoc]at hp;exact hp),I.hok,I.len⟩
theorem Inv.fewer (I:Inv X (pins++pins') σ H s):Inv X pins σ H s:=⟨I.ok,I.os,I.bare,I.base,I.loc,I.cell,I.free,I.freeC,fun p hp=>I.pin p (by rw[<-append_assoc];exact mem_append_left _ hp),I.hok,I.len⟩
theorem SP.unbear {D:Ends}{f:Flow}{s':Shared}(h:SP (X.bear pins E) pins' D f s'):SP X (pins++pins') D f s':=by
 cases f with
 |next=>obtain⟨i,H',I,q⟩:=h;exact⟨i,H',I.unbear,q⟩
 |brk=>obtain⟨i,H',I,q⟩:=h;exact⟨i,H',I.unbear,q⟩
 |cont=>obtain⟨i,H',I,q⟩:=h;exact⟨i,H',I.unbear,q⟩
 |ret u=>obtain⟨v,i,H',I,r,q⟩:=h;exact⟨v,i,H',I.unbear,r,q⟩
variable (nx:X.xe=noE)
include nx
theorem PE.bear {e:Expr}{t:TE}(h:PE X e t):PE (X.bear pins E) e t:=fun pins' s σ H Q I hw=>
 wpAny_mono (h _ s σ H Q I.unbear hw) (fun _ _ ⟨v,H',i,r,q⟩=>⟨v,H',i.bear,r,q⟩) fun _ _ z=>by rw[nx]at z;exact z.elim
theorem PT.bear {e:Expr}{t:TT}(h:PT X e t):PT (X.bear pins E) e t:=fun pins' s σ H Q I hw=>
 wpAny_mono (h _ s σ H Q I.unbear hw) (fun _ _ ⟨H',i,q⟩=>⟨H',i.bear,q⟩) fun _ _ z=>by rw[nx]at z;exact z.elim
theorem PA.bear {es:List Expr}{t:TA}(h:PA X es t):PA (X.bear pins E) es t:=fun pos pins' s σ H Q I hw=>
 wpAny_mono (h pos _ s σ H Q I.unbear hw) (fun _ _ ⟨v,H',i,r,q⟩=>⟨v,H',i.bear,r,q⟩) fun _ _ z=>by rw[nx]at z;exact z.elim
end
end
section
noncomputable abbrev MXe:=Ro->Option Str
noncomputable abbrev MXs:=Ro->Option (Str×Ro)
noncomputable abbrev WX:=Str->St->Hp->Prop
def TXe (K:PySem.W.Frag)(x:MXe)(W:WX):St->Hp->Prop:=fun σ H=>∃ F0 H0 F ρ c,Rl K F0 H0 F H σ ρ/\x ρ=some c/\∀ F' H',Ext F H F' H'->W c σ H'
def TXs (K:PySem.W.Frag)(x:MXs)(W:WX):St->Hp->Prop:=fun σ H=>∃ F0 H0 F ρ c ρ',Rl K F0 H0 F H σ ρ/\x ρ=some (c,ρ')/\∀ F' H' σ',Rl K F0 H0 F' H' σ' ρ'->Same F F'->W c σ' H'
noncomputable abbrev Cx.rx (X:Cx)(pins:List (Addr×Obj))(W:WX):Cx:=X.bear pins (RX X pins W)
def PEX (X:Cx)(e:Expr)(x:MXe):Prop:=∀ pins W,PE (X.rx pins W) e fun σ H _=>TXe X.K x W σ H
def PSX (X:Cx)(st:Stmt)(x:MXs):Prop:=∀ pins W,PS (X.rx pins W) st fun _ σ H=>TXs X.K x W σ H
def PSsX (X:Cx)(st:List Stmt)(x:MXs):Prop:=∀ pins W,PSs (X.rx pins W) st fun _ σ H=>TXs X.K x W σ H
noncomputable def xE (x:MXe):MXs:=fun ρ=>(x ρ).map fun c=>(c,ρ)
theorem xE_e {K:PySem.W.Frag}{x:MXe}{W:WX}{σ:St}{H:Hp}(h:TXs K (xE x) W σ H):TXe K x W σ H:=by
 obtain⟨F0,H0,F,ρ,c,ρ',j,e,w⟩:=h
 unfold xE at e
 cases h1:x ρ with
 |none=>rw[h1]at e;cases e
 |some z=>
  rw[h1]at e;cases e
  exact⟨F0,H0,F,ρ,c,j,h1,fun F' H' i=>w F' H' σ (j.go i) i.ff⟩
section
variable {X:Cx}{st:Stmt}{rest:List Stmt}{e c:Expr}{pos:Pos}
noncomputable def yi5:MXs:=fun _=>none
theorem K1:PSsX X rest yi5:=fun _ _ _ _ _ _ _ _ i=>by obtain⟨_,_,_,_,_,_,_,z,_⟩:=i;cases z
theorem zy4 {x:MXs}(h:PSX X st x):PSsX X (st::rest) x:=fun pins W=>(K3 (h pins W) (K1 pins W)).imp fun _ _ _ q=>q
theorem K0 {x:MXs}(h:PSX X st x):PSsX X [st] x:=fun pins W=>G8 (h pins W)
noncomputable def xif (c:MB)(x y:MXs):MXs:=fun ρ=>match c ρ with |some true=>x ρ|some false=>y ρ|none=>none
theorem yr7 {ca:MB}{a b:List Stmt}{N M:MXs}(nx:X.xe=noE)(O:PC' X c ca)(ha:PSsX X a N)(R:PSsX X b M):PSX X (.If c a b pos) (xif ca N M):=fun pins W=>
 (yv4 (PT.bear nx O) (ha pins W) (R pins W)).imp fun D σ H G=>by
  obtain⟨F0,H0,F,ρ,c,ρ',I,e,w⟩:=G
  unfold xif at e
  split at e
  .rename_i h1
   exact⟨F0,H0,F,ρ,_,I,h1,fun F1 H1 z=>iteT ⟨F0,H0,F1,ρ,c,ρ',I.go z,e,fun F' H' i j L=>w F' H' i j (z.ff.trans L)⟩⟩
  .rename_i h1
   exact⟨F0,H0,F,ρ,_,I,h1,fun F1 H1 z=>iteF ⟨F0,H0,F1,ρ,c,ρ',I.go z,e,fun F' H' i j L=>w F' H' i j (z.ff.trans L)⟩⟩
  .cases e
theorem zb6 {x:MXe}(h:PEX X e x)(i:swapsWith e none pos.line X.env=pure false:=by rfl):PSX X (.Expr e pos) (xE x):=fun pins W=>(S7 (h pins W) i).imp fun _ _ _ q=>xE_e q
noncomputable abbrev MFX:=List D->Option Str
def spX (K:W.Frag)(n:Nat)(x:MFX):Sp:=fun vs H _ E=>vs.length=n/\∃ F ds c,Same F H/\Reps K F vs ds/\x ds=some c/\∀ C F' H',XC K c C->Ext F H F' H'->E (.ref C) none H'
@[irreducible] noncomputable def yx9 (x:MFX)(m:ML):MXe:=fun ρ=>(m ρ).bind x
theorem za2 {k n:Nat}{f:Addr}{fd:FuncData}{ps:List Str}{L:MFX}{m:ML}{x:Str}{p:Pos}{es:List Expr}(nx:X.xe=noE)(T:Top X)(F:FnOk X.prog X.w X.K X.mg X.base (CXx X.prog X.w) k f fd ps (spX X.K n L))(hr:Room k X.A)(hg:Gl X x)(hm:X.mg x=some (.ref f))
  (hk:PySem.W.keepIn X.K (.ref f)=true) (hb:Binds X.K fd ps []) (hl:(e::es).length=n) (ha:PAs X (e::es) m) (R:∀ ρ ds,m ρ=some ds->ds.length=(e::es).length)
  (U:(x==("__debug__":Str))=false:=by decide) (he:starEach (e::es) X.env=(false,eval e X.env)::starEach es X.env:=by rfl) (O:(backTo pos (starEach es X.env)).any (·.1)=false:=by rfl):
  PEX X (.Call (.Name x p) (e::es) [] pos) (yx9 L m):=by
 intro pins W pins' s σ H Q I h
 obtain⟨F0,H0,F1,ρ,c,rl,e1,w⟩:=h
 unfold yx9 at e1
 cases h1:m ρ with
 |none=>rw[h1]at e1;cases e1
 |some ds=>
  rw[h1]at e1
  have e1:L ds=some c:=e1
  have Y:PA (X.rx pins W) (e::es) (TAs X.K m):=PA.bear nx ha
  refine wpAny_Call_Name_kw (P8 I hg hm ?_ U)
  refine PySem.W.callWith_K (h₀:=X.base) I.ok.mod.kin hk (thn (Y pos pins' s σ H (fun vs H1=>vs.length=n/\∃ F2,Ext F1 H F2 H1/\Reps X.K F2 vs ds) I ⟨F0,H0,F1,ρ,ds,rl,h1,fun vs F2 H2 M r2=>⟨by rw[r2.length,R ρ ds h1,hl],F2,M,r2⟩⟩) fun us s1 ⟨vs,H1,N,r,hn,F2,M,r2⟩=>⟨N.kIn,?_⟩) he O
  have i:spX X.K n L vs H1 (fun _ _=>False) (fun v _ H'=>∃ c C,v= .ref C/\XC X.K c C/\W c σ H'):=⟨hn,F2,ds,c,M.fh,r2,e1,fun C F' H' Z x3=>⟨c,C,rfl,Z,w F' H' (M.trans x3)⟩⟩
  have S:us.length=ps.length:=by rw[<-r.length];exact F.len _ _ _ _ i
  have G:=hb s1 us N.kIn (by rw[append_nil];exact S)
  rw[append_nil]at G
  refine wpAny_call (codeAny_mono (F.run X.A X.stack s1 H1 ⟨us,[]⟩ us vs _ _ hr N.env0 G r i) fun r' s' j=>?_)
  cases r' with
  |error ev=>exact zh7 (E:=fun v _ H'=>∃ c C,v= .ref C/\XC X.K c C/\W c σ H') T N.unbear.fewer j fun v o H' z=>z
  |ok fl=>
   cases fl with
   |ret u=>obtain⟨_,_,_,_,_,_,_,z⟩:=j;exact z.elim
   |next=>exact False.elim j
   |brk=>exact False.elim j
   |cont=>exact False.elim j
noncomputable def zz4 (c:Str)(m:ML):MXs:=fun ρ=>(m ρ).map fun _=>(c,ρ)
theorem zy3 {C:Addr}{x:Str}{es:List Expr}{m:ML}{n:Nat}{np cpos:Pos}(nx:X.xe=noE)(T:Top X)(hc:X.calm=true)(hg:Gl X x)(hm:X.mg x=some (.ref C))(Z:XC X.K x C)(q:PySem.W.excIn X.K C bmV "ValueError.__new__"=true)
  (ha:PAs X (e::es) m) (hl:∀ ρ ds,m ρ=some ds->ds.length=n) (hn:n<=sizeLine) (M:(x==("__debug__":Str))=false:=by decide)
  (U:starEach (e::es) X.env=(false,eval e X.env)::starEach es X.env:=by rfl) (j:(backTo cpos (starEach es X.env)).any (·.1)=false:=by rfl):
  PSX X (.Raise (some (.Call (.Name x np) (e::es) [] cpos)) none pos) (zz4 x m):=by
 intro pins W pins' s σ H D I h
 obtain⟨F0,H0,F1,ρ,c,ρ',S,e1,w⟩:=h
 unfold zz4 at e1
 cases h1:m ρ with
 |none=>rw[h1]at e1;cases e1
 |some ds=>
  rw[h1]at e1;cases e1
  obtain⟨bm,N,nm,qn,bs,hdct,sn,sub,ab,col,dd,k0,k1,k2,k3,k5,mN,hC,hN,z,Y⟩:=xobj I.mod.kin q
  have O:PA (X.rx pins W) (e::es) (TAs X.K m):=PA.bear nx ha
  have h2:=O cpos pins' s σ H (fun vs H1=>vs.length=n/\W x σ H1) I ⟨F0,H0,F1,ρ,ds,S,h1,fun vs F2 H2 R r2=>⟨by rw[r2.length];exact hl ρ ds h1,w F2 H2 σ (S.go R) R.ff⟩⟩
  refine wpAny_Raise_call_subT (C:=C) (N:=N) (bm:=bm) (nm:=nm) (q:=qn) (bs:=bs) (sub:=sub) (sn:=sn) (hdct:=hdct) (col:=col) (ab:=ab) (dd:=dd) (k0:=k0) (k1:=k1) (k2:=k2) (k3:=k3) (k5:=k5) PySem.F.excBase_ValueError (Y.hasType PySem.F.excBase_ValueError.hasBase) (I.ok.hd hc) ?_ z (P8 I hg hm ⟨rfl,?_⟩ M)
  .rw[U]
   show (false || (backTo cpos (starEach es X.env)).any (·.1))=false
   rw[j];rfl
  .rw[U]at h2 ⊢
   refine Calls.evalArgs_plain (wpAny_mono h2 (fun us s2 ⟨vs,H1,i,r1,L,q1⟩=>⟨rfl,by rw[<-r1.length,L];exact hn,i.bk _ _ hC,hN.keeps i.bk,Y.keeps i.bk,fun h3 a G=>?_⟩) fun _ _ y=>y)
   exact xy6 T i.unbear.fewer G Z q1
noncomputable def runX (n:Nat)(x:MXs):MFX:=fun ds=>(x (v3 n ds)).map (·.1)
theorem Fun.okX {P:Program}{w:World}{K:PySem.W.Frag}{mg:Str->Option Value}{base:Heap}{x qual:Str}{st:Stmt}{f:Addr}{fd:FuncData}{N ps:List Str}{k:Nat}{m:MXs}(Fn:Fun K x qual st f fd)(Sc:FnScope N ps (z9 st))
  (i:∀(cdv:Value)(A:Around)(outer:List Env)(s:Shared)(H:Hp)(E:XK),Room k (A.deeper (envOfC qual (z9 st) s.heap.objs.size f cdv))->PSsX (cxOf (CXx P w) P w K mg base N qual (z9 st) f cdv A outer s H E).nox (v4 st) m):
  FnOk P w K mg base (CXx P w) (k+1) f fd ps (spX K ps.length (runX N.length m)):=by
 obtain⟨oc,od,kV,doc,pm,an,cdv,ct,osl,rfl,U,j⟩:=Fn.ex
 refine xj4 U j Sc (fun vs H Q E h=>h.1) fun A outer s H vs Q E Y h=>?_
 obtain⟨hl,F,ds,c,O,R,e,M⟩:=h
 unfold runX at e
 cases h1:m (v3 N.length ds)with
 |none=>rw[h1]at e;cases e
 |some o=>
  obtain⟨c',ρ'⟩:=o
  rw[h1]at e;cases e
  have Z:=i cdv A outer s H E Y
  let W:WX:=fun c _ H'=>∀ C,XC K c C->E (.ref C) none H'
  refine⟨fun _ σ H=>TXs K m W σ H,fun pins s1 σ H1 D I q=>?_,F,H,F,v3 N.length ds,c',ρ',O5 O R,h1,fun F' H' G S _ C L=>M C F' H' L S.ext⟩
  have I1:Inv (cxOf (CXx P w) P w K mg base N qual (z9 st) f cdv A outer s H E).nox (pins++[]) σ H1 s1:=by rw[append_nil];exact I.wish _
  refine wpAny_mono (Z pins W [] s1 σ H1 D I1.bear q) (fun fl s' z=>?_) fun ev s' z=>?_
  .have:=z.unbear
   rw[append_nil]at this
   exact this.unwish
  .exact ys5 (X:=(cxOf (CXx P w) P w K mg base N qual (z9 st) f cdv A outer s H E).nox) ⟨rfl,rfl,rfl⟩ z
end
end
section
section
variable {X:Cx}{pins:List (Addr×Obj)}{E:Value->Shared->Prop}(nx:X.xe=noE)
include nx
end
section
variable {X:Cx}{e c:Expr}{pos:Pos}{st:Stmt}{rest:List Stmt}
end
end
section
noncomputable abbrev Cx.inX (X:Cx)(a:Addr):Cx:={ X with A:=X.A.mark (some (.ref a)),calm:=false }
section
variable {X:Cx}{pins:List (Addr×Obj)}{σ:St}{H:Hp}{s:Shared}{a C:Addr}
theorem Cx.Ok.inX (ok:X.Ok):(X.inX a).Ok:=⟨ok.mod,ok.kind,ok.glob,ok.blt,ok.above,ok.inj,ok.has,ok.cab,(fun z=>by cases z),ok.frames,ok.stk,ok.exf,ok.bs,ok.bsz,ok.noex,ok.exfs,ok.funs,ok.frf⟩
theorem Inv.inX (I:Inv X pins σ H s):Inv (X.inX a) pins σ H s:=⟨I.ok.inX,I.os,I.bare,I.base,I.loc,I.cell,I.free,I.freeC,I.pin,I.hok,I.len⟩
theorem Inv.outX (ok:X.Ok)(I:Inv (X.inX a) pins σ H s):Inv X pins σ H s:=⟨ok,I.os,I.bare,I.base,I.loc,I.cell,I.free,I.freeC,I.pin,I.hok,I.len⟩
theorem Inv.gone {i:Nat}{n:Str}{h':Heap}{t':Nat}{v:Option Value}{m:Str->Option Value}(I:Inv X pins σ H s)(hN:X.N.Nodup)(hi:X.N[i]? =some n)(hm:s.heap.Ns X.env.locals m)(hn:h'.Ns X.env.locals (fun x=>if x=n then v else m x))(G:Heap.SameBut X.env.locals s.heap h'):
  Inv X pins (σ.set i none) H { s with heap:=h',toks:=t' }:=by
 have old:∀ b o,X.s₀.heap.get? b=some o->b≠X.env.locals:=fun b o e=>Nat.ne_of_lt (Nat.lt_of_lt_of_le (Heap.lt_size e) I.ok.above)
 refine⟨I.ok,I.os,I.bare,⟨fun b o e n Z L=>(G.2 b (old b o e)).trans (I.base.keep b o e n Z L),fun b o e n Z L=>?_,I.base.free,fun b o e L=>?_,I.base.tups,I.base.frzs,I.base.tbls⟩,⟨_,hn,fun j y u e1 e2 e3=>?_⟩,fun y c e=>?_,I.free,I.freeC,fun p hp=>?_,fun b ob e=>?_,by rw[length_set];exact I.len⟩
 .obtain⟨sl,e1⟩:=I.base.slot b o e n Z L
  exact⟨sl,(G.2 b (old b o e)).trans e1⟩
 .obtain⟨o1,e1⟩:=I.base.there b o e L
  exact⟨o1,(G.2 b (old b o e)).trans e1⟩
 .have hj:j≠i:=fun z=>by
   subst z
   have hl:j<σ.length:=by
    rcases Nat.lt_or_ge j σ.length with z|z
    .exact z
    .rw[getElem?_eq_none (by simpa using z)]at e2;cases e2
   rw[getElem?_set_self hl]at e2;cases e2
  rw[getElem?_set_ne (Ne.symm hj)]at e2
  obtain⟨m0,S,U⟩:=I.loc
  have R:∀ z,m0 z=m z:=fun z=>by
   obtain⟨oo,es,ep,ho,hd,_,hf⟩:=S
   obtain⟨a0,a1,a2,M,O,_,Y⟩:=hm
   rw[ho]at M;cases M
   rw[hd]at O;cases O
   rw[<-hf,<-Y]
  obtain⟨w,r,l⟩:=U j y u e1 e2 e3
  refine⟨w,r,?_⟩
  have hy:y≠n:=fun z=>hj (zq0 hN e1 (z ▸ hi))
  rcases l with⟨k,q⟩|⟨k,c,e,z⟩
  .exact .inl ⟨k,by show (if y=n then v else m y)=some w;rw[if_neg hy,<-R];exact q⟩
  .exact .inr ⟨k,c,e,z.sameBut G (I.cne y c e)⟩
 .obtain⟨w,z⟩:=I.cell y c e
  exact⟨w,z.sameBut G (I.cne y c e)⟩
 .obtain⟨e,n,ne,nf,d⟩:=I.pin p hp
  exact⟨(G.2 p.1 ne).trans e,n,ne,nf,d⟩
 .refine(I.hok b ob e).stay (fun c u hc q=>(G.2 c ?_).trans q) (fun _ q=>q) fun _ _ q=>q
  rintro rfl
  rcases hc with z|z
  .rw[<-z,I.free]at e;cases e
  .rw[I.free]at z;cases z
theorem Inv.track {o:HO}(I:Inv X pins σ H s)(M:X.s₀.heap.get? a=none)(L:a≠X.env.locals)(G:∀ x c,X.env.cells.lookup x=some c->c≠a)(hp:∀ p∈X.pn++pins,p.1≠a)(hn:H a=none)(new:ObjOk X.prog X.w (upd H a o) s.heap a o):
  Inv X pins σ (upd H a o) s:=by
 have nb:∀ b o,X.s₀.heap.get? b=some o->b≠a:=fun b o e z=>by rw[z,M]at e;cases e
 refine⟨I.ok,I.os,I.bare,⟨I.base.keep,I.base.slot,fun b o e n j=>?_,I.base.there,fun b xs e=>?_,fun b o u e=>?_,fun b ps e=>?_⟩,I.loc,I.cell,?_,fun x c e=>?_,fun p i=>?_,fun b u e=>?_,I.len⟩
 .rw[x8 (nb b o e)];exact I.base.free b o e n j
 .have:=I.base.tups b xs e
  rw[x8 (n6 this hn)];exact this
 .have:=I.base.frzs b o u e
  rw[x8 (n6 this hn)];exact this
 .obtain⟨more,this⟩:=I.base.tbls b ps e
  exact⟨more,by rw[x8 (n6 this hn)];exact this⟩
 .rw[x8 (Ne.symm L)];exact I.free
 .rw[x8 (G x c e)];exact I.freeC x c e
 .obtain⟨e,n,r⟩:=I.pin p i
  exact⟨e,by rw[x8 (hp p i)];exact n,r⟩
 .by_cases hb:b=a
  .subst hb;rw[x9]at e;cases e;exact new
  .rw[x8 hb]at e
   exact(I.hok b u e).stay (fun c v _ q=>q) (fun c q=>by rw[x8 (n6 q hn)];exact q) fun c xs q=>by rw[x8 (n6 q hn)];exact q
end
theorem Rl.drop {K:W.Frag}{F0 H0 F H:Hp}{σ:St}{ρ:Ro}(r:Rl K F0 H0 F H σ ρ)(i:Nat):Rl K F0 H0 F H (σ.set i none) (ρ.set i none):=by
 have get:∀(j:Nat) x,(ρ.set i none)[j]? =some (some x)->i≠j/\ρ[j]? =some (some x):=fun j x e=>by
  by_cases G:i=j
  .subst G
   have I:i<ρ.length:=by
    rcases Nat.lt_or_ge i ρ.length with z|z
    .exact z
    .rw[getElem?_eq_none (by simpa using z)]at e;cases e
   rw[getElem?_set_self I]at e;cases e
  .rw[getElem?_set_ne G]at e;exact⟨G,e⟩
 have M:∀(j:Nat) x,(σ.set i none)[j]? =some (some x)->σ[j]? =some (some x):=fun j x e=>by
  by_cases G:i=j
  .subst G
   have I:i<σ.length:=by
    rcases Nat.lt_or_ge i σ.length with z|z
    .exact z
    .rw[getElem?_eq_none (by simpa using z)]at e;cases e
   rw[getElem?_set_self I]at e;cases e
  .rw[getElem?_set_ne G]at e;exact e
 refine⟨r.ext,by simp[r.len],fun j d e=>?_,fun j ds e=>?_,fun j k p ds es L e1 e2 e3 N=>r.inj j k p ds es L (get j _ e1).2 (get k _ e2).2 (M j _ e3) (M k _ N),fun j p ds e=>?_,fun j k p ds es e1 e2 e3=>r.obn j k p ds es (get j _ e1).2 (get k _ e2).2 (M k _ e3),fun j k p q ds es e1 e2=>r.ob1 j k p q ds es (get j _ e1).2 (get k _ e2).2⟩
 .obtain⟨n,e⟩:=get j _ e
  rw[getElem?_set_ne n];exact r.sh j d e
 .obtain⟨n,e⟩:=get j _ e
  rw[getElem?_set_ne n];exact r.own j ds e
 .obtain⟨n,e⟩:=get j _ e
  rw[getElem?_set_ne n];exact r.ob j p ds e
section
variable {X:Cx}{pos np hpos:Pos}
end
end
section
structure RoomN (k:Nat)(A:Around):Prop where
 dp:A.depth+3*k+5<recursionLimit
 un:A.units+16*k+200<cLine
theorem RoomN.mono {j k:Nat}{A:Around}(r:RoomN k A)(h:j<=k):RoomN j A:=⟨by have:=r.dp;omega,by have:=r.un;omega⟩
theorem RoomN.deeper {k:Nat}{A:Around}(r:RoomN (k+1) A)(env:Env):RoomN k (A.deeper env):=
 ⟨by have:=r.dp;show A.depth+1+3*k+5<_;omega,by have:=r.un;show A.units+3+16*k+200<_;omega⟩
theorem Room.mark {k:Nat}{A:Around}(r:Room k A)(v:Option Value):RoomN k (A.mark v):=⟨r.dp,r.un⟩
structure FnOkN (P:Program)(w:World)(K:W.Frag)(mg:Str->Option Value)(base:Heap)(CX:CXT)(k:Nat)(f:Addr)(fd:FuncData)(ps:List Str)(sp:Sp):Prop where
 len:∀ vs H Q E,sp vs H Q E->vs.length=ps.length
 run:∀(A:Around)(outer:List Env)(s:Shared)(H:Hp)(args:Args)(us:List Value)(vs:List V)(Q:VK)(E:XK),RoomN k A->Env0 P w K mg base A outer s H->BindsTo s fd args (ps.zip us)->Vals vs us->sp vs H Q E->
  codeAny (model P w) A (.call (.ref f) args) (CR CX outer P w H s Q E) s
theorem FnOkN.mono {P:Program}{w:World}{K:W.Frag}{mg:Str->Option Value}{base:Heap}{CX:CXT}{j k:Nat}{f:Addr}{fd:FuncData}{ps:List Str}{sp:Sp}(F:FnOkN P w K mg base CX j f fd ps sp)(h:j<=k):FnOkN P w K mg base CX k f fd ps sp:=
 ⟨F.len,fun A outer s H args us vs Q E i=>F.run A outer s H args us vs Q E (i.mono h)⟩
noncomputable abbrev yk6 (CX:CXT)(P:Program)(w:World)(K:W.Frag)(mg:Str->Option Value)(base:Heap)(N:List Str)(qual:Str)(scope:Scope)(f:Addr)(cd:Value)(A:Around)(outer:List Env)(s:Shared)(H:Hp)(E:XK):Cx:=
 { cxOf CX P w K mg base N qual scope f cd A outer s H E with calm:=false }
theorem yu6 {CX:CXT}{P:Program}{w:World}{K:W.Frag}{mg:Str->Option Value}{base:Heap}{N ps:List Str}{qual:Str}{scope:Scope}{f:Addr}{cd:Value}{A:Around}{outer:List Env}{s s1:Shared}{H:Hp}{E:XK}{us:List Value}{vs:List V}
  (S:FnScope N ps scope) (i:Env0 P w K mg base A outer s H) (j:vs.length=ps.length) (r:Vals vs us)
  (x:InCallC s s.heap.objs.size (bindL (envOfC qual scope s.heap.objs.size f cd).kindOf (ps.zip us) fun _=>none) (cellsFrom (s.heap.objs.size+1) scope.names []) (bindC (envOfC qual scope s.heap.objs.size f cd).kindOf (ps.zip us) fun _=>none) s1):
  Inv (yk6 CX P w K mg base N qual scope f cd A outer s H E) [] (start N vs) H s1:=by
 have e1:Env0 P w K mg base { A with handled:=none } outer s H:=⟨i.frames,i.mod,i.bs,i.bsz,i.funs,i.frf,i.hok,i.bare⟩
 have I:=zk9 (CX:=CX) (E:=E) (A:={ A with handled:=none }) (qual:=qual) (f:=f) (cd:=cd) S rfl e1 j r x
 exact⟨⟨I.ok.mod,I.ok.kind,I.ok.glob,I.ok.blt,I.ok.above,I.ok.inj,I.ok.has,I.ok.cab,(fun z=>by cases z),Around.frames_deeper i.frames,I.ok.stk,I.ok.exf,I.ok.bs,I.ok.bsz,I.ok.noex,I.ok.exfs,I.ok.funs,I.ok.frf⟩,I.os,I.bare,I.base,I.loc,I.cell,I.free,I.freeC,I.pin,I.hok,I.len⟩
theorem xj3 {CX:CXT}{P:Program}{w:World}{K:W.Frag}{mg:Str->Option Value}{base:Heap}{k:Nat}{f:Addr}{name qual:Str}{params:Arguments}{body:List Stmt}{scope:Scope}{Z kV doc pm cdv ct oc:Value}{an od:Option Addr}
  {osl:Array (Option Value)} {N ps:List Str} {sp:Sp} (lk:K.lookup f=some ⟨oc,od,.func (W.fnOf name qual params body scope Z kV doc pm an cdv ct),osl⟩) (U:W.codeIn K cdv qual=true) (S:FnScope N ps scope)
  (len:∀ vs H Q E,sp vs H Q E->vs.length=ps.length)
  (z:∀(A:Around)(outer:List Env)(s:Shared)(H:Hp)(vs:List V)(Q:VK)(E:XK),RoomN k (A.deeper (envOfC qual scope s.heap.objs.size f cdv))->sp vs H Q E->
   ∃ t,PSs (yk6 CX P w K mg base N qual scope f cdv A outer s H E) body t/\t { nx:=fun _ H'=>Q .non H',rt:=Q } (start N vs) H):
  FnOkN P w K mg base CX (k+1) f (W.fnOf name qual params body scope Z kV doc pm an cdv ct) ps sp:=by
 refine⟨len,fun A outer s H args us vs Q E Y M hb r L=>?_⟩
 have hl:=len _ _ _ _ L
 have KX:K.In s.heap:=M.mod.kin.keeps fun b o e=>(M.bs b o e).1
 have R:s.heap.NoLimit:=M.mod.nolimit.keeps fun b o e=>(M.bs b o e).1
 have j:∀ y∈ps.zip us,scope.names.lookup y.1=some .local\/(scope.names.lookup y.1=some .cell/\((cellsFrom (s.heap.objs.size+1) scope.names []).lookup y.1).isSome=true):=fun⟨n,v⟩ hy=>by
  rcases S.par n (of_mem_zip hy).1 with q|q
  .exact .inl q
  .exact .inr ⟨q,W.cellsFrom_some _ _ _ (.inl q)⟩
 refine codeAny_call_function (by have:=Y.dp;omega) (KX _ _ lk) rfl S.co S.gen rfl (W.codeRec_of KX U) (hb _ _ _ _ ?_)
 refine wpAny_newFunctionEnv_cells S.kind j fun env he s1 x=>?_
 subst he
 refine⟨R.keeps x.toInCall.keep,codeAny_func ?_⟩
 obtain⟨t,ht,hq⟩:=z A outer s H vs Q E (Y.deeper _) L
 have I:Inv (yk6 CX P w K mg base N qual scope f cdv A outer s H E) [] (start N vs) H s1:=yu6 S M hl r x
 refine wpAny_mono (ht [] s1 (start N vs) H _ I hq) (fun fl s' G=>?_) fun e s' G=>G
 have fin:∀{i:St}{H':Hp}{v:V}{u:Value},Inv (yk6 CX P w K mg base N qual scope f cdv A outer s H E) [] i H' s'->RelV v u->Q v H'->CE outer P w H s Q u s':=
  fun{i H' v u} J O q=>⟨v,H',J.os,J.bare,J.base,J.hok,O,q⟩
 cases fl with
 |ret u=>
  obtain⟨v,i,H',J,O,q⟩:=G
  exact fin J O q
 |next=>
  obtain⟨i,H',J,q⟩:=G
  exact fin (v:=V.non) (u:=Value.none) J rfl q
 |brk=>
  obtain⟨_,_,_,q⟩:=G
  exact False.elim q
 |cont=>
  obtain⟨_,_,_,q⟩:=G
  exact False.elim q
theorem Fun.okN {P:Program}{w:World}{K:W.Frag}{mg:Str->Option Value}{base:Heap}{x qual:Str}{st:Stmt}{f:Addr}{fd:FuncData}{N ps:List Str}{k:Nat}{m:MS}(S:Fun K x qual st f fd)(R:FnScope N ps (z9 st))
  (i:∀(cdv:Value)(A:Around)(outer:List Env)(s:Shared)(H:Hp)(E:XK),RoomN k (A.deeper (envOfC qual (z9 st) s.heap.objs.size f cdv))->PSsd (yk6 CX0 P w K mg base N qual (z9 st) f cdv A outer s H E).nox (v4 st) m):
  FnOkN P w K mg base CX0 (k+1) f fd ps (spR K ps.length (runB N.length m)):=by
 obtain⟨oc,od,kV,doc,pm,an,cdv,ct,osl,rfl,M,j⟩:=S.ex
 refine xj3 M j R (fun vs H Q E h=>h.1) fun A outer s H vs Q E O h=>?_
 obtain⟨U,F,ds,r,G,I,e,ok⟩:=h
 unfold runB at e
 cases h1:m (v3 N.length ds)with
 |none=>rw[h1]at e;cases e
 |some o=>
  rw[h1]at e
  refine⟨_,(i cdv A outer s H E O).nox,F,H,F,v3 N.length ds,o,O5 G I,h1,?_⟩
  cases o with
  |nx ρ=>cases e;exact fun F' H' z L _=>ok .non F' H' L.ext .non
  |rt d=>cases e;exact ok
  |rf es=>cases e;exact ok
  |rp d es=>cases e;exact ok
  |rg d p r=>cases e
  |rgf d p r=>cases e
  |bk ρ=>cases e
  |ct ρ=>cases e
section
variable {X:Cx}{CX:CXT}{k:Nat}{f:Addr}{fd:FuncData}{ps:List Str}{sp:Sp}{dvs:List V}{ds:List Value}{E:XK}{x:Str}{p pos:Pos}{e:Expr}{es:List Expr}{t:TA}
theorem yf2 (F:FnOkN X.prog X.w X.K X.mg X.base CX k f fd ps sp)(M:RoomN k X.A)(O:Gl X x)(hm:X.mg x=some (.ref f))(hk:W.keepIn X.K (.ref f)=true)(S:Binds X.K fd ps ds)(hd:Vals dvs ds)(L:C7 CX X E)
  (ha:PA X (e::es) t) (G:(x==("__debug__":Str))=false:=by decide) (R:starEach (e::es) X.env=(false,eval e X.env)::starEach es X.env:=by rfl) (z:(backTo pos (starEach es X.env)).any (·.1)=false:=by rfl):
  PE X (.Call (.Name x p) (e::es) [] pos) (zh2 sp dvs E t):=by
 intro pins s σ H Q I h
 refine wpAny_Call_Name_kw (P8 I O hm ?_ G)
 refine W.callWith_K (h₀:=X.base) I.ok.mod.kin hk (thn (ha pos pins s σ H _ I h) fun us s1 ⟨vs,H1,j,r,q⟩=>⟨j.kIn,?_⟩) R z
 have r2:Vals (vs++dvs) (us++ds):=r.append hd
 have N:(us++ds).length=ps.length:=by rw[<-r2.length];exact F.len _ _ _ _ q
 refine wpAny_call (codeAny_mono (F.run X.A X.stack s1 H1 ⟨us,[]⟩ (us++ds) (vs++dvs) Q E M j.env0 (S s1 us j.kIn N) r2 q) fun r s' i=>?_)
 cases r with
 |error e=>exact L pins σ H1 s1 e s' j i
 |ok U=>
  cases U with
  |ret u=>exact j.after i
  |next=>exact False.elim i
  |brk=>exact False.elim i
  |cont=>exact False.elim i
end
@[irreducible] noncomputable def misX (tab:List (Str×Bool))(m:ME):ME:=fun ρ=>match m ρ with |some (.exc c)=>(tab.lookup c).map .bl|_=>none
section
variable {X:Cx}{a:Expr}{ma:ME}{pos:Pos}
def rIsX (K:W.Frag)(cv:Value)(tab:List (Str×Bool))(y:V):List V->Hp->VK->Prop:=fun vs H Q=>∃ b c k,vs=[.ref b,y]/\(∃ C,XC K c C/\H b=some (.ext (XAt b C)))/\tab.lookup c=some k/\Q (.bl k) H
theorem yy5 {cv:Value}{y:V}{tab:List (Str×Bool)}(j:∀ u,RelV y u->u=cv)(hk:∀ c k,tab.lookup c=some k->∀ C,XC X.K c C->XCls X.K C/\W.kitOne X.K (.ref C) cv=some k):zv5 X (.builtin "isinstance") (rIsX X.K cv tab y):=by
 intro pins s σ H xs us Q I r h
 obtain⟨b,c,k,rfl,⟨C,i,L⟩,e,q⟩:=h
 obtain⟨u,w,rfl,rx,r2⟩:=xz3 r
 cases rx
 cases j w r2
 obtain⟨z,G⟩:=hk c k e C i
 exact W.kia_one (yd2 z) I.kIn (I.xat L) G (fun z=>nomatch z) fun tk=>⟨.bl k,H,I.tok _,rfl,q⟩
theorem ym5 {cv:Value}{y:V}{tab:List (Str×Bool)}{ty:TE}(G:∀ σ H Q,Q y H->ty σ H Q){σ:St}{H:Hp}{Q:VK}(h:TD X.K (misX tab ma) σ H Q):tCB (rIsX X.K cv tab y) (yh2 (TD X.K ma) (yh2 ty tNil)) σ H Q:=by
 obtain⟨F0,H0,F,ρ,g,z,e,q⟩:=h
 unfold misX at e
 split at e
 .rename_i c h1
  cases h2:tab.lookup c with
  |none=>rw[h2]at e;cases e
  |some k=>
   rw[h2]at e;cases e
   refine⟨F0,H0,F,ρ,_,z,h1,fun v F1 H1 i r1=>?_⟩
   cases r1 with
   |exc j I=>exact G _ _ _ ⟨_,c,k,rfl,⟨_,j,i.fh _ _ I⟩,h2,q _ F1 H1 i (.bl _)⟩
 .cases e
theorem zy8 {c:Str}{i:Addr}{p p2:Pos}{tab:List (Str×Bool)}(N:Gl X "isinstance")(hm:X.mg "isinstance"=none)(L:Gl X c)(I:X.mg c=some (.ref i))(ha:PD X a ma)
  (hk:∀ c k,tab.lookup c=some k->∀ C,XC X.K c C->XCls X.K C/\W.kitOne X.K (.ref C) (.ref i)=some k) (hd:(c==("__debug__":Str))=false:=by decide)
  (M:starEach (a::[.Name c p2]) X.env=(false,eval a X.env)::starEach [.Name c p2] X.env:=by rfl) (j:starEach [.Name c p2] X.env=(false,eval (.Name c p2) X.env)::starEach [] X.env:=by rfl)
  (G:(backTo pos (starEach [.Name c p2] X.env)).any (·.1)=false:=by rfl):PD X (.Call (.Name "isinstance" p) [a,.Name c p2] [] pos) (misX tab ma):=
 (U3 (yy5 (y:=.ref i) (cv:=.ref i) (fun u z=>z) hk) N hm PyProof.Rows.boot_isinstance (g5 ha (g5 (zg7 (v:=.ref i) L I rfl hd) pa_nil j) M) (by decide) (by decide) M G).imp fun σ H Q h=>ym5 (fun _ _ _ z=>z) h
theorem xw9 {c:Str}{T:String}{p p2:Pos}{tab:List (Str×Bool)}(N:Gl X "isinstance")(hm:X.mg "isinstance"=none)(I:Gl X c)(G:X.mg c=none)(M:bootBuiltins c=some (.type T))(ha:PD X a ma)
  (hk:∀ c k,tab.lookup c=some k->∀ C,XC X.K c C->XCls X.K C/\W.kitOne X.K (.ref C) (.type T)=some k) (hn:c≠"__name__":=by decide) (hd:(c==("__debug__":Str))=false:=by decide)
  (L:starEach (a::[.Name c p2]) X.env=(false,eval a X.env)::starEach [.Name c p2] X.env:=by rfl) (i:starEach [.Name c p2] X.env=(false,eval (.Name c p2) X.env)::starEach [] X.env:=by rfl)
  (j:(backTo pos (starEach [.Name c p2] X.env)).any (·.1)=false:=by rfl):PD X (.Call (.Name "isinstance" p) [a,.Name c p2] [] pos) (misX tab ma):=
 (U3 (yy5 (y:=.ty T) (cv:=.type T) (fun u z=>z) hk) N hm PyProof.Rows.boot_isinstance (g5 ha (g5 (xw4 (v:=.ty T) I G M rfl hn hd) pa_nil i) L) (by decide) (by decide) L j).imp fun σ H Q h=>ym5 (fun _ _ _ z=>z) h
end
noncomputable def yt6 (K:W.Frag)(C:Addr):Bool:=
 (W.findIn K (.ref C) "__getattribute__"==some (some (.builtin "BaseException.__getattribute__")))&&(W.findIn K (.ref C) "__getattr__"==some none)&&(W.findIn K (.ref C) "__class__"==some (some (.builtin "object.__class__")))&&
  (W.mroIn K C (.type "object")==some true)&&(W.mroIn K C (.type "BaseException")==some true)
theorem k8 {K:W.Frag}{C:Addr}(h:yt6 K C=true):XCls K C:=by
 unfold yt6 at h
 simp only[Bool.and_eq_true,beq_iff_eq]at h
 exact⟨h.1.1.1.1,h.1.1.1.2,h.1.1.2,h.1.2,h.2⟩
theorem XC.eq {K:W.Frag}{c:Str}{C x:Addr}(h:XC K c C)(e:W.nsIn K mainGlobals c=some (some (.ref x))):C=x:=by
 have:=h.1.symm.trans e
 cases this;rfl
theorem Z7 {P:Str->Bool->Prop}:∀{tab:List (Str×Bool)},(∀ p∈tab,P p.1 p.2)->∀ c k,tab.lookup c=some k->P c k:=fun h c k e=>h (c,k) (PySem.mem_of_lookup e)
end
section
section
variable {X:Cx}{a:Expr}{ma:ME}{pos:Pos}
open PySem.SeqAt in
end
end
section
@[irreducible] noncomputable def E5 (src:List (Option Nat))(mi:ML)(i j:Nat)(elt:MEm):MEm:=fun ρ=>match ρ[i]? with
 |some (some (.ob rr r0))=>(match mi ρ with
  |some its=>(match Q6 elt its ((V9 src ρ).set j (some (.own r0))) []with
   |some (out,ρb)=>(match ρb[j]? with |some (some (.own r1))=>some (.lst out,ρ.set i (some (.ob rr r1)))|_=>none)
   |none=>none)
  |none=>none)
 |_=>none
theorem Rl.blkJB {K:W.Frag}{F0 H0 F H:Hp}{σ:St}{ρ:Ro}(r:Rl K F0 H0 F H σ ρ){src:List (Option Nat)}{i j:Nat}{r0:List D}{rr p:Addr}(R:src[j]? =some (some i))(hi:ρ[i]? =some (some (.ob rr r0)))(hp:H p=none):
  Rl K F (upd (del H rr) p (.lst [])) F (upd H p (.lst [])) (blk0 src σ) ((V9 src ρ).set j (some (.own r0))):=by
 obtain⟨rb,N⟩:=r.blk src
 obtain⟨ha,b,z,xs,c,d⟩:=r.ob i rr r0 hi
 have I:rr≠p:=fun w=>by rw[w,hp]at c;cases c
 have U:F p=none:=r.fh.free hp
 have only:∀ k ds,((V9 src ρ).set j (some (S.own r0)))[k]? =some (some (.own ds))->k=j/\ds=r0:=fun k ds e=>by
  by_cases hk:j=k
  .subst hk
   have L:j<(V9 src ρ).length:=by
    rcases Nat.lt_or_ge j (V9 src ρ).length with w|w
    .exact w
    .rw[getElem?_eq_none (by simpa using w)]at e;cases e
   rw[getElem?_set_self L]at e;cases e;exact⟨rfl,rfl⟩
  .rw[getElem?_set_ne hk]at e;exact absurd e (N k ds).1
 have G:∀(k:Nat)(q:Addr)(ds:List D),((V9 src ρ).set j (some (S.own r0)))[k]? ≠some (some (S.ob q ds)):=fun k q ds e=>(N k ds).2 q (c9 e).2
 refine⟨⟨Same.refl F,fun b u e=>?_,r.fh.put U,fun b e n=>absurd e n,fun _ _ _ z=>z⟩,by simp[rb.len],fun k d' e=>?_,fun k ds e=>?_,fun k l q ds es M e1 e2=>?_,fun k q ds e=>absurd e (G k q ds),fun k l q ds es e=>absurd e (G k q ds),fun k l q Y ds es e=>absurd e (G k q ds)⟩
 .by_cases hb:b=p
  .subst hb;rw[x9]at e ⊢;exact e
  .rw[x8 hb]at e ⊢
   by_cases O:b=rr
   .rw[O,A5]at e;cases e
   .rw[Q5 O]at e;exact e
 .by_cases hk:j=k
  .subst hk
   have L:j<(V9 src ρ).length:=by
    rcases Nat.lt_or_ge j (V9 src ρ).length with w|w
    .exact w
    .rw[getElem?_eq_none (by simpa using w)]at e;cases e
   rw[getElem?_set_self L]at e;cases e
  .rw[getElem?_set_ne hk]at e
   exact rb.sh k d' e
 .obtain⟨rfl,rfl⟩:=only k ds e
  exact⟨rr,xs,zp2 R ha,b,by rw[x8 I];exact c,d,by rw[x8 I,A5]⟩
 .exact absurd ((only k ds e1).1.trans (only l es e2).1.symm) M
theorem yj1 {K:W.Frag}{src:List (Option Nat)}{mi:ML}{i j:Nat}{G:MEm}(R:src[j]? =some (some i))(U:j≠0){σ:St}{H:Hp}{Q:VK}(h:TDm K (E5 src mi i j G) σ H Q):zo3 src (TId K mi) (O0 0) tYes (TDm K G) σ H Q:=by
 obtain⟨F0,H0,F,ρ,g,ρ',O,e,q⟩:=h
 unfold E5 at e
 split at e
 .rename_i rr r0 hi
  split at e
  .rename_i its h1
   split at e
   .rename_i out ρb h2
    split at e
    .rename_i r1 h3
     cases e
     refine⟨F0,H0,F,ρ,its,O,h1,fun J F1 H1 L I p hp=>?_⟩
     have z:=O.go L
     obtain⟨a1,a2,a5,ys,S,a4⟩:=z.ob i rr r0 hi
     have M:rr≠p:=fun w=>by rw[w,hp]at S;cases S
     exact yu9 L.fh hp M U I (z.blkJB R hi hp) (zp2 R a1) h2 h3 fun xs zs F' H' N b1 b2 b3 Z Y=>q _ _ _ (z.lentB hi N b1 b2 b3) (L.ff.trans N.ff) (.lst (SqL.of Z) Y)
    .cases e
   .cases e
  .cases e
 .cases e
section
variable {X:Cx}{pos:Pos}
end
end
section
section
variable {X:Cx}{v:Expr}{mv:ME}{pos:Pos}
end
theorem us1 {P:List Value->Prop}(h:∀ a,P [a]):∀ us:List Value,us.length=1->P us
 |[a],_=>h a
theorem us2 {P:List Value->Prop}(h:∀ a b,P [a,b]):∀ us:List Value,us.length=2->P us
 |[a,b],_=>h a b
theorem us3 {P:List Value->Prop}(h:∀ a b c,P [a,b,c]):∀ us:List Value,us.length=3->P us
 |[a,b,c],_=>h a b c
theorem us4 {P:List Value->Prop}(h:∀ a b c d,P [a,b,c,d]):∀ us:List Value,us.length=4->P us
 |[a,b,c,d],_=>h a b c d
end
section
noncomputable def insI (a:Int):List Int->List Int
 |[]=>[a]
 |b::r=>if a<=b then a::b::r else b::insI a r
noncomputable def J4:List Int->List Int
 |[]=>[]
 |a::r=>insI a (J4 r)
theorem zw3 (a:Int):∀ r,(insI a r).Perm (a::r)
 |[]=>.refl _
 |b::r=>by
  unfold insI
  split
  .exact .refl _
  .exact((zw3 a r).cons b).trans (.swap a b r)
theorem N3:∀ ns,(J4 ns).Perm ns
 |[]=>.refl _
 |a::r=>(zw3 a _).trans ((N3 r).cons a)
theorem zw2 (a:Int):∀ r,r.Pairwise (·<=·)->(insI a r).Pairwise (·<=·)
 |[],_=>pairwise_singleton ..
 |b::r,h=>by
  have h':=List.pairwise_cons.mp h
  unfold insI
  split
  .rename_i hab
   refine List.pairwise_cons.mpr ⟨fun x i=>?_,h⟩
   rcases List.mem_cons.mp i with e|i
   .rw[e];exact hab
   .exact Int.le_trans hab (h'.1 x i)
  .rename_i hab
   refine List.pairwise_cons.mpr ⟨fun x i=>?_,zw2 a r h'.2⟩
   rcases List.mem_cons.mp ((zw3 a r).mem_iff.mp i)with e|i
   .rw[e];omega
   .exact h'.1 x i
theorem D9:∀ ns,(J4 ns).Pairwise (·<=·)
 |[]=>.nil
 |a::r=>zw2 a _ (D9 r)
theorem zz8:∀{a b:List Int},a.Perm b->a.Pairwise (·<=·)->b.Pairwise (·<=·)->a=b
 |[],b,p,_,_=>(List.Perm.nil_eq p)
 |x::a,[],p,_,_=>absurd p.length_eq (by simp)
 |x::a,y::b,p,ha,hb=>by
  have h1:=List.pairwise_cons.mp ha
  have h2:=List.pairwise_cons.mp hb
  have e:x=y:=by
   have m1:x∈y::b:=p.mem_iff.mp mem_cons_self
   have m2:y∈x::a:=p.mem_iff.mpr mem_cons_self
   rcases List.mem_cons.mp m1 with e|m1
   .exact e
   .rcases List.mem_cons.mp m2 with e|m2
    .exact e.symm
    .have:=h2.1 x m1
     have:=h1.1 y m2
     omega
  subst e
  rw[zz8 ((perm_cons x).mp p) h1.2 h2.2]
theorem C0 (ns:List Int):(J4 ns).length=ns.length:=(N3 ns).length_eq
theorem zj0:∀{ns:List Int}{its:List Value},Vals (ns.map V.int) its->IntsAre its ns
 |[],_,.nil=>.nil
 |n::ns,_,.cons r t=>by
  obtain⟨k,rfl⟩:=r
  exact .cons n k (zj0 t)
theorem zt0:∀{ns:List Int}{its:List Value},IntsAre its ns->Vals (ns.map V.int) its
 |[],_,.nil=>.nil
 |n::ns,_,.cons _ k t=>.cons ⟨k,rfl⟩ (zt0 t)
section
variable {X:Cx}{e:Expr}{pos:Pos}
def xx0 (K:W.Frag):List V->Hp->VK->Prop:=fun vs H Q=>∃(p:Addr)(ns:List Int),vs=[.ref p]/\SqL K H p (ns.map V.int)/\ns.length<64/\∀ q,H q=none->Q (.ref q) (upd H q (.lst ((J4 ns).map V.int)))
theorem zd9:zv5 X (.builtin "sorted") (xx0 X.K):=by
 intro pins s σ H xs us Q I r h
 obtain⟨p,ns,rfl,L,j,q⟩:=h
 obtain⟨u,rfl,rx⟩:=zz6 r
 cases rx
 obtain⟨its,G,pl,U⟩:=I.list L
 have M:its.length=ns.length:=by rw[<-G.length,length_map]
 refine sorted_ints pl.isList (zj0 G) (by rw[M];exact j) fun out i S R O=>?_
 have e:i=J4 ns:=zz8 (R.trans (N3 ns).symm) O (D9 ns)
 subst e
 obtain⟨c,N⟩:=sortedAll_at s.heap its out
 refine⟨.ref (s.heap.objs.size+1),_,I.laid (t':=s.toks) (o:=.lst ((J4 ns).map V.int)) (fun b o z=>sortedAll_old z) (Nat.le_succ _) ⟨?_,out.toList,c,zt0 S,by simpa using N⟩,rfl,q _ (I.hok.fresh (Nat.le_succ _))⟩
 rw[length_map,C0,sizeLine_eq];omega
@[irreducible] noncomputable def zq4 (m:ML):ML:=fun ρ=>match m ρ with |some ds=>(match M3 ds with |some ns=>if ns.length<64 then some ((J4 ns).map .int)else none|none=>none)|none=>none
theorem yq9 {p:Pos}{m:ML}(M:Gl X "sorted")(hm:X.mg "sorted"=none)(ha:PB X e m)(I:bootBuiltins "sorted"=some (.builtin "sorted"))(L:starEach (e::[]) X.env=(false,eval e X.env)::starEach [] X.env:=by rfl)(N:starEach [e] X.env=(false,eval e X.env)::starEach [] X.env:=by rfl)(z:(backTo pos (starEach [] X.env)).any (·.1)=false:=by rfl):PF X (.Call (.Name "sorted" p) [e] [] pos) (zq4 m):=
 (U3 zd9 M hm I (g5 ha pa_nil L) (by decide) (by decide) N z).imp fun σ H Q i=>by
  obtain⟨F0,H0,F,ρ,g,G,e,q⟩:=i
  unfold zq4 at e
  cases h1:m ρ with
  |none=>simp only[h1]at e;cases e
  |some ds=>
   simp only[h1]at e
   cases h2:M3 ds with
   |none=>simp only[h2]at e;cases e
   |some ns=>
    simp only[h2]at e
    split at e
    .rename_i h64
     cases e
     refine⟨F0,H0,F,ρ,ds,G,h1,fun p xs F1 H1 j s1 r1=>⟨p,ns,rfl,?_,h64,fun w hw=>?_⟩⟩
     .rw[<-N4 r1 h2];exact s1
     .exact q w _ F1 _ (j.trans (Ext.own j.fh hw)) (j.hh.free hw) (j.fh.free hw) x9 (zy1 _)
    .cases e
end
end
section
section
variable {X:Cx}{pins:List (Addr×Obj)}{σ:St}
end
end
section
inductive RPs (K:W.Frag)(F H:Hp):List Addr->List (List D)->Prop
 |nil:RPs K F H [] []
 |cons {q:Addr} {xs:List V} {ds:List D} {qs:List Addr} {dss:List (List D)}:H q=some (.lst xs)->Reps K F xs ds->RPs K F H qs dss->RPs K F H (q::qs) (ds::dss)
section
variable {K:W.Frag}{F H F' H':Hp}
theorem RPs.mono (e:Same F F')(k:Same H H'):∀{qs:List Addr}{dss:List (List D)},RPs K F H qs dss->RPs K F' H' qs dss
 |_,_,.nil=>.nil
 |_,_,.cons h r t=>.cons (k _ _ h) (r.mono e) (RPs.mono e k t)
theorem RPs.keep (e:Same F F'):∀{qs:List Addr}{dss:List (List D)},(∀ q∈qs,∀ o,H q=some o->H' q=some o)->RPs K F H qs dss->RPs K F' H' qs dss
 |_,_,_,.nil=>.nil
 |_,_,k,.cons h r t=>.cons (k _ mem_cons_self _ h) (r.mono e) (RPs.keep e (fun q i=>k q (mem_cons_of_mem _ i)) t)
theorem RPs.snoc {q:Addr}{xs:List V}{ds:List D}(h:H q=some (.lst xs))(r:Reps K F xs ds):∀{qs:List Addr}{dss:List (List D)},RPs K F H qs dss->RPs K F H (qs++[q]) (dss++[ds])
 |_,_,.nil=>.cons h r .nil
 |_,_,.cons a b t=>.cons a b (RPs.snoc h r t)
theorem RPs.length:∀{qs:List Addr}{dss:List (List D)},RPs K F H qs dss->qs.length=dss.length
 |_,_,.nil=>rfl
 |_,_,.cons _ _ t=>congrArg (·+1) (RPs.length t)
theorem RPs.get:∀{qs:List Addr}{dss:List (List D)}{i:Nat}{ds:List D},RPs K F H qs dss->dss[i]? =some ds->∃ q xs,qs[i]? =some q/\H q=some (.lst xs)/\Reps K F xs ds
 |_,_,_,_,.nil,e=>by simp at e
 |_,_,0,_,.cons a b _,e=>by simp at e;subst e;exact⟨_,_,rfl,a,b⟩
 |_,_,i+1,ds,.cons _ _ t,e=>by
  obtain⟨q,xs,h1,h2⟩:=RPs.get (i:=i) (ds:=ds) t (by simpa using e)
  exact⟨q,xs,by simpa using h1,h2⟩
theorem RPs.some:∀{qs:List Addr}{dss:List (List D)},RPs K F H qs dss->∀ q∈qs,∃ o,H q=some o
 |_,_,.cons a _ t,q,i=>by
  rcases List.mem_cons.mp i with e|i
  .rw[e];exact⟨_,a⟩
  .exact RPs.some t q i
end
noncomputable abbrev MP:=Ro->Option (List (List D))
structure Pots (K:W.Frag)(H F' H':Hp)(p:Addr)(qs:List Addr)(dss:List (List D)):Prop where
 hp:H p=none
 fp:F' p=none
 at':H' p=some (.lst (qs.map V.ref))
 new:∀ q∈qs,H q=none/\F' q=none
 nd:(p::qs).Nodup
 rep:RPs K F' H' qs dss
def TPt (K:W.Frag)(m:MP):TE:=fun σ H Q=>∃ F0 H0 F ρ dss,Rl K F0 H0 F H σ ρ/\m ρ=some dss/\∀ p qs F' H',Ext F H F' H'->Pots K H F' H' p qs dss->Q (.ref p) H'
def PP (X:Cx)(e:Expr)(m:MP):Prop:=PE X e (TPt X.K m)
theorem Ext.stays {F H F' H':Hp}{p:Addr}{o:HO}(x:Ext F H F' H')(j:F p=none)(i:H p=some o):F' p=none:=by
 cases q:F' p with
 |none=>rfl
 |some u=>have:=x.new p j (by rw[q];simp);rw[this]at i;cases i
section
variable {X:Cx}{a b c e:Expr}{pos:Pos}
noncomputable def yn1 (m:ML):MP:=fun ρ=>(m ρ).map fun ds=>[ds]
theorem xx5 {m:ML}(ha:PF X a m)(O:starEach (a::[]) X.env=(false,eval a X.env)::starEach [] X.env:=by rfl):PP X (.List [a] pos) (yn1 m):=(za3 (g5 ha pa_nil O)).imp fun σ H Q i=>by
 obtain⟨F0,H0,F,ρ,dss,M,e,q⟩:=i
 unfold yn1 at e
 cases h1:m ρ with
 |none=>rw[h1]at e;cases e
 |some ds=>
  rw[h1]at e;cases e
  refine⟨F0,H0,F,ρ,ds,M,h1,fun w xs F1 H1 G hw R I L=>⟨by show 1<=sizeLine;rw[sizeLine_eq];decide,fun p hp=>?_⟩⟩
  have j:w≠p:=fun z=>by rw[z,hp]at I;cases I
  refine q p [w] F1 _ (G.trans (Ext.own G.fh hp)) ⟨G.hh.free hp,G.fh.free hp,x9,fun z N=>?_,?_,.cons (by rw[x8 j];exact I) L .nil⟩
  .rw[List.mem_singleton.mp N];exact⟨hw,R⟩
  .simp only[nodup_cons,mem_singleton,not_mem_nil,not_false_eq_true,nodup_nil,and_true]
   exact fun z=>j z.symm
noncomputable def zp1 (g:Tg)(elt:ML):List D->Ro->List (List D)->Option (List (List D))
 |[],_,acc=>some acc
 |it::its,ρ,acc=>match tgD g it ρ with
  |some ρ1=>(match elt ρ1 with
   |some ds=>if acc.length<sizeLine then zp1 g elt its ρ1 (acc++[ds])else none
   |none=>none)
  |none=>none
noncomputable def zs1 (src:List (Option Nat))(mi:ML)(g:Tg)(elt:ML):MP:=fun ρ=>(mi ρ).bind fun its=>zp1 g elt its (V9 src ρ) []
theorem xs4 {K:W.Frag}{src:List (Option Nat)}{mi:ML}{g:Tg}{S:ML}{σ:St}{H:Hp}{Q:VK}(h:TPt K (zs1 src mi g S) σ H Q):zo3 src (TId K mi) (TGd K g) (TC K cyes) (TF K S) σ H Q:=by
 obtain⟨F0,H0,F,ρ,out,rl,e,q⟩:=h
 unfold zs1 at e
 cases h1:mi ρ with
 |none=>rw[h1]at e;cases e
 |some its=>
  rw[h1]at e
  have e:zp1 g S its (V9 src ρ) []=some out:=e
  refine⟨F0,H0,F,ρ,its,rl,h1,fun J F1 H1 x1 I=>?_⟩
  intro p hp
  obtain⟨rb,no⟩:=(rl.go x1).blk src
  have a9:F1 p=none:=x1.fh.free hp
  refine⟨fun i m a5 H'=>∃ F' ρ' acc qs,Rl K F1 H1 F' H' a5 ρ'/\NoOwn ρ'/\H' p=some (.lst (qs.map V.ref))/\F' p=none/\RPs K F' H' qs acc/\(∀ w∈qs,H1 w=none/\F' w=none)/\(p::qs).Nodup/\i<=its.length/\m=its.length-i/\zp1 g S (its.drop i) ρ' acc=some out,
   ⟨_,F1,V9 src ρ,[],[],rb.other no hp a9,no,x9,a9,.nil,(fun w hw=>by cases hw),by simp,Nat.zero_le _,rfl,e⟩,?_⟩
  rintro i m a5 H' ⟨F',ρ',acc,qs,j,ac,U,a3,ra,L,a1,ai,rfl,G⟩
  by_cases a2:i<its.length
  .right
   have hd:=getElem?_eq_getElem a2
   refine⟨I.go i F' H' j.ext.ff j.fh a2,fun a4 H2=>∃ F2 ρ2 M R,Rl K F1 H1 F2 H2 a4 ρ2/\NoOwn ρ2/\H2 p=some (.lst (R.map V.ref))/\F2 p=none/\RPs K F2 H2 R M/\(∀ w∈R,H1 w=none/\F2 w=none)/\(p::R).Nodup/\zp1 g S (its.drop (i+1)) ρ2 M=some out,?_,fun x H2 y=>?_⟩
   .rintro a4 H2 ⟨F2,ρ2,M,R,b1,b2,b3,b4,b5,b6,b7,b8⟩
    exact⟨its.length-(i+1),by omega,F2,ρ2,M,R,b1,b2,b3,b4,b5,b6,b7,a2,rfl,b8⟩
   .obtain⟨F2,x2,r2⟩:=I.yld i F' H' x H2 _ j.ext.ff j.fh hd y
    rw[W7 hd]at G
    unfold zp1 at G
    cases h2:tgD g its[i] ρ' with
    |none=>simp only[h2]at G;cases G
    |some ρ1=>
     simp only[h2]at G
     refine⟨F1,H1,F2,ρ',_,ρ1,j.go x2,r2,h2,fun F3 H3 ah Y x3=>?_⟩
     have a6:=ac.tg h2
     have aa:=x2.trans x3
     refine⟨F1,H1,F3,ρ1,true,Y,rfl,fun F4 H4 x4=>iteT ?_⟩
     have Z:=aa.trans x4
     cases h4:S ρ1 with
     |none=>simp only[h4]at G;cases G
     |some ds=>
      simp only[h4]at G
      split at G
      .rename_i hz
       refine⟨F1,H1,F4,ρ1,ds,Y.go x4,h4,fun w xs F5 H5 x5 hw af ae r5=>?_⟩
       have O:=Z.trans x5
       have ag:=O.hh _ _ U
       have a7:w≠p:=fun z=>by rw[z,Z.hh _ _ U]at hw;cases hw
       have ab:RPs K F5 H5 qs acc:=ra.mono O.ff O.hh
       have ad:w∉qs:=fun z=>by
        obtain⟨o,ho⟩:=ra.some w z
        rw[Z.hh _ _ ho]at hw;cases hw
       refine⟨qs.map V.ref,ag,by rw[length_map,ra.length];exact hz,F5,ρ1,acc++[ds],qs++[w],((Y.go x4).go x5).other a6 hp (O.stays a3 U),a6,by rw[x9,map_append];rfl,O.stays a3 U,?_,fun z a0=>?_,?_,G⟩
       .refine((ab.snoc ae r5)).keep (Same.refl _) fun z a0 o ho=>?_
        have:z≠p:=by
         rcases List.mem_append.mp a0 with N|N
         .exact fun zz=>(List.nodup_cons.mp a1).1 (zz ▸ N)
         .rw[List.mem_singleton.mp N];exact a7
        rw[x8 this];exact ho
       .rcases List.mem_append.mp a0 with N|N
        .obtain⟨o,ho⟩:=ra.some z N
         exact⟨(L z N).1,O.stays (L z N).2 ho⟩
        .rw[List.mem_singleton.mp N]
         exact⟨(Y.go x4).ext.hh.free hw,af⟩
       .have hn:=List.nodup_cons.mp a1
        refine List.nodup_cons.mpr ⟨fun z=>?_,List.nodup_append.mpr ⟨hn.2,by simp,fun a ha b hb=>?_⟩⟩
        .rcases List.mem_append.mp z with N|N
         .exact hn.1 N
         .exact a7 (List.mem_singleton.mp N).symm
        .rw[List.mem_singleton.mp hb];exact fun zz=>ad (zz ▸ ha)
      .cases G
  .left
   have a8:i=its.length:=by omega
   subst a8
   rw[drop_length]at G
   have G:some acc=some out:=G
   cases G
   exact⟨I.stop F' H' j.ext.ff j.fh,q p qs F' H' (x1.trans j.ext) ⟨x1.hh.free hp,a3,U,fun w hw=>⟨x1.hh.free (L w hw).1,(L w hw).2⟩,a1,ra⟩⟩
theorem xx6 {sc:Scope}{N:List Str}{src:List (Option Nat)}{tg i iter:Expr}{mi:ML}{g:Tg}{j:ML}(B:Blk X sc N src)(L:X.calm=true)
  (hi:PId X tg iter mi) (G:∀ C fp s H,PGd (W8 X sc C N fp s H) tg g) (I:∀ C fp s H,PF (W8 X sc C N fp s H) i j)
  (z:∀ x,foldedSetIterable iter X.env x=pure x:=by intro _;rfl):
  PP X (.ListComp i [⟨tg,iter,[],0⟩] sc pos) (zs1 src mi g j):=(zg8 (g:=TGd X.K g) (tc:=TC X.K cyes) (te:=TF X.K j) B L hi (fun C fp s H=>G C fp s H) (fun C fp s H=>W4) (fun C fp s H=>I C fp s H) z).imp fun _ _ _ h=>xs4 h
end
noncomputable abbrev MFP:=List D->Option (List (List D))
def spP (K:W.Frag)(n:Nat)(m:MFP):Sp:=fun vs H Q _=>vs.length=n/\∃ F ds dss,Same F H/\Reps K F vs ds/\m ds=some dss/\∀ p qs F' H',Ext F H F' H'->Pots K H F' H' p qs dss->Q (.ref p) H'
noncomputable def runP (n:Nat)(c:MB)(m1 m2:MP):MFP:=fun ds=>match c (v3 n ds)with
 |some true=>m1 (v3 n ds)
 |some false=>m2 (v3 n ds)
 |none=>none
theorem Fun.okP {P:Program}{w:World}{K:W.Frag}{mg:Str->Option Value}{base:Heap}{x qual:Str}{st:Stmt}{f:Addr}{fd:FuncData}{N ps:List Str}{k:Nat}{c e1 e2:Expr}{p1 p2 S:Pos}{cc:MB}{m1 m2:MP}(Z:Fun K x qual st f fd)(Y:FnScope N ps (z9 st))
  (L:v4 st=[.If c [.Return (some e1) p1] [] p2,.Return (some e2) S])
  (U:∀(cdv:Value)(A:Around)(outer:List Env)(s:Shared)(H:Hp)(E:XK),Room k (A.deeper (envOfC qual (z9 st) s.heap.objs.size f cdv))->PC' (cxOf CX0 P w K mg base N qual (z9 st) f cdv A outer s H E).nox c cc)
  (h1:∀(cdv:Value)(A:Around)(outer:List Env)(s:Shared)(H:Hp)(E:XK),Room k (A.deeper (envOfC qual (z9 st) s.heap.objs.size f cdv))->PP (cxOf CX0 P w K mg base N qual (z9 st) f cdv A outer s H E).nox e1 m1)
  (h2:∀(cdv:Value)(A:Around)(outer:List Env)(s:Shared)(H:Hp)(E:XK),Room k (A.deeper (envOfC qual (z9 st) s.heap.objs.size f cdv))->PP (cxOf CX0 P w K mg base N qual (z9 st) f cdv A outer s H E).nox e2 m2):
  FnOk P w K mg base CX0 (k+1) f fd ps (spP K ps.length (runP N.length cc m1 m2)):=by
 refine Z.ok Y (fun vs H Q E h=>h.1) fun cdv A outer s H vs Q E M h=>?_
 obtain⟨hl,F,ds,dss,O,R,e,ok⟩:=h
 rw[L]
 refine⟨_,K3 (yv4 (U cdv A outer s H E M) (G8 (U1 (h1 cdv A outer s H E M))) pss_nil) (G8 (U1 (h2 cdv A outer s H E M))),?_⟩
 have I:=O5 (N:=N) O R
 unfold runP at e
 cases q:cc (v3 N.length ds)with
 |none=>simp only[q]at e;cases e
 |some b=>
  simp only[q]at e
  refine⟨F,H,F,v3 N.length ds,b,I,q,fun F1 H1 i=>?_⟩
  cases b with
  |true=>
   refine iteT ⟨F,H,F1,_,dss,I.go i,e,fun p qs F2 H2 G pt=>?_⟩
   exact ok p qs F2 H2 (i.trans G) ⟨i.hh.free pt.hp,pt.fp,pt.at',fun z j=>⟨i.hh.free (pt.new z j).1,(pt.new z j).2⟩,pt.nd,pt.rep⟩
  |false=>
   refine iteF ⟨F,H,F1,_,dss,I.go i,e,fun p qs F2 H2 G pt=>?_⟩
   exact ok p qs F2 H2 (i.trans G) ⟨i.hh.free pt.hp,pt.fp,pt.at',fun z j=>⟨i.hh.free (pt.new z j).1,(pt.new z j).2⟩,pt.nd,pt.rep⟩
end
section
noncomputable def Hx (H0 H1:Hp)(A:List Addr):Hp:=fun b=>if b∈A then H1 b else H0 b
theorem zc5 {H0 H1:Hp}{A:List Addr}{b:Addr}(h:b∈A):Hx H0 H1 A b=H1 b:=if_pos h
theorem C8 {H0 H1:Hp}{A:List Addr}{b:Addr}(h:b∉A):Hx H0 H1 A b=H0 b:=if_neg h
theorem Ext.less {F0 H0 H0' F H:Hp}(s:Same H0 H0')(x:Ext F0 H0' F H):Ext F0 H0 F H:=⟨x.ff,s.trans x.hh,x.fh,fun b e n=>s.free (x.new b e n),x.nf⟩
section
variable {K:W.Frag}{F0 H0 H0' F H:Hp}{σ:St}{ρ:Ro}
theorem Rl.less (s:Same H0 H0')(r:Rl K F0 H0' F H σ ρ):Rl K F0 H0 F H σ ρ where
 ext:=r.ext.less s
 len:=r.len
 sh:=r.sh
 own:=fun i ds h=>let ⟨p,xs,a,b,c,d,z⟩:=r.own i ds h;⟨p,xs,a,b,c,d,s.free z⟩
 inj:=r.inj
 ob:=fun i p ds h=>let ⟨a,b,c,d⟩:=r.ob i p ds h;⟨a,b,s.free c,d⟩
 obn:=r.obn
 ob1:=r.ob1
theorem okO.less {G:Hp}{I:Ends}(s:Same H0 H0'):∀{o:Out},okO K F0 H0 G I o->okO K F0 H0' G I o
 | .nx _,h=>fun F H σ z q=>h F H σ (z.less s) q
 | .bk _,h=>fun F H σ z q=>h F H σ (z.less s) q
 | .ct _,h=>fun F H σ z q=>h F H σ (z.less s) q
 | .rt _,h=>fun v F H x r=>h v F H (x.less s) r
 | .rf _,h=>fun p xs F H x a b c d=>h p xs F H (x.less s) (s.free a) b c d
 | .rp _ _,h=>fun t v p xs F H x a b c d e f g i j=>h t v p xs F H (x.less s) (s.free a) (s.free b) c d e f g i j
 | .rg _ _ _,h=>fun v F H xs x a b c d=>h v F H xs (x.less s) a b c d
 | .rgf _ _ _,h=>fun q ys F H xs x a b c d e f g i=>h q ys F H xs (x.less s) (s.free a) b c d e f g i
end
noncomputable def forP (j:Nat)(body:MS):List (List D)->MS
 |[],ρ=>some (.nx ρ)
 |ds::dss,ρ=>match body (ρ.set j (some (.own ds)))with
  |some (.nx ρ2)=>forP j body dss ρ2
  |some (.ct ρ2)=>forP j body dss ρ2
  |some (.bk ρ2)=>some (.nx ρ2)
  |o=>o
noncomputable def ye4 (mi:MP)(j:Nat)(body:MS):MS:=fun ρ=>(mi ρ).bind fun dss=>forP j body dss ρ
section
variable {X:Cx}{a b c e:Expr}{pos:Pos}{st:Stmt}
theorem yg6 {iter:Expr}{body:List Stmt}{mi:MP}{j:Nat}{x:Str}{pos':Pos}{mb:MS}(hp:PassesOwn (model X.prog X.w) X.A X.env X.xe)(hc:X.calm=true)(hi:PP X iter mi)(hg:PG X (.Name x pos') (O0 j))(I:PSsd X body mb)
  (hs:∀ x,foldedSetIterable iter X.env x=pure x:=by intro _;rfl):PSd X (.For (.Name x pos') iter body [] pos) (ye4 mi j mb):=(yq3 hp hc (yq8 hi) hg I hs).imp fun Dn σ H af=>by
 obtain⟨F0,H0,F,ρ,o,Z,e,ok⟩:=af
 unfold ye4 at e
 cases h1:mi ρ with
 |none=>rw[h1]at e;cases e
 |some dss=>
  rw[h1]at e
  have e:forP j mb dss ρ=some o:=e
  refine⟨F0,H0,F,ρ,dss,Z,h1,fun p qs F1 H1 x1 pt=>?_⟩
  have pn:=List.nodup_cons.mp pt.nd
  have ai:H0 p=none:=Z.ext.hh.free pt.hp
  have a8:∀ q∈qs,H0 q=none:=fun q hq=>Z.ext.hh.free (pt.new q hq).1
  have ar:∀ q∈qs,F0 q=none:=fun q hq=>(Z.ext.ff.trans x1.ff).free (pt.new q hq).2
  have Y:∀ A:List Addr,(∀ b∈A,b=p\/b∈qs)->Same H0 (Hx H0 H1 A):=fun A hA b u e=>by
   by_cases I:b∈A
   .rcases hA b I with z|z
    .rw[z,ai]at e;cases e
    .rw[a8 b z]at e;cases e
   .rw[C8 I];exact e
  have sub:∀ i,∀ b∈p::qs.drop i,b=p\/b∈qs:=fun i b I=>by
   rcases List.mem_cons.mp I with z|z
   .exact .inl z
   .exact .inr (mem_of_mem_drop z)
  have sl:∃ xs,SqL X.K H1 p xs:=⟨_,SqL.of pt.at'⟩
  refine⟨p,rfl,sl,?_⟩
  have G:=Z.go x1
  have am:Rl X.K F0 (Hx H0 H1 (p::qs.drop 0)) F1 H1 σ ρ:=by
   have fr:∀ b∈p::qs.drop 0,H b=none/\F1 b=none:=fun b I=>by
    rcases sub 0 b I with z|z
    .rw[z];exact⟨pt.hp,pt.fp⟩
    .exact pt.new b z
   have aa:∀ b u,H b=some u->b∉p::qs.drop 0:=fun b u e I=>by rw[(fr b I).1]at e;cases e
   refine⟨⟨G.ext.ff,fun b u e=>?_,G.ext.fh,fun b e n=>?_,G.ext.nf⟩,G.len,G.sh,fun i ds h=>?_,G.inj,fun i w ds h=>?_,G.obn,G.ob1⟩
   .by_cases I:b∈p::qs.drop 0
    .rw[zc5 I]at e;exact e
    .rw[C8 I]at e;exact G.ext.hh b u e
   .have nb:b∉p::qs.drop 0:=fun I=>n (fr b I).2
    rw[C8 nb];exact G.ext.new b e n
   .obtain⟨w,xs,a1,a2,a3,a4,a5⟩:=Z.own i ds h
    obtain⟨w',aj,b1,b2,b3,b4,b5⟩:=G.own i ds h
    rw[a1]at b1;cases b1
    exact⟨w,aj,a1,b2,b3,b4,by rw[C8 (aa _ _ a3)];exact b5⟩
   .obtain⟨a1,a2,a3,xs,a4,a5⟩:=Z.ob i w ds h
    obtain⟨b1,b2,b3,b4⟩:=G.ob i w ds h
    exact⟨b1,b2,by rw[C8 (aa _ _ a4)];exact b3,b4⟩
  have hn:qs.length=dss.length:=pt.rep.length
  refine⟨fun i m U H'=>∃ F' ρ',Rl X.K F0 (Hx H0 H1 (p::qs.drop i)) F' H' U ρ'/\Same F1 F'/\i<=dss.length/\m=dss.length-i/\forP j mb (dss.drop i) ρ'=some o,⟨_,F1,ρ,am,Same.refl _,Nat.zero_le _,rfl,e⟩,?_⟩
  rintro i m U H' ⟨F',ρ',M,sf,as,rfl,L⟩
  have a7:H' p=some (.lst (qs.map V.ref)):=M.ext.hh p _ (by rw[zc5 mem_cons_self];exact pt.at')
  by_cases ag:i<dss.length
  .right
   have hd:=getElem?_eq_getElem ag
   obtain⟨q,xs,hq,a6,aq⟩:=pt.rep.get hd
   have a0:q∈qs:=mem_of_getElem? hq
   have O:qs.drop i=q::qs.drop (i+1):=W7 hq
   have ad:H' q=some (.lst xs):=M.ext.hh q _ (by rw[zc5 (by rw[O];simp)];exact a6)
   have ae:F' q=none:=by
    cases z:F' q with
    |none=>rfl
    |some u=>
     have:=M.ext.new q (ar q a0) (by rw[z];simp)
     rw[zc5 (by rw[O];simp),a6]at this;cases this
   have ac:(qs.map V.ref)[i]? =some (V.ref q):=by rw[getElem?_map,hq];rfl
   refine⟨⟨_,_,SqL.of a7,ac⟩,fun a9 H2=>∃ F2 ρ2,Rl X.K F0 (Hx H0 H1 (p::qs.drop (i+1))) F2 H2 a9 ρ2/\Same F1 F2/\forP j mb (dss.drop (i+1)) ρ2=some o,?_,fun x H2 y=>?_⟩
   .rintro a9 H2 ⟨F2,ρ2,rl2,sf2,e2⟩
    exact⟨dss.length-(i+1),by omega,F2,ρ2,rl2,sf2,ag,rfl,e2⟩
   .obtain⟨rfl,y⟩:=y
    have yx:=y _ (SqL.of a7)
    rw[ac]at yx;cases yx
    have ap:(q::qs.drop (i+1)).Nodup:=by rw[<-O];exact pn.2.sublist (drop_sublist _ _)
    have ao:q∉p::qs.drop (i+1):=fun z=>by
     rcases List.mem_cons.mp z with z|z
     .exact pn.1 (z ▸ a0)
     .exact(List.nodup_cons.mp ap).1 z
    have an:q∈p::qs.drop i:=by rw[O];simp
    have ab:Hx H0 H1 (p::qs.drop i) q=some (.lst xs):=by rw[zc5 an];exact a6
    have ak:Same (Hx H0 H1 (p::qs.drop (i+1))) (Hx H0 H1 (p::qs.drop i)):=fun b u e=>by
     by_cases I:b∈p::qs.drop (i+1)
     .have R:b∈p::qs.drop i:=by
       rw[O]
       rcases List.mem_cons.mp I with z|z
       .rw[z];simp
       .exact mem_cons_of_mem _ (mem_cons_of_mem _ z)
      rw[zc5 I]at e;rw[zc5 R];exact e
     .rw[C8 I]at e
      by_cases R:b∈p::qs.drop i
      .rcases sub i b R with z|z
       .rw[z,ai]at e;cases e
       .rw[a8 b z]at e;cases e
      .rw[C8 R];exact e
    have al:=(M.less ak).setOwn (i:=j) ae ad (aq.mono sf) (by rw[C8 ao];exact a8 q a0) (fun k es hk e1 e2=>by
     obtain⟨w,zs,a1,a2,a3,a4,a5⟩:=M.own k es e1
     rw[a1]at e2;cases e2
     rw[ab]at a5;cases a5) (fun k w es e1 z=>by
     obtain⟨a1,a2,a3,_⟩:=M.ob k w es e1
     rw[z,ab]at a3;cases a3)
    rw[W7 hd]at L
    unfold forP at L
    cases h3:mb (ρ'.set j (some (.own dss[i])))with
    |none=>simp only[h3]at L;cases L
    |some o1=>
     simp only[h3]at L
     refine⟨F0,_,F',_,o1,al,h3,?_⟩
     cases o1 with
     |nx ρ2=>exact fun F4 H4 S N s4=>⟨F4,ρ2,N,sf.trans s4,L⟩
     |ct ρ2=>exact fun F4 H4 S N s4=>⟨F4,ρ2,N,sf.trans s4,L⟩
     |bk ρ2=>
      cases L
      exact fun F4 H4 S N s4=>ok F4 H4 S (N.less (Y _ (sub _))) ((x1.ff.trans sf).trans s4)
     |rt d=>cases L;exact okO.less (o:=.rt d) (Y _ (sub _)) ok
     |rf d=>cases L;exact okO.less (o:=.rf d) (Y _ (sub _)) ok
     |rp d ds=>cases L;exact okO.less (o:=.rp d ds) (Y _ (sub _)) ok
     |rg d p r=>cases L;exact okO.less (o:=.rg d p r) (Y _ (sub _)) ok
     |rgf d p r=>cases L;exact okO.less (o:=.rgf d p r) (Y _ (sub _)) ok
  .left
   have ah:i=dss.length:=by omega
   subst ah
   rw[drop_length]at L
   have L:some (Out.nx ρ')=some o:=L
   cases L
   refine⟨⟨_,SqL.of a7,by rw[length_map,hn];exact Nat.le_refl _⟩,?_⟩
   exact ok F' H' U (M.less (Y _ (sub _))) (x1.ff.trans sf)
variable {E:XK}{es:List Expr}{m:ML}
noncomputable def yz5 (f:MFP)(m:ML):MP:=fun ρ=>(m ρ).bind f
theorem xx7 {n:Nat}{mf:MFP}(h:∀ t,PA X es t->PE X e (zh2 (spP X.K n mf) [] E t))(M:es.length=n)(ha:PAs X es m)(hm:∀ ρ ds,m ρ=some ds->ds.length=es.length):PP X e (yz5 mf m):=(h _ ha).imp fun σ H Q i=>by
 obtain⟨F0,H0,F,ρ,d,L,e,q⟩:=i
 unfold yz5 at e
 cases h1:m ρ with
 |none=>rw[h1]at e;cases e
 |some ds=>
  rw[h1]at e
  refine⟨F0,H0,F,ρ,ds,L,h1,fun vs F1 H1 j r1=>?_⟩
  show spP X.K n mf (vs++[]) H1 Q E
  rw[append_nil]
  refine⟨by rw[r1.length,hm ρ ds h1,M],F1,ds,d,j.fh,r1,e,fun p qs F2 H2 I pt=>?_⟩
  exact q p qs F2 H2 (j.trans I) ⟨j.hh.free pt.hp,pt.fp,pt.at',fun z G=>⟨j.hh.free (pt.new z G).1,(pt.new z G).2⟩,pt.nd,pt.rep⟩
theorem xd3 {t:TE}{i:Nat}{na:MEm}(h:PS X st (tAsg t (O0 i)))(I:∀ σ H Q,TDm X.K na σ H Q->t σ H Q):PSd X st (E4 i na):=h.imp fun D σ H j=>by
 obtain⟨F0,H0,F,ρ,o,G,e,ok⟩:=j
 unfold E4 at e
 split at e
 .rename_i d ρ1 h1
  cases e
  exact I _ _ _ ⟨F0,H0,F,ρ,d,ρ1,G,h1,fun v F1 H1 z s1 r1=>ok F1 H1 _ (z.set r1) s1⟩
 .cases e
theorem yv3 {k i j:Nat}{src:List (Option Nat)}{mi:ML}{G:MEm}(z:src[j]? =some (some i))(I:j≠0)(h:PS X st (tAsg (zo3 src (TId X.K mi) (O0 0) tYes (TDm X.K G)) (O0 k))):PSd X st (E4 k (E5 src mi i j G)):=xd3 h fun _ _ _ q=>yj1 z I q
end
end
section
section
variable {K:W.Frag}{F0 H0 F H:Hp}{σ:St}{ρ:Ro}
end
end
section
section
variable {X:Cx}{a b:Expr}{ma mb:ME}{pos:Pos}
end
section
variable {X:Cx}{a b:Expr}
open PySem.SeqAt in
end
end
section
section
variable {X:Cx}{a b c e o:Expr}{ma mb mo:ME}{pos:Pos}{st:Stmt}
end
open Classical in
section
variable {X:Cx}{pos:Pos}
end
end
section
section
variable {X:Cx}{st:Stmt}
end
end
section
inductive Fl where
 |v (d:D)|l (ds:List D)
inductive Cell where
 |ins (c:Str) (ns:List Str) (fs:List Fl)
 |row (fs:List Fl)
 |tb (P:Addr) (mw:Str) (pos:Pos) (q:Str)
def xh3 (c:Addr)(q:Str):Heap->Prop:=fun h=>h.CodeRec (.ref c) q
structure CodeT (K:W.Frag)(cdv:Value)(P:Addr):Prop where
 hd:∃ c,cdv= .ref c/\∀ h:Heap,K.In h->W.CodeHd h c P
 ne:mainGlobals≠P
def TabF (K:W.Frag)(mw:Str)(P:Addr):Prop:=∃ f oc od fd sl,W.nsIn K mainGlobals mw=some (some (.ref f))/\K.lookup f=some ⟨oc,od,.func fd,sl⟩/\CodeT K fd.code P
noncomputable abbrev Bx:=List (Addr×Cell)
inductive FlR (K:W.Frag)(F B:Hp):List Addr->List V->List Fl->Prop
 |nil:FlR K F B [] [] []
 |v {fp:List Addr} {x:V} {d:D} {xs:List V} {fs:List Fl}:Rep K F x d->FlR K F B fp xs fs->FlR K F B fp (x::xs) (.v d::fs)
 |l {fp:List Addr} {q:Addr} {ys:List V} {ds:List D} {xs:List V} {fs:List Fl}:B q=some (.lst ys)->Reps K F ys ds->FlR K F B fp xs fs->FlR K F B (q::fp) (.ref q::xs) (.l ds::fs)
inductive CellR (K:W.Frag)(F B:Hp):List Addr->Addr->Cell->Prop
 |ins {fp:List Addr} {p dx C:Addr} {c:Str} {ns:List Str} {xs:List V} {fs:List Fl}:W.nsIn K mainGlobals c=some (some (.ref C))->ns.length=xs.length->B p=some (.ins C dx (ns.zip xs))->B dx=some (.own p)->FlR K F B fp xs fs->
   CellR K F B (p::dx::fp) p (.ins c ns fs)
 |row {fp:List Addr} {p:Addr} {xs:List V} {fs:List Fl}:B p=some (.lst xs)->FlR K F B fp xs fs->CellR K F B (p::fp) p (.row fs)
 |tb {P:Addr} {mw:Str} {pos:Pos} {q:Str} {ps:Array Value}:TabF K mw P->B P=some (.tbl ps)->TriplesOk ps.toList->(codeAmong pos ps.toList=none\/∃ c,codeAmong pos ps.toList=some (.ref c)/\F c=some (.ext (xh3 c q)))->CellR K F B [P] P (.tb P mw pos q)
inductive BxR (K:W.Frag)(F B:Hp):List Addr->Bx->Prop
 |nil:BxR K F B [] []
 |cons {fp fq:List Addr} {p:Addr} {c:Cell} {β:Bx}:CellR K F B fp p c->BxR K F B fq β->BxR K F B (fp++fq) ((p,c)::β)
section
variable {K:W.Frag}{F F' B B':Hp}
theorem FlR.mono (e:Same F F'){fp:List Addr}{xs:List V}{fs:List Fl}(h:FlR K F B fp xs fs)(k:∀ a∈fp,B' a=B a):FlR K F' B' fp xs fs:=by
 induction h with
 |nil=>exact .nil
 |v r _ i=>exact .v (r.mono e) (i k)
 |l b r _ i=>exact .l (by rw[k _ (by simp)];exact b) (r.mono e) (i fun a ha=>k a (mem_cons_of_mem _ ha))
theorem CellR.mono (e:Same F F'){fp:List Addr}{p:Addr}{c:Cell}(h:CellR K F B fp p c)(k:∀ a∈fp,B' a=B a):CellR K F' B' fp p c:=by
 cases h with
 |ins a l b d r=>exact .ins a l (by rw[k _ (by simp)];exact b) (by rw[k _ (by simp)];exact d) (r.mono e fun a ha=>k a (by simp[ha]))
 |row b r=>exact .row (by rw[k _ (by simp)];exact b) (r.mono e fun a ha=>k a (by simp[ha]))
 |tb a b t h=>exact .tb a (by rw[k _ (by simp)];exact b) t (h.imp id fun⟨c,h1,h2⟩=>⟨c,h1,e _ _ h2⟩)
theorem BxR.mono (e:Same F F'){fp:List Addr}{β:Bx}(h:BxR K F B fp β)(k:∀ a∈fp,B' a=B a):BxR K F' B' fp β:=by
 induction h with
 |nil=>exact .nil
 |cons c _ i=>exact .cons (c.mono e fun a ha=>k a (by simp[ha])) (i fun a ha=>k a (by simp[ha]))
theorem FlR.mem {fp:List Addr}{xs:List V}{fs:List Fl}(h:FlR K F B fp xs fs):∀ a∈fp,B a≠none:=by
 induction h with
 |nil=>intro a ha;cases ha
 |v _ _ i=>exact i
 |l b _ _ i=>
  intro a ha
  rcases List.mem_cons.mp ha with rfl|ha
  .rw[b];simp
  .exact i a ha
theorem CellR.mem {fp:List Addr}{p:Addr}{c:Cell}(h:CellR K F B fp p c):∀ a∈fp,B a≠none:=by
 intro a ha
 cases h with
 |ins _ _ b d r=>
  rcases List.mem_cons.mp ha with rfl|ha
  .rw[b];simp
  .rcases List.mem_cons.mp ha with rfl|ha
   .rw[d];simp
   .exact r.mem a ha
 |row b r=>
  rcases List.mem_cons.mp ha with rfl|ha
  .rw[b];simp
  .exact r.mem a ha
 |tb _ b _ _=>rw[List.mem_singleton.mp ha,b];simp
theorem BxR.mem {fp:List Addr}{β:Bx}(h:BxR K F B fp β):∀ a∈fp,B a≠none:=by
 induction h with
 |nil=>intro a ha;cases ha
 |cons c _ i=>
  intro a ha
  rcases List.mem_append.mp ha with ha|ha
  .exact c.mem a ha
  .exact i a ha
end
noncomputable def jn (H0 B:Hp):Hp:=fun a=>match B a with |some o=>some o|none=>H0 a
theorem j6 {H0 B:Hp}{a:Addr}{o:HO}(h:B a=some o):jn H0 B a=some o:=by unfold jn;rw[h]
theorem f9 {H0 B:Hp}{a:Addr}(h:B a=none):jn H0 B a=H0 a:=by unfold jn;rw[h]
theorem W0 {H0 B:Hp}{a:Addr}(h:jn H0 B a=none):B a=none/\H0 a=none:=by
 cases b:B a with
 |none=>rw[f9 b]at h;exact⟨rfl,h⟩
 |some o=>rw[j6 b]at h;cases h
structure BxOk (K:W.Frag)(F0 H0 F B:Hp)(fp:List Addr)(β:Bx):Prop where
 out:∀ a,B a≠none->H0 a=none/\F0 a=none
 bx:BxR K F B fp β
 nd:fp.Nodup
 plain:∀ a o u,B a≠some (.frz o u)
theorem BxOk.mono {K:W.Frag}{F0 H0 F F' B:Hp}{fp:List Addr}{β:Bx}(h:BxOk K F0 H0 F B fp β)(e:Same F F'):BxOk K F0 H0 F' B fp β:=⟨h.out,h.bx.mono e fun _ _=>rfl,h.nd,h.plain⟩
def RlW (K:W.Frag)(F0 H0 F H:Hp)(σ:St)(ρ:Ro)(β:Bx):Prop:=∃ B fp,Rl K F0 (jn H0 B) F H σ ρ/\BxOk K F0 H0 F B fp β
noncomputable abbrev MW:=Ro->Bx->Option (Out×Bx)
noncomputable def okW (K:W.Frag)(F0 H0 Fb:Hp)(Dn:Ends):Out->Bx->Prop
 | .nx ρ,β=>∀ F H σ,RlW K F0 H0 F H σ ρ β->Same Fb F->Dn.nx σ H
 | .bk ρ,β=>∀ F H σ,RlW K F0 H0 F H σ ρ β->Same Fb F->Dn.bk σ H
 | .ct ρ,β=>∀ F H σ,RlW K F0 H0 F H σ ρ β->Same Fb F->Dn.ct σ H
 | .rt d,β=>∀ v F H B fp,Ext F0 (jn H0 B) F H->BxOk K F0 H0 F B fp β->Rep K F v d->Dn.rt v H
 | .rf ds,β=>∀ p xs F H B fp,Ext F0 (jn H0 B) F H->BxOk K F0 H0 F B fp β->jn H0 B p=none->F p=none->H p=some (.lst xs)->Reps K F xs ds->Dn.rt (.ref p) H
 | .rg d p r,β=>∀ v F H xs B fp,Ext F0 (jn H0 B) F H->BxOk K F0 H0 F B fp β->Rep K F v d->jn H0 B p=none->F p=none->H p=some (.lst xs)->Reps K F xs r->Dn.rt v H
 | .rp _ _,_=>False
 | .rgf _ _ _,_=>False
theorem okW.mono {K:W.Frag}{F0 H0 z j:Hp}{G:Ends}(s:Same z j):∀{o:Out}{β:Bx},okW K F0 H0 z G o β->okW K F0 H0 j G o β
 | .nx _,_,h=>fun F H σ i q=>h F H σ i (s.trans q)
 | .bk _,_,h=>fun F H σ i q=>h F H σ i (s.trans q)
 | .ct _,_,h=>fun F H σ i q=>h F H σ i (s.trans q)
 | .rt _,_,h=>h
 | .rf _,_,h=>h
 | .rp _ _,_,h=>h
 | .rg _ _ _,_,h=>h
 | .rgf _ _ _,_,h=>h
def TSw (K:W.Frag)(m:MW):TS:=fun Dn σ H=>∃ F0 H0 F ρ β o β',RlW K F0 H0 F H σ ρ β/\m ρ β=some (o,β')/\okW K F0 H0 F Dn o β'
def TDw (K:W.Frag)(m:Ro->Bx->Option D):TE:=fun σ H Q=>∃ F0 H0 F ρ β d,RlW K F0 H0 F H σ ρ β/\m ρ β=some d/\∀ v F' H',RlW K F0 H0 F' H' σ ρ β->Same F F'->Same H H'->Rep K F' v d->Q v H'
def TCw (K:W.Frag)(m:Ro->Bx->Option Bool):TT:=fun σ H Q=>∃ F0 H0 F ρ β b,RlW K F0 H0 F H σ ρ β/\m ρ β=some b/\∀ F' H',RlW K F0 H0 F' H' σ ρ β->Same F F'->Q b H'
def PSw (X:Cx)(st:Stmt)(m:MW):Prop:=PS X st (TSw X.K m)
def PSsw (X:Cx)(st:List Stmt)(m:MW):Prop:=PSs X st (TSw X.K m)
def PDw (X:Cx)(e:Expr)(m:Ro->Bx->Option D):Prop:=PE X e (TDw X.K m)
def PCw' (X:Cx)(e:Expr)(m:Ro->Bx->Option Bool):Prop:=PT X e (TCw X.K m)
theorem RlW.go {K:W.Frag}{F0 H0 F H F' H':Hp}{σ:St}{ρ:Ro}{β:Bx}(h:RlW K F0 H0 F H σ ρ β)(e:Ext F H F' H'):RlW K F0 H0 F' H' σ ρ β:=let ⟨B,fp,i,ok⟩:=h;⟨B,fp,i.go e,ok.mono e.ff⟩
theorem RlW.fh {K:W.Frag}{F0 H0 F H:Hp}{σ:St}{ρ:Ro}{β:Bx}(h:RlW K F0 H0 F H σ ρ β):Same F H:=let ⟨_,_,i,_⟩:=h;i.fh
section
variable {X:Cx}{a b c e:Expr}{pos:Pos}{st:Stmt}{rest:List Stmt}
noncomputable def wS (m:MS):MW:=fun ρ β=>match m ρ with |some (.nx ρ')=>some (.nx ρ',β)|some (.bk ρ')=>some (.bk ρ',β)|some (.ct ρ')=>some (.ct ρ',β)|_=>none
noncomputable def wE {α:Type}(m:Ro->Option α):Ro->Bx->Option α:=fun ρ _=>m ρ
theorem psw {m:MS}(h:PSd X st m):PSw X st (wS m):=PS.imp h fun I σ H ⟨F0,H0,F,ρ,β,o,β',⟨B,fp,G,ok⟩,e,k⟩=>by
 unfold wS at e
 split at e
 .rename_i ρ' h1
  cases e
  exact⟨F0,jn H0 B,F,ρ,_,G,h1,fun F' H' i j z=>k F' H' i ⟨B,fp,j,ok.mono z⟩ z⟩
 .rename_i ρ' h1
  cases e
  exact⟨F0,jn H0 B,F,ρ,_,G,h1,fun F' H' i j z=>k F' H' i ⟨B,fp,j,ok.mono z⟩ z⟩
 .rename_i ρ' h1
  cases e
  exact⟨F0,jn H0 B,F,ρ,_,G,h1,fun F' H' i j z=>k F' H' i ⟨B,fp,j,ok.mono z⟩ z⟩
 .cases e
theorem pdw {m:ME}(h:PD X e m):PDw X e (wE m):=PE.imp h fun σ H Q ⟨F0,H0,F,ρ,β,d,⟨B,fp,i,ok⟩,e,q⟩=>
 ⟨F0,jn H0 B,F,ρ,d,i,e,fun v F' H' x r=>q v F' H' ⟨B,fp,i.go x,ok.mono x.ff⟩ x.ff x.hh r⟩
theorem pcw {m:MB}(h:PC' X e m):PCw' X e (wE m):=PT.imp h fun σ H Q ⟨F0,H0,F,ρ,β,d,⟨B,fp,i,ok⟩,e,q⟩=>
 ⟨F0,jn H0 B,F,ρ,d,i,e,fun F' H' x=>q F' H' ⟨B,fp,i.go x,ok.mono x.ff⟩ x.ff⟩
noncomputable def Y2 (x y:MW):MW:=fun ρ β=>match x ρ β with |some (.nx ρ',β')=>y ρ' β'|o=>o
theorem j0 {m:MW}(h:PSw X st m):PSsw X [st] m:=G8 h
theorem K2:PSsw X [] (wS W6):=PSs.imp pss_nil fun j σ H ⟨F0,H0,F,ρ,β,o,β',⟨B,fp,i,ok⟩,e,k⟩=>by
 cases e
 exact k F H σ ⟨B,fp,i,ok⟩ (Same.refl _)
theorem u9 {m1 m2':MW}(h1:PSw X st m1)(h2:PSsw X rest m2'):PSsw X (st::rest) (Y2 m1 m2'):=PSs.imp (K3 h1 h2) fun D σ H z=>by
 obtain⟨F0,H0,F,ρ,β,o,β',i,e,ok⟩:=z
 unfold Y2 at e
 cases h:m1 ρ β with
 |none=>rw[h]at e;cases e
 |some ob=>
  obtain⟨M,j⟩:=ob
  rw[h]at e
  cases M with
  |nx ρ1=>exact⟨F0,H0,F,ρ,β,_,j,i,h,fun F' H' I G L=>⟨F0,H0,F',ρ1,j,o,β',G,e,ok.mono L⟩⟩
  |bk ρ1=>cases e;exact⟨F0,H0,F,ρ,β,_,_,i,h,ok⟩
  |ct ρ1=>cases e;exact⟨F0,H0,F,ρ,β,_,_,i,h,ok⟩
  |rt d=>cases e;exact⟨F0,H0,F,ρ,β,_,_,i,h,ok⟩
  |rf d=>cases e;exact⟨F0,H0,F,ρ,β,_,_,i,h,ok⟩
  |rp d ds=>cases e;exact⟨F0,H0,F,ρ,β,_,_,i,h,ok⟩
  |rg d p r=>cases e;exact⟨F0,H0,F,ρ,β,_,_,i,h,ok⟩
  |rgf d p r=>cases e;exact⟨F0,H0,F,ρ,β,_,_,i,h,ok⟩
noncomputable def mifW (c:Ro->Bx->Option Bool)(x y:MW):MW:=fun ρ β=>match c ρ β with |some true=>x ρ β|some false=>y ρ β|none=>none
theorem zb7 {ca:Ro->Bx->Option Bool}{x y:List Stmt}{mx G:MW}(M:PCw' X c ca)(L:PSsw X x mx)(I:PSsw X y G):PSw X (.If c x y pos) (mifW ca mx G):=PS.imp (yv4 M L I) fun D σ H j=>by
 obtain⟨F0,H0,F,ρ,β,o,β',i,e,ok⟩:=j
 unfold mifW at e
 split at e
 .rename_i h1
  exact⟨F0,H0,F,ρ,β,_,i,h1,fun F1 H1 r1 z=>iteT ⟨F0,H0,F1,ρ,β,o,β',r1,e,ok.mono z⟩⟩
 .rename_i h1
  exact⟨F0,H0,F,ρ,β,_,i,h1,fun F1 H1 r1 z=>iteF ⟨F0,H0,F1,ρ,β,o,β',r1,e,ok.mono z⟩⟩
 .cases e
noncomputable def yo5 (i:Nat)(x:Ro->Bx->Option D):MW:=fun ρ β=>(x ρ β).map fun d=>(.nx (ρ.set i (some (.sh d))),β)
theorem xx3 {i:Nat}{x:Str}{pos':Pos}{ma:Ro->Bx->Option D}(S:X.N.Nodup)(hi:X.N[i]? =some x)(L:Loc X.env.scope x)(R:PDw X e ma)(M:swapsWith e (some (.Name x pos')) pos.line X.env=pure false:=by rfl)(O:X.fn x=true\/X.env.scope.names.lookup x=some .local:=by first|exact .inl rfl|exact .inr rfl):
  PSw X (.Assign [.Name x pos'] e pos) (yo5 i ma):=PS.imp (zt4 S hi L R M O) fun D σ H j=>by
 obtain⟨F0,H0,F,ρ,β,o,β',z,e,ok⟩:=j
 unfold yo5 at e
 cases h1:ma ρ β with
 |none=>rw[h1]at e;cases e
 |some d=>
  rw[h1]at e;cases e
  refine⟨F0,H0,F,ρ,β,d,z,h1,fun v F1 H1 r1 G _ rp=>?_⟩
  obtain⟨B,fp,I,k⟩:=r1
  exact ok F1 H1 _ ⟨B,fp,I.set rp,k⟩ G
noncomputable def zq5 (x:Ro->Bx->Option D):MW:=fun ρ β=>(x ρ β).map fun d=>(.rt d,β)
theorem G7 {ma:Ro->Bx->Option D}(h:PS X st (tRet (TDw X.K ma))):PSw X st (zq5 ma):=PS.imp h fun D σ H i=>by
 obtain⟨F0,H0,F,ρ,β,o,β',j,e,ok⟩:=i
 unfold zq5 at e
 cases h1:ma ρ β with
 |none=>rw[h1]at e;cases e
 |some d=>
  rw[h1]at e;cases e
  refine⟨F0,H0,F,ρ,β,d,j,h1,fun v F1 H1 r1 G _ rp=>?_⟩
  obtain⟨B,fp,z,k⟩:=r1
  exact ok v F1 H1 B fp z.ext k rp
noncomputable def forW (g:Tg)(body:MW):List D->MW
 |[],ρ,β=>some (.nx ρ,β)
 |d::ds,ρ,β=>match tgD g d ρ with
  |some ρ1=>match body ρ1 β with
   |some (.nx ρ2,β2)=>forW g body ds ρ2 β2
   |some (.ct ρ2,β2)=>forW g body ds ρ2 β2
   |some (.bk ρ2,β2)=>some (.nx ρ2,β2)
   |o=>o
  |none=>none
noncomputable def zx4 (mi:ML)(g:Tg)(body:MW):MW:=fun ρ β=>(mi ρ).bind fun its=>forW g body its ρ β
theorem zg5 {tg iter:Expr}{body:List Stmt}{mi:ML}{g:Tg}{mb:MW}(hp:PassesOwn (model X.prog X.w) X.A X.env X.xe)(hc:X.calm=true)(hi:PId X tg iter mi)(hg:PGd X tg g)(hb:PSsw X body mb)
  (hs:∀ x,foldedSetIterable iter X.env x=pure x:=by intro _;rfl):PSw X (.For tg iter body [] pos) (zx4 mi g mb):=PS.imp (yq3 hp hc hi hg hb hs) fun Dn σ H ⟨F0,H0,F,ρ,β,o,β',⟨B,fp,rl,ok⟩,e,k⟩=>by
 unfold zx4 at e
 cases h1:mi ρ with
 |none=>rw[h1]at e;cases e
 |some its=>
  rw[h1]at e
  have e:forW g mb its ρ β=some (o,β'):=e
  refine⟨F0,jn H0 B,F,ρ,its,rl,h1,fun J F1 H1 N I=>?_⟩
  refine⟨fun i m S H'=>∃ F' ρ' G,RlW X.K F0 H0 F' H' S ρ' G/\Same F1 F'/\i<=its.length/\m=its.length-i/\forW g mb (its.drop i) ρ' G=some (o,β'),⟨_,F1,ρ,β,⟨B,fp,rl.go N,ok.mono N.ff⟩,Same.refl _,Nat.zero_le _,rfl,e⟩,?_⟩
  rintro i m S H' ⟨F',ρ',G,⟨B1,a2,M,a0⟩,Z,a5,rfl,j⟩
  by_cases U:i<its.length
  .right
   have hd:=getElem?_eq_getElem U
   refine⟨I.go i F' H' Z M.fh U,fun Y H2=>∃ F2 ρ2 z,RlW X.K F0 H0 F2 H2 Y ρ2 z/\Same F1 F2/\forW g mb (its.drop (i+1)) ρ2 z=some (o,β'),?_,fun x H2 y=>?_⟩
   .rintro Y H2 ⟨F2,ρ2,z,rl2,sf2,e2⟩
    exact⟨its.length-(i+1),by omega,F2,ρ2,z,rl2,sf2,U,rfl,e2⟩
   .obtain⟨F2,x2,r2⟩:=I.yld i F' H' x H2 _ Z M.fh hd y
    rw[W7 hd]at j
    unfold forW at j
    cases h2:tgD g its[i] ρ' with
    |none=>simp only[h2]at j;cases j
    |some ρ1=>
     simp only[h2]at j
     refine⟨F0,jn H0 B1,F2,ρ',_,ρ1,M.go x2,r2,h2,fun F3 H3 a4 a3 x3=>?_⟩
     have O:Same F1 F3:=(Z.trans x2.ff).trans x3.ff
     cases h3:mb ρ1 G with
     |none=>simp only[h3]at j;cases j
     |some ob=>
      obtain⟨o1,z⟩:=ob
      simp only[h3]at j
      refine⟨F0,H0,F3,ρ1,G,o1,z,⟨B1,a2,a3,a0.mono (x2.ff.trans x3.ff)⟩,h3,?_⟩
      cases o1 with
      |nx ρ2=>exact fun F5 H5 R L s5=>⟨F5,ρ2,z,L,O.trans s5,j⟩
      |ct ρ2=>exact fun F5 H5 R L s5=>⟨F5,ρ2,z,L,O.trans s5,j⟩
      |bk ρ2=>
       cases j
       exact fun F5 H5 R L s5=>k F5 H5 R L ((N.ff.trans O).trans s5)
      |rt d=>cases j;exact k.mono (N.ff.trans O)
      |rf d=>cases j;exact k.mono (N.ff.trans O)
      |rp d ds=>cases j;exact k.mono (N.ff.trans O)
      |rg d p r=>cases j;exact k.mono (N.ff.trans O)
      |rgf d p r=>cases j;exact k.mono (N.ff.trans O)
  .left
   have a1:i=its.length:=by omega
   subst a1
   rw[drop_length]at j
   have j:some (Out.nx ρ',G)=some (o,β'):=j
   cases j
   exact⟨I.stop F' H' Z M.fh,k F' H' S ⟨B1,a2,M,a0⟩ (N.ff.trans Z)⟩
noncomputable def flD:Fl->D
 | .v d=>d
 | .l ds=>.lst ds
noncomputable def zv1:Cell->D
 | .ins c ns fs=>.obj c ns (fs.map flD)
 | .row fs=>.lst (fs.map flD)
 | .tb P _ _ _=>.ptr P
noncomputable def U9 (β:Bx):Option S->Option S
 |some (.sh (.ptr p))=>match β.lookup p with |some c=>some (.sh (zv1 c))|none=>some (.sh (.ptr p))
 |x=>x
noncomputable def thaw (ρ:Ro)(β:Bx):Ro:=ρ.map (U9 β)
noncomputable def V8 (m:ME):Ro->Bx->Option D:=fun ρ β=>(m (thaw ρ β)).bind fun d=>if isSc d=true then some d else none
noncomputable def zk6 (m:MB):Ro->Bx->Option Bool:=fun ρ β=>m (thaw ρ β)
end
section
variable {K:W.Frag}{F0 H0 F H B:Hp}{σ:St}{ρ:Ro}{β:Bx}{fp:List Addr}
theorem FlR.rep {G:Hp}{xs:List V}{fs:List Fl}(j:Same F G)(z:Same B G)(h:FlR K F B fp xs fs):Reps K G xs (fs.map flD):=by
 induction h with
 |nil=>exact .nil
 |v r _ i=>exact .cons (r.mono j) i
 |l b r _ i=>exact .cons (.lst (SqL.of (z _ _ b)) (r.mono j)) i
theorem CellR.rep {G:Hp}{p:Addr}{c:Cell}(j:Same F G)(i:Same B G)(h:CellR K F B fp p c):Rep K G (.ref p) (zv1 c):=by
 cases h with
 |ins a l b d r=>exact .obj a l (i _ _ b) (i _ _ d) (r.rep j i)
 |row b r=>exact .lst (SqL.of (i _ _ b)) (r.rep j i)
 |tb _ _ _ _=>exact .ptr _
theorem BxR.at' {p:Addr}{c:Cell}:∀{fp:List Addr}{β:Bx},BxR K F B fp β->β.lookup p=some c->∃ fq,CellR K F B fq p c
 |_,_,.nil,e=>by cases e
 |_,_,.cons (p:=q) h r,e=>by
  rw[lookup_cons]at e
  split at e
  .rename_i z
   have z:=beq_iff_eq.mp z
   subst z
   cases e
   exact⟨_,h⟩
  .exact r.at' e
theorem RlW.frozen (z:Rl K F0 (jn H0 B) F H σ ρ)(ok:BxOk K F0 H0 F B fp β):Rl K (jn F0 B) (jn H0 B) (jn F B) H σ (thaw ρ β)/\Same F (jn F B):=by
 have bh:Same B H:=fun a o e=>z.ext.hh a o (j6 e)
 have fn:∀ a,B a≠none->F a=none:=fun a h=>by
  cases q:F a with
  |none=>rfl
  |some o=>
   have:=z.ext.new a (ok.out a h).2 (by rw[q];simp)
   exact absurd (W0 this).1 h
 have fb:Same F (jn F B):=fun a o e=>by
  cases q:B a with
  |none=>rw[f9 q];exact e
  |some u=>rw[fn a (by rw[q];simp)]at e;cases e
 have Z:Same B (jn F B):=fun a o e=>j6 e
 have back:∀(i:Nat) x,(thaw ρ β)[i]? =some x->∃ y,ρ[i]? =some y/\x=U9 β y:=fun i x e=>by
  unfold thaw at e
  rw[getElem?_map]at e
  cases q:ρ[i]? with
  |none=>rw[q]at e;cases e
  |some y=>rw[q]at e;cases e;exact⟨y,rfl,rfl⟩
 have R:∀{y:Option S}{ds:List D},some (.own ds)=U9 β y->y=some (.own ds):=fun{y ds} e=>by
  unfold U9 at e
  split at e
  .split at e <;> cases e
  .exact e.symm
 have tB:∀{y:Option S}{p:Addr}{ds:List D},some (.ob p ds)=U9 β y->y=some (.ob p ds):=fun{y p ds} e=>by
  unfold U9 at e
  split at e
  .split at e <;> cases e
  .exact e.symm
 have G:∀(i:Nat) ds,(thaw ρ β)[i]? =some (some (.own ds))->ρ[i]? =some (some (.own ds)):=fun i ds e=>by
  obtain⟨y,e1,e2⟩:=back i _ e
  rw[e1,R e2]
 have I:∀(i:Nat) p ds,(thaw ρ β)[i]? =some (some (.ob p ds))->ρ[i]? =some (some (.ob p ds)):=fun i p ds e=>by
  obtain⟨y,e1,e2⟩:=back i _ e
  rw[e1,tB e2]
 have O:∀ p,F p=none->jn H0 B p=none->jn F B p=none:=fun p h h2=>by rw[f9 (W0 h2).1];exact h
 refine⟨⟨⟨fun a o e=>?_,z.ext.hh,fun a o e=>?_,fun b e n=>?_,fun b o u e=>?_⟩,by unfold thaw;rw[length_map];exact z.len,fun i d e=>?_,fun i ds e=>?_,fun i j p ds es N e1 e2 e3 Y=>z.inj i j p ds es N (G i ds e1) (G j es e2) e3 Y,fun i p ds e=>?_,fun i j p ds es e1 e2 e3=>z.obn i j p ds es (I i p ds e1) (G j es e2) e3,fun i j p q ds es e1 e2=>z.ob1 i j p q ds es (I i p ds e1) (I j q es e2)⟩,fb⟩
 .cases q:B a with
  |none=>rw[f9 q]at e;rw[f9 q];exact z.ext.ff a o e
  |some u=>rw[j6 q]at e;rw[j6 q];exact e
 .cases q:B a with
  |none=>rw[f9 q]at e;exact z.ext.fh a o e
  |some u=>rw[j6 q]at e;cases e;exact bh a _ q
 .obtain⟨e1,e2⟩:=W0 e
  rw[f9 e1]at n
  exact z.ext.new b e2 n
 .cases q:B b with
  |none=>rw[f9 q]at e ⊢;exact z.ext.nf b o u e
  |some w=>rw[j6 q]at e ⊢;exact e
 .obtain⟨y,e1,e2⟩:=back i _ e
  unfold U9 at e2
  split at e2
  .rename_i p
   obtain⟨v,L,M⟩:=z.sh i _ e1
   cases M
   split at e2
   .rename_i c hc
    cases e2
    obtain⟨fq,U⟩:=ok.bx.at' hc
    exact⟨_,L,U.rep fb Z⟩
   .cases e2
    exact⟨_,L,.ptr p⟩
  .subst e2
   obtain⟨v,L,M⟩:=z.sh i d e1
   exact⟨v,L,M.mono fb⟩
 .obtain⟨p,xs,L,M,a3,a4,a5⟩:=z.own i ds (G i ds e)
  exact⟨p,xs,L,O p M a5,a3,a4.mono fb,a5⟩
 .obtain⟨L,M,a3,xs,a4,a5⟩:=z.ob i p ds (I i p ds e)
  exact⟨L,O p M a3,a3,xs,a4,a5.mono fb⟩
theorem RlW.melt {F2 H2:Hp}(i:Rl K F0 (jn H0 B) F H σ ρ)(ok:BxOk K F0 H0 F B fp β)(x:Ext (jn F B) H F2 H2)(fb:Same F (jn F B)):RlW K F0 H0 F H2 σ ρ β:=
 ⟨B,fp,i.go ⟨Same.refl _,x.hh,i.fh.trans x.hh,fun b e n=>absurd e n,fun _ _ _ z=>z⟩,ok⟩
end
section
variable {X:Cx}{a b c e:Expr}{pos:Pos}
theorem O7 {m:ME}(h:PD X e m):PDw X e (V8 m):=PE.imp h fun σ H Q ⟨F0,H0,F,ρ,β,d,⟨B,fp,i,ok⟩,e,q⟩=>by
 unfold V8 at e
 cases h1:m (thaw ρ β)with
 |none=>rw[h1]at e;cases e
 |some d'=>
  rw[h1,Option.bind_some]at e
  split at e
  .rename_i hs
   cases e
   obtain⟨r1,fb⟩:=RlW.frozen i ok
   exact⟨_,_,_,_,_,r1,h1,fun v F' H' x r=>q v F H' (RlW.melt i ok x fb) (Same.refl _) x.hh (ys4 hs r)⟩
  .cases e
theorem za5 {m:MB}(h:PC' X e m):PCw' X e (zk6 m):=PT.imp h fun σ H Q ⟨F0,H0,F,ρ,β,d,⟨B,fp,i,ok⟩,e,q⟩=>by
 obtain⟨r1,fb⟩:=RlW.frozen i ok
 exact⟨_,_,_,_,_,r1,e,fun F' H' x=>q F H' (RlW.melt i ok x fb) (Same.refl _)⟩
end
end
section
noncomputable def cut (H B:Hp):Hp:=fun a=>match B a with |some _=>none|none=>H a
theorem xi5 {H B:Hp}{a:Addr}(h:B a≠none):cut H B a=none:=by
 unfold cut
 cases q:B a with
 |none=>exact absurd q h
 |some o=>rfl
theorem zw9 {H B:Hp}{a:Addr}(h:B a=none):cut H B a=H a:=by unfold cut;rw[h]
theorem xk9 {H B:Hp}(h:Same B H):jn (cut H B) B=H:=by
 funext a
 cases q:B a with
 |none=>rw[f9 q,zw9 q]
 |some o=>rw[j6 q,h a o q]
noncomputable abbrev MFW:=List D->Bx->Option (Rt×Bx)
noncomputable def okTW (K:W.Frag)(F H B:Hp)(Q:VK):Rt->Bx->Prop
 | .sh d,β=>∀ v F' H' B' fp',Ext F (jn (cut H B) B') F' H'->BxOk K F (cut H B) F' B' fp' β->Rep K F' v d->Q v H'
 | .fr ds,β=>∀ p xs F' H' B' fp',Ext F (jn (cut H B) B') F' H'->BxOk K F (cut H B) F' B' fp' β->jn (cut H B) B' p=none->F' p=none->H' p=some (.lst xs)->Reps K F' xs ds->Q (.ref p) H'
 | .pr _ _,_=>False
def spW (K:W.Frag)(n:Nat)(m:MFW):Sp:=fun vs H Q _=>vs.length=n/\∃ F B fp ds β r β',Same F H/\Same B H/\BxOk K F (cut H B) F B fp β/\Reps K F vs ds/\m ds β=some (r,β')/\okTW K F H B Q r β'
noncomputable def runW (n:Nat)(m:MW):MFW:=fun ds β=>match m (v3 n ds) β with
 |some (.nx _,β')=>some (.sh .non,β'.drop (β'.length-β.length))
 |some (.rt d,β')=>some (.sh d,β'.drop (β'.length-β.length))
 |some (.rf es,β')=>some (.fr es,β'.drop (β'.length-β.length))
 |_=>none
theorem BxR.drop {K:W.Frag}{F B:Hp}:∀{fp:List Addr}{β:Bx}(k:Nat),BxR K F B fp β->∃ fq,BxR K F B fq (β.drop k)/\fq.Sublist fp
 |_,_,0,h=>⟨_,h,List.Sublist.refl _⟩
 |_,_,k+1,.nil=>⟨_,.nil,List.Sublist.refl _⟩
 |_,_,k+1,.cons c r=>by
  obtain⟨fq,h,s⟩:=BxR.drop k r
  exact⟨fq,h,s.trans (sublist_append_right _ _)⟩
theorem BxOk.drop {K:W.Frag}{F0 H0 F B:Hp}{fp:List Addr}{β:Bx}(h:BxOk K F0 H0 F B fp β)(k:Nat):∃ fq,BxOk K F0 H0 F B fq (β.drop k):=by
 obtain⟨fq,r,s⟩:=h.bx.drop k
 exact⟨fq,h.out,r,h.nd.sublist s,h.plain⟩
theorem Fun.okW {P:Program}{w:World}{K:W.Frag}{mg:Str->Option Value}{base:Heap}{x qual:Str}{st:Stmt}{f:Addr}{fd:FuncData}{N ps:List Str}{k:Nat}{m:MW}(Fn:Fun K x qual st f fd)(Sc:FnScope N ps (z9 st))
  (i:∀(cdv:Value)(A:Around)(outer:List Env)(s:Shared)(H:Hp)(E:XK),Room k (A.deeper (envOfC qual (z9 st) s.heap.objs.size f cdv))->PSsw (cxOf CX0 P w K mg base N qual (z9 st) f cdv A outer s H E).nox (v4 st) m):
  FnOk P w K mg base CX0 (k+1) f fd ps (spW K ps.length (runW N.length m)):=by
 refine Fn.ok Sc (fun vs H Q E h=>h.1) fun cdv A outer s H vs Q E S h=>?_
 obtain⟨hl,F,B,fp,ds,β,r,β',L,M,U,O,e,ok⟩:=h
 unfold runW at e
 refine⟨_,i cdv A outer s H E S,F,cut H B,F,v3 N.length ds,β,?_⟩
 have start:RlW K F (cut H B) F H (start N vs) (v3 N.length ds) β:=⟨B,fp,by rw[xk9 M];exact O5 L O,U⟩
 split at e
 .rename_i ρ β1 h1
  cases e
  refine⟨_,_,start,h1,fun F' H' I R _=>?_⟩
  obtain⟨B',z,G,j⟩:=R
  obtain⟨fq,k2⟩:=j.drop (β1.length-β.length)
  exact ok .non F' H' B' fq G.ext k2 .non
 .rename_i d β1 h1
  cases e
  refine⟨_,_,start,h1,fun v F' H' B' z x j rp=>?_⟩
  obtain⟨fq,k2⟩:=j.drop (β1.length-β.length)
  exact ok v F' H' B' fq x k2 rp
 .rename_i es β1 h1
  cases e
  refine⟨_,_,start,h1,fun p xs F' H' B' z x j a1 a2 Z Y=>?_⟩
  obtain⟨fq,k2⟩:=j.drop (β1.length-β.length)
  exact ok p xs F' H' B' fq x k2 a1 a2 Z Y
 .cases e
def TDx (K:W.Frag)(m:Ro->Bx->Option (D×Bx)):TE:=fun σ H Q=>∃ F0 H0 F ρ β d β',RlW K F0 H0 F H σ ρ β/\m ρ β=some (d,β')/\∀ v F' H',RlW K F0 H0 F' H' σ ρ β'->Same F F'->Rep K F' v d->Q v H'
def PDx (X:Cx)(e:Expr)(m:Ro->Bx->Option (D×Bx)):Prop:=PE X e (TDx X.K m)
section
variable {K:W.Frag}{F0 H0 F H B:Hp}{σ:St}{ρ:Ro}{β:Bx}{fp:List Addr}
theorem BxOk.call (i:Rl K F0 (jn H0 B) F H σ ρ)(ok:BxOk K F0 H0 F B fp β):Same B H/\BxOk K F (cut H B) F B fp β:=by
 have j:Same B H:=fun a o e=>i.ext.hh a o (j6 e)
 refine⟨j,fun a h=>⟨xi5 h,?_⟩,ok.bx,ok.nd,ok.plain⟩
 cases q:F a with
 |none=>rfl
 |some o=>
  have:=i.ext.new a (ok.out a h).2 (by rw[q];simp)
  exact absurd (W0 this).1 h
theorem RlW.back' {F' H' B':Hp}{M:List Addr}{β':Bx}(I:Rl K F0 (jn H0 B) F H σ ρ)(ok:BxOk K F0 H0 F B fp β)(x:Ext F (jn (cut H B) B') F' H')(G:BxOk K F (cut H B) F' B' M β'):Rl K F0 (jn H0 B') F' H' σ ρ/\BxOk K F0 H0 F' B' M β':=by
 have N:∀ a o,H0 a=some o->B a=none/\H a=some o/\B' a=none:=fun a o e=>by
  have b:B a=none:=by
   cases q:B a with
   |none=>rfl
   |some u=>have:=(ok.out a (by rw[q];simp)).1;rw[this]at e;cases e
  have h:=I.ext.hh a o (by rw[f9 b];exact e)
  refine⟨b,h,?_⟩
  cases q:B' a with
  |none=>rfl
  |some u=>have:=(G.out a (by rw[q];simp)).1;rw[zw9 b,h]at this;cases this
 have L:∀ p xs,jn H0 B p=none->F p=none->H p=some (.lst xs)->F' p=none/\jn H0 B' p=none/\H' p=some (.lst xs):=fun p xs e1 e2 e3=>by
  obtain⟨b,h⟩:=W0 e1
  have c:cut H B p=some (.lst xs):=by rw[zw9 b];exact e3
  have b':B' p=none:=by
   cases q:B' p with
   |none=>rfl
   |some u=>have:=(G.out p (by rw[q];simp)).1;rw[c]at this;cases this
  have j:jn (cut H B) B' p=some (.lst xs):=by rw[f9 b'];exact c
  refine⟨?_,by rw[f9 b'];exact h,x.hh p _ j⟩
  cases q:F' p with
  |none=>rfl
  |some u=>have:=x.new p e2 (by rw[q];simp);rw[j]at this;cases this
 refine⟨⟨⟨I.ext.ff.trans x.ff,fun a o e=>?_,x.fh,fun b e n=>?_,fun b o u e=>I.ext.nf b o u (x.nf b o u e)⟩,I.len,fun i d e=>?_,fun i ds e=>?_,I.inj,fun i p ds e=>?_,I.obn,I.ob1⟩,fun a h=>⟨?_,?_⟩,G.bx,G.nd,G.plain⟩
 .cases q:B' a with
  |some u=>rw[j6 q]at e;cases e;exact x.hh a _ (j6 q)
  |none=>
   rw[f9 q]at e
   obtain⟨b,h,_⟩:=N a o e
   exact x.hh a o (by rw[f9 q,zw9 b];exact h)
 .cases q1:F b with
  |none=>
   obtain⟨b',c⟩:=W0 (x.new b q1 n)
   rw[f9 b']
   cases q:H0 b with
   |none=>rfl
   |some o=>obtain⟨z,h,_⟩:=N b o q;rw[zw9 z,h]at c;cases c
  |some o=>
   have:=I.ext.new b e (by rw[q1];simp)
   obtain⟨_,h⟩:=W0 this
   cases q:B' b with
   |none=>rw[f9 q];exact h
   |some u=>have:=(G.out b (by rw[q];simp)).2;rw[q1]at this;cases this
 .obtain⟨v,a1,a2⟩:=I.sh i d e
  exact⟨v,a1,a2.mono x.ff⟩
 .obtain⟨p,xs,a1,a2,a3,a4,a5⟩:=I.own i ds e
  obtain⟨S,R,O⟩:=L p xs a5 a2 a3
  exact⟨p,xs,a1,S,O,a4.mono x.ff,R⟩
 .obtain⟨a1,a2,a3,xs,a4,a5⟩:=I.ob i p ds e
  obtain⟨S,R,O⟩:=L p xs a3 a2 a4
  exact⟨a1,S,R,xs,O,a5.mono x.ff⟩
 .cases q:H0 a with
  |none=>rfl
  |some o=>exact absurd (N a o q).2.2 h
 .cases q:F0 a with
  |none=>rfl
  |some o=>have:=(G.out a h).2;rw[I.ext.ff a o q]at this;cases this
theorem RlW.back {F' H' B':Hp}{i:List Addr}{β':Bx}(z:Rl K F0 (jn H0 B) F H σ ρ)(ok:BxOk K F0 H0 F B fp β)(x:Ext F (jn (cut H B) B') F' H')(j:BxOk K F (cut H B) F' B' i β'):RlW K F0 H0 F' H' σ ρ β':=let ⟨a,b⟩:=RlW.back' z ok x j;⟨B',i,a,b⟩
end
section
variable {X:Cx}{a b c e o:Expr}{pos:Pos}{st:Stmt}{rest:List Stmt}{E:XK}{es:List Expr}{mf:MFW}{m:ML}
noncomputable def rtW:Option (Rt×Bx)->Option (D×Bx)
 |some (.sh d,β)=>some (d,β)
 |some (.fr es,β)=>some (.lst es,β)
 |_=>none
theorem O2 {K:W.Frag}{F0 H0 F H B:Hp}{σ:St}{ρ:Ro}{β β':Bx}{fp:List Addr}{ds:List D}{d:D}{vs:List V}{n:Nat}{Q:VK}(i:Rl K F0 (jn H0 B) F H σ ρ)(ok:BxOk K F0 H0 F B fp β)(I:vs.length=n)(r:Reps K F vs ds)(e:rtW (mf ds β)=some (d,β'))
  (q:∀ v F' H',RlW K F0 H0 F' H' σ ρ β'->Same F F'->Rep K F' v d->Q v H'):spW K n mf vs H Q E:=by
 obtain⟨G,k⟩:=ok.call i
 refine⟨I,F,B,fp,ds,β,?_⟩
 unfold rtW at e
 split at e
 .rename_i d' β1 h2
  cases e
  exact⟨_,_,i.fh,G,k,r,h2,fun v F' H' B' z x j rp=>q v F' H' (RlW.back i ok x j) x.ff rp⟩
 .rename_i es' β1 h2
  cases e
  refine⟨_,_,i.fh,G,k,r,h2,fun p xs F' H' B' z x j e1 e2 e3 rp=>?_⟩
  have s2:Same F' (upd F' p (.lst xs)):=(Same.refl F').put e2
  exact q _ (upd F' p (.lst xs)) H' (RlW.back i ok (x.freeze e2 e1 e3) (j.mono s2)) (x.ff.trans s2) (.lst (SqL.of x9) (rp.mono s2))
 .cases e
noncomputable def D8 (f:MFW)(m:ML):Ro->Bx->Option (D×Bx):=fun ρ β=>(m ρ).bind fun ds=>rtW (f ds β)
theorem A3 {n:Nat}(h:∀ t,PA X es t->PE X e (zh2 (spW X.K n mf) [] E t))(I:es.length=n)(ha:PAs X es m)(hm:∀ ρ ds,m ρ=some ds->ds.length=es.length):PDx X e (D8 mf m):=PE.imp (h _ ha) fun σ H Q ⟨F0,H0,F,ρ,β,d,β',⟨B,fp,z,ok⟩,e,q⟩=>by
 unfold D8 at e
 cases h1:m ρ with
 |none=>rw[h1]at e;cases e
 |some ds=>
  rw[h1,Option.bind_some]at e
  refine⟨F0,jn H0 B,F,ρ,ds,z,h1,fun vs F1 H1 i r1=>?_⟩
  show spW X.K n mf (vs++[]) H1 Q E
  rw[append_nil]
  exact O2 (z.go i) (ok.mono i.ff) (by rw[r1.length,hm ρ ds h1,I]) r1 e fun v F' H' j G rp=>q v F' H' j (i.ff.trans G) rp
noncomputable def Q0 (i:Nat)(c mn:Str)(f:MFW)(m:ML):Ro->Bx->Option (D×Bx):=fun ρ β=>match ρ[i]? with
 |some (some (.sh (.ptr p)))=>(match β.lookup p with
  |some (.ins c' ns fs)=>if c'=c/\mn∉ns then (m ρ).bind fun ds=>rtW (f (.ptr p::ds) β)else none
  |_=>none)
 |_=>none
theorem g6 {ns:List Str}{mn:Str}(h:mn∉ns):∀ xs:List V,(ns.zip xs).lookup mn=none:=by
 induction ns with
 |nil=>intro xs;rfl
 |cons n ns i=>
  intro xs
  cases xs with
  |nil=>rfl
  |cons x xs=>
   rw[zip_cons_cons,lookup_cons]
   have hn:(mn==n)=false:=by
    cases q:mn==n with
    |false=>rfl
    |true=>exact absurd (by rw[beq_iff_eq.mp q];simp) h
   rw[hn]
   exact i (fun z=>h (mem_cons_of_mem _ z)) xs
theorem za4 {n:Nat}{i:Nat}{c mn:Str}{C:Addr}(U:W.nsIn X.K mainGlobals c=some (some (.ref C)))(R:PD X o (mvar i))(h:∀ ta t,PE X o ta->PA X es t->PE X e (zz7 C mn (spW X.K n mf) [] E ta t))(S:es.length+1=n)(ha:PAs X es m)(hm:∀ ρ ds,m ρ=some ds->ds.length=es.length):
  PDx X e (Q0 i c mn mf m):=PE.imp (h _ _ R ha) fun σ H Q ⟨F0,H0,F,ρ,β,d,β',⟨B,fp,z,ok⟩,e,q⟩=>by
 unfold Q0 at e
 split at e
 .rename_i p hp
  split at e
  .rename_i c' ns fs hb
   split at e
   .rename_i L
    obtain⟨rfl,L⟩:=L
    cases h1:m ρ with
    |none=>rw[h1]at e;cases e
    |some ds=>
     rw[h1,Option.bind_some]at e
     obtain⟨fq,O⟩:=ok.bx.at' hb
     refine⟨F0,jn H0 B,F,ρ,.ptr p,z,by unfold mvar;rw[hp],fun v F1 H1 j r1=>?_⟩
     cases r1
     cases O with
     |ins M a2 Y a4 Z=>
      rw[U]at M
      cases M
      refine⟨p,_,_,rfl,j.hh _ _ (z.ext.hh _ _ (j6 Y)),g6 L _,?_⟩
      refine⟨F0,jn H0 B,F1,ρ,ds,z.go j,h1,fun vs F2 H2 G r2=>?_⟩
      show spW X.K n mf (.ref p::(vs++[])) H2 Q E
      rw[append_nil]
      exact O2 ((z.go j).go G) ((ok.mono j.ff).mono G.ff) (by rw[length_cons,r2.length,hm ρ ds h1,S]) (.cons (.ptr p) r2) e fun v F' H' I N rp=>q v F' H' I ((j.ff.trans G.ff).trans N) rp
   .cases e
  .cases e
 .cases e
noncomputable def Q3 (x:Ro->Bx->Option (D×Bx)):MW:=fun ρ β=>(x ρ β).map fun r=>(.nx ρ,r.2)
theorem zn3 {ma:Ro->Bx->Option (D×Bx)}(h:PS X st (yh1 (TDx X.K ma))):PSw X st (Q3 ma):=PS.imp h fun D σ H i=>by
 obtain⟨F0,H0,F,ρ,β,o,β',j,e,ok⟩:=i
 unfold Q3 at e
 cases h1:ma ρ β with
 |none=>rw[h1]at e;cases e
 |some r=>
  rw[h1]at e;cases e
  exact⟨F0,H0,F,ρ,β,r.1,r.2,j,h1,fun v F1 H1 r1 z rp=>ok F1 H1 σ r1 z⟩
noncomputable def yf8 (i:Nat)(x:Ro->Bx->Option (D×Bx)):MW:=fun ρ β=>(x ρ β).map fun r=>(.nx (ρ.set i (some (.sh r.1))),r.2)
theorem yg1 {i:Nat}{x:Str}{pos':Pos}{ma:Ro->Bx->Option (D×Bx)}(S:X.N.Nodup)(hi:X.N[i]? =some x)(L:Loc X.env.scope x)(R:PDx X e ma)(M:swapsWith e (some (.Name x pos')) pos.line X.env=pure false:=by rfl)(O:X.fn x=true\/X.env.scope.names.lookup x=some .local:=by first|exact .inl rfl|exact .inr rfl):
  PSw X (.Assign [.Name x pos'] e pos) (yf8 i ma):=PS.imp (zt4 S hi L R M O) fun D σ H j=>by
 obtain⟨F0,H0,F,ρ,β,o,β',z,e,ok⟩:=j
 unfold yf8 at e
 cases h1:ma ρ β with
 |none=>rw[h1]at e;cases e
 |some r=>
  rw[h1]at e;cases e
  refine⟨F0,H0,F,ρ,β,r.1,r.2,z,h1,fun v F1 H1 r1 G rp=>?_⟩
  obtain⟨B,fp,I,k⟩:=r1
  exact ok F1 H1 _ ⟨B,fp,I.set rp,k⟩ G
end
end
section
noncomputable def fldD (c f:Str):D->Option D
 | .obj c' ns ds=>if c'=c then (ns.zip ds).lookup f else none
 |_=>none
theorem zu7 {K:W.Frag}{F:Hp}{f:Str}{d:D}:∀{ns:List Str}{xs:List V}{ds:List D},ns.length=xs.length->Reps K F xs ds->(ns.zip ds).lookup f=some d->∃ v,(ns.zip xs).lookup f=some v/\Rep K F v d
 |[],_,_,_,_,e=>by cases e
 |n::ns,[],_,l,_,_=>by cases l
 |n::ns,x::xs,_::ds,l,.cons h r,e=>by
  rw[zip_cons_cons,lookup_cons]at e ⊢
  cases q:f==n with
  |true=>rw[q]at e;cases e;exact⟨x,rfl,h⟩
  |false=>rw[q]at e;exact zu7 (by simpa using l) r e
section
variable {X:Cx}{a b c e o:Expr}{pos apos:Pos}{E:XK}{es:List Expr}{m:ML}{mo:ME}
@[irreducible] noncomputable def mfld (c f:Str)(m:ME):ME:=fun ρ=>(m ρ).bind (fldD c f)
theorem V2 {c f:Str}(L:PD X o mo)(M:∀ C,W.nsIn X.K mainGlobals c=some (some (.ref C))->Cls X.K C/\NoAttr X.K C f)(N:attributeBase o f X.env (eval o X.env)=eval o X.env:=by rfl):PD X (.Attribute o f pos) (mfld c f mo):=PE.imp (ya1 L N) fun σ H Q i=>by
 obtain⟨F0,H0,F,ρ,d,I,e,q⟩:=i
 unfold mfld at e
 cases h1:mo ρ with
 |none=>rw[h1]at e;cases e
 |some O=>
  rw[h1,Option.bind_some]at e
  refine⟨F0,H0,F,ρ,O,I,h1,fun v F1 H1 z r1=>?_⟩
  cases r1 with
  |@obj _ _ _ c0 ns0 _ ds0 a1 a2 a3 a4 a5=>
   have j:(if c0=c then (ns0.zip ds0).lookup f else none)=some d:=e
   clear e
   split at j
   .rename_i hz
    subst hz
    obtain⟨G,e1,e2⟩:=zu7 a2 a5 j
    obtain⟨k1,k2⟩:=M _ a1
    exact⟨_,_,_,_,G,rfl,z.fh _ _ a3,k1,k2,e1,q G F1 H1 z e2⟩
   .cases j
  |_=>cases e
@[irreducible] noncomputable def d7 (c mn:Str)(f:MF)(mo:ME)(m:ML):ME:=fun ρ=>match mo ρ with
 |some (.obj c' ns ds0)=>if c'=c/\mn∉ns then (m ρ).bind fun ds=>match f (.obj c' ns ds0::ds)with |some (.sh d)=>some d|some (.fr es)=>some (.lst es)|some (.pr d es)=>some (.tup [d,.lst es])|none=>none else none
 |_=>none
end
noncomputable def updB (p:Addr)(c':Cell):Bx->Bx
 |[]=>[]
 | (q,c)::β=>if q=p then (q,c')::β else (q,c)::updB p c' β
section
variable {K:W.Frag}{F0 H0 F H B:Hp}{σ:St}{ρ:Ro}{β:Bx}{fp:List Addr}
theorem BxR.upd {p:Addr}{c:Cell}:∀{fp:List Addr}{β:Bx},BxR K F B fp β->fp.Nodup->β.lookup p=some c->∃ fq,CellR K F B fq p c/\fq.Nodup/\(∀ a∈fq,a∈fp)/\
  ∀(M:Cell)(i:List Addr)(B' F':Hp),Same F F'->CellR K F' B' i p M->i.Nodup->(∀ a∈fp,a∉fq->B' a=B a)->(∀ a∈i,a∈fq\/a∉fp)->∃ j,BxR K F' B' j (updB p M β)/\j.Nodup/\∀ a∈j,a∈fp\/a∈i
 |_,_,.nil,_,e=>by cases e
 |_,_,.cons (fp:=f0) (fq:=f1) (p:=q) (c:=c0) (β:=β) h r,nd,e=>by
  obtain⟨n0,n1,n2⟩:=List.nodup_append.mp nd
  have L:∀ a,a∈f0->a∈f1->False:=fun a h1 h2=>n2 a h1 a h2 rfl
  rw[lookup_cons]at e
  cases z:p==q with
  |true=>
   rw[z]at e
   have z:=beq_iff_eq.mp z
   subst z
   cases e
   refine⟨f0,h,n0,fun a ha=>mem_append_left _ ha,fun M i B' F' N hc S O fr=>?_⟩
   unfold updB
   rw[if_pos rfl]
   refine⟨i++f1,.cons hc (r.mono N fun a ha=>O a (mem_append_right _ ha) fun z=>L a z ha),List.nodup_append.mpr ⟨S,n1,fun a h1 b h2 I=>?_⟩,fun a ha=>?_⟩
   .subst I
    rcases fr a h1 with z|z
    .exact L a z h2
    .exact z (mem_append_right _ h2)
   .rcases List.mem_append.mp ha with z|z
    .exact .inr z
    .exact .inl (mem_append_right _ z)
  |false=>
   rw[z]at e
   have Z:¬ q=p:=fun y=>by rw[y,beq_self_eq_true]at z;cases z
   obtain⟨fq,h1,R,G,Y⟩:=r.upd n1 e
   refine⟨fq,h1,R,fun a ha=>mem_append_right _ (G a ha),fun M i B' F' N hc S O fr=>?_⟩
   obtain⟨j,r',U,hm⟩:=Y M i B' F' N hc S (fun a ha hn=>O a (mem_append_right _ ha) hn) fun a ha=>(fr a ha).imp id fun z y=>z (mem_append_right _ y)
   unfold updB
   rw[if_neg Z]
   refine⟨f0++j,.cons (h.mono N fun a ha=>O a (mem_append_left _ ha) fun y=>L a ha (G a y)) r',List.nodup_append.mpr ⟨n0,U,fun a h1 b h2 I=>?_⟩,fun a ha=>?_⟩
   .subst I
    rcases hm a h2 with z|z
    .exact L a h1 z
    .rcases fr a z with y|y
     .exact L a h1 (G a y)
     .exact y (mem_append_left _ h1)
   .rcases List.mem_append.mp ha with z|z
    .exact .inl (mem_append_left _ z)
    .exact(hm a z).imp (mem_append_right _) id
theorem Rl.putB {a:Addr}{o:HO}(j:Rl K F0 (jn H0 B) F H σ ρ)(out:∀ b,B b≠none->H0 b=none/\F0 b=none)(ha:B a≠none\/H a=none):Rl K F0 (jn H0 (upd B a o)) F (upd H a o) σ ρ/\F a=none/\H0 a=none/\F0 a=none:=by
 have L:F a=none/\H0 a=none/\F0 a=none:=by
  rcases ha with h|h
  .refine⟨?_,out a h⟩
   cases q:F a with
   |none=>rfl
   |some u=>exact absurd (W0 (j.ext.new a (out a h).2 (by rw[q];simp))).1 h
  .have f:F a=none:=j.fh.free h
   exact⟨f,(W0 (j.ext.hh.free h)).2,j.ext.ff.free f⟩
 have I:∀ b,b≠a->jn H0 (upd B a o) b=jn H0 B b:=fun b G=>by unfold jn;rw[x8 G]
 have ne:∀ p xs,jn H0 B p=none->H p=some (.lst xs)->p≠a:=fun p xs e1 e2 e3=>by
  subst e3
  rcases ha with h|h
  .exact h (W0 e1).1
  .rw[h]at e2;cases e2
 refine⟨⟨⟨j.ext.ff,fun b u e=>?_,j.ext.fh.put L.1,fun b e n=>?_,j.ext.nf⟩,j.len,j.sh,fun i ds e=>?_,j.inj,fun i p ds e=>?_,j.obn,j.ob1⟩,L⟩
 .by_cases G:b=a
  .subst G
   rw[j6 x9]at e
   rw[x9];exact e
  .rw[I b G]at e
   rw[x8 G]
   exact j.ext.hh b u e
 .have G:b≠a:=fun z=>by subst z;exact n L.1
  rw[I b G]
  exact j.ext.new b e n
 .obtain⟨p,xs,a1,a2,a3,a4,a5⟩:=j.own i ds e
  have hp:=ne p xs a5 a3
  exact⟨p,xs,a1,a2,by rw[x8 hp];exact a3,a4,by rw[I p hp];exact a5⟩
 .obtain⟨a1,a2,a3,xs,a4,a5⟩:=j.ob i p ds e
  have hp:=ne p xs a3 a4
  exact⟨a1,a2,by rw[I p hp];exact a3,xs,by rw[x8 hp];exact a4,a5⟩
end
end
section
noncomputable def putN (f:Str)(w:Fl):List Str->List Fl->List Str×List Fl
 |n::ns,g::gs=>if n=f then (n::ns,w::gs)else (n::(putN f w ns gs).1,g::(putN f w ns gs).2)
 |_,_=>([f],[w])
section
variable {K:W.Frag}{F0 H0 F H B:Hp}{σ:St}{ρ:Ro}{β:Bx}{fp:List Addr}
theorem FlR.one_cons {i:List Addr}{y:V}{w:Fl}(h:FlR K F B i [y] [w]){fq:List Addr}{xs:List V}{fs:List Fl}(r:FlR K F B fq xs fs):FlR K F B (i++fq) (y::xs) (w::fs):=by
 cases h with
 |v a b=>cases b;exact .v a r
 |l a b c=>cases c;exact .l a b r
theorem FlR.put {f:Str}{y:V}{w:Fl}{G:List Addr}(hw:FlR K F B G [y] [w])(L:G.Nodup):∀{fq:List Addr}{ns:List Str}{xs:List V}{fs:List Fl},FlR K F B fq xs fs->ns.length=xs.length->fq.Nodup->(∀ a∈G,a∉fq)->
  ∃ i j,putF f y (ns.zip xs)=(putN f w ns fs).1.zip i/\(putN f w ns fs).1.length=i.length/\FlR K F B j i (putN f w ns fs).2/\j.Nodup/\∀ a∈j,a∈fq\/a∈G
 |_,[],_,_,.nil,_,_,_=>⟨[y],G,rfl,rfl,hw,L,fun a h=>.inr h⟩
 |_,_::_,_,_,.nil,hl,_,_=>by cases hl
 |_,[],_,_,.v _ _,hl,_,_=>by cases hl
 |_,[],_,_,.l _ _ _,hl,_,_=>by cases hl
 |fq,n::ns,x::xs,_::fs,.v r rr,hl,nd,dj=>by
  have l':ns.length=xs.length:=by simpa using hl
  by_cases hn:n=f
  .refine⟨y::xs,G++fq,?_,?_,?_,?_,?_⟩
   .rw[zip_cons_cons];unfold putF putN;rw[if_pos hn,if_pos hn];rfl
   .unfold putN;rw[if_pos hn];simpa using hl
   .unfold putN;rw[if_pos hn];exact hw.one_cons rr
   .exact List.nodup_append.mpr ⟨L,nd,fun a h1 b h2 e=>by subst e;exact dj a h1 h2⟩
   .intro a ha;exact(List.mem_append.mp ha).symm
  .obtain⟨i,j,e1,e2,e3,e4,e5⟩:=FlR.put (f:=f) hw L rr l' nd dj
   refine⟨x::i,j,?_,?_,?_,e4,e5⟩
   .rw[zip_cons_cons];unfold putF putN;rw[if_neg hn,if_neg hn,e1];rfl
   .unfold putN;rw[if_neg hn];simp[e2]
   .unfold putN;rw[if_neg hn];exact .v r e3
 |_,n::ns,_::xs,_::fs,.l (fp:=fq) (q:=q) b r rr,hl,nd,dj=>by
  have l':ns.length=xs.length:=by simpa using hl
  have I:=List.nodup_cons.mp nd
  have M:∀ a∈G,a∉fq:=fun a h1 h2=>dj a h1 (mem_cons_of_mem _ h2)
  by_cases hn:n=f
  .refine⟨y::xs,G++fq,?_,?_,?_,?_,?_⟩
   .rw[zip_cons_cons];unfold putF putN;rw[if_pos hn,if_pos hn];rfl
   .unfold putN;rw[if_pos hn];simpa using hl
   .unfold putN;rw[if_pos hn];exact hw.one_cons rr
   .exact List.nodup_append.mpr ⟨L,I.2,fun a h1 b h2 e=>by subst e;exact M a h1 h2⟩
   .intro a ha
    rcases List.mem_append.mp ha with z|z
    .exact .inr z
    .exact .inl (mem_cons_of_mem _ z)
  .obtain⟨i,j,e1,e2,e3,e4,e5⟩:=FlR.put (f:=f) hw L rr l' I.2 M
   refine⟨.ref q::i,q::j,?_,?_,?_,?_,?_⟩
   .rw[zip_cons_cons];unfold putF putN;rw[if_neg hn,if_neg hn,e1];rfl
   .unfold putN;rw[if_neg hn];simp[e2]
   .unfold putN;rw[if_neg hn];exact .l b r e3
   .refine List.nodup_cons.mpr ⟨fun h=>?_,e4⟩
    rcases e5 q h with z|z
    .exact I.1 z
    .exact dj q z (by simp)
   .intro a ha
    rcases List.mem_cons.mp ha with rfl|z
    .exact .inl (by simp)
    .exact(e5 a z).imp (mem_cons_of_mem _) id
theorem Rl.takeB {q:Addr}{o:HO}(j:Rl K F0 (jn H0 B) F H σ ρ)(L:H q=some o)(M:F q=none)(N:jn H0 B q=none)(hn:∀(i:Nat) ds,ρ[i]? =some (some (.own ds))->σ[i]? ≠some (some (.ref q)))(I:∀(i:Nat) p ds,ρ[i]? =some (some (.ob p ds))->p≠q):Rl K F0 (jn H0 (upd B q o)) F H σ ρ:=by
 have G:∀ b,b≠q->jn H0 (upd B q o) b=jn H0 B b:=fun b I=>by unfold jn;rw[x8 I]
 refine⟨⟨j.ext.ff,fun b u e=>?_,j.ext.fh,fun b e n=>?_,j.ext.nf⟩,j.len,j.sh,fun i ds e=>?_,j.inj,fun i p ds e=>?_,j.obn,j.ob1⟩
 .by_cases hq:b=q
  .subst hq;rw[j6 x9]at e;cases e;exact L
  .rw[G b hq]at e;exact j.ext.hh b u e
 .have hq:b≠q:=fun z=>by subst z;exact n M
  rw[G b hq];exact j.ext.new b e n
 .obtain⟨p,xs,a1,a2,a3,a4,a5⟩:=j.own i ds e
  exact⟨p,xs,a1,a2,a3,a4,by rw[G p (fun z=>hn i ds e (by rw[<-z];exact a1))];exact a5⟩
 .obtain⟨a1,a2,a3,xs,a4,a5⟩:=j.ob i p ds e
  exact⟨a1,a2,by rw[G p (I i p ds e)];exact a3,xs,a4,a5⟩
theorem M0 {a:Addr}{o:HO}(out:∀ b,B b≠none->H0 b=none/\F0 b=none)(h:H0 a=none/\F0 a=none):∀ b,upd B a o b≠none->H0 b=none/\F0 b=none:=fun b i=>by
 by_cases z:b=a
 .subst z;exact h
 .rw[x8 z]at i;exact out b i
theorem V1 {a:Addr}{o:HO}(pl:∀ b o u,B b≠some (.frz o u))(h:∀ p u,o≠ .frz p u):∀ b p u,upd B a o b≠some (.frz p u):=fun b p u i=>by
 by_cases z:b=a
 .subst z;rw[x9]at i;exact h p u (Option.some.inj i)
 .rw[x8 z]at i;exact pl b p u i
theorem RlW.fld {p:Addr}{c f:Str}{ns:List Str}{fs:List Fl}{y:V}{w:Fl}{U:List Addr}(rl:Rl K F0 (jn H0 B) F H σ ρ)(ok:BxOk K F0 H0 F B fp β)(hb:β.lookup p=some (.ins c ns fs))(hw:FlR K F B U [y] [w])(nw:U.Nodup)(M:∀ a∈U,a∉fp):
  ∃ C dx xs,W.nsIn K mainGlobals c=some (some (.ref C))/\H p=some (.ins C dx (ns.zip xs))/\RlW K F0 H0 F (upd H p (.ins C dx (putF f y (ns.zip xs)))) σ ρ (updB p (.ins c (putN f w ns fs).1 (putN f w ns fs).2) β):=by
 obtain⟨fq,hc,nq,j,up⟩:=ok.bx.upd ok.nd hb
 cases hc with
 |@ins fq0 _ dx C _ _ xs _ a1 a2 a3 a4 a5=>
  have i:=List.nodup_cons.mp nq
  have L:=List.nodup_cons.mp i.2
  have pin:p∈fp:=j p (by simp)
  have a0:dx∈fp:=j dx (by simp)
  obtain⟨a6,I,e1,e2,e3,e4,Z⟩:=FlR.put (f:=f) hw nw a5 a2 L.2 fun a h1 h2=>M a h1 (j a (by simp[h2]))
  refine⟨C,dx,xs,a1,rl.ext.hh _ _ (j6 a3),?_⟩
  obtain⟨N,fa,S,R⟩:=rl.putB (a:=p) (o:=.ins C dx (putF f y (ns.zip xs))) ok.out (.inl (by rw[a3];simp))
  have pn:p∉I:=fun h=>by
   rcases Z p h with z|z
   .exact i.1 (by simp[z])
   .exact M p z pin
  have dn:dx∉I:=fun h=>by
   rcases Z dx h with z|z
   .exact L.1 z
   .exact M dx z a0
  have pd:dx≠p:=fun z=>i.1 (by simp[z])
  have G:CellR K F (upd B p (.ins C dx (putF f y (ns.zip xs)))) (p::dx::I) p (.ins c (putN f w ns fs).1 (putN f w ns fs).2):=
   .ins a1 e2 (by rw[x9,e1]) (by rw[x8 pd];exact a4) (e3.mono (Same.refl _) fun a ha=>x8 fun z=>pn (z ▸ ha))
  obtain⟨Y,r',O,hm⟩:=up _ _ _ F (Same.refl _) G (List.nodup_cons.mpr ⟨fun h=>by rcases List.mem_cons.mp h with z|z;exact pd z.symm;exact pn z,List.nodup_cons.mpr ⟨dn,e4⟩⟩) (fun a ha hn=>x8 fun z=>hn (by rw[z];simp)) (fun a ha=>by
   rcases List.mem_cons.mp ha with rfl|ha
   .exact .inl (by simp)
   .rcases List.mem_cons.mp ha with rfl|ha
    .exact .inl (by simp)
    .rcases Z a ha with z|z
     .exact .inl (by simp[z])
     .exact .inr (M a z))
  exact⟨_,Y,N,M0 ok.out ⟨S,R⟩,r',O,V1 ok.plain fun _ _ z=>by cases z⟩
end
section
variable {X:Cx}{value o:Expr}{pos pos':Pos}{f:Str}
noncomputable def yn2 (i:Nat)(c f:Str)(x:Ro->Bx->Option D):MW:=fun ρ β=>(x ρ β).bind fun d=>match ρ[i]? with
 |some (some (.sh (.ptr p)))=>(match β.lookup p with
  |some (.ins c' ns fs)=>if c'=c/\ns.length<1000 then some (.nx ρ,updB p (.ins c' (putN f (.v d) ns fs).1 (putN f (.v d) ns fs).2) β)else none
  |_=>none)
 |_=>none
theorem xx4 {i:Nat}{c:Str}{mv:Ro->Bx->Option D}(R:∀ C,W.nsIn X.K mainGlobals c=some (some (.ref C))->Cls X.K C/\NoAttr X.K C f)(O:PD X o (mvar i))(M:PDw X value mv)(N:swapsWith value (some (.Attribute o f pos')) pos.line X.env=pure false:=by rfl):
  PSw X (.Assign [.Attribute o f pos'] value pos) (yn2 i c f mv):=PS.imp (yb8 O M N) fun D σ H j=>by
 obtain⟨F0,H0,F,ρ,β,o',β',G,e,k⟩:=j
 unfold yn2 at e
 cases h1:mv ρ β with
 |none=>rw[h1]at e;cases e
 |some d=>
  rw[h1,Option.bind_some]at e
  split at e
  .rename_i p hp
   split at e
   .rename_i c' ns fs hb
    split at e
    .rename_i L
     obtain⟨rfl,L⟩:=L
     cases e
     refine⟨F0,H0,F,ρ,β,d,G,h1,fun v F1 H1 r1 s1 _ rp=>?_⟩
     obtain⟨B,fp,I,ok⟩:=r1
     refine⟨F0,jn H0 B,F1,ρ,.ptr p,I,by unfold mvar;rw[hp],fun x F2 H2 z r2=>?_⟩
     cases r2
     obtain⟨C,dx,xs,Y,U,S⟩:=RlW.fld (f:=f) (I.go z) (ok.mono z.ff) hb (.v (rp.mono z.ff) .nil) nodup_nil (fun a h=>by cases h)
     obtain⟨k1,k2⟩:=R C Y
     exact⟨p,C,dx,_,rfl,U,k1,k2,by rw[length_zip];omega,k F2 _ σ S (s1.trans z.ff)⟩
    .cases e
   .cases e
  .cases e
noncomputable def J0 (i:Nat)(c f:Str)(x:Ro->Bx->Option (List D)):MW:=fun ρ β=>(x ρ β).bind fun ds=>match ρ[i]? with
 |some (some (.sh (.ptr p)))=>(match β.lookup p with
  |some (.ins c' ns fs)=>if c'=c/\ns.length<1000 then some (.nx ρ,updB p (.ins c' (putN f (.l ds) ns fs).1 (putN f (.l ds) ns fs).2) β)else none
  |_=>none)
 |_=>none
def TFw (K:W.Frag)(m:Ro->Bx->Option (List D)):TE:=fun σ H Q=>∃ F0 H0 F ρ β ds,RlW K F0 H0 F H σ ρ β/\m ρ β=some ds/\∀ q ys F' H' B fp,Rl K F0 (jn H0 B) F' H' σ ρ->BxOk K F0 H0 F' B fp β->Same F F'->jn H0 B q=none->H q=none->F' q=none->H' q=some (.lst ys)->Reps K F' ys ds->Q (.ref q) H'
def PFw (X:Cx)(e:Expr)(m:Ro->Bx->Option (List D)):Prop:=PE X e (TFw X.K m)
end
end
section
section
variable {X:Cx}{value e o:Expr}{pos pos' apos cpos:Pos}{f:Str}{st:Stmt}{rest:List Stmt}
theorem pfw {m:ML}(h:PF X e m):PFw X e (wE m):=PE.imp h fun σ H Q ⟨F0,H0,F,ρ,β,ds,⟨B,fp,i,ok⟩,e,q⟩=>
 ⟨F0,jn H0 B,F,ρ,ds,i,e,fun p xs F' H' x hp z j r=>q p xs F' H' B fp (i.go x) (ok.mono x.ff) x.ff (i.ext.hh.free hp) hp z j r⟩
noncomputable def J2 (m:ML):Ro->Bx->Option (List D):=fun ρ β=>(m (thaw ρ β)).bind fun ds=>if ds.all isSc=true then some ds else none
theorem zr2 {K:W.Frag}{F G:Hp}:∀{vs:List V}{ds:List D},ds.all isSc=true->Reps K F vs ds->Reps K G vs ds
 |_,_,_,.nil=>.nil
 |_,_,h,.cons r rr=>by
  rw[all_cons,Bool.and_eq_true]at h
  exact .cons (ys4 h.1 r) (zr2 h.2 rr)
theorem za0 {m:ML}(h:PF X e m):PFw X e (J2 m):=PE.imp h fun σ H Q ⟨F0,H0,F,ρ,β,ds,⟨B,fp,i,ok⟩,e,q⟩=>by
 unfold J2 at e
 cases h1:m (thaw ρ β)with
 |none=>rw[h1]at e;cases e
 |some d'=>
  rw[h1,Option.bind_some]at e
  split at e
  .rename_i hs
   cases e
   obtain⟨r1,fb⟩:=RlW.frozen i ok
   exact⟨_,_,_,_,_,r1,h1,fun p xs F' H' x hp G j r=>q p xs F H' B fp (i.go ⟨Same.refl _,x.hh,i.fh.trans x.hh,fun b e n=>absurd e n,fun _ _ _ z=>z⟩) ok (Same.refl _) (i.ext.hh.free hp) hp (i.fh.free hp) j (zr2 hs r)⟩
  .cases e
theorem yf6 {K:W.Frag}{F0 H0 H F' H' B:Hp}{σ:St}{ρ:Ro}{q:Addr}{ys:List V}(G:Rl K F0 (jn H0 B) F' H' σ ρ)(j:∀ a o,H a=some o->a≠q)(own:∀(i:Nat) ds p,ρ[i]? =some (some (.own ds))->σ[i]? =some (some (.ref p))->∃ o,H p=some o)(ob:∀(i:Nat) p ds,ρ[i]? =some (some (.ob p ds))->∃ o,H p=some o)(I:jn H0 B q=none)(M:F' q=none)(L:H' q=some (.lst ys)):Rl K F0 (jn H0 (upd B q (.lst ys))) F' H' σ ρ:=
 G.takeB L M I (fun i ds e z=>let ⟨o,h⟩:=own i ds q e z;j q o h rfl) fun i p ds e z=>let ⟨o,h⟩:=ob i p ds e;j p o h z
theorem L9 {i:Nat}{c:Str}{mv:Ro->Bx->Option (List D)}(hc:∀ C,W.nsIn X.K mainGlobals c=some (some (.ref C))->Cls X.K C/\NoAttr X.K C f)(ho:PD X o (mvar i))(hv:PFw X value mv)(hs:swapsWith value (some (.Attribute o f pos')) pos.line X.env=pure false:=by rfl):
  PSw X (.Assign [.Attribute o f pos'] value pos) (J0 i c f mv):=PS.imp (yb8 ho hv hs) fun D σ H N=>by
 obtain⟨F0,H0,F,ρ,β,o',β',I,e,k⟩:=N
 unfold J0 at e
 cases h1:mv ρ β with
 |none=>rw[h1]at e;cases e
 |some ds=>
  rw[h1,Option.bind_some]at e
  split at e
  .rename_i p hp
   split at e
   .rename_i c' ns fs hb
    split at e
    .rename_i hz
     obtain⟨rfl,hz⟩:=hz
     cases e
     have S:=I
     obtain⟨B0,a8,M,a7⟩:=S
     refine⟨F0,H0,F,ρ,β,ds,I,h1,fun q ys F1 H1 B fp rl ok s1 hj hq hF hH rp=>?_⟩
     refine⟨F0,jn H0 B,F1,ρ,.ptr p,rl,by unfold mvar;rw[hp],fun x F2 H2 G r2=>?_⟩
     cases r2
     have O:∀(i:Nat) ds a,ρ[i]? =some (some (.own ds))->σ[i]? =some (some (.ref a))->∃ o,H a=some o:=fun i ds a e1 e2=>by
      obtain⟨z,xs,a1,a2,a3,_⟩:=M.own i ds e1
      rw[a1]at e2;cases e2;exact⟨_,a3⟩
     have Z:∀(i:Nat) a ds,ρ[i]? =some (some (.ob a ds))->∃ o,H a=some o:=fun i a ds e1=>by
      obtain⟨_,_,_,xs,a4,_⟩:=M.ob i a ds e1
      exact⟨_,a4⟩
     have nq:∀ a o,H a=some o->a≠q:=fun a o h z=>by rw[z,hq]at h;cases h
     have L:=rl.go G
     have R:F2 q=none:=by
      cases z:F2 q with
      |none=>rfl
      |some u=>have:=G.new q hF (by rw[z];simp);rw[hH]at this;cases this
     have a0:H2 q=some (.lst ys):=G.hh _ _ hH
     have U:=yf6 (H:=H) L nq O Z hj R a0
     obtain⟨bq,a5⟩:=W0 hj
     have j:=ok.mono G.ff
     have qn:q∉fp:=fun z=>ok.bx.mem q z bq
     have a6:F0 q=none:=L.ext.ff.free R
     have Y:BxOk X.K F0 H0 F2 (upd B q (.lst ys)) fp β:=⟨M0 j.out ⟨a5,a6⟩,j.bx.mono (Same.refl _) fun a ha=>x8 fun z=>qn (z ▸ ha),j.nd,V1 j.plain fun _ _ z=>by cases z⟩
     obtain⟨C,dx,xs,g1,g2,g3⟩:=RlW.fld (f:=f) U Y hb (.l x9 (rp.mono G.ff) .nil) (by simp) (fun a h=>by rw[mem_singleton]at h;rw[h];exact qn)
     obtain⟨k1,k2⟩:=hc C g1
     exact⟨p,C,dx,_,rfl,g2,k1,k2,by rw[length_zip];omega,k F2 _ σ g3 (s1.trans G.ff)⟩
    .cases e
   .cases e
  .cases e
noncomputable def getN (f:Str):List Str->List Fl->Option Fl
 |n::ns,g::gs=>if n=f then some g else getN f ns gs
 |_,_=>none
theorem FlR.get {K:W.Frag}{F B:Hp}{f:Str}{ds:List D}:∀{fq:List Addr}{ns:List Str}{xs:List V}{fs:List Fl},FlR K F B fq xs fs->ns.length=xs.length->fq.Nodup->getN f ns fs=some (.l ds)->
  ∃ q ys,(ns.zip xs).lookup f=some (.ref q)/\q∈fq/\B q=some (.lst ys)/\Reps K F ys ds/\∀(B' F':Hp) j i,Same F F'->B' q=some (.lst j)->Reps K F' j i->(∀ a∈fq,a≠q->B' a=B a)->FlR K F' B' fq xs (putN f (.l i) ns fs).2/\(putN f (.l i) ns fs).1=ns
 |_,[],_,_,.nil,_,_,e=>by cases e
 |_,_::_,_,_,.nil,hl,_,_=>by cases hl
 |_,[],_,_,.v _ _,hl,_,_=>by cases hl
 |_,[],_,_,.l _ _ _,hl,_,_=>by cases hl
 |fq,n::ns,x::xs,_::fs,.v r rr,hl,nd,e=>by
  have l':ns.length=xs.length:=by simpa using hl
  unfold getN at e
  by_cases hn:n=f
  .rw[if_pos hn]at e;cases e
  .rw[if_neg hn]at e
   obtain⟨q,ys,a1,R,a3,Z,Y⟩:=FlR.get rr l' nd e
   have M:(f==n)=false:=by
    cases z:f==n with
    |false=>rfl
    |true=>exact absurd (beq_iff_eq.mp z).symm hn
   refine⟨q,ys,by rw[zip_cons_cons,lookup_cons,M];exact a1,R,a3,Z,fun B' F' j i G O N L=>?_⟩
   obtain⟨U,S⟩:=Y B' F' j i G O N L
   unfold putN
   rw[if_neg hn]
   exact⟨.v (r.mono G) U,by simp[S]⟩
 |_,n::ns,_::xs,_::fs,.l (fp:=fq) (q:=q0) b r rr,hl,nd,e=>by
  have l':ns.length=xs.length:=by simpa using hl
  have I:=List.nodup_cons.mp nd
  unfold getN at e
  by_cases hn:n=f
  .rw[if_pos hn]at e;cases e
   have M:(f==n)=true:=beq_iff_eq.mpr hn.symm
   refine⟨q0,_,by rw[zip_cons_cons,lookup_cons,M],by simp,b,r,fun B' F' j i G O N L=>?_⟩
   unfold putN
   rw[if_pos hn]
   exact⟨.l O N (rr.mono G fun a ha=>L a (by simp[ha]) fun z=>I.1 (z ▸ ha)),rfl⟩
  .rw[if_neg hn]at e
   obtain⟨q,ys,a1,R,a3,Z,Y⟩:=FlR.get rr l' I.2 e
   have M:(f==n)=false:=by
    cases z:f==n with
    |false=>rfl
    |true=>exact absurd (beq_iff_eq.mp z).symm hn
   refine⟨q,ys,by rw[zip_cons_cons,lookup_cons,M];exact a1,by simp[R],a3,Z,fun B' F' j i G O N L=>?_⟩
   obtain⟨U,S⟩:=Y B' F' j i G O N fun a ha hq=>L a (by simp[ha]) hq
   unfold putN
   rw[if_neg hn]
   exact⟨.l (by rw[L q0 (by simp) fun z=>I.1 (z ▸ R)];exact b) (r.mono G) U,by simp[S]⟩
noncomputable def N8 (i:Nat)(c f:Str)(x:Ro->Bx->Option D):MW:=fun ρ β=>match ρ[i]? with
 |some (some (.sh (.ptr p)))=>(match β.lookup p with
  |some (.ins c' ns fs)=>(match getN f ns fs with
   |some (.l ds)=>if c'=c/\ds.length<sizeLine then (x ρ β).map fun d=>(.nx ρ,updB p (.ins c' ns (putN f (.l (ds++[d])) ns fs).2) β)else none
   |_=>none)
  |_=>none)
 |_=>none
theorem A0 {i:Nat}{c:Str}{mv:Ro->Bx->Option D}(hc:∀ C,W.nsIn X.K mainGlobals c=some (some (.ref C))->Cls X.K C/\NoAttr X.K C f)(ho:PD X o (mvar i))(hv:PDw X e mv)
  (Y:attributeBase o f X.env (eval o X.env)=eval o X.env) (hE:∀ to t,PE X (.Attribute o f pos') to->PA X [e] t->PE X (.Call (.Attribute (.Attribute o f pos') "append" apos) [e] [] cpos) (tBM X.K "list" zg2 to t))
  (ab:starEach (e::[]) X.env=(false,eval e X.env)::starEach [] X.env:=by rfl) (hs:swapsWith (.Call (.Attribute (.Attribute o f pos') "append" apos) [e] [] cpos) none pos.line X.env=pure false:=by rfl):
  PSw X (.Expr (.Call (.Attribute (.Attribute o f pos') "append" apos) [e] [] cpos) pos) (N8 i c f mv):=PS.imp (S7 (hE _ _ (ya1 ho Y) (g5 hv pa_nil ab)) hs) fun D σ H U=>by
 obtain⟨F0,H0,F,ρ,β,o',β',a6,e,k⟩:=U
 unfold N8 at e
 split at e
 .rename_i p hp
  split at e
  .rename_i c' ns fs Y
   split at e
   .rename_i ds hg
    split at e
    .rename_i hz
     obtain⟨rfl,hz⟩:=hz
     cases h1:mv ρ β with
     |none=>rw[h1]at e;cases e
     |some d=>
      rw[h1]at e;cases e
      have a0:=a6
      obtain⟨B,fp,N,ok⟩:=a0
      refine⟨F0,jn H0 B,F,ρ,.ptr p,N,by unfold mvar;rw[hp],fun x F1 H1 M r1=>?_⟩
      cases r1
      obtain⟨fq,ae,nq,aj,up⟩:=ok.bx.upd ok.nd Y
      cases ae with
      |@ins fq0 _ dx C _ _ xs _ a1 a2 a3 a4 a5=>
       obtain⟨k1,k2⟩:=hc C a1
       have a9:=List.nodup_cons.mp nq
       have a8:=List.nodup_cons.mp a9.2
       obtain⟨q,ys,b1,b2,b3,b4,_⟩:=FlR.get a5 a2 a8.2 hg
       refine⟨p,C,dx,_,.ref q,rfl,M.hh _ _ (N.ext.hh _ _ (j6 a3)),k1,k2,b1,?_⟩
       refine⟨.inl ⟨rfl,_,SqL.of (M.hh _ _ (N.ext.hh _ _ (j6 b3)))⟩,?_⟩
       refine⟨F0,H0,F1,ρ,β,d,⟨B,fp,N.go M,ok.mono M.ff⟩,h1,fun v F2 H2 r2 s2 h2 rp=>?_⟩
       obtain⟨B2,al,I,G⟩:=r2
       obtain⟨ak,ad,O,ah,Z⟩:=G.bx.upd G.nd Y
       cases ad with
       |@ins fq1 _ dx' C' _ _ xs' _ c1 c2 c3 c4 c5=>
        have e1:H2 p=some (.ins C dx (ns.zip xs)):=h2 _ _ (M.hh _ _ (N.ext.hh _ _ (j6 a3)))
        rw[I.ext.hh _ _ (j6 c3)]at e1
        injection e1 with e1
        injection e1 with z1 z2 z3
        have z4:xs'=xs:=by
         have:=congrArg (List.map Prod.snd) z3
         rwa [map_snd_zip (by omega),map_snd_zip (by omega)]at this
        subst z4
        have S:=List.nodup_cons.mp O
        have R:=List.nodup_cons.mp S.2
        obtain⟨q',j,d1,d2,d3,d4,d5⟩:=FlR.get c5 c2 R.2 hg
        rw[d1]at b1
        cases b1
        have hq:H2 q=some (.lst j):=I.ext.hh _ _ (j6 d3)
        refine⟨q,j,v,rfl,rfl,hq,by rw[d4.length];exact hz,?_⟩
        obtain⟨a7,fa,af,ac⟩:=I.putB (a:=q) (o:=.lst (j++[v])) G.out (.inl (by rw[d3];simp))
        have qp:p≠q:=fun z=>S.1 (by rw[z];simp[d2])
        have qd:dx'≠q:=fun z=>R.1 (z ▸ d2)
        obtain⟨g1,g2⟩:=d5 (upd B2 q (.lst (j++[v]))) F2 (j++[v]) (ds++[d]) (Same.refl _) x9 (d4.append (.cons rp .nil)) fun a ha hn=>x8 hn
        have L:CellR X.K F2 (upd B2 q (.lst (j++[v]))) (p::dx'::fq1) p (.ins c' ns (putN f (.l (ds++[d])) ns fs).2):=.ins c1 c2 (by rw[x8 qp];exact c3) (by rw[x8 qd];exact c4) g1
        obtain⟨ag,r3,aa,ai⟩:=Z _ _ _ F2 (Same.refl _) L O (fun a ha hn=>x8 fun z=>hn (by rw[z];simp[d2])) fun a ha=>.inl ha
        exact k F2 _ σ ⟨_,ag,a7,M0 G.out ⟨af,ac⟩,r3,aa,V1 G.plain fun _ _ z=>by cases z⟩ (M.ff.trans s2)
    .cases e
   .cases e
  .cases e
 .cases e
end
end
section
theorem Rl.forget {K:W.Frag}{F0 H0 F H:Hp}{σ:St}{ρ:Ro}(r:Rl K F0 H0 F H σ ρ)(i:Nat):Rl K F0 H0 F H σ (ρ.set i none):=by
 have back:∀(j:Nat) x,(ρ.set i none)[j]? =some (some x)->ρ[j]? =some (some x):=fun j x e=>by
  by_cases I:i=j
  .subst I
   rcases Nat.lt_or_ge i ρ.length with z|z
   .rw[getElem?_set_self z]at e;cases e
   .rw[getElem?_eq_none (by simpa using z)]at e;cases e
  .rw[getElem?_set_ne I]at e;exact e
 exact⟨r.ext,by simp[r.len],fun j d e=>r.sh j d (back j _ e),fun j ds e=>r.own j ds (back j _ e),fun j k p ds es G e1 e2=>r.inj j k p ds es G (back j _ e1) (back k _ e2),fun j p ds e=>r.ob j p ds (back j _ e),fun j k p ds es e1 e2=>r.obn j k p ds es (back j _ e1) (back k _ e2),fun j k p q ds es e1 e2=>r.ob1 j k p q ds es (back j _ e1) (back k _ e2)⟩
open Classical in
noncomputable def anyN {α:Type}(β:Bx)(f:Addr->Option α):Option α:=if h:∃ r,∀ x,x∉β.map Prod.fst->f x=some r then some (Classical.choose h)else none
theorem zv2 {i:Type}{β:Bx}{f:Addr->Option i}{r:i}(h:anyN β f=some r):∀ x,x∉β.map Prod.fst->f x=some r:=by
 unfold anyN at h
 split at h
 .rename_i hx
  cases h
  exact Classical.choose_spec hx
 .cases h
theorem zs4 (l:List Addr):∃ x,x∉l:=by
 have z:∀ l:List Addr,∃ b,∀ a∈l,a<b:=by
  intro l
  induction l with
  |nil=>exact⟨0,fun a h=>by cases h⟩
  |cons a l G=>
   obtain⟨b,j⟩:=G
   refine⟨max b (a+1),fun c i=>?_⟩
   rcases List.mem_cons.mp i with rfl|i
   .have:=Nat.le_max_right b (c+1);exact Nat.lt_of_lt_of_le (Nat.lt_succ_self c) this
   .exact Nat.lt_of_lt_of_le (j c i) (Nat.le_max_left _ _)
 obtain⟨b,j⟩:=z l
 exact⟨b,fun h=>Nat.lt_irrefl _ (j b h)⟩
theorem zc2 {i:Type}{β:Bx}{f:Addr->Option i}{r:i}(h:∀ x,x∉β.map Prod.fst->f x=some r):anyN β f=some r:=by
 unfold anyN
 have j:∃ r,∀ x,x∉β.map Prod.fst->f x=some r:=⟨r,h⟩
 rw[dif_pos j]
 obtain⟨x,hn⟩:=zs4 (β.map Prod.fst)
 have:=Classical.choose_spec j x hn
 rw[h x hn]at this
 exact this.symm
noncomputable def letGo (i:Nat)(k:Nat):Out×Bx->Out×Bx
 | (.nx ρ,β)=>(.nx (ρ.set i none),β.drop (β.length-k))
 | (.bk ρ,β)=>(.bk (ρ.set i none),β.drop (β.length-k))
 | (.ct ρ,β)=>(.ct (ρ.set i none),β.drop (β.length-k))
 | (o,β)=>(o,β.drop (β.length-k))
theorem okW.letGo {K:W.Frag}{F0 H0 I:Hp}{L:Ends}{i k:Nat}:∀{o:Out}{β:Bx},okW K F0 H0 I L (letGo i k (o,β)).1 (letGo i k (o,β)).2->okW K F0 H0 I L o β
 | .nx ρ,β,h=>fun F H σ ⟨B,fp,G,ok⟩ s=>let ⟨fq,z⟩:=ok.drop (β.length-k);h F H σ ⟨B,fq,G.forget i,z⟩ s
 | .bk ρ,β,h=>fun F H σ ⟨B,fp,G,ok⟩ s=>let ⟨fq,z⟩:=ok.drop (β.length-k);h F H σ ⟨B,fq,G.forget i,z⟩ s
 | .ct ρ,β,h=>fun F H σ ⟨B,fp,G,ok⟩ s=>let ⟨fq,z⟩:=ok.drop (β.length-k);h F H σ ⟨B,fq,G.forget i,z⟩ s
 | .rt d,β,h=>fun v F H B fp x ok r=>let ⟨fq,z⟩:=ok.drop (β.length-k);h v F H B fq x z r
 | .rf ds,β,h=>fun p xs F H B fp x ok a b c r=>let ⟨fq,z⟩:=ok.drop (β.length-k);h p xs F H B fq x z a b c r
 | .rg d p r,β,h=>fun v F H xs B fp x ok a j b c e=>let ⟨fq,z⟩:=ok.drop (β.length-k);h v F H xs B fq x z a j b c e
 | .rp _ _,_,h=>h
 | .rgf _ _ _,_,h=>h
section
variable {X:Cx}{e:Expr}{es:List Expr}{st:Stmt}{rest:List Stmt}{E:XK}{mf:MFW}{m:ML}
theorem BxR.keys {K:W.Frag}{F B:Hp}:∀{fp:List Addr}{β:Bx},BxR K F B fp β->∀ p∈β.map Prod.fst,B p≠none
 |_,_,.nil,p,h=>by cases h
 |_,_,.cons (p:=q) c r,p,h=>by
  rw[map_cons]at h
  rcases List.mem_cons.mp h with z|z
  .subst z
   cases c with
   |ins _ _ b _ _=>rw[b];simp
   |row b _=>rw[b];simp
   |tb _ b _ _=>rw[b];simp
  .exact r.keys p z
end
end
section
section
variable {X:Cx}{a b c e o:Expr}{pos:Pos}{st:Stmt}{rest:List Stmt}{E:XK}{es:List Expr}{mf:MFW}
noncomputable def zx1 (i:Nat)(c mn:Str)(f:MFW)(m:MLm):MW:=fun ρ β=>match ρ[i]? with
 |some (some (.sh (.ptr p)))=>(match β.lookup p with
  |some (.ins c' ns fs)=>if c'=c/\mn∉ns then (match m ρ with
   |some (ds,ρ1)=>(match rtW (f (.ptr p::ds) β)with |some (_,β')=>some (.nx ρ1,β')|none=>none)
   |none=>none)else none
  |_=>none)
 |_=>none
theorem yr8 {n:Nat}{i:Nat}{c mn:Str}{C:Addr}{m:MLm}(Z:W.nsIn X.K mainGlobals c=some (some (.ref C)))(S:PD X o (mvar i))(h:∀ ta t,PE X o ta->PA X es t->PE X e (zz7 C mn (spW X.K n mf) [] E ta t))(Y:∀ te,PE X e te->PS X st (yh1 te))(U:es.length+1=n)(ha:PAm X es m)(hm:∀ ρ ds ρ',m ρ=some (ds,ρ')->ds.length=es.length):
  PSw X st (zx1 i c mn mf m):=PS.imp (Y _ (h _ _ S ha)) fun D σ H ⟨F0,H0,F,ρ,β,o',β',⟨B,fp,I,ok⟩,e,q⟩=>by
 unfold zx1 at e
 split at e
 .rename_i p hp
  split at e
  .rename_i c' ns fs hb
   split at e
   .rename_i L
    obtain⟨rfl,L⟩:=L
    split at e
    .rename_i ds ρ1 h1
     split at e
     .rename_i d β1 h2
      cases e
      obtain⟨fq,R⟩:=ok.bx.at' hb
      refine⟨F0,jn H0 B,F,ρ,.ptr p,I,by unfold mvar;rw[hp],fun v F1 H1 j r1=>?_⟩
      cases r1
      cases R with
      |ins N a2 a3 a4 a5=>
       rw[Z]at N
       cases N
       refine⟨p,_,_,rfl,j.hh _ _ (I.ext.hh _ _ (j6 a3)),g6 L _,?_⟩
       refine⟨F0,jn H0 B,F1,ρ,ds,ρ1,I.go j,h1,fun vs F2 H2 G M r2=>?_⟩
       show spW X.K n mf (.ref p::(vs++[])) H2 _ E
       rw[append_nil]
       exact O2 G ((ok.mono j.ff).mono M) (by rw[length_cons,r2.length,hm ρ ds ρ1 h1,U]) (.cons (.ptr p) r2) h2 fun v F' H' z O rp=>q F' H' σ z ((j.ff.trans M).trans O)
     .cases e
    .cases e
   .cases e
  .cases e
 .cases e
end
end
section
theorem TD.mono {K:W.Frag}{m:ME}{σ:St}{H:Hp}{Q j:VK}(h:TD K m σ H Q)(i:∀ v H',Q v H'->j v H'):TD K m σ H j:=let ⟨F0,H0,F,ρ,d,z,e,q⟩:=h;⟨F0,H0,F,ρ,d,z,e,fun v F' H' x r=>i _ _ (q v F' H' x r)⟩
theorem xz6 {K:W.Frag}{σ:St}{H:Hp}{Q:List V->Hp->Prop}(h:TAs K anil σ H Q):tNil σ H Q:=by
 obtain⟨F0,H0,F,ρ,ds,i,e,q⟩:=h
 cases e
 exact q [] F H (.refl i.fh) .nil
section
variable {X:Cx}{e o:Expr}{E:XK}
theorem xq8 {C:Addr}{mn:Str}{sp:Sp}{mo:ME}{σ:St}{H:Hp}{Q:VK}(h:zz7 C mn sp [] E (TD X.K mo) (TAs X.K anil) σ H Q):zz7 C mn sp [] E (TD X.K mo) tNil σ H Q:=
 TD.mono h fun v H' ⟨a,dx,fs,e1,e2,e3,t⟩=>⟨a,dx,fs,e1,e2,e3,xz6 t⟩
theorem xe2 {C:Addr}{mn:Str}{sp:Sp}{mo:ME}(h:PE X e (zz7 C mn sp [] E (TD X.K mo) tNil)):PE X e (zz7 C mn sp [] E (TD X.K mo) (TAs X.K anil)):=PE.imp h fun _ _ _ q=>xq8 q
theorem X3 {c mn:Str}{C:Addr}{mo:ME}{mf:MF}(hC:W.nsIn X.K mainGlobals c=some (some (.ref C)))(ho:PD X o mo)(h:∀ ta,PE X o ta->PE X e (zz7 C mn (spR X.K 1 mf) [] E ta tNil)):PD X e (d7 c mn mf mo anil):=by
 have h':=xe2 (h _ ho)
 refine PE.imp h' fun σ H Q q=>?_
 obtain⟨F0,H0,F,ρ,d,rl,e,q⟩:=q
 unfold d7 at e
 split at e
 .rename_i c' ns ds0 h0
  split at e
  .rename_i U
   obtain⟨rfl,U⟩:=U
   have e:(match mf [.obj c' ns ds0]with |some (.sh d)=>some d|some (.fr es)=>some (.lst es)|some (.pr d es)=>some (.tup [d,.lst es])|none=>none)=some d:=e
   refine⟨F0,H0,F,ρ,_,rl,h0,fun v F1 H1 O r1=>?_⟩
   cases r1 with
   |obj a1 a2 a3 a4 a5=>
    have a6:=a1
    rw[hC]at a1
    cases a1
    refine⟨_,_,_,rfl,O.fh _ _ a3,g6 U _,F0,H0,F1,ρ,[],rl.go O,rfl,fun vs F2 H2 I r2=>?_⟩
    cases r2
    have R:=(Rep.obj a6 a2 a3 a4 a5).mono I.ff
    refine⟨rfl,F2,[D.obj c' ns ds0],?_⟩
    have z:=O.trans I
    split at e
    .rename_i d' h2
     cases e
     exact⟨_,I.fh,.cons R .nil,h2,fun v i N G S=>q v i N (z.trans G) S⟩
    .rename_i es' h2
     cases e
     exact⟨_,I.fh,.cons R .nil,h2,fun p xs i N G hp hF hH S=>q _ (upd i p (.lst xs)) N (z.trans (G.freeze hF hp hH)) (.lst (SqL.of x9) (S.mono ((Same.refl i).put hF)))⟩
    .rename_i d' es' h2
     cases e
     refine⟨_,I.fh,.cons R .nil,h2,fun t v p xs i N G ht hp L a0 M Y Z rv rs=>?_⟩
     have y3:=G.freeze M hp Z
     have j:upd i p (.lst xs) t=none:=by rw[x8 L];exact a0
     have s2:Same i (upd i p (.lst xs)):=(Same.refl i).put M
     have s3:Same (upd i p (.lst xs)) (upd (upd i p (.lst xs)) t (.tup [v,.ref p])):=(Same.refl _).put j
     exact q _ (upd (upd i p (.lst xs)) t (.tup [v,.ref p])) N (z.trans (y3.freeze j ht Y)) (.tup (SqT.of x9) (.cons (rv.mono (s2.trans s3)) (.cons (.lst (SqL.of (by rw[x8 (Ne.symm L)];exact x9)) (rs.mono (s2.trans s3))) .nil)))
    .cases e
  .cases e
 .cases e
end
end
section
section
variable {X:Cx}{e:Expr}{pos:Pos}
end
end
section
section
variable {K:W.Frag}{F0 H0 F H B:Hp}{σ:St}{ρ:Ro}{β:Bx}{fp:List Addr}
end
noncomputable abbrev MGW:=Addr->List D->List D->Bx->Option (D×List D×Bx)
section
variable {X:Cx}{e:Expr}{pos:Pos}{st:Stmt}{es:List Expr}{E:XK}{mf:MGW}{m:ML}
end
end
section
end
section
section
variable {P:Program}{w:World}{K:W.Frag}{mg:Str->Option Value}{base h:Heap}{nm ql cn:Str}{st:Stmt}{ps:List Str}{sp:Sp}{n:Nat}{C:Addr}
end
section
variable {X:Cx}{n k:Nat}{nm cn:Str}{ps:List Str}{sp:Sp}{e o:Expr}{es:List Expr}{ta:TE}{t:TA}{p pos apos:Pos}{C:Addr}{pl:Sem Bool}
end
section
variable {a b c d e f:ME}(ρ:Ro)(ds:List D)
end
end
section
section
variable {X:Cx}{a b c e:Expr}{pos:Pos}{st:Stmt}
end
end
section
theorem E9 {H0 B:Hp}(h:∀ a,B a≠none->H0 a=none):Same H0 (jn H0 B):=fun a o e=>by
 cases q:B a with
 |none=>rw[f9 q];exact e
 |some u=>rw[h a (by rw[q];simp)]at e;cases e
theorem xv7 {K:W.Frag}{F0 H0 j:Hp}{G:Ends}:∀{o:Out}{β:Bx},okO K F0 H0 j G o->(∀ d es,o≠ .rp d es)->(∀ d p r,o≠ .rgf d p r)->okW K F0 H0 j G o β
 | .nx _,_,h,_,_=>fun F H σ ⟨B,fp,i,ok⟩ s=>h F H σ (i.less (E9 fun a z=>(ok.out a z).1)) s
 | .bk _,_,h,_,_=>fun F H σ ⟨B,fp,i,ok⟩ s=>h F H σ (i.less (E9 fun a z=>(ok.out a z).1)) s
 | .ct _,_,h,_,_=>fun F H σ ⟨B,fp,i,ok⟩ s=>h F H σ (i.less (E9 fun a z=>(ok.out a z).1)) s
 | .rt _,_,h,_,_=>fun v F H B fp x ok r=>h v F H (x.less (E9 fun a z=>(ok.out a z).1)) r
 | .rf _,_,h,_,_=>fun p xs F H B fp x ok a b c d=>h p xs F H (x.less (E9 fun a z=>(ok.out a z).1)) ((W0 a).2) b c d
 | .rg _ _ _,_,h,_,_=>fun v F H xs B fp x ok r a b c d=>h v F H xs (x.less (E9 fun a z=>(ok.out a z).1)) r b c d
 | .rp d es,_,_,n,_=>absurd rfl (n d es)
 | .rgf d p r,_,_,_,n=>absurd rfl (n d p r)
noncomputable def noRp:Out->Bool
 | .rp _ _=>false
 | .rgf _ _ _=>false
 |_=>true
noncomputable def lowS (m:MW):MS:=fun ρ=>match m ρ []with |some (o,_)=>if noRp o=true then some o else none|none=>none
section
variable {X:Cx}{st:Stmt}{sts:List Stmt}
theorem yg3 {m:MW}(h:PSsw X sts m):PSsd X sts (lowS m):=PSs.imp h fun I σ H i=>by
 obtain⟨F0,H0,F,ρ,o,j,e,ok⟩:=i
 unfold lowS at e
 split at e
 .rename_i o' β' h1
  split at e
  .rename_i hn
   cases e
   have G:jn H0 (fun _=>none)=H0:=funext fun a=>f9 rfl
   refine⟨F0,H0,F,ρ,[],o,β',⟨fun _=>none,[],by rw[G];exact j,fun a z=>absurd rfl z,.nil,nodup_nil,fun a o u z=>by cases z⟩,h1,xv7 ok (fun d es z=>?_) fun d p r z=>?_⟩
   .rw[z]at hn;cases hn
   .rw[z]at hn;cases hn
  .cases e
 .cases e
end
end
section
section
variable {X:Cx}{a b c e k:Expr}{te:TE}{ma mb:ME}{la lb:ML}{pos p2:Pos}{st:Stmt}
end
end
section
section
variable {X:Cx}{P:Addr}{pos:Pos}{q:Str}{params:Arguments}{body:Expr}{sc:Scope}
end
end
section
section
variable {X:Cx}{pins:List (Addr×Obj)}{σ:St}{H:Hp}{s:Shared}
end
end
section
section
variable {X:Cx}{pins:List (Addr×Obj)}{σ:St}
end
end
section
open Classical in
section
variable {X:Cx}
end
section
variable {P:Program}{w:World}{K:W.Frag}{mg:Str->Option Value}{base:Heap}{nm:Str}{st:Stmt}{ps:List Str}{sp:Sp}{n:Nat}
end
end
section
end
section
section
variable {K:W.Frag}{F0 H0 F H B:Hp}{σ:St}{ρ:Ro}{β:Bx}{fp:List Addr}
end
section
variable {X:Cx}{a b c e:Expr}{pos:Pos}{st:Stmt}{rest:List Stmt}{E:XK}{es:List Expr}{mf:MFW}{m:ML}
def TCx (K:W.Frag)(m:Ro->Bx->Option (Bool×Bx)):TT:=fun σ H Q=>∃ F0 H0 F ρ β b β',RlW K F0 H0 F H σ ρ β/\m ρ β=some (b,β')/\∀ F' H',RlW K F0 H0 F' H' σ ρ β'->Same F F'->Q b H'
noncomputable def mifX (c:Ro->Bx->Option (Bool×Bx))(x y:MW):MW:=fun ρ β=>match c ρ β with |some (true,β')=>x ρ β'|some (false,β')=>y ρ β'|none=>none
theorem zg4 {ca:Ro->Bx->Option (Bool×Bx)}{x y:List Stmt}{mx G:MW}(M:PT X c (TCx X.K ca))(L:PSsw X x mx)(I:PSsw X y G):PSw X (.If c x y pos) (mifX ca mx G):=PS.imp (yv4 M L I) fun D σ H j=>by
 obtain⟨F0,H0,F,ρ,β,o,β',i,e,ok⟩:=j
 unfold mifX at e
 split at e
 .rename_i β1 h1
  exact⟨F0,H0,F,ρ,β,_,β1,i,h1,fun F1 H1 r1 z=>iteT ⟨F0,H0,F1,ρ,β1,o,β',r1,e,ok.mono z⟩⟩
 .rename_i β1 h1
  exact⟨F0,H0,F,ρ,β,_,β1,i,h1,fun F1 H1 r1 z=>iteF ⟨F0,H0,F1,ρ,β1,o,β',r1,e,ok.mono z⟩⟩
 .cases e
noncomputable def ze1 (f:D->D->Option D)(x:Ro->Bx->Option (D×Bx))(y:ME):Ro->Bx->Option (Bool×Bx):=fun ρ β=>match x ρ β with
 |some (d,β')=>(match y ρ with
  |some e=>(match f d e with |some (.bl k)=>some (k,β')|_=>none)
  |none=>none)
 |none=>none
theorem zf2 {op:CmpOp}{r:R2}{f:D->D->Option D}{ma:Ro->Bx->Option (D×Bx)}{mb:ME}(N:OpR X (compareOp op) r)(O:OpD X.K r f)(ha:PDx X a ma)(R:PD X b mb)(hm:behindInMarks op b=false):PT X (.Compare a [op] [b] pos) (TCx X.K (ze1 f ma mb)):=PT.imp (zg3 N ha R hm) fun σ H Q j=>by
 obtain⟨F0,H0,F,ρ,β,k,β',I,e,q⟩:=j
 unfold ze1 at e
 split at e
 .rename_i d β1 h1
  split at e
  .rename_i g h2
   split at e
   .rename_i k' h3
    cases e
    refine⟨F0,H0,F,ρ,β,d,_,I,h1,fun v F1 H1 r1 s1 rp=>?_⟩
    obtain⟨B,fp,L,ok⟩:=r1
    refine⟨F0,jn H0 B,F1,ρ,g,L,h2,fun w F2 H2 i r2=>?_⟩
    refine O F2 H2 v w d g _ _ i.fh (rp.mono i.ff) r2 h3 fun z U S G M=>?_
    cases M
    exact⟨_,rfl,q U S ⟨B,fp,(L.go i).go G,(ok.mono i.ff).mono G.ff⟩ (s1.trans (i.ff.trans G.ff))⟩
   .cases e
  .cases e
 .cases e
end
end
section
section
variable {X:Cx}{pins:List (Addr×Obj)}{σ:St}
end
section
variable {X:Cx}
end
end
section
section
variable {X:Cx}{pins:List (Addr×Obj)}{σ:St}
end
section
variable {X:Cx}{pos:Pos}
end
end
section
section
variable {X:Cx}{e:Expr}{pos:Pos}{es:List Expr}{m:ML}{mf:MF}{E:XK}
end
section
variable {X:Cx}{pos:Pos}
end
end
section
structure BlkC (X:Cx)(sc:Scope)(N:List Str)(src:List (Option Nat)):Prop where
 kind:sc.kind= .function
 cells:∀ y∈sc.names,y.2= .cell->sc.names.lookup y.1=some .cell
 names:∀ y∈sc.names,y.2= .local->sc.names.lookup y.1=some .local
 free:∀ y∈sc.names,y.2= .free->X.env.kindOf y.1=some .cell\/X.env.kindOf y.1=some .free
 fv:∀(j i:Nat),src[j]? =some (some i)->∃ x,N[j]? =some x/\X.N[i]? =some x/\sc.names.lookup x=some .free
 len:src.length=N.length
section
variable {X:Cx}{pins:List (Addr×Obj)}{σ:St}{H:Hp}{s:Shared}
end
section
variable {X:Cx}
end
section
variable {X:Cx}{pos:Pos}
end
end
section
section
variable {X:Cx}{pos:Pos}
end
end
section
section
variable {K:W.Frag}{F0 H0 F H B:Hp}{σ:St}{ρ:Ro}{β:Bx}{fp:List Addr}
end
end
section
section
variable {K:W.Frag}{F0 J F H:Hp}{σ:St}{ρ:Ro}
theorem Rl.share {q:Addr}{ys:List V}(j:Rl K F0 J F H σ ρ)(L:H q=some (.lst ys))(M:F q=none)(I:J q=none)(hn:∀(i:Nat) ds,ρ[i]? =some (some (.own ds))->σ[i]? ≠some (some (.ref q)))(G:∀(i:Nat) p ds,ρ[i]? =some (some (.ob p ds))->p≠q):Rl K F0 J (upd F q (.lst ys)) H σ ρ:=by
 have s:Same F (upd F q (.lst ys)):=(Same.refl F).put M
 refine⟨⟨j.ext.ff.trans s,j.ext.hh,fun b u e=>?_,fun b e n=>?_,fun b o u e=>?_⟩,j.len,fun i d e=>?_,fun i ds e=>?_,j.inj,fun i p ds e=>?_,j.obn,j.ob1⟩
 .by_cases z:b=q
  .subst z;rw[x9]at e;cases e;exact L
  .rw[x8 z]at e;exact j.fh b u e
 .by_cases z:b=q
  .subst z;exact I
  .rw[x8 z]at n;exact j.ext.new b e n
 .by_cases z:b=q
  .subst z;rw[x9]at e;cases e
  .rw[x8 z]at e;exact j.ext.nf b o u e
 .obtain⟨v,a1,a2⟩:=j.sh i d e
  exact⟨v,a1,a2.mono s⟩
 .obtain⟨p,xs,a1,a2,a3,a4,a5⟩:=j.own i ds e
  have z:p≠q:=fun w=>hn i ds e (by rw[<-w];exact a1)
  exact⟨p,xs,a1,by rw[x8 z];exact a2,a3,a4.mono s,a5⟩
 .obtain⟨a1,a2,a3,xs,a4,a5⟩:=j.ob i p ds e
  exact⟨a1,by rw[x8 (G i p ds e)];exact a2,a3,xs,a4,a5.mono s⟩
end
noncomputable def lsW (m:Ro->Bx->Option (List D)):Ro->Bx->Option D:=fun ρ β=>(m ρ β).map D.lst
section
variable {X:Cx}{a b c e e1 e2:Expr}{pos p1 p2:Pos}{st:Stmt}
theorem zm2 {m:ML}(h:PF X e m):PDw X e (lsW (J2 m)):=PE.imp h fun σ H Q ⟨F0,H0,F,ρ,β,d,⟨B,fp,j,ok⟩,e,q⟩=>by
 unfold lsW J2 at e
 cases h1:m (thaw ρ β)with
 |none=>rw[h1]at e;cases e
 |some d'=>
  rw[h1,Option.bind_some]at e
  split at e
  .rename_i hs
   cases e
   obtain⟨r1,fb⟩:=RlW.frozen j ok
   refine⟨_,_,_,_,_,r1,h1,fun p xs F' H' x hp S R r=>?_⟩
   have I:=j.go ⟨Same.refl F,x.hh,j.fh.trans x.hh,fun b e n=>absurd e n,fun _ _ _ z=>z⟩
   have G:=j.fh.free hp
   have sh:=I.share R G (j.ext.hh.free hp) (fun i ds e z=>by
    obtain⟨L,xs,O,_,N,_⟩:=j.own i ds e
    rw[z]at O;cases O
    rw[hp]at N;cases N) (fun i L ds e z=>by
    obtain⟨_,_,_,xs,M,_⟩:=j.ob i L ds e
    rw[z,hp]at M;cases M)
   have s:Same F (upd F p (.lst xs)):=(Same.refl F).put G
   exact q (.ref p) (upd F p (.lst xs)) H' ⟨B,fp,sh,ok.mono s⟩ s x.hh (.lst (SqL.of x9) (zr2 hs r))
  .cases e
end
end
section
section
variable {X:Cx}{a b e:Expr}{pos:Pos}{ta tb:TE}{ma mb:Ro->Bx->Option D}
end
end
section
section
variable {X:Cx}{pos:Pos}
end
end
section
def yc9 (X:Cx)(st:List Stmt)(x:MXe):Prop:=∀ pins W,PSs (X.rx pins W) st fun _ σ H=>TXe X.K x W σ H
def PSXe (X:Cx)(st:Stmt)(x:MXe):Prop:=∀ pins W,PS (X.rx pins W) st fun _ σ H=>TXe X.K x W σ H
noncomputable def xifE (c:MB)(x y:MXe):MXe:=fun ρ=>match c ρ with |some true=>x ρ|some false=>y ρ|none=>none
section
variable {X:Cx}{st:Stmt}{rest:List Stmt}{e o c:Expr}{es:List Expr}{pos apos:Pos}{mo:ME}{m:ML}
theorem Q8 {x:MXe}(h:PSXe X st x):yc9 X [st] x:=fun pins W=>G8 (h pins W)
theorem zy2 {x:MXe}(h:PEX X e x)(i:swapsWith e none pos.line X.env=pure false:=by rfl):PSXe X (.Expr e pos) x:=fun pins W=>S7 (h pins W) i
theorem yr6 {ca:MB}{a b:List Stmt}{L I:MXe}(nx:X.xe=noE)(M:PC' X c ca)(ha:yc9 X a L)(N:yc9 X b I):PSXe X (.If c a b pos) (xifE ca L I):=fun pins W=>
 (yv4 (PT.bear nx M) (ha pins W) (N pins W)).imp fun D σ H j=>by
  obtain⟨F0,H0,F,ρ,c,z,e,w⟩:=j
  unfold xifE at e
  split at e
  .rename_i h1
   exact⟨F0,H0,F,ρ,_,z,h1,fun F1 H1 i=>iteT ⟨F0,H0,F1,ρ,c,z.go i,e,fun F' H' G=>w F' H' (i.trans G)⟩⟩
  .rename_i h1
   exact⟨F0,H0,F,ρ,_,z,h1,fun F1 H1 i=>iteF ⟨F0,H0,F1,ρ,c,z.go i,e,fun F' H' G=>w F' H' (i.trans G)⟩⟩
  .cases e
@[irreducible] noncomputable def yx7 (c mn:Str)(xf:MFX)(mo:ME)(m:ML):MXe:=fun ρ=>match mo ρ with
 |some (.obj c' ns ds0)=>if c'=c/\mn∉ns then (m ρ).bind fun ds=>xf (.obj c' ns ds0::ds)else none
 |_=>none
theorem za1 {pl:Sem Bool}{k n:Nat}{cn mn:Str}{C f:Addr}{fd:FuncData}{ps:List Str}{U:MFX}(nx:X.xe=noE)(T:Top X)(hC:PySem.W.nsIn X.K mainGlobals cn=some (some (.ref C)))(ho:PD X o mo)(aa:Cls X.K C)(hm:Meth X.K C mn f)
  (F:FnOk X.prog X.w X.K X.mg X.base (CXx X.prog X.w) k f fd ps (spX X.K n U)) (hr:Room k X.A) (hb:Binds X.K fd ps []) (hl:(e::es).length+1=n) (ha:PAs X (e::es) m) (a8:∀ ρ ds,m ρ=some ds->ds.length=(e::es).length)
  (a0:starEach (e::es) X.env=(false,eval e X.env)::starEach es X.env:=by rfl) (a6:(backTo pos (starEach es X.env)).any (·.1)=false:=by rfl)
  (ht:eval (.Call (.Attribute o mn apos) (e::es) [] pos) X.env=(do
   let ov ← eval o X.env
   standAt apos.atName
   let (f,first) ← holding [ov] (getMethod ov mn pl)
   callWith pos f first (backTo pos (starEach (e::es) X.env)) (backToKw pos (keywordEach [] X.env))):=by rfl):
  PEX X (.Call (.Attribute o mn apos) (e::es) [] pos) (yx7 cn mn U mo m):=by
 intro pins W pins' s σ H Q I h
 obtain⟨F0,H0,F1,ρ,c,rl,e1,w⟩:=h
 unfold yx7 at e1
 split at e1
 .rename_i c' ns ds0 h0
  split at e1
  .rename_i Z
   obtain⟨rfl,Z⟩:=Z
   cases h1:m ρ with
   |none=>rw[h1]at e1;cases e1
   |some ds=>
    rw[h1,Option.bind_some]at e1
    have a7:PE (X.rx pins W) o (TD X.K mo):=PE.bear nx ho
    have ab:PA (X.rx pins W) (e::es) (TAs X.K m):=PA.bear nx ha
    refine PySem.W.methodCall_KW (pl:=pl) (thn (a7 pins' s σ H (fun v H1=>∃ F2,Ext F1 H F2 H1/\Rep X.K F2 v (.obj c' ns ds0)) I ⟨F0,H0,F1,ρ,_,rl,h0,fun v F2 H2 G r2=>⟨F2,G,r2⟩⟩) fun u s1 N=>?_) ht
    obtain⟨x,H1,I1,rx,F2,G,r2⟩:=N
    cases r2 with
    |@obj a dx C' _ _ xs _ a1 a2 a3 a4 a5=>
     have ac:=a1
     rw[hC]at a1
     cases a1
     obtain rfl:u=Value.ref a:=rx
     refine D0 I1 (G.fh _ _ a3) aa hm (g6 Z _) ?_
     refine PySem.W.callWith_K (first:=[.ref a]) (h₀:=X.base) I.ok.mod.kin hm.kp (thn (ab pos pins' s1 σ H1 (fun vs H2=>vs.length+1=n/\∃ i,Ext F2 H1 i H2/\Reps X.K i vs ds) I1 ⟨F0,H0,F2,ρ,ds,rl.go G,h1,fun vs i H3 j R=>⟨by rw[R.length,a8 ρ ds h1,hl],i,j,R⟩⟩) fun us s2 ⟨vs,H2,S,r,hn,i,j,R⟩=>⟨S.kIn,?_⟩) a0 a6
     have L:spX X.K n U (.ref a::vs) H2 (fun _ _=>False) (fun v _ H'=>∃ c C,v= .ref C/\XC X.K c C/\W c σ H'):=⟨hn,i,_,c,j.fh,.cons ((Rep.obj ac a2 a3 a4 a5).mono j.ff) R,e1,fun C F' H' xc x4=>⟨c,C,rfl,xc,w F' H' ((G.trans j).trans x4)⟩⟩
     have r':Vals (V.ref a::vs) (Value.ref a::us):=.cons rfl r
     have a9:(Value.ref a::us).length=ps.length:=by rw[<-r'.length];exact F.len _ _ _ _ L
     have O:=hb s2 (Value.ref a::us) S.kIn (by rw[append_nil];exact a9)
     rw[append_nil]at O
     refine wpAny_call (codeAny_mono (F.run X.A X.stack s2 H2 ⟨.ref a::us,[]⟩ (.ref a::us) (.ref a::vs) _ _ hr S.env0 O r' L) fun Y s' M=>?_)
     cases Y with
     |error ev=>exact zh7 (E:=fun v _ H'=>∃ c C,v= .ref C/\XC X.K c C/\W c σ H') T S.unbear.fewer M fun v o H' z=>z
     |ok fl=>
      cases fl with
      |ret u=>obtain⟨_,_,_,_,_,_,_,z⟩:=M;exact z.elim
      |next=>exact False.elim M
      |brk=>exact False.elim M
      |cont=>exact False.elim M
  .cases e1
 .cases e1
noncomputable def yt4 (xf:MFX)(m:ML):MXe:=fun ρ=>(m ρ).bind fun ds=>anyN [] fun x=>xf (.ptr x::ds)
theorem yg8 {k n:Nat}{C f:Addr}{fd:FuncData}{ps:List Str}{U:MFX}{x:Str}{p:Pos}(nx:X.xe=noE)(T:Top X)(M:Mk X.K C f)(F:FnOk X.prog X.w X.K X.mg X.base (CXx X.prog X.w) k f fd ps (spX X.K n U))(hr:Room (k+1) X.A)(hg:Gl X x)(hm:X.mg x=some (.ref C))(hb:Binds X.K fd ps [])
  (hl:(e::es).length+1=n) (ha:PAs X (e::es) m) (a0:∀ ρ ds,m ρ=some ds->ds.length=(e::es).length)
  (a2:(x==("__debug__":Str))=false:=by decide) (he:starEach (e::es) X.env=(false,eval e X.env)::starEach es X.env:=by rfl) (Z:(backTo pos (starEach es X.env)).any (·.1)=false:=by rfl):
  PEX X (.Call (.Name x p) (e::es) [] pos) (yt4 U m):=by
 intro pins W pins' s σ H Q I h
 obtain⟨F0,H0,F1,ρ,c,rl,e1,w⟩:=h
 unfold yt4 at e1
 cases h1:m ρ with
 |none=>rw[h1]at e1;cases e1
 |some ds=>
  rw[h1,Option.bind_some]at e1
  have e1:=zv2 e1
  have a3:PA (X.rx pins W) (e::es) (TAs X.K m):=PA.bear nx ha
  refine wpAny_Call_Name_kw (P8 I hg hm ?_ a2)
  refine PySem.W.callWith_K (h₀:=X.base) I.ok.mod.kin M.kp (thn (a3 pos pins' s σ H (fun vs H1=>vs.length+1=n/\∃ F2,Ext F1 H F2 H1/\Reps X.K F2 vs ds) I ⟨F0,H0,F1,ρ,ds,rl,h1,fun vs F2 H2 G r2=>⟨by rw[r2.length,a0 ρ ds h1,hl],F2,G,r2⟩⟩) fun us s1 ⟨vs,H1,S,r,hn,F2,G,r2⟩=>⟨S.kIn,?_⟩) he Z
  have hx:=S.hok.fresh (Nat.le_succ s1.heap.objs.size)
  have O:=S.hok.fresh (Nat.le_refl s1.heap.objs.size)
  have a5:s1.heap.objs.size≠s1.heap.objs.size+1:=Nat.ne_of_lt (Nat.lt_succ_self _)
  have I2:=Inv.made (C:=C) S
  have a4:Same F2 (upd (upd H1 s1.heap.objs.size (.own (s1.heap.objs.size+1))) (s1.heap.objs.size+1) (.ins C s1.heap.objs.size [])):=(G.fh.put (G.fh.free O)).put (G.fh.free hx)
  have N:∀ b u,H1 b=some u->upd (upd H1 s1.heap.objs.size (.own (s1.heap.objs.size+1))) (s1.heap.objs.size+1) (.ins C s1.heap.objs.size []) b=some u:=fun b u z=>by
   have q1:b≠s1.heap.objs.size+1:=fun y=>by rw[y,hx]at z;cases z
   have q2:b≠s1.heap.objs.size:=fun y=>by rw[y,O]at z;cases z
   rw[x8 q1,x8 q2];exact z
  have back:∀ F' H',Ext F2 (upd (upd H1 s1.heap.objs.size (.own (s1.heap.objs.size+1))) (s1.heap.objs.size+1) (.ins C s1.heap.objs.size [])) F' H'->Ext F2 H1 F' H':=fun F' H' j=>by
   refine⟨j.ff,fun b u z=>j.hh b u (N b u z),j.fh,fun b z1 z2=>?_,j.nf⟩
   have:=j.new b z1 z2
   cases q:H1 b with
   |none=>rfl
   |some u=>rw[N b u q]at this;cases this
  have L:spX X.K n U (.ref (s1.heap.objs.size+1)::vs) (upd (upd H1 s1.heap.objs.size (.own (s1.heap.objs.size+1))) (s1.heap.objs.size+1) (.ins C s1.heap.objs.size [])) (fun v H2=>v= .non/\False) (fun v _ H'=>∃ c C,v= .ref C/\XC X.K c C/\W c σ H'):=
   ⟨hn,F2,_,c,a4,.cons (.ptr _) r2,e1 _ (by simp),fun C F' H' xc j=>⟨c,C,rfl,xc,w F' H' (G.trans (back F' H' j))⟩⟩
  have r':Vals (V.ref (s1.heap.objs.size+1)::vs) (Value.ref (s1.heap.objs.size+1)::us):=.cons rfl r
  have a1:(Value.ref (s1.heap.objs.size+1)::us).length=ps.length:=by rw[<-r'.length];exact F.len _ _ _ _ L
  have R:=hb _ (Value.ref (s1.heap.objs.size+1)::us) I2.kIn (by rw[append_nil];exact a1)
  rw[append_nil]at R
  refine wpAny_call (yz8 (f:=f) S.kIn M.makes M.init (beq_iff_eq.mp M.fn) (codeAny_mono (F.run _ X.stack _ _ ⟨Value.ref (s1.heap.objs.size+1)::us,[]⟩ (Value.ref (s1.heap.objs.size+1)::us) _ _ _ (hr.make C us [])
   (I2.env0.make C us []) R r' L) fun Y s' i=>?_))
  cases Y with
  |error ev=>exact zh7 (E:=fun v _ H'=>∃ c C,v= .ref C/\XC X.K c C/\W c σ H') T I2.unbear.fewer i fun v o H' z=>z
  |ok fl=>
   cases fl with
   |ret u=>obtain⟨_,_,_,_,_,_,_,_,z⟩:=i;exact z.elim
   |next=>exact False.elim i
   |brk=>exact False.elim i
   |cont=>exact False.elim i
end
@[irreducible] noncomputable def zf6 (names:List Str)(mb:MW)(xb:MXe)(i:Nat)(ms:MS):MW:=fun ρ β=>match mb ρ β with
 |some o=>some o
 |none=>match xb (thaw ρ β)with
  |some c=>if c∈names then (match ms (ρ.set i (some (.sh (.exc c))))with |some (.nx ρ2)=>some (.nx (ρ2.set i none),β)|_=>none)else none
  |none=>none
section
variable {X:Cx}{pos np hpos:Pos}
theorem xx2 {body L:List Stmt}{b0:Stmt}{mb:MW}{ms:MS}{xb:MXe}{names:List Str}{x n:Str}{Wa:Addr}{i:Nat}(nx:X.xe=noE)(T:Top X)(hg:Gl X x)(hm:X.mg x=some (.ref Wa))
  (ah:∀ c∈names,∀ C,XC X.K c C->PySem.W.exmOne X.K (.ref C) (.ref Wa)=some true) (hN:X.N.Nodup) (hi:X.N[i]? =some n) (hl:X.env.scope.names.lookup n=some .local)
  (hb:PSsw X body mb) (hx:yc9 X body xb) (hs:∀ a,PSsd (X.inX a) (b0::L) ms) (af:(x==("__debug__":Str))=false:=by decide):
  PSw X (.Try body [.ExceptHandler (some (.Name x np)) (some n) (b0::L) hpos] [] [] pos) (zf6 names mb xb i ms):=by
 intro pins s σ H D I ⟨F0,H0,F,ρ,β,o,β',Z,e,ok⟩
 unfold zf6 at e
 refine wpAny_Try_except ?_
 cases h1:mb ρ β with
 |some o1=>
  rw[h1]at e;cases e
  refine wpAny_mono (hb pins s σ H D I ⟨F0,H0,F,ρ,β,o,β',Z,h1,ok⟩) (fun f s1 h=>?_) fun _ _ z=>by rw[nx]at z;exact z.elim
  cases f with
  |next=>
   obtain⟨G,H1,I1,q⟩:=h
   exact pss_nil pins s1 G H1 D I1 q
  |brk=>exact h
  |cont=>exact h
  |ret u=>exact h
 |none=>
  rw[h1]at e
  cases h2:xb (thaw ρ β)with
  |none=>rw[h2]at e;cases e
  |some c=>
   rw[h2]at e
   dsimp only at e
   split at e
   .rename_i hc
    cases h3:ms (ρ.set i (some (.sh (.exc c))))with
    |none=>rw[h3]at e;cases e
    |some o3=>
     rw[h3]at e
     cases o3 with
     |nx ρ2=>
      cases e
      obtain⟨B,fp,rl,bo⟩:=Z
      obtain⟨r1,fb⟩:=RlW.frozen rl bo
      let W:WX:=fun c' a4 H'=>c'=c/\a4=σ/\∃ F',Ext (jn F B) H F' H'
      have I0:Inv X (pins++[]) σ H s:=by rw[append_nil];exact I
      refine wpAny_mono (hx pins W [] s σ H { nx:=fun _ _=>False,rt:=fun _ _=>False } I0.bear ⟨_,_,_,_,c,r1,h2,fun F' H' x1=>⟨rfl,rfl,F',x1⟩⟩) (fun f s1 h=>?_) fun ev s1 h=>?_
      .cases f with
       |next=>obtain⟨_,_,_,z⟩:=h;exact z.elim
       |brk=>obtain⟨_,_,_,z⟩:=h;exact z.elim
       |cont=>obtain⟨_,_,_,z⟩:=h;exact z.elim
       |ret u=>obtain⟨_,_,_,_,_,z⟩:=h;exact z.elim
      refine wpAny_mono h (fun _ s2 h2=>wpAny_mono h2 (fun _ s3 h3=>?_) fun _ _ z=>z.elim) fun _ _ z=>z.elim
      obtain⟨a,C,a0,G,H1,sa,H',B0,c',rfl,S,os,bare,f,fl,xc,rfl,rfl,F1,xf⟩:=h3
      have a1:Rl X.K F0 (jn H0 B) F H' G ρ:=rl.go ⟨Same.refl _,xf.hh,rl.fh.trans xf.hh,fun b e n=>absurd e n,fun _ _ _ z=>z⟩
      have I3:Inv X pins G H' s3:=f.inv S os bare
      have LT:∀ M:Model,PySem.W.Looks M s3.heap (typeOf (.ref a)) (.ref C):=fun M=>by
       obtain⟨ob,e1,e2⟩:=fl.there
       exact e2 ▸ (PySem.W.Looks.ld e1).andThen .now
      refine wpAny_handleBy_cons (codeAny_handlers_test (P8 (X:=X.inX a) I3.inX hg hm ((PySem.W.exm_one I3.kIn (LT _) (ah _ hc C xc)).here ?_) af)) (by intro z;cases z)
      refine codeAny_handlers_suite_as ?_
      refine lands_againW fl fun h4 R a6=>?_
      have f4:=f.on fl.2.2.1 R.1 a6
      have I4:Inv X pins G H' { s3 with heap:=h4 }:=f4.inv S os bare
      obtain⟨oe,vs,he,ae,a2,_⟩:=R.first
      have ab:a∉frs X.stack:=fun z=>by
       obtain⟨_,o',e',ag⟩:=R.2.2.1.mem z
       rw[he]at e';cases e'
       exact ag vs a2
      have j:sa.heap.get? a=none:=by
       cases z:sa.heap.get? a with
       |none=>rfl
       |some o'=>
        obtain⟨ob,eb⟩:=f4.old a o' z ab
        have:=R.2.1
        rw[eb]at this;cases this
      have Ha:H' a=none:=by
       cases z:H' a with
       |none=>rfl
       |some o'=>
        obtain⟨ob,eb⟩:=f4.trk a o' z
        have:=R.2.1
        rw[eb]at this;cases this
      have y0:X.s₀.heap.get? a=none:=by
       cases z:X.s₀.heap.get? a with
       |none=>rfl
       |some o'=>
        obtain⟨o2,e2⟩:=S.base.there a o' z (by rw[T.ex];simp)
        rw[j]at e2;cases e2
      have yL:a≠X.env.locals:=fun z=>by
       obtain⟨m,⟨o',_,_,O,_⟩,_⟩:=S.loc
       rw[<-z,j]at O;cases O
      have yC:∀ y c,X.env.cells.lookup y=some c->c≠a:=fun y c e z=>by
       obtain⟨v,o',O,_⟩:=S.cell y c e
       rw[z,j]at O;cases O
      have yP:∀ p∈X.pn++pins,p.1≠a:=fun p hp z=>by
       have:=(S.pin p hp).1
       rw[z,j]at this;cases this
      have xat:XAt a C h4:=⟨oe,vs,he,ae,a2⟩
      have I5:Inv X pins G (upd H' a (.ext (XAt a C))) { s3 with heap:=h4 }:=I4.track y0 yL yC yP Ha ⟨xat,⟨oe,he⟩,fun g1 g2 z k=>by
       obtain⟨o',a5,z1,z2,z3⟩:=z
       exact⟨o',a5,k o' z1,z2,z3⟩⟩
      have x5:Ext F H' (upd F a (.ext (XAt a C))) (upd H' a (.ext (XAt a C))):=Ext.laid a1.fh Ha
      have a9:=(a1.go x5).set (i:=i) (v:=.ref a) (d:=.exc c') (.exc xc x9)
      refine zr0 (X:=X.inX a) I5.inX hN hi (.inl hl) (v:=.ref a) rfl (fun s5 I6=>?_) (.inr hl)
      let D2:Ends:={ nx:=fun U H2=>∃ F2,Rl X.K F0 (jn H0 B) F2 H2 U ρ2/\Same F F2,rt:=fun _ _=>False }
      refine wpAny_mono (hs a pins s5 _ _ D2 I6 ⟨F0,jn H0 B,_,_,_,a9,h3,fun F2 H2 U aa a7=>⟨F2,aa,x5.ff.trans a7⟩⟩) (fun ai s6 h6=>?_) fun _ _ z=>by rw[show (X.inX a).xe=X.xe from rfl,nx]at z;exact z.elim
      cases ai with
      |next=>
       obtain⟨a3,H6,I7,F6,a8,Y⟩:=h6
       have I8:Inv X pins a3 H6 s6:=I7.outX I.ok
       obtain⟨m,hn,aj⟩:=id I8.loc
       refine wpAny_nameGoes_keeps hl hn (by rw[I.ok.kind];rfl) fun h7 v ad ac=>?_
       exact⟨_,H6,I8.gone hN hi hn ad ac,ok F6 H6 _ ⟨B,fp,a8.drop i,bo.mono Y⟩ Y⟩
      |brk=>obtain⟨_,_,_,z⟩:=h6;exact z.elim
      |cont=>obtain⟨_,_,_,z⟩:=h6;exact z.elim
      |ret u=>obtain⟨_,_,_,_,_,z⟩:=h6;exact z.elim
     |_=>cases e
   .cases e
end
noncomputable def D7 (c:Str)(f:MFW)(m:ML):MW:=fun ρ β=>(m ρ).bind fun ds=>anyN β fun x=>match f (.ptr x::ds) ((x,.ins c [] [])::β)with
 |some (.sh .non,β')=>some (.nx ρ,β'.drop (β'.length-β.length))
 |_=>none
section
variable {X:Cx}{e:Expr}{es:List Expr}{st:Stmt}{E:XK}{mf:MFW}{m:ML}
theorem yg2 {n:Nat}{c:Str}{C:Addr}(hC:W.nsIn X.K mainGlobals c=some (some (.ref C)))(hE:∀ t,PA X es t->PE X e (xy1 C (spW X.K n mf) [] E t))(hS:∀ te,PE X e te->PS X st (yh1 te))(hl:es.length+1=n)(ha:PAs X es m)(hm:∀ ρ ds,m ρ=some ds->ds.length=es.length):
  PSw X st (D7 c mf m):=PS.imp (hS _ (hE _ ha)) fun Dn σ H ⟨F0,H0,F,ρ,β,o,β',⟨B,fp,rl,ok⟩,e,k⟩=>by
 unfold D7 at e
 cases h1:m ρ with
 |none=>rw[h1]at e;cases e
 |some ds=>
  rw[h1,Option.bind_some]at e
  refine⟨F0,jn H0 B,F,ρ,ds,rl,h1,fun vs F1 H1 O r1=>?_⟩
  intro x dx hx N G
  have I:=rl.go O
  have i:=ok.mono O.ff
  have bh:∀ a,B a≠none->H1 a≠none:=fun a h=>by
   cases q:B a with
   |none=>exact absurd q h
   |some u=>rw[I.ext.hh a u (j6 q)];simp
  have bx:B x=none:=by
   cases q:B x with
   |none=>rfl
   |some u=>exact absurd hx (bh x (by rw[q];simp))
  have a7:B dx=none:=by
   cases q:B dx with
   |none=>rfl
   |some u=>exact absurd N (bh dx (by rw[q];simp))
  have e:=zv2 e x fun z=>ok.bx.keys x z bx
  have a2:(upd H1 dx (.own x)) x=none:=by rw[x8 (Ne.symm G)];exact hx
  obtain⟨U,fa,a6,a4⟩:=I.putB (a:=dx) (o:=.own x) i.out (.inr N)
  have j:=M0 (o:=HO.own x) i.out ⟨a6,a4⟩
  obtain⟨S,fb,a5,a3⟩:=U.putB (a:=x) (o:=.ins C dx []) j (.inr a2)
  have L:=M0 (o:=HO.ins C dx []) j ⟨a5,a3⟩
  have nx:x∉fp:=fun z=>ok.bx.mem x z bx
  have M:dx∉fp:=fun z=>ok.bx.mem dx z a7
  have cell:CellR X.K F1 (upd (upd B dx (.own x)) x (.ins C dx [])) [x,dx] x (.ins c [] []):=.ins (xs:=[]) hC rfl (by rw[x9];rfl) (by rw[x8 G,x9]) .nil
  have Z:BxOk X.K F0 H0 F1 (upd (upd B dx (.own x)) x (.ins C dx [])) ([x,dx]++fp) ((x,.ins c [] [])::β):=
   ⟨L,.cons cell (i.bx.mono (Same.refl _) fun a ha=>by
    have q1:a≠x:=fun z=>by subst z;exact nx ha
    have q2:a≠dx:=fun z=>by subst z;exact M ha
    rw[x8 q1,x8 q2]),List.nodup_append.mpr ⟨by simp[Ne.symm G],i.nd,fun a h1 b h2 z=>by
    subst z
    rcases List.mem_cons.mp h1 with y|y
    .exact nx (y ▸ h2)
    .rw[mem_singleton]at y;exact M (y ▸ h2)⟩,V1 (V1 i.plain fun _ _ z=>by cases z) fun _ _ z=>by cases z⟩
  split at e
  .rename_i β1 h2
   cases e
   show spW X.K n mf (.ref x::(vs++[])) _ _ E
   rw[append_nil]
   refine O2 S Z (by rw[length_cons,r1.length,hm ρ ds h1,hl]) (.cons (.ptr x) r1) (d:=.non) (β':=β1) (by rw[h2];rfl) fun v F' H' R sf rp=>?_
   cases rp
   refine⟨rfl,?_⟩
   obtain⟨B',a8,Y,a1⟩:=R
   obtain⟨fq,a0⟩:=a1.drop (β1.length-β.length)
   exact k F' H' σ ⟨B',fq,Y,a0⟩ (O.ff.trans sf)
  .cases e
end
end
section
section
variable {X:Cx}{e:Expr}{es:List Expr}{st:Stmt}{E:XK}{mf:MF}{m:ML}{pos:Pos}
noncomputable def yo6 (mf:MF)(m:ML):MS:=fun ρ=>(m ρ).bind fun ds=>match mf ds with |some (.pr d xs)=>some (.rp d xs)|_=>none
theorem yg4 {n:Nat}(h:∀ t,PA X es t->PE X e (zh2 (spR X.K n mf) [] E t))(L:∀ te,PE X e te->PS X st (tRet te))(ha:PAs X es m)(I:es.length=n)(hm:∀ ρ ds,m ρ=some ds->ds.length=es.length):PSd X st (yo6 mf m):=PS.imp (L _ (h _ ha)) fun Dn σ H i=>by
 obtain⟨F0,H0,F,ρ,o,z,e,ok⟩:=i
 unfold yo6 at e
 cases h1:m ρ with
 |none=>rw[h1]at e;cases e
 |some ds=>
  rw[h1,Option.bind_some]at e
  split at e
  .rename_i d xs h2
   cases e
   refine⟨F0,H0,F,ρ,ds,z,h1,fun vs F1 H1 j r1=>?_⟩
   show spR X.K n mf (vs++[]) H1 _ E
   rw[append_nil]
   refine⟨by rw[r1.length,hm ρ ds h1,I],F1,ds,_,j.fh,r1,h2,fun t v p ys F' H' G a1 Z Y U S R O N M=>?_⟩
   have hh:=z.ext.trans j
   exact ok t v p ys F' H' (hh.trans G) (hh.hh.free a1) (hh.hh.free Z) Y U S R O N M
  .cases e
end
def TAw (K:W.Frag)(m:Ro->Bx->Option (List D)):TA:=fun σ H Q=>∃ F0 H0 F ρ β ds,RlW K F0 H0 F H σ ρ β/\m ρ β=some ds/\∀ vs F' H',RlW K F0 H0 F' H' σ ρ β->Same F F'->Same H H'->Reps K F' vs ds->Q vs H'
def PAw (X:Cx)(es:List Expr)(m:Ro->Bx->Option (List D)):Prop:=PA X es (TAw X.K m)
noncomputable def nilW:Ro->Bx->Option (List D):=fun _ _=>some []
noncomputable def zu6 (x:Ro->Bx->Option D)(m:Ro->Bx->Option (List D)):Ro->Bx->Option (List D):=fun ρ β=>(x ρ β).bind fun d=>(m ρ β).map fun ds=>d::ds
noncomputable def lstW (m:Ro->Bx->Option (List D)):Ro->Bx->Option D:=fun ρ β=>(m ρ β).bind fun ds=>if ds.length<=sizeLine then some (.lst ds)else none
section
variable {X:Cx}{e:Expr}{es:List Expr}{pos:Pos}{x:Ro->Bx->Option D}{m:Ro->Bx->Option (List D)}
theorem xv0:PAw X [] nilW:=PA.imp pa_nil fun σ H Q i=>by
 obtain⟨F0,H0,F,ρ,β,ds,r,e,q⟩:=i
 cases e
 exact q [] F H r (Same.refl _) (Same.refl _) .nil
theorem O8 (h:PDw X e x)(M:PAw X es m)(L:starEach (e::es) X.env=(false,eval e X.env)::starEach es X.env:=by rfl):PAw X (e::es) (zu6 x m):=PA.imp (g5 h M L) fun σ H Q i=>by
 obtain⟨F0,H0,F,ρ,β,ds,r,e,q⟩:=i
 unfold zu6 at e
 cases h1:x ρ β with
 |none=>rw[h1]at e;cases e
 |some d=>
  rw[h1,Option.bind_some]at e
  cases h2:m ρ β with
  |none=>rw[h2]at e;cases e
  |some j=>
   rw[h2]at e;cases e
   refine⟨F0,H0,F,ρ,β,d,r,h1,fun v F1 H1 r1 s1 G rp=>⟨F0,H0,F1,ρ,β,j,r1,h2,fun vs F2 H2 r2 s2 z I=>?_⟩⟩
   exact q _ F2 H2 r2 (s1.trans s2) (G.trans z) (.cons (rp.mono s2) I)
theorem yf3 (h:PAw X es m):PDw X (.List es pos) (lstW m):=PE.imp (za3 h) fun σ H Q i=>by
 obtain⟨F0,H0,F,ρ,β,d,r,e,q⟩:=i
 unfold lstW at e
 cases h1:m ρ β with
 |none=>rw[h1]at e;cases e
 |some ds=>
  rw[h1,Option.bind_some]at e
  split at e
  .rename_i hz
   cases e
   refine⟨F0,H0,F,ρ,β,ds,r,h1,fun vs F1 H1 r1 s1 G z=>⟨by rw[z.length];exact hz,fun p hp=>?_⟩⟩
   have j:Ext F1 H1 (upd F1 p (.lst vs)) (upd H1 p (.lst vs)):=Ext.laid r1.fh hp
   exact q _ _ _ (r1.go j) (s1.trans j.ff) (G.trans j.hh) (.lst (SqL.of x9) (z.mono j.ff))
  .cases e
end
section
variable {K:W.Frag}{F0 J F H:Hp}{σ:St}{ρ:Ro}
theorem Rl.shareO {q:Addr}{o:HO}(j:Rl K F0 J F H σ ρ)(M:H q=some o)(N:F q=none)(L:J q=none)(hn:∀(i:Nat) ds,ρ[i]? =some (some (.own ds))->σ[i]? ≠some (some (.ref q)))(I:∀(i:Nat) p ds,ρ[i]? =some (some (.ob p ds))->p≠q)(G:∀ a u,o≠ .frz a u):Rl K F0 J (upd F q o) H σ ρ:=by
 have s:Same F (upd F q o):=(Same.refl F).put N
 refine⟨⟨j.ext.ff.trans s,j.ext.hh,fun b u e=>?_,fun b e n=>?_,fun b o' u e=>?_⟩,j.len,fun i d e=>?_,fun i ds e=>?_,j.inj,fun i p ds e=>?_,j.obn,j.ob1⟩
 .by_cases z:b=q
  .subst z;rw[x9]at e;cases e;exact M
  .rw[x8 z]at e;exact j.fh b u e
 .by_cases z:b=q
  .subst z;exact L
  .rw[x8 z]at n;exact j.ext.new b e n
 .by_cases z:b=q
  .subst z;rw[x9]at e;exact absurd (Option.some.inj e) (G _ _)
  .rw[x8 z]at e;exact j.ext.nf b o' u e
 .obtain⟨v,a1,a2⟩:=j.sh i d e
  exact⟨v,a1,a2.mono s⟩
 .obtain⟨p,xs,a1,a2,a3,a4,a5⟩:=j.own i ds e
  have z:p≠q:=fun w=>hn i ds e (by rw[<-w];exact a1)
  exact⟨p,xs,a1,by rw[x8 z];exact a2,a3,a4.mono s,a5⟩
 .obtain⟨a1,a2,a3,xs,a4,a5⟩:=j.ob i p ds e
  exact⟨a1,by rw[x8 (I i p ds e)];exact a2,a3,xs,a4,a5.mono s⟩
end
noncomputable def zk2 (i:Nat)(c mn:Str)(mf:MF):Ro->Bx->Option D:=fun ρ β=>match (thaw ρ β)[i]? with
 |some (some (.sh (.obj c' ns ds0)))=>if c'=c/\mn∉ns then (match mf [.obj c' ns ds0]with |some (.pr d es)=>if isSc d=true/\es.all isSc=true then some (.tup [d,.lst es])else none|_=>none)else none
 |_=>none
section
variable {X:Cx}{e:Expr}{E:XK}{mf:MF}
theorem yp3 {i:Nat}{c mn:Str}{C:Addr}(hC:W.nsIn X.K mainGlobals c=some (some (.ref C)))(h:PE X e (zz7 C mn (spR X.K 1 mf) [] E (TD X.K (mvar i)) tNil)):PDw X e (zk2 i c mn mf):=PE.imp h fun σ H Q ⟨F0,H0,F,ρ,β,d,⟨B,fp,j,ok⟩,e,q⟩=>by
 unfold zk2 at e
 split at e
 .rename_i c' ns ds0 h0
  split at e
  .rename_i Y
   obtain⟨rfl,Y⟩:=Y
   split at e
   .rename_i d' es h2
    split at e
    .rename_i hs
     cases e
     obtain⟨r1,fb⟩:=RlW.frozen j ok
     refine⟨_,_,_,_,_,r1,by unfold mvar;rw[h0],fun v F1 H1 I U=>?_⟩
     cases U with
     |@obj a dx C' _ _ xs _ a1 a2 a3 a4 a5=>
      have a6:=a1
      rw[hC]at a1
      cases a1
      refine⟨_,_,_,rfl,I.fh _ _ a3,g6 Y _,?_⟩
      refine⟨rfl,F1,_,_,I.fh,.cons (Rep.obj a6 a2 a3 a4 a5) .nil,h2,fun t v p ys F' H' x2 b1 b2 b3 b4 b5 b6 b7 b8 b9=>?_⟩
      have hh:Same H H':=I.hh.trans x2.hh
      have N:H t=none:=I.hh.free b1
      have hp:H p=none:=I.hh.free b2
      have S:=j.go ⟨Same.refl F,hh,j.fh.trans hh,fun b e n=>absurd e n,fun _ _ _ z=>z⟩
      have own:∀ q,H q=none->∀(i:Nat) ds,ρ[i]? =some (some (.own ds))->σ[i]? ≠some (some (.ref q)):=fun q Z i ds e z=>by
       obtain⟨L,xs,c1,_,c3,_⟩:=j.own i ds e
       rw[z]at c1;cases c1
       rw[Z]at c3;cases c3
      have ob:∀ q,H q=none->∀(i:Nat) L ds,ρ[i]? =some (some (.ob L ds))->L≠q:=fun q Z i L ds e z=>by
       obtain⟨_,_,_,xs,c4,_⟩:=j.ob i L ds e
       rw[z,Z]at c4;cases c4
      have M:=j.fh.free hp
      have a0:=j.fh.free N
      have R:=S.shareO b7 M (j.ext.hh.free hp) (own p hp) (ob p hp) fun _ _ z=>by cases z
      have G:upd F p (.lst ys) t=none:=by rw[x8 b3];exact a0
      have O:=R.shareO b6 G (j.ext.hh.free N) (own t N) (ob t N) fun _ _ z=>by cases z
      have s1:Same F (upd F p (.lst ys)):=(Same.refl F).put M
      have s2:Same (upd F p (.lst ys)) (upd (upd F p (.lst ys)) t (.tup [v,.ref p])):=(Same.refl _).put G
      refine q (.ref t) _ H' ⟨B,fp,O,ok.mono (s1.trans s2)⟩ (s1.trans s2) hh ?_
      exact .tup (SqT.of x9) (.cons (ys4 hs.1 b8) (.cons (.lst (SqL.of (by rw[x8 (Ne.symm b3)];exact x9)) (zr2 hs.2 b9)) .nil))
    .cases e
   .cases e
  .cases e
 .cases e
end
end
section
section
variable {X:Cx}{e o:Expr}{E:XK}{mf:MF}{mo:ME}
@[irreducible] noncomputable def P4 (c mn:Str)(mf:MF)(mo:ME):ML:=fun ρ=>match mo ρ with
 |some (.obj c' ns ds0)=>if c'=c/\mn∉ns then (match mf [.obj c' ns ds0]with |some (.fr es)=>some es|_=>none)else none
 |_=>none
theorem zm0 {c mn:Str}{C:Addr}(S:W.nsIn X.K mainGlobals c=some (some (.ref C)))(N:PD X o mo)(h:∀ ta,PE X o ta->PE X e (zz7 C mn (spR X.K 1 mf) [] E ta tNil)):PF X e (P4 c mn mf mo):=PE.imp (h _ N) fun σ H Q i=>by
 obtain⟨F0,H0,F,ρ,d,L,e,q⟩:=i
 unfold P4 at e
 split at e
 .rename_i c' ns ds0 h0
  split at e
  .rename_i z
   obtain⟨rfl,z⟩:=z
   split at e
   .rename_i es h2
    cases e
    refine⟨F0,H0,F,ρ,_,L,h0,fun v F1 H1 j r1=>?_⟩
    cases r1 with
    |@obj a dx C' _ _ xs _ a1 a2 a3 a4 a5=>
     have G:=a1
     rw[S]at a1
     cases a1
     refine⟨_,_,_,rfl,j.fh _ _ a3,g6 z _,?_⟩
     exact⟨rfl,F1,_,_,j.fh,.cons (Rep.obj G a2 a3 a4 a5) .nil,h2,fun p xs Y U I hp R O M=>q p xs Y U (j.trans I) (j.hh.free hp) R O M⟩
   .cases e
  .cases e
 .cases e
end
end
section
noncomputable def yz0 (i:Nat)(c:Str)(f:MFW)(m:MLm)(rest:MW):MW:=fun ρ β=>(m ρ).bind fun r=>anyN β fun x=>match f (.ptr x::r.1) ((x,.ins c [] [])::β)with
 |some (.sh .non,β')=>(rest (r.2.set i (some (.sh (.ptr x)))) β').map (letGo i β.length)
 |_=>none
section
variable {X:Cx}{e:Expr}{es:List Expr}{st:Stmt}{rest:List Stmt}{E:XK}{mf:MFW}{m:MLm}
theorem yr9 {n i:Nat}{c:Str}{C:Addr}{S:MW}(hC:W.nsIn X.K mainGlobals c=some (some (.ref C)))(hE:∀ t,PA X es t->PE X e (xy1 C (spW X.K n mf) [] E t))(hS:∀ te,PE X e te->PS X st (tAsg te (O0 i)))(hl:es.length+1=n)(ha:PAm X es m)(hm:∀ ρ ds ρ',m ρ=some (ds,ρ')->ds.length=es.length)(hr:PSsw X rest S):
  PSsw X (st::rest) (yz0 i c mf m S):=PSs.imp (K3 (hS _ (hE _ ha)) hr) fun Dn σ H ⟨F0,H0,F,ρ,β,o,β',⟨B,fp,rl,ok⟩,e,k⟩=>by
 unfold yz0 at e
 cases h1:m ρ with
 |none=>rw[h1]at e;cases e
 |some r=>
  obtain⟨ds,ρ1⟩:=r
  rw[h1,Option.bind_some]at e
  refine⟨F0,jn H0 B,F,ρ,ds,ρ1,rl,h1,fun vs F1 H1 M s1 r1=>?_⟩
  intro x dx hx R I
  have j:=ok.mono s1
  have bh:∀ a,B a≠none->H1 a≠none:=fun a h=>by
   cases q:B a with
   |none=>exact absurd q h
   |some u=>rw[M.ext.hh a u (j6 q)];simp
  have bx:B x=none:=by
   cases q:B x with
   |none=>rfl
   |some u=>exact absurd hx (bh x (by rw[q];simp))
  have a9:B dx=none:=by
   cases q:B dx with
   |none=>rfl
   |some u=>exact absurd R (bh dx (by rw[q];simp))
  have e:=zv2 e x fun z=>ok.bx.keys x z bx
  have a3:(upd H1 dx (.own x)) x=none:=by rw[x8 (Ne.symm I)];exact hx
  obtain⟨Z,fa,a7,a5⟩:=M.putB (a:=dx) (o:=.own x) j.out (.inr R)
  have G:=M0 (o:=HO.own x) j.out ⟨a7,a5⟩
  obtain⟨Y,fb,a6,a4⟩:=Z.putB (a:=x) (o:=.ins C dx []) G (.inr a3)
  have N:=M0 (o:=HO.ins C dx []) G ⟨a6,a4⟩
  have nx:x∉fp:=fun z=>ok.bx.mem x z bx
  have O:dx∉fp:=fun z=>ok.bx.mem dx z a9
  have cell:CellR X.K F1 (upd (upd B dx (.own x)) x (.ins C dx [])) [x,dx] x (.ins c [] []):=.ins (xs:=[]) hC rfl (by rw[x9];rfl) (by rw[x8 I,x9]) .nil
  have a1:BxOk X.K F0 H0 F1 (upd (upd B dx (.own x)) x (.ins C dx [])) ([x,dx]++fp) ((x,.ins c [] [])::β):=
   ⟨N,.cons cell (j.bx.mono (Same.refl _) fun a ha=>by
    have q1:a≠x:=fun z=>by subst z;exact nx ha
    have q2:a≠dx:=fun z=>by subst z;exact O ha
    rw[x8 q1,x8 q2]),List.nodup_append.mpr ⟨by simp[Ne.symm I],j.nd,fun a h1 b h2 z=>by
    subst z
    rcases List.mem_cons.mp h1 with y|y
    .exact nx (y ▸ h2)
    .rw[mem_singleton]at y;exact O (y ▸ h2)⟩,V1 (V1 j.plain fun _ _ z=>by cases z) fun _ _ z=>by cases z⟩
  dsimp only at e
  split at e
  .rename_i β1 h2
   show spW X.K n mf (.ref x::(vs++[])) _ _ E
   rw[append_nil]
   refine O2 Y a1 (by rw[length_cons,r1.length,hm ρ ds ρ1 h1,hl]) (.cons (.ptr x) r1) (d:=.non) (β':=β1) (by rw[h2];rfl) fun v F' H' U sf rp=>?_
   cases rp
   refine⟨rfl,?_⟩
   obtain⟨B',a8,a0,a2⟩:=U
   show TSw X.K S Dn (σ.set i (some (.ref x))) H'
   cases h3:S (ρ1.set i (some (.sh (.ptr x)))) β1 with
   |none=>rw[h3]at e;cases e
   |some ob=>
    obtain⟨o1,L⟩:=ob
    rw[h3]at e
    have e:some (letGo i β.length (o1,L))=some (o,β'):=e
    have e:=Option.some.inj e
    refine⟨F0,H0,F',_,β1,o1,L,⟨B',a8,a0.set (.ptr x),a2⟩,h3,okW.letGo (i:=i) (k:=β.length) ?_⟩
    rw[e]
    exact k.mono (s1.trans sf)
  .cases e
end
end
end L2
set_option maxHeartbeats 4000000
namespace Lw
open List
open PySem L2
abbrev k0a (r:List Int):Option S:=some (.sh (.lst (r.map .int)))
abbrev k0b (k:Nat):Option S:=some (.sh (.int (k:Int)))
abbrev k0c (k:Int):Option S:=some (.sh (.int k))
section
noncomputable section
noncomputable abbrev tab_OTHER_KIND:List (Str×Str):=[("up","down"),("down","up")]
noncomputable def b_Z17:MS:=(mif (v7 (m2 ltD (mvar 0) (mc (.int 1)))) zs0 W6)
noncomputable def J1:MF:=runB 1 b_Z17
noncomputable def yj7:MXs:=(xif (v7 (m2 ltD (mvar 0) (mc (.int 1)))) (zz4 "NoStep" (z7 (mc (.str "a least step is 1 or more")) anil)) yi5)
noncomputable def zu9:MFX:=runX 1 yj7
noncomputable def yx2:MS:=(mseq (mapp 2 (mlst (U7 [none,some 1,some 5,some 0] (Y3 rng2 (z7 (m2 addD (mvar 4) (mc (.int 1))) (z7 (mlen (bvar 0)) anil))) (.nm 0) (v7 (m2 geD (m2 subD (mix (bvar 3) (mvar 0)) (mvar 2)) (mvar 1))) (mvar 0)))) (mapp 3 (mlst (U7 [none,some 1,some 5,some 0] (Y3 rng2 (z7 (m2 addD (mvar 4) (mc (.int 1))) (z7 (mlen (bvar 0)) anil))) (.nm 0) (v7 (m2 geD (m2 subD (mvar 2) (mix (bvar 3) (mvar 0))) (mvar 1))) (mvar 0)))))
noncomputable def yx1:MS:=(V5 3 (V5 2 (mret (mtup (z7 (mvar 2) (z7 (mvar 3) anil))))))
noncomputable def b_Z15:MS:=(mseq (P3 2 (t7 anil)) (mseq (P3 3 (t7 anil)) (mseq (mfor (Y3 zd4 (z7 (mvar 0) anil)) (.tp [4,5]) yx2) yx1)))
noncomputable def ze5:MF:=runB 6 b_Z15
noncomputable def b_Z5:MS:=(mseq (mset 1 (mlst (mcat (t7 (z7 (mtup (z7 (mc (.int 0)) (z7 (mc (.int 1)) anil))) anil)) (bvar 0)))) (mseq (mset 2 (yn0 (U7 [none,none] (k7 (mvar 1)) (.tp [0,1]) cyes (mvar 0)))) (mret (mtup (z7 (m2 addD (mvar 2) (mc (.int 1))) (z7 (msum (U7 [none,none,some 2] (k7 (mvar 1)) (.tp [0,1]) (v7 (m2 eqSD (mvar 0) (mvar 2))) (mvar 1))) anil))))))
noncomputable def m_Z5:MF:=runB 3 b_Z5
noncomputable def zc1:MS:=(mseq (T6 4 (mvar 6) (Z5 m_Z5 (z7 (mlst (P7 [none,some 5] (k7 (mix (bvar 2) (mvar 6))) (.nm 0) cyes (mix (bvar 1) (mvar 0)))) anil))) (T6 5 (mvar 6) (Z5 m_Z5 (z7 (mlst (P7 [none,some 4] (k7 (mix (bvar 3) (mvar 6))) (.nm 0) cyes (mix (bvar 1) (mvar 0)))) anil))))
noncomputable def zc0:MS:=(V5 4 (V5 5 (mseq (mset 7 (zk1 (U7 [none,none] (k7 (m2 addD (mvar 4) (mvar 5))) (.tp [0,1]) cyes (mvar 0)) (mc (.int 0)))) (mseq (mif (v7 (m2 ltD (mvar 7) (mc (.int 2)))) (mret (D1 ye7 (z7 (mc (.int 1)) (z7 (mlen (bvar 0)) anil)))) W6) (mret (msum (U7 [none,none,some 7] (k7 (m2 addD (mvar 4) (mvar 5))) (.tp [0,1]) (v7 (m2 eqSD (mvar 0) (mvar 2))) (mvar 1))))))))
noncomputable def b_Z0:MS:=(mseq (P6 (Z5 J1 (z7 (mvar 1) anil))) (mseq (masg (.tp [2,3]) (Z5 ze5 (z7 (mvar 0) (z7 (mvar 1) anil)))) (mseq (P3 4 (mrep (t7 (z7 (mtup (z7 (mc (.int 0)) (z7 (mc (.int 0)) anil))) anil)) (mlen (bvar 0)))) (mseq (P3 5 (mrep (t7 (z7 (mtup (z7 (mc (.int 0)) (z7 (mc (.int 0)) anil))) anil)) (mlen (bvar 0)))) (mseq (mfor (Y3 rngD (z7 (mlen (bvar 0)) anil)) (.nm 6) zc1) zc0)))))
noncomputable def m_Z0:MF:=runB 8 b_Z0
noncomputable def b_Z7:MS:=(mif (v7 (m2 ltD (mvar 0) (mc (.int 0)))) zs0 W6)
noncomputable def m_Z7:MF:=runB 1 b_Z7
noncomputable def xs5:MXs:=(xif (v7 (m2 ltD (mvar 0) (mc (.int 0)))) (zz4 "NoWeights" (z7 (mc (.str "a weight is 0 or more")) anil)) yi5)
noncomputable def yx8:MFX:=runX 1 xs5
noncomputable def yj9:MS:=(P6 (Z5 m_Z7 (z7 (mvar 2) anil)))
noncomputable def b_Z3:MS:=(mseq (mif (v7 (m2 neSD (mlen (bvar 1)) (mlen (bvar 0)))) zs0 W6) (mfor (k7 (mvar 1)) (.nm 2) yj9))
noncomputable def m_Z3:MF:=runB 3 b_Z3
noncomputable def b_Z9:MS:=(mseq (masg (.tp [1,2]) (mvar 0)) (mret (mtup (z7 (m1 negD (mvar 1)) (z7 (mlen (bvar 2)) (z7 (mvar 2) anil))))))
noncomputable def m_Z9:MF:=runB 3 b_Z9
noncomputable def b_Z6:MS:=(mret (yo9 (fun d=>shOf (m_Z9 [d])) (mcat (t7 (z7 (mtup (z7 (mc (.int 0)) (z7 (mlst (t7 anil)) anil))) anil)) (bvar 0))))
noncomputable def m_Z6:MF:=runB 1 b_Z6
noncomputable def zp3:MS:=(mseq (masg (.tp [8,9]) (Z5 m_Z6 (z7 (mlst (P7 [none,some 6] (k7 (mix (bvar 3) (mvar 7))) (.nm 0) cyes (mix (bvar 1) (mvar 0)))) anil))) (mseq (T6 5 (mvar 7) (mtup (z7 (m2 addD (mix (bvar 2) (mvar 7)) (mvar 8)) (z7 (mlst (mcat (t7 (z7 (mvar 7) anil)) (bvar 9))) anil)))) (mseq (masg (.tp [8,9]) (Z5 m_Z6 (z7 (mlst (P7 [none,some 5] (k7 (mix (bvar 4) (mvar 7))) (.nm 0) cyes (mix (bvar 1) (mvar 0)))) anil))) (T6 6 (mvar 7) (mtup (z7 (m2 addD (mix (bvar 2) (mvar 7)) (mvar 8)) (z7 (mlst (mcat (t7 (z7 (mvar 7) anil)) (bvar 9))) anil)))))))
noncomputable def yy9:MS:=(V5 5 (V5 6 (mret (mtup (z7 (mvar 5) (z7 (mvar 6) anil))))))
noncomputable def b_Z18:MS:=(mseq (masg (.tp [3,4]) (Z5 ze5 (z7 (mvar 0) (z7 (mvar 1) anil)))) (mseq (P3 5 (mrep (t7 (z7 (mtup (z7 (mc (.int 0)) (z7 (mlst (t7 anil)) anil))) anil)) (mlen (bvar 0)))) (mseq (P3 6 (mrep (t7 (z7 (mtup (z7 (mc (.int 0)) (z7 (mlst (t7 anil)) anil))) anil)) (mlen (bvar 0)))) (mseq (mfor (Y3 rngD (z7 (mlen (bvar 0)) anil)) (.nm 7) zp3) yy9))))
noncomputable def ye9:MF:=runB 10 b_Z18
noncomputable def b_Z22:MS:=(mseq (P6 (Z5 J1 (z7 (mvar 1) anil))) (mseq (P6 (Z5 m_Z3 (z7 (mvar 0) (z7 (mvar 2) anil)))) (mseq (masg (.tp [3,4]) (Z5 ye9 (z7 (mvar 0) (z7 (mvar 1) (z7 (mvar 2) anil))))) (mret (Z5 m_Z6 (z7 (m2 addD (mvar 3) (mvar 4)) anil))))))
noncomputable def yu2:MF:=runB 5 b_Z22
noncomputable def yx0:MS:=(mseq (mset 6 (m2 subD (mix (bvar 0) (mvar 5)) (mix (bvar 0) (mvar 4)))) (mseq (mif (v7 (m2 eqSD (mvar 2) (mc (.str "down")))) (mset 6 (m1 negD (mvar 6))) W6) (mseq (mif (v7 (m2 leD (mvar 6) (m1 negD (mvar 1)))) (yo7 5) W6) (mif (v7 (m2 gtD (mvar 6) (mc (.int 0)))) (mset 4 (mvar 5)) W6))))
noncomputable def b_Z16:MS:=(mseq (mset 4 (mvar 3)) (mseq (mfor (Y3 rng2 (z7 (mvar 3) (z7 (mlen (bvar 0)) anil))) (.nm 5) yx0) (mret (mlen (bvar 0)))))
noncomputable def zk5:MF:=runB 7 b_Z16
noncomputable def zz1:MS:=(mseq (mapp 6 (mvar 7)) (mseq (mset 7 (Z5 zk5 (z7 (mvar 0) (z7 (mvar 1) (z7 (mvar 5) (z7 (mvar 7) anil)))))) (mset 5 (m1 (tabD tab_OTHER_KIND) (mvar 5)))))
noncomputable def b_Z21:MS:=(mseq (P6 (Z5 J1 (z7 (mvar 1) anil))) (mseq (mset 2 (Z5 zk5 (z7 (mvar 0) (z7 (mvar 1) (z7 (mc (.str "up")) (z7 (mc (.int 0)) anil)))))) (mseq (mset 3 (Z5 zk5 (z7 (mvar 0) (z7 (mvar 1) (z7 (mc (.str "down")) (z7 (mc (.int 0)) anil)))))) (mseq (mset 4 (mite (v7 (m2 ltD (mvar 2) (mvar 3))) (mc (.str "down")) (mc (.str "up")))) (mseq (mset 5 (mvar 4)) (mseq (P3 6 (t7 anil)) (mseq (mset 7 (D1 ze0 (z7 (mvar 2) (z7 (mvar 3) anil)))) (mseq (M9 (v7 (m2 ltD (mvar 7) (mlen (bvar 0)))) zz1 1000) (yf9 (mvar 4) 6)))))))))
noncomputable def ze4:MF:=runB 8 b_Z21
noncomputable def b_Grown___init__:MW:=(Y2 (wS (P6 (Z5 J1 (z7 (mvar 1) anil)))) (Y2 (yn2 0 "Grown" "least_step" (wE (mvar 1))) (Y2 (J0 0 "Grown" "numbers" (wE (t7 anil))) (Y2 (J0 0 "Grown" "weights" (wE (t7 anil))) (J0 0 "Grown" "lengths" (wE (t7 anil)))))))
noncomputable def w9:MFW:=runW 2 b_Grown___init__
noncomputable def X0:MXs:=(xE (yx9 zu9 (z7 (mvar 1) anil)))
noncomputable def j5:MFX:=runX 2 X0
noncomputable def b_Z13:MS:=(yo6 ze4 (z7 (mfld "Grown" "numbers" (mvar 0)) (z7 (mfld "Grown" "least_step" (mvar 0)) anil)))
noncomputable def zu3:MF:=runB 1 b_Z13
noncomputable def b_Z14:MS:=(mseq (masg (.tp [1,2]) (d7 "Grown" "pieces" zu3 (mvar 0) anil)) (mret (mite (mtru (mfld "Grown" "numbers" (mvar 0))) (m2 addD (mlen (bvar 2)) (mc (.int 1))) (mc (.int 0)))))
noncomputable def Q7:MF:=runB 3 b_Z14
noncomputable def b_Grown_put:MW:=(Y2 (wS (P6 (Z5 m_Z7 (z7 (mvar 2) anil)))) (Y2 (N8 0 "Grown" "numbers" (wE (mvar 1))) (Y2 (N8 0 "Grown" "weights" (wE (mvar 2))) (N8 0 "Grown" "lengths" (V8 (d7 "Grown" "length" Q7 (mvar 0) anil))))))
noncomputable def k6:MFW:=runW 3 b_Grown_put
noncomputable def O3:MXs:=(xE (yx9 yx8 (z7 (mvar 2) anil)))
noncomputable def X2:MFX:=runX 3 O3
noncomputable def b_Grown_take:MW:=(Y2 (mifW (zk6 (cor (v7 (m2 ltD (mvar 1) (mc (.int 0)))) (v7 (m2 gtD (mvar 1) (mlen (k7 (mfld "Grown" "numbers" (mvar 0)))))))) (wS zs0) (wS W6)) (Y2 (yo5 2 (V8 (m2 subD (mlen (k7 (mfld "Grown" "numbers" (mvar 0)))) (mvar 1)))) (Y2 (J0 0 "Grown" "numbers" (J2 (mcut (k7 (mfld "Grown" "numbers" (mvar 0))) B4 (F7 (mvar 2))))) (Y2 (J0 0 "Grown" "weights" (J2 (mcut (k7 (mfld "Grown" "weights" (mvar 0))) B4 (F7 (mvar 2))))) (N8 0 "Grown" "lengths" (V8 (d7 "Grown" "length" Q7 (mvar 0) anil)))))))
noncomputable def i8:MFW:=runW 3 b_Grown_take
noncomputable def R3:MXs:=(xif (cor (v7 (m2 ltD (mvar 1) (mc (.int 0)))) (v7 (m2 gtD (mvar 1) (mlen (k7 (mfld "Grown" "numbers" (mvar 0))))))) (zz4 "NoNumber" (z7 (mc (.str "so many can be taken as there are, or fewer, or none")) anil)) yi5)
noncomputable def Z8:MFX:=runX 3 R3
noncomputable def b_Z12:MS:=(mseq (masg (.tp [1,2]) (Z5 yu2 (z7 (mfld "Grown" "numbers" (mvar 0)) (z7 (mfld "Grown" "least_step" (mvar 0)) (z7 (mfld "Grown" "weights" (mvar 0)) anil))))) (yo7 1))
noncomputable def yu3:MF:=runB 3 b_Z12
noncomputable def b_Z4:MS:=(mret (Z5 m_Z0 (z7 (mfld "Grown" "numbers" (mvar 0)) (z7 (mfld "Grown" "least_step" (mvar 0)) anil))))
noncomputable def m_Z4:MF:=runB 1 b_Z4
noncomputable def b_Z20:MS:=(zq6 (k7 (mfld "Grown" "numbers" (mvar 0))))
noncomputable def zk4:MF:=runB 1 b_Z20
noncomputable def b_Z8:MS:=(zq6 (k7 (mfld "Grown" "lengths" (mvar 0))))
noncomputable def m_Z8:MF:=runB 1 b_Z8
noncomputable def b_Z23:MS:=(mseq (T6 0 (mc (.int 1)) (m2 addD (mix (bvar 0) (mc (.int 1))) (mc (.int 1)))) (mseq (mset 2 (mix (bvar 0) (mc (.int 0)))) (mseq (mif (v7 (m2 geD (mvar 2) (m2 powD (mc (.int 10)) (mc (.int 18))))) (mseq (T6 0 (mc (.int 0)) (m2 yk2 (mvar 2) (mvar 1))) (N7 0 (mpu (m2 modD (mvar 2) (mvar 1))))) W6) (mseq (mset 3 (m2 modD (m2 addD (m2 addD (m2 mulD (mvar 2) (mc (.int 69621))) (m2 mulD (mix (bvar 0) (mc (.int 1))) (mc (.int 7919)))) (mc (.int 13))) (mc (.int 2147483647)))) (mseq (mset 3 (m2 modD (m2 mulD (mvar 3) (mvar 3)) (mc (.int 2147483629)))) (N7 0 (mpu (m2 modD (m2 yk2 (m2 modD (m2 addD (m2 mulD (mvar 3) (mc (.int 48271))) (m2 mulD (mix (bvar 0) (mc (.int 1))) (mc (.int 40692)))) (mc (.int 2147483587))) (mc (.int 8))) (mvar 1)))))))))
noncomputable def Z6:MG:=runG 4 b_Z23
noncomputable def T7:MFP:=runP 1 (v7 (m2 eqSD (mlen (bvar 0)) (mc (.int 0)))) (yn1 (t7 (z7 (mc (.int 0)) (z7 (mc (.int 0)) anil)))) (zs1 [none] (k7 (mlst (mcut (bvar 0) B4 (F7 (mc (.int 63)))))) (.nm 0) (t7 (z7 (mvar 0) (z7 (mc (.int 0)) anil))))
noncomputable def b_Z2:MS:=(mseq (mif (v7 (m2 eqSD (mvar 1) (mc (.int 0)))) (N7 0 (m9 Z6 0 (apu (z7 (mc (.int 4)) anil)))) W6) (mseq (mif (v7 (m2 eqSD (mvar 1) (mc (.int 1)))) (N7 0 (m2m subD (m9 Z6 0 (apu (z7 (mc (.int 21)) anil))) (mpu (mc (.int 10))))) W6) (mseq (mif (v7 (m2 eqSD (mvar 1) (mc (.int 2)))) (N7 0 (m2m subD (m9 Z6 0 (apu (z7 (mc (.int 1001)) anil))) (mpu (mc (.int 500))))) W6) (N7 0 (m2m mulD (m2m ixLD (mpu (mlst (t7 (z7 (m1 negD (mc (.int 1))) (z7 (mc (.int 1)) anil))))) (m9 Z6 0 (apu (z7 (mc (.int 2)) anil)))) (m2m addD (mpu (m2 powD (mc (.int 10)) (mc (.int 29)))) (m9 Z6 0 (apu (z7 (mc (.int 1000)) anil)))))))))
noncomputable def m_Z2:MG:=runG 2 b_Z2
noncomputable def b_Z11:MS:=(mseq (E4 2 (m9 Z6 0 (apu (z7 (mc (.int 4)) anil)))) (mseq (E4 3 (m9 Z6 0 (d8 (m2m ixLD (mpu (mlst (t7 (z7 (D1 ze0 (z7 (mc (.int 4)) (z7 (m2 addD (mvar 1) (mc (.int 1))) anil))) (z7 (D1 ze0 (z7 (mc (.int 9)) (z7 (m2 addD (mvar 1) (mc (.int 1))) anil))) (z7 (m2 addD (mvar 1) (mc (.int 1))) anil)))))) (m9 Z6 0 (apu (z7 (mc (.int 3)) anil)))) (apu anil)))) (mseq (E4 4 (E5 [none,some 0,some 2] (Y3 rng1 (z7 (mvar 3) anil)) 0 1 (m9 m_Z2 1 (apu (z7 (mvar 2) anil))))) (mseq (E4 5 (m9 Z6 0 (apu (z7 (mc (.int 6)) anil)))) (mseq (mif (v7 (m2 eqSD (mvar 5) (mc (.int 0)))) (mset 4 (mlst (zq4 (bvar 4)))) W6) (mseq (mif (v7 (m2 eqSD (mvar 5) (mc (.int 1)))) (mset 4 (mlst (U7 [none,none] (Y3 zd4 (z7 (mvar 4) anil)) (.tp [0,1]) cyes (m2 addD (mvar 1) (mix (t7 (z7 (mc (.int 7)) (z7 (m1 negD (mc (.int 7))) anil))) (m2 modD (mvar 0) (mc (.int 2)))))))) W6) (mseq (mif (v7 (m2 eqSD (mvar 5) (mc (.int 2)))) (mset 4 (mlst (mrep (mcut (bvar 4) B4 (F7 (mc (.int 1)))) (mvar 3)))) W6) (N7 0 (mpu (mvar 4))))))))))
noncomputable def yn9:MG:=runG 6 b_Z11
noncomputable def b_Z10:MS:=(N7 0 (m2m ixLD (zf9 (d8 (mpu (mc (.int 1))) (d8 (mpu (mc (.int 1))) (d8 (m2m addD (mpu (mc (.int 1))) (m9 Z6 0 (apu (z7 (mc (.int 4)) anil)))) (d8 (m2m addD (mpu (mc (.int 1))) (m9 Z6 0 (apu (z7 (mc (.int 40)) anil)))) (apu (z7 (m2 powD (mc (.int 10)) (mc (.int 29))) anil))))))) (m9 Z6 0 (apu (z7 (mc (.int 5)) anil)))))
noncomputable def yu4:MG:=runG 1 b_Z10
noncomputable def b_Z19:MS:=(mseq (mset 1 (mlst (t7 (z7 (misX [("NoNumber",false),("NoStep",true),("NoWeights",false)] (mvar 0)) (z7 (misX [("NoNumber",true),("NoStep",false),("NoWeights",false)] (mvar 0)) (z7 (misX [("NoNumber",false),("NoStep",false),("NoWeights",true)] (mvar 0)) (z7 (misX [("NoNumber",false),("NoStep",false),("NoWeights",false)] (mvar 0)) anil))))))) (mseq (mset 1 (mlst (mcat (bvar 1) (t7 (z7 (misX [("NoNumber",false),("NoStep",false),("NoWeights",false)] (mvar 0)) (z7 (misX [("NoNumber",false),("NoStep",false),("NoWeights",false)] (mvar 0)) (z7 (misX [("NoNumber",false),("NoStep",false),("NoWeights",false)] (mvar 0)) anil))))))) (zq6 (mcat (bvar 1) (t7 (z7 (m1 notD (misX [("NoNumber",true),("NoStep",true),("NoWeights",true)] (mvar 0))) anil))))))
noncomputable def yn8:MF:=runB 2 b_Z19
noncomputable def b_Z1:MS:=(N7 0 (m2m ixLD (zf9 (d8 (mpu (mc (.int 0))) (d8 (mpu (mc (.int 1))) (d8 (m9 Z6 0 (apu (z7 (mc (.int 10)) anil))) (d8 (m9 Z6 0 (apu (z7 (mc (.int 1000)) anil))) (d8 (m2m addD (mpu (m2 powD (mc (.int 10)) (mc (.int 29)))) (m9 Z6 0 (apu (z7 (mc (.int 1000)) anil)))) (apu anil))))))) (m9 Z6 0 (apu (z7 (mc (.int 5)) anil)))))
noncomputable def m_Z1:MG:=runG 1 b_Z1
noncomputable def b_law_refused:MW:=(Y2 (wS (mset 4 (mlst (t7 anil)))) (Y2 (zf6 ["NoNumber","NoStep","NoWeights"] (mifW (wE (v7 (m2 eqSD (mvar 0) (mc (.int 0))))) (D7 "Grown" w9 (z7 (mvar 2) anil)) (mifW (wE (v7 (m2 eqSD (mvar 0) (mc (.int 1))))) (Q3 (Q0 1 "Grown" "put" k6 (z7 (mvar 2) (z7 (mvar 3) anil)))) (Q3 (Q0 1 "Grown" "take" i8 (z7 (mvar 2) anil))))) (xifE (v7 (m2 eqSD (mvar 0) (mc (.int 0)))) (yt4 j5 (z7 (mvar 2) anil)) (xifE (v7 (m2 eqSD (mvar 0) (mc (.int 1)))) (yx7 "Grown" "put" X2 (mvar 1) (z7 (mvar 2) (z7 (mvar 3) anil))) (yx7 "Grown" "take" Z8 (mvar 1) (z7 (mvar 2) anil)))) 5 (mset 4 (Z5 yn8 (z7 (mvar 5) anil)))) (zq5 (wE (mvar 4)))))
noncomputable def u7:MFW:=runW 6 b_law_refused
noncomputable def b_law_stood:MW:=(zq5 (lstW (zu6 (lsW (J2 (P4 "Grown" "row" zk4 (mvar 0)))) (zu6 (lsW (J2 (P4 "Grown" "moments" m_Z8 (mvar 0)))) (zu6 (V8 (d7 "Grown" "length" Q7 (mvar 0) anil)) (zu6 (V8 (d7 "Grown" "weight" yu3 (mvar 0) anil)) (zu6 (V8 (d7 "Grown" "how_many" m_Z4 (mvar 0) anil)) (zu6 (zk2 0 "Grown" "pieces" zu3) nilW))))))))
noncomputable def c7:MFW:=runW 1 b_law_stood
noncomputable def G2:MW:=(zx1 2 "Grown" "put" k6 (d8 (mpu (mvar 4)) (d8 (m9 m_Z1 1 (apu anil)) (apu anil))))
noncomputable def G1:MW:=(Y2 (mifX (ze1 (eqFD true) (D8 u7 (z7 (mvar 8) (z7 (mvar 2) (z7 (mvar 4) (z7 (mvar 9) anil))))) (mlst (U7 [none,some 8] (Y3 rng1 (z7 (mc (.int 8)) anil)) (.nm 0) cyes (m2 eqSD (mvar 0) (mix (t7 (z7 (mc (.int 0)) (z7 (mc (.int 2)) (z7 (mc (.int 1)) anil)))) (mvar 1)))))) (zq5 (wE (mc (.bl false)))) (wS W6)) (mifX (ze1 (eqFD true) (D8 c7 (z7 (mvar 2) anil)) (mvar 5)) (zq5 (wE (mc (.bl false)))) (wS W6)))
noncomputable def R4:MW:=(mifX (ze1 (eqFD true) (D8 u7 (z7 (mvar 8) (z7 (mvar 2) (z7 (mvar 4) (z7 (mvar 9) anil))))) (mlst (t7 anil))) (zq5 (wE (mc (.bl false)))) (wS W6))
noncomputable def yy8:MW:=(mifW (zk6 (cor (v7 (meqB true (k7 (d7 "Grown" "row" zk4 (mvar 2) anil)) (t7 anil))) (v7 (m2 neSD (mlen (k7 (d7 "Grown" "moments" m_Z8 (mvar 2) anil))) (m2 addD (mlen (bvar 3)) (mc (.int 4))))))) (zq5 (wE (mc (.bl false)))) (wS W6))
noncomputable def yy7:MW:=(Y2 (zx4 (k7 (mlst (t7 (z7 (mtup (z7 (mc (.int 0)) (z7 (mc (.int 1)) (z7 (mc (.int 0)) anil)))) (z7 (mtup (z7 (mc (.int 1)) (z7 (m2 subD (mc (.int 0)) (mvar 6)) (z7 (mc (.int 0)) anil)))) (z7 (mtup (z7 (mc (.int 2)) (z7 (mc (.int 1)) (z7 (mc (.int 0)) anil)))) (z7 (mtup (z7 (mc (.int 2)) (z7 (mlen (bvar 3)) (z7 (mc (.int 0)) anil)))) (z7 (mtup (z7 (mc (.int 2)) (z7 (mc (.int 0)) (z7 (mc (.int 0)) anil)))) anil)))))))) (.tp [8,4,9]) R4) yy8)
noncomputable def yy6:MW:=(Y2 (yf8 5 (D8 c7 (z7 (mvar 2) anil))) (Y2 (wS (E4 6 (m2m ixLD (zf9 (d8 (mpu (mc (.int 0))) (d8 (mpu (mc (.int 1))) (d8 (mpu (mc (.int 9))) (d8 (mpu (m2 powD (mc (.int 10)) (mc (.int 29)))) (d8 (m9 Z6 1 (apu (z7 (m2 powD (mc (.int 10)) (mc (.int 9))) anil))) (apu anil))))))) (m9 Z6 1 (apu (z7 (mc (.int 5)) anil)))))) (Y2 (wS (mset 7 (mlst (t7 (z7 (mtup (z7 (mc (.int 0)) (z7 (mc (.int 0)) (z7 (mc (.int 0)) anil)))) (z7 (mtup (z7 (mc (.int 0)) (z7 (m1 negD (mc (.int 1))) (z7 (mc (.int 0)) anil)))) (z7 (mtup (z7 (mc (.int 0)) (z7 (m2 subD (m1 negD (mc (.int 1))) (mvar 6)) (z7 (mc (.int 0)) anil)))) (z7 (mtup (z7 (mc (.int 1)) (z7 (mc (.int 5)) (z7 (m1 negD (mc (.int 1))) anil)))) (z7 (mtup (z7 (mc (.int 1)) (z7 (mvar 6) (z7 (m2 subD (m1 negD (mc (.int 1))) (mvar 6)) anil)))) (z7 (mtup (z7 (mc (.int 1)) (z7 (m2 subD (m1 negD (mc (.int 1))) (mvar 6)) (z7 (m1 negD (mc (.int 1))) anil)))) anil)))))))))) (Y2 (wS (mset 7 (mlst (mcat (bvar 7) (t7 (z7 (mtup (z7 (mc (.int 2)) (z7 (m1 negD (mc (.int 1))) (z7 (mc (.int 0)) anil)))) (z7 (mtup (z7 (mc (.int 2)) (z7 (m2 subD (m1 negD (mc (.int 1))) (mvar 6)) (z7 (mc (.int 0)) anil)))) (z7 (mtup (z7 (mc (.int 2)) (z7 (m2 addD (mlen (bvar 3)) (mc (.int 1))) (z7 (mc (.int 0)) anil)))) (z7 (mtup (z7 (mc (.int 2)) (z7 (m2 addD (m2 addD (mlen (bvar 3)) (mc (.int 1))) (mvar 6)) (z7 (mc (.int 0)) anil)))) anil))))))))) (Y2 (zx4 (k7 (mvar 7)) (.tp [8,4,9]) G1) yy7)))))
noncomputable def A9:MW:=(Y2 (wS (E4 3 (m9 yn9 1 (apu (z7 (mc (.int 12)) anil))))) (Y2 (zx4 (k7 (mvar 3)) (.nm 4) G2) yy6))
noncomputable def zz0:MS:=(lowS (yz0 2 "Grown" w9 (d8 (m9 yu4 1 (apu anil)) (apu anil)) A9))
noncomputable def yc8:MS:=(mseq (ye4 (yz5 T7 (z7 (mlst (mcut (bvar 0) B4 (F7 (mc (.int 4))))) anil)) 1 zz0) (mret (mc (.bl true))))
noncomputable def ze3:MF:=runB 10 yc8
end
end
section
theorem xi1 (i j:Int):eqS (.int i) (.int j)=some (i==j):=rfl
theorem xi3 (i j:Bool):eqS (.bl i) (.bl j)=some (i==j):=rfl
theorem xj6 (i j:Str):eqS (.str i) (.str j)=some (i==j):=rfl
theorem xj7:eqS .non .non=some true:=rfl
theorem xj9 (j:Bool):eqS .non (.bl j)=some false:=rfl
theorem xi2 (j:Bool):eqS (.bl j) .non=some false:=rfl
theorem xj8 (j:Int):eqS .non (.int j)=some false:=rfl
theorem xi0 (j:Int):eqS (.int j) .non=some false:=rfl
local macro_rules|`(tactic|simp_arith [$ls,*])=>`(tactic|simp(config:={decide:=true,implicitDefEqProofs:=false}) only[runB,v3,map_cons,map_nil,length_cons,length_nil,List.replicate,cons_append,nil_append,mvar,bvar,mc,mlst,k7,m2,v7,subD,mulD,yk2,modD,powD,ltD,leD,gtD,geD,eqSD,neSD,xi1,xi3,xj6,xj7,xj9,xi2,xj8,xi0,m1,negD,notD,mtru,truD,cor,mite,anil,z7,t7,mtup,mlen,mix,B4,F7,mcut,mcat,addD,D1,ye7,ze0,two2,intF,W6,mseq,mif,zs0,mset,P3,P6,mret,zq6,yo7,mapp,T6,V5,masg,xe1,Y3,zd4,cyes,Z5,meqB,int2,bl2,tgD,zz9,Option.bind_some,Option.map_some,Option.bind_none,Option.map_none,getElem?_cons_zero,getElem?_cons_succ,set_cons_zero,set_cons_succ,isEmpty_cons,isEmpty_nil,Bool.not_true,Bool.not_false,$ls,*])
noncomputable def stir (c k:Int):Int:=if 10^18<=c then (c-10^18) / 2^(28*k).toNat % 2^28 else
 (((c+1013*k+1)*16807 % 2147483647)*((c+1013*k+1)*16807 % 2147483647) % 2147483629)*39373 % 2147483587 / 8
theorem zq2 (i j:Int)(h1:-(2^64)<j)(h2:j<2^64):E3 i j=true:=by
 unfold E3;simp only[h1,h2,decide_true,Bool.and_self,Bool.or_true]
theorem yo3 (i j:Int)(h1:-(2^64)<i)(h2:i<2^64):E3 i j=true:=by
 unfold E3;simp only[h1,h2,decide_true,Bool.and_self,Bool.true_or]
theorem N0 (i j:Int)(h:0<j):zf8 i j=true:=by unfold zf8;simp only[h,decide_true]
theorem seqI {x y:MS}{ρ ρ':Ro}{o:Option Out}(h:x ρ=some (.nx ρ'))(h2:y ρ'=o):mseq x y ρ=o:=by
 unfold mseq;rw[h];exact h2
noncomputable def xy3 {α:Type}(I:List α->Ro->Prop)(Q:Out->Prop)(ds:List α):Out->Prop
 | .nx ρ=>I ds ρ| .ct ρ=>I ds ρ| .bk ρ=>Q (.nx ρ)| .rt d=>Q (.rt d)| .rf es=>Q (.rf es)| .rp d es=>Q (.rp d es)| .rg d p r=>Q (.rg d p r)| .rgf d p r=>Q (.rgf d p r)
theorem zw5 {j:Type}{g:Tg}{body:MS}{f:j->D}(I:List j->Ro->Prop)(Q:Out->Prop)
  (z:∀ d ds ρ,I (d::ds) ρ->∃ ρ1 o,tgD g (f d) ρ=some ρ1/\body ρ1=some o/\xy3 I Q ds o) (hd:∀ ρ,I [] ρ->Q (.nx ρ)):
  ∀(ds:List j)(ρ:Ro),I ds ρ->∃ o,forD g body (ds.map f) ρ=some o/\Q o
 |[],ρ,h=>⟨.nx ρ,rfl,hd ρ h⟩
 |d::ds,ρ,h=>by
  obtain⟨ρ1,o,h1,h2,i⟩:=z d ds ρ h
  rw[map_cons]
  unfold forD
  rw[h1]
  simp only[h2]
  cases o with
  |nx ρ2=>exact zw5 I Q z hd ds ρ2 i
  |ct ρ2=>exact zw5 I Q z hd ds ρ2 i
  |bk ρ2=>exact⟨_,rfl,i⟩
  |rt d=>exact⟨_,rfl,i⟩
  |rf d=>exact⟨_,rfl,i⟩
  |rp d es=>exact⟨_,rfl,i⟩
  |rg d p r=>exact⟨_,rfl,i⟩
  |rgf d p r=>exact⟨_,rfl,i⟩
theorem T9 {j:Type}{g:Tg}{c:MB}{i:ME}{f:j->D}{G:j->D}(I:List j->Ro->Prop)
  (z:∀ d ds ρ,I (d::ds) ρ->∃ ρ1,tgD g (f d) ρ=some ρ1/\c ρ1=some true/\i ρ1=some (G d)/\I ds ρ1):
  ∀(ds:List j)(ρ:Ro)(acc:List D),I ds ρ->acc.length+ds.length<=sizeLine->S0 g c i (ds.map f) ρ acc=some (acc++ds.map G)
 |[],ρ,acc,h,hl=>by simp[S0]
 |d::ds,ρ,acc,h,hl=>by
  obtain⟨ρ1,h1,h2,M,L⟩:=z d ds ρ h
  rw[map_cons]
  unfold S0
  rw[h1]
  simp only[h2,M]
  rw[length_cons]at hl
  rw[if_pos (by omega),T9 I z ds ρ1 _ L (by simp;omega)]
  simp
noncomputable def cutI {α:Type}(xs:List α)(lo hi:Option Int):List α:=(xs.drop (HT.sIx xs.length 0 lo)).take (HT.sIx xs.length xs.length hi-HT.sIx xs.length 0 lo)
theorem A6 {i:Type}(f:i->D)(xs:List i)(lo hi:Option Int):cutL (xs.map f) lo hi=(cutI xs lo hi).map f:=by
 unfold cutL cutI;rw[length_map,<-map_drop,<-map_take]
theorem yk8 {i:Type}(xs:List i)(k:Nat):cutI xs none (some (k:Int))=xs.take k:=by
 unfold cutI
 rw[HT.sIx_nat,HT.sIx_none]
 simp
theorem zp4 {i:Type}(f:i->D)(xs:List i)(k:Int)(z:0<=k)(h1:k<xs.length)(dflt:i):atI (xs.map f) k=some (f (xs.getD k.toNat dflt)):=by
 unfold atI ixN
 rw[length_map,if_pos z,if_pos h1]
 have j:k.toNat<xs.length:=by omega
 simp[getElem?_map,j]
theorem U6 {n:Nat}{m:MS}{ds:List D}{d:D}(h:m (v3 n ds)=some (.rt d)):runB n m ds=some (.sh d):=by unfold runB;rw[h]
theorem zg0 {n:Nat}{m:MS}{ds:List D}{d:List D}(h:m (v3 n ds)=some (.rf d)):runB n m ds=some (.fr d):=by unfold runB;rw[h]
theorem xy8 {n:Nat}{m:MS}{ds:List D}{ρ:Ro}(h:m (v3 n ds)=some (.nx ρ)):runB n m ds=some (.sh .non):=by unfold runB;rw[h]
noncomputable def after (rest:MS):Out->Option Out
 | .nx ρ=>rest ρ| .bk ρ=>some (.bk ρ)| .ct ρ=>some (.ct ρ)| .rt d=>some (.rt d)| .rf d=>some (.rf d)| .rp d es=>some (.rp d es)| .rg d p r=>some (.rg d p r)| .rgf d p r=>some (.rgf d p r)
theorem Z2 {x y:MS}{ρ:Ro}{o:Out}(h:x ρ=some o):mseq x y ρ=after y o:=by
 unfold mseq;rw[h];cases o <;> rfl
theorem ya5 (i j:Int):(if j<i then j else i)=min i j:=by omega
theorem m6:1000000<=sizeLine:=by rw[show sizeLine=2^24 from rfl];decide
theorem u8 {n:Nat}(h:n<=1000000):n<=sizeLine:=Nat.le_trans h m6
theorem zt3 (j n:Nat)(h:j<n):List.range' j (n-j)=j::List.range' (j+1) (n-(j+1)):=by
 have:n-j=(n-(j+1))+1:=by omega
 rw[this,range'_succ]
theorem zk0 {x n:Int}(hn:0<n):0<=x % n/\x % n<n:=⟨Int.emod_nonneg _ (by omega),Int.emod_lt_of_pos _ hn⟩
def Run (m:MS)(ρ:Ro)(R:Out->Prop):Prop:=∃ o,m ρ=some o/\R o
noncomputable def xh0 (rest:MS)(R:Out->Prop):Out->Prop
 | .nx ρ=>Run rest ρ R| .bk ρ=>R (.bk ρ)| .ct ρ=>R (.ct ρ)| .rt d=>R (.rt d)| .rf d=>R (.rf d)| .rp d es=>R (.rp d es)| .rg d p r=>R (.rg d p r)| .rgf d p r=>R (.rgf d p r)
theorem n9 {x y:MS}{ρ ρ':Ro}{R:Out->Prop}(h:x ρ=some (.nx ρ'))(h2:Run y ρ' R):Run (mseq x y) ρ R:=by
 obtain⟨o,e,r⟩:=h2
 exact⟨o,seqI h e,r⟩
theorem S3 {x y:MS}{ρ:Ro}{R:Out->Prop}(h:Run x ρ (xh0 y R)):Run (mseq x y) ρ R:=by
 obtain⟨o,e,r⟩:=h
 cases o with
 |nx ρ'=>exact n9 e r
 |bk ρ'=>exact⟨_,Z2 e,r⟩
 |ct ρ'=>exact⟨_,Z2 e,r⟩
 |rt d=>exact⟨_,Z2 e,r⟩
 |rf d=>exact⟨_,Z2 e,r⟩
 |rp d es=>exact⟨_,Z2 e,r⟩
 |rg d j i=>exact⟨_,Z2 e,r⟩
 |rgf d j i=>exact⟨_,Z2 e,r⟩
theorem ys6 {i:Type}{mi:ML}{g:Tg}{body:MS}{ρ:Ro}{f:i->D}(ds:List i)(hi:mi ρ=some (ds.map f))(I:List i->Ro->Prop)(Q:Out->Prop)(z:I ds ρ)
  (j:∀ d ds ρ,I (d::ds) ρ->∃ ρ1,tgD g (f d) ρ=some ρ1/\Run body ρ1 (xy3 I Q ds)) (hd:∀ ρ,I [] ρ->Q (.nx ρ)):Run (mfor mi g body) ρ Q:=by
 obtain⟨o,e,q⟩:=zw5 (g:=g) (body:=body) I Q (fun d ds ρ h=>by obtain⟨ρ1,a,o,b,c⟩:=j d ds ρ h;exact⟨ρ1,o,a,b,c⟩) hd ds ρ z
 exact⟨o,by unfold mfor;rw[hi];exact e,q⟩
theorem B9 {mi:ML}{g:Tg}{body:MS}{ρ:Ro}{f:Nat->D}(n:Nat)(hi:mi ρ=some ((List.range n).map f))(I:Nat->Ro->Prop)(Q:Out->Prop)(N:I 0 ρ)
  (M:∀ j ρ,j<n->I j ρ->∃ ρ1,tgD g (f j) ρ=some ρ1/\Run body ρ1 (xy3 (fun(_:List Unit) ρ=>I (j+1) ρ) Q [])) (hd:∀ ρ,I n ρ->Q (.nx ρ)):Run (mfor mi g body) ρ Q:=by
 refine ys6 (List.range n) hi (I:=fun ks ρ=>∃ j,j<=n/\ks=List.range' j (n-j)/\I j ρ) (Q:=Q) ⟨0,by omega,by rw[range_eq_range'];rfl,N⟩ ?_ ?_
 .rintro d ds ρ ⟨j,hj,e,h⟩
  have G:j<n:=by
   rcases Nat.lt_or_ge j n with z|z
   .exact z
   .rw[show n-j=0 by omega]at e;cases e
  rw[zt3 j n G]at e
  obtain⟨e1,e2⟩:=List.cons.inj e
  subst e1
  obtain⟨ρ1,R,o,O,i⟩:=M d ρ G h
  refine⟨ρ1,R,o,O,?_⟩
  cases o with
  |nx r=>exact⟨d+1,by omega,e2,i⟩
  |ct r=>exact⟨d+1,by omega,e2,i⟩
  |bk r=>exact i
  |rt r=>exact i
  |rf r=>exact i
  |rp r r2=>exact i
  |rg r r2 L=>exact i
  |rgf r r2 L=>exact i
 .rintro ρ ⟨j,hj,e,h⟩
  have:n-j=0:=by
   rcases Nat.eq_zero_or_pos (n-j)with z|z
   .exact z
   .rw[zt3 j n (by omega)]at e;cases e
  have:j=n:=by omega
  subst this
  exact hd ρ h
theorem W9 {i:Nat}{m:MS}{ρ:Ro}{ds:List D}{R:Out->Prop}(h:ρ[i]? =some (some (.own ds)))(h2:Run m (ρ.set i (some (.sh (.lst ds)))) R):Run (V5 i m) ρ R:=by
 obtain⟨o,e,r⟩:=h2
 exact⟨o,by unfold V5;rw[h];exact e,r⟩
theorem yb4 {c:MB}{x y:MS}{ρ:Ro}{R:Out->Prop}{b:Bool}(h:c ρ=some b)(h2:Run (if b then x else y) ρ R):Run (mif c x y) ρ R:=by
 obtain⟨o,e,r⟩:=h2
 refine⟨o,?_,r⟩
 unfold mif;rw[h]
 cases b <;> exact e
theorem yh6 {ρ:Ro}{R:Out->Prop}(h:R (.nx ρ)):Run W6 ρ R:=⟨_,rfl,h⟩
theorem xk3 {x:Int}(h:0<=x):∃ n:Nat,x=n:=⟨x.toNat,by omega⟩
theorem G6 (lo:Int)(n:Nat):R7 lo n=(List.range n).map fun(i:Nat)=>D.int (lo+(i:Int)):=rfl
theorem yr3 (n:Nat):R7 0 n=((List.range n).map fun(i:Nat)=>(i:Int)).map .int:=by
 rw[G6,map_map]
 apply map_congr_left
 intro i _
 simp
theorem D5 {j:Int}(h1:-(2^62)<=j)(h2:j<2^62):okR j=true:=by unfold okR;simp only[h1,h2,decide_true,Bool.and_self]
theorem yr1 {j:Int}(h:okR j=true):rng1 [.int j]=some (R7 0 j.toNat):=by
 unfold rng1
 simp only[h,if_true]
theorem yr0 {i j:Int}(h:okR i=true)(h2:okR j=true):rng2 [.int i,.int j]=some (R7 i (j-i).toNat):=by
 unfold rng2
 simp only[h,h2,Bool.and_self,if_true]
theorem zj3 (i j:Int)(h:0<j)(h2:j<1073741824):zj4 i j=true:=by unfold zj4;simp only[h,h2,decide_true,Bool.and_self]
theorem zw6:∀(j:List Int)(k:Nat),zw7 k (j.map .int)=(List.range j.length).map fun(i:Nat)=>D.tup [.int ((k+i:Nat):Int),.int (j.getD i 0)]
 |[],k=>rfl
 |x::j,k=>by
  rw[map_cons,zw7,zw6 j (k+1),length_cons,range_succ_eq_map,map_cons,map_map]
  congr 1
  apply map_congr_left
  intro i _
  simp only[Function.comp,Nat.succ_eq_add_one,getD_cons_succ]
  rw[show k+1+i=k+(i+1)by omega]
theorem xt7 (ds:List D):eqFD true (.lst ds) (.lst [])=some (.bl (!ds.isEmpty)):=by
 unfold eqFD eqF
 cases ds with
 |nil=>rfl
 |cons d ds=>rfl
theorem yy3 {i:Type}(xs:List i)(lo hi:Option Int):(cutI xs lo hi).length<=xs.length:=by
 unfold cutI;rw[length_take,length_drop];omega
theorem zc7 (n:Nat):∀ xs:List Int,zipE (eqF (n+1)) (xs.map .int) (xs.map .int)=some true
 |[]=>rfl
 |x::xs=>by
  rw[map_cons,zipE,zc7 n xs]
  show (some (x==x)).bind _=_
  rw[beq_self_eq_true];rfl
theorem ya8 (n:Nat)(xs:List Int):eqF (n+2) (.lst (xs.map .int)) (.lst (xs.map .int))=some true:=by
 show (if _=_ then zipE (eqF (n+1)) (xs.map .int) (xs.map .int)else some false)=_
 rw[if_pos rfl,zc7]
theorem zr3 {n:Nat}{m:MS}{ds:List D}{d:D}(h:Run m (v3 n ds) (fun o=>o= .rt d)):runB n m ds=some (.sh d):=by
 obtain⟨o,e,rfl⟩:=h
 exact U6 e
theorem ye5 {f:MF}{m:ML}{ρ:Ro}{ds es:List D}(h:m ρ=some ds)(h2:f ds=some (.fr es)):Z5 f m ρ=some (.lst es):=by
 unfold Z5;rw[h];show (match f ds with |some (.sh d)=>some d|some (.fr es)=>some (D.lst es)|some (.pr d es)=>some (.tup [d,.lst es])|none=>none)=_;rw[h2]
theorem j9 {f:MF}{m:ML}{ρ:Ro}{ds:List D}{d:D}(h:m ρ=some ds)(h2:f ds=some (.sh d)):Z5 f m ρ=some d:=by
 unfold Z5;rw[h];show (match f ds with |some (.sh d)=>some d|some (.fr es)=>some (D.lst es)|some (.pr d es)=>some (.tup [d,.lst es])|none=>none)=_;rw[h2]
theorem z6 {x:ME}{r:ML}{ρ:Ro}{d:D}{ds:List D}(h:x ρ=some d)(h2:r ρ=some ds):z7 x r ρ=some (d::ds):=by
 unfold z7;rw[h,h2];rfl
theorem y9 {ρ:Ro}:anil ρ=some []:=rfl
theorem yx3 (j:List Int)(i:Nat)(h:i<j.length):atI (j.map D.int) (i:Int)=some (.int (j.getD i 0)):=by
 have:=zp4 D.int j (i:Int) (by omega) (by omega) 0
 rw[Int.toNat_natCast]at this
 exact this
theorem zw8 (j:List Int)(i:Nat)(h:i<j.length):j.drop i=j.getD i 0::j.drop (i+1):=by
 rw[drop_eq_getElem_cons h]
 simp[h]
theorem ye1 {m:ML}{ρ:Ro}{x:Int}{r:List Int}(h:m ρ=some ((x::r).map .int)):yn0 m ρ=some (.int (maxI (x::r))):=by
 unfold yn0;rw[h];simp only[J5]
theorem yb1 {x y:ME}{ρ:Ro}{i j:Int}(h1:x ρ=some (.int i))(h2:y ρ=some (.int j)):v7 (m2 ltD x y) ρ=some (decide (i<j)):=by
 unfold v7 m2;rw[h1,h2];rfl
theorem U5 {i:Type}{g:Tg}{c:MB}{j:ME}{f:i->D}{p:i->Bool}{G:i->D}(I:List i->Ro->Prop)
  (z:∀ d ds ρ,I (d::ds) ρ->∃ ρ1,tgD g (f d) ρ=some ρ1/\c ρ1=some (p d)/\(p d=true->j ρ1=some (G d))/\I ds ρ1):
  ∀(ds:List i)(ρ:Ro)(acc:List D),I ds ρ->acc.length+ds.length<=sizeLine->S0 g c j (ds.map f) ρ acc=some (acc++(ds.filter p).map G)
 |[],ρ,acc,h,hl=>by simp[S0]
 |d::ds,ρ,acc,h,hl=>by
  obtain⟨ρ1,h1,h2,M,L⟩:=z d ds ρ h
  rw[length_cons]at hl
  rw[map_cons]
  unfold S0
  rw[h1]
  simp only[h2]
  cases hp:p d with
  |false=>
   simp only
   rw[U5 I z ds ρ1 acc L (by omega),filter_cons,hp]
   rfl
  |true=>
   simp only[M hp]
   rw[if_pos (by omega),U5 I z ds ρ1 _ L (by simp;omega),filter_cons,hp]
   simp
theorem xs3 {m:ML}{ρ:Ro}{ds:List D}(h:m ρ=some ds):v7 (meqB true m (t7 anil)) ρ=some (!ds.isEmpty):=by
 have i:0<=sizeLine:=Nat.zero_le _
 have e:t7 anil ρ=some []:=by simp_arith [i,if_true]
 unfold v7 meqB
 rw[h,e]
 simp only[Option.bind_some,xt7]
theorem yk9 {x y:MB}{ρ:Ro}{a b:Bool}(h1:x ρ=some a)(h2:y ρ=some b):cor x y ρ=some (a || b):=by
 unfold cor;rw[h1];cases a <;> simp[h2]
theorem Y0 {i:Nat}{x:ME}{ρ:Ro}{d:D}(h:x ρ=some d):mset i x ρ=some (.nx (ρ.set i (some (.sh d)))):=by unfold mset;rw[h];rfl
theorem l9 {m:ML}{ρ:Ro}{ds:List D}(h:m ρ=some ds):mlst m ρ=some (.lst ds):=by unfold mlst;rw[h];rfl
theorem u5 {m:ML}{ρ:Ro}{ds:List D}(h:m ρ=some ds)(i:ds.length<=sizeLine):t7 m ρ=some ds:=by
 unfold t7;rw[h];show (if ds.length<=sizeLine then some ds else none)=_;rw[if_pos i]
theorem D6 {m:ML}{i:ME}{ρ:Ro}{ds:List D}{k:Int}{d:D}(h1:m ρ=some ds)(h2:i ρ=some (.int k))(j:atI ds k=some d):mix m i ρ=some d:=by
 unfold mix;rw[h1,h2];exact j
theorem g0 {m:ME}{ρ:Ro}{ds:List D}(h:m ρ=some (.lst ds)):k7 m ρ=some ds:=by unfold k7;rw[h]
theorem E6 {x y:ML}{ρ:Ro}{ds es:List D}(h1:x ρ=some ds)(h2:y ρ=some es)(i:ds.length+es.length<=sizeLine):mcat x y ρ=some (ds++es):=by
 unfold mcat;rw[h1,h2];show (if ds.length+es.length<=sizeLine then some (ds++es)else none)=_;rw[if_pos i]
theorem S9 {m:ML}{ρ:Ro}{ds:List D}(h:m ρ=some ds)(i:ds.length<=sizeLine):mtup m ρ=some (.tup ds):=by
 unfold mtup;rw[u5 h i];rfl
theorem R0 {x:ME}{ρ:Ro}{d:D}(h:x ρ=some d):mret x ρ=some (.rt d):=by unfold mret;rw[h];rfl
section
open PySem L2
theorem Q2 {c:MB}{x y:MS}{ρ:Ro}{b:Bool}(h:c ρ=some b):mif c x y ρ=(if b then x else y) ρ:=by unfold mif;rw[h];cases b <;> rfl
theorem yt5 {c:MB}{x y:MXs}{ρ:Ro}{b:Bool}(h:c ρ=some b):xif c x y ρ=(if b then x else y) ρ:=by unfold xif;rw[h];cases b <;> rfl
theorem yz2 {x:ME}{ρ:Ro}{d:D}(h:x ρ=some d):P6 x ρ=some (.nx ρ):=by unfold P6;rw[h];rfl
theorem yz1 {x:ME}{ρ:Ro}(h:x ρ=none):P6 x ρ=none:=by unfold P6;rw[h];rfl
theorem yz4 {f:MF}{m:ML}{ρ:Ro}{ds:List D}(h:m ρ=some ds)(h2:f ds=none):Z5 f m ρ=none:=by unfold Z5;rw[h];show (match f ds with |some (.sh d)=>some d|some (.fr es)=>some (.lst es)|some (.pr d es)=>some (.tup [d,.lst es])|none=>none)=_;rw[h2]
theorem zb0 {x:MFX}{m:ML}{ρ:Ro}{ds:List D}{c:Str}(h:m ρ=some ds)(h2:x ds=some c):yx9 x m ρ=some c:=by unfold yx9;rw[h];exact h2
theorem xr5 {x:MXe}{ρ:Ro}{c:Str}(h:x ρ=some c):xE x ρ=some (c,ρ):=by unfold xE;rw[h];rfl
theorem zy0 {n:Nat}{x:MXs}{ds:List D}{c:Str}{ρ:Ro}(h:x (v3 n ds)=some (c,ρ)):runX n x ds=some c:=by unfold runX;rw[h];rfl
theorem zz3 {c:Str}{m:ML}{ρ:Ro}{ds:List D}(h:m ρ=some ds):zz4 c m ρ=some (c,ρ):=by unfold zz4;rw[h];rfl
theorem ys8 {n:Nat}{m:MS}{ds:List D}(h:m (v3 n ds)=none):runB n m ds=none:=by unfold runB;rw[h]
theorem xu0 {tab:List (Str×Bool)}{m:ME}{ρ:Ro}{c:Str}{k:Bool}(h:m ρ=some (.exc c))(h2:tab.lookup c=some k):misX tab m ρ=some (.bl k):=by unfold misX;rw[h];simp only[h2];rfl
theorem yw1 {x:ME}{ρ:Ro}{i k:Int}(h:x ρ=some (.int i)):v7 (m2 eqSD x (mc (.int k))) ρ=some (i==k):=by unfold v7 m2 mc;rw[h];rfl
theorem zo2 {x y:ME}{ρ:Ro}{i k:Int}(h:x ρ=some (.int i))(h2:y ρ=some (.int k)):v7 (m2 ltD x y) ρ=some (decide (i<k)):=by unfold v7 m2;rw[h,h2];rfl
end
section
open PySem L2
def far (s:Int)(d:Bool)(a b:Int):Prop:=if d then s<=b-a else s<=a-b
noncomputable instance (s:Int) (d:Bool) (a b:Int):Decidable (far s d a b):=by unfold far;exact inferInstance
variable {x:Nat->Int}{n:Nat}{s:Int}
end
section
open PySem L2
noncomputable def dN (p:Nat):D:=.int (p:Int)
noncomputable def L (l:List Nat):D:=.lst (l.map dN)
noncomputable abbrev xr (η:List Int):Nat->Int:=fun i=>η.getD i 0
theorem yb2 {x y:ME}{ρ:Ro}{i j:Int}(h1:x ρ=some (.int i))(h2:y ρ=some (.int j)):v7 (m2 geD x y) ρ=some (decide (j<=i)):=by
 unfold v7 m2;rw[h1,h2];rfl
theorem P5 {m:ML}{ρ:Ro}{ds:List D}(h:m ρ=some ds):mlen m ρ=some (.int ds.length):=by unfold mlen;rw[h];rfl
theorem at_L (U:List (List Nat))(p:Nat)(h:p<U.length):atI (U.map L) (p:Int)=some (L (U.getD p [])):=by
 have:=zp4 L U (p:Int) (by omega) (by omega) []
 rw[Int.toNat_natCast]at this
 exact this
theorem ym4 (n p:Nat)(h:p<n):ixN n (p:Int)=some p:=by
 unfold ixN
 rw[if_pos (by omega),if_pos (by omega),Int.toNat_natCast]
end
section
open PySem L2
theorem X1 (step:Int)(h:1<=step):J1 [.int step]=some (.sh .non):=by
 have:¬ step<1:=by omega
 unfold J1 b_Z17
 simp_arith [this,decide_false]
noncomputable def turn (t:Int×Int×Int):Bool:=decide (max t.1 t.2.2<t.2.1) || decide (t.2.1<min t.1 t.2.2)
noncomputable def NI (cs:List Nat):List Int:=cs.map fun(c:Nat)=>(c:Int)
end
section
open PySem L2
theorem ys9 {j:Int}(h:okR j=true):rngD [.int j]=some (zp0 j.toNat):=by
 unfold rngD
 simp only[h,if_true]
end
section
open PySem L2
theorem R6 (w:Int)(h:0<=w):m_Z7 [.int w]=some (.sh .non):=by
 have:¬ w<0:=by omega
 unfold m_Z7 b_Z7
 simp_arith [this,decide_false]
theorem G5 (i ws:List Int)(hw:ws.length=i.length)(G:∀ x∈ws,0<=x):m_Z3 [.lst (i.map .int),.lst (ws.map .int)]=some (.sh .non):=by
 unfold m_Z3 b_Z3
 suffices h:Run _ (v3 3 [.lst (i.map .int),.lst (ws.map .int)]) (fun o=>∃ ρ,o= .nx ρ)by
  obtain⟨o,e,ρ,rfl⟩:=h
  exact xy8 e
 ((apply n9;focus (simp_arith [length_map,hw,beq_self_eq_true,Bool.not_true];rfl)))
 refine ys6 ws (f:=D.int) (by simp_arith []) (I:=fun ys ρ=>(∀ x∈ys,0<=x)/\∃ j,ρ=[k0a i,k0a ws,j]) _ ⟨G,_,rfl⟩ ?_ ?_
 .rintro x ys ρ ⟨hx,j,rfl⟩
  refine⟨_,rfl,?_⟩
  unfold yj9
  refine⟨_,by simp_arith [R6 x (hx x (by simp))];rfl,?_⟩
  exact⟨fun y z=>hx y (by simp[z]),_,rfl⟩
 .rintro ρ ⟨_,j,rfl⟩
  exact⟨_,rfl⟩
end
section
open PySem L2
noncomputable def gn (up:Bool)(x b:Int):Int:=if up then x-b else b-x
noncomputable def fb (up:Bool)(s:Int):Int->List Int->Nat
 |_,[]=>0
 |b,x::r=>if gn up x b<= -s then 0 else fb up s (if 0<gn up x b then x else b) r+1
noncomputable def fbs (up:Bool)(s:Int):List Int->Nat
 |[]=>0
 |x::r=>fb up s x (x::r)
theorem xt1 (i:Bool)(x:Int):gn i x x=0:=by unfold gn;split <;> omega
theorem xt6 (i:Bool)(s x:Int)(r:List Int)(j:1<=s):fb i s x (x::r)=fb i s x r+1:=by
 rw[fb,xt1,if_neg (by omega),if_neg (by omega)]
noncomputable def kd (up:Bool):Str:=if up then "up" else "down"
theorem ud:(("up":Str)==("down":Str))=false:=by decide
theorem dd:(("down":Str)==("down":Str))=true:=by decide
theorem yc3 (j:Bool)(s:Int)(i:List Int)(st:Nat):fbs j s (i.drop st)=fb j s (i.getD st 0) (i.drop st):=by
 by_cases h:st<i.length
 .rw[zw8 i st h];rfl
 .rw[drop_eq_nil_of_le (by omega)];rfl
noncomputable def envB (η:List Int)(s:Int)(up:Bool)(st e:Nat)(o5 o6:Option S):Ro:=[k0a η,k0c s,some (.sh (.str (kd up))),k0b st,k0b e,o5,o6]
theorem U8 (z:List Int)(s:Int)(G:Bool)(st:Nat)(a0:st<=z.length)(hr:z.length<=1000):
  zk5 [.lst (z.map .int),.int s,.str (kd G),.int (st:Int)]=some (.sh (.int ((st+fbs G s (z.drop st):Nat):Int))):=by
 unfold zk5 b_Z16
 refine zr3 ?_
 ((apply n9;focus (simp_arith [];rfl)))
 have k1:okR (st:Int)=true:=D5 (by omega) (by omega)
 have k2:okR (z.length:Int)=true:=D5 (by omega) (by omega)
 have er:R7 (st:Int) ((z.length:Int)-(st:Int)).toNat=(List.range (z.length-st)).map fun(j:Nat)=>D.int ((st+j:Nat):Int):=by
  rw[G6,show ((z.length:Int)-(st:Int)).toNat=z.length-st by omega]
  apply map_congr_left
  intro i _
  congr 1
 refine S3 (B9 (z.length-st) (f:=fun(j:Nat)=>D.int ((st+j:Nat):Int)) (by simp_arith [length_map,yr0 k1 k2,er])
  (I:=fun j ρ=>∃(e:Nat)(R O:Option S),(j<z.length-st->e<z.length)/\st+fbs G s (z.drop st)=st+j+fb G s (z.getD e 0) (z.drop (st+j))/\ρ=envB z s G st e R O) _ ⟨st,none,none,by omega,by rw[yc3];rfl,rfl⟩ ?_ ?_)
 .rintro j ρ hj ⟨e,R,O,L,ht,rfl⟩
  have L:=L hj
  have Y:st+j<z.length:=by omega
  have a1:=yx3 z (st+j) Y
  have a2:=yx3 z e L
  rw[zw8 z (st+j) Y,fb]at ht
  generalize U:z.getD (st+j) 0=x at a1 ht
  generalize Z:z.getD e 0=b at a2 ht
  refine⟨_,rfl,?_⟩
  unfold yx0 envB
  ((apply n9;focus (simp_arith [a1,a2];rfl)))
  refine n9 (ρ':=envB z s G st e (some (.sh (.int ((st+j:Nat):Int)))) (some (.sh (.int (gn G x b))))) ?_ ?_
  .unfold envB
   cases G
   .have:gn false x b= -(x-b):=by unfold gn;simp;omega
    rw[this]
    simp_arith [kd,dd,Bool.false_eq_true,if_false]
   .have:gn true x b=x-b:=rfl
    rw[this]
    simp_arith [kd,ud,if_true]
  unfold envB
  by_cases N:gn G x b<= -s
  .rw[if_pos N]at ht
   refine S3 ⟨.rt (.int ((st+j:Nat):Int)),by simp_arith [N,decide_true],?_⟩
   show Out.rt _=Out.rt _
   rw[ht];rfl
  .rw[if_neg N]at ht
   ((apply n9;focus (simp_arith [N,decide_false];rfl)))
   by_cases M:0<gn G x b
   .rw[if_pos M]at ht
    refine⟨_,by simp_arith [M,decide_true];rfl,?_⟩
    refine⟨st+j,_,_,fun _=>Y,?_,rfl⟩
    rw[U,ht,show st+(j+1)=st+j+1 by omega];omega
   .rw[if_neg M]at ht
    refine⟨_,by simp_arith [M,decide_false];rfl,?_⟩
    refine⟨e,_,_,fun _=>L,?_,rfl⟩
    rw[Z,ht,show st+(j+1)=st+j+1 by omega];omega
 .rintro ρ ⟨e,R,O,L,ht,rfl⟩
  refine⟨_,by unfold envB;simp_arith [length_map];rfl,?_⟩
  rw[show st+(z.length-st)=z.length by omega,drop_length,fb]at ht
  rw[ht];rfl
theorem xq5 (i:Bool):tabD tab_OTHER_KIND (.str (kd i))=some (.str (kd (!i))):=by
 have h:tab_OTHER_KIND.lookup (kd i)=some (kd (!i)):=by cases i <;> decide +kernel
 show (tab_OTHER_KIND.lookup (kd i)).map D.str=_
 rw[h];rfl
noncomputable def yj2 (s:Int)(η:List Int):Nat->Bool->Nat->List Nat
 |0,_,_=>[]
 |f+1,k,c=>if c<η.length then c::yj2 s η f (!k) (c+fbs k s (η.drop c))else []
theorem xt5 (k:Bool)(s:Int)(j:1<=s)(i:List Int)(c:Nat)(h:c<i.length):1<=fbs k s (i.drop c):=by
 rw[zw8 i c h]
 show 1<=fb k s (i.getD c 0) (i.getD c 0::i.drop (c+1))
 rw[xt6 k s _ _ j]
 omega
noncomputable def envQ (η:List Int)(s fall rise:Int)(k0 k:Bool)(cs:List Nat)(c:Nat):Ro:=[k0a η,k0c s,k0c fall,k0c rise,some (.sh (.str (kd k0))),some (.sh (.str (kd k))),some (.own ((NI cs).map .int)),k0b c]
theorem xv9 (z:List Int)(s:Int)(M:z.length<=300)(j i:Int)(k0 k:Bool)(G:List Nat)(c:Nat)(O:c<z.length)(N:G.length<=c):
  zz1 (envQ z s j i k0 k G c)=some (.nx (envQ z s j i k0 (!k) (G++[c]) (c+fbs k s (z.drop c)))):=by
 have L:=m6
 unfold zz1
 refine seqI (ρ':=envQ z s j i k0 k (G++[c]) c) ?_ ?_
 .have l2:((NI G).map D.int).length<sizeLine:=by unfold NI;simp;omega
  unfold envQ
  simp_arith [l2,if_true]
  unfold NI
  simp
 have I:Z5 zk5 (z7 (mvar 0) (z7 (mvar 1) (z7 (mvar 5) (z7 (mvar 7) anil)))) (envQ z s j i k0 k (G++[c]) c)=some (.int ((c+fbs k s (z.drop c):Nat):Int)):=
  j9 (z6 (d:=.lst (z.map .int)) rfl (z6 (d:=.int s) rfl (z6 (d:=.str (kd k)) rfl (z6 (d:=.int (c:Int)) rfl y9)))) (U8 z s k c (by omega) (by omega))
 refine seqI (ρ':=envQ z s j i k0 k (G++[c]) (c+fbs k s (z.drop c))) ((Y0 I).trans rfl) ?_
 unfold envQ
 simp_arith [xq5]
theorem zz5 (z:List Int)(s:Int)(N:1<=s)(O:z.length<=300)(j i:Int)(k0:Bool):∀(f:Nat)(k:Bool)(G:List Nat)(c:Nat),z.length-c<f->G.length<=c->
  ∃ L M,M9 (v7 (m2 ltD (mvar 7) (mlen (bvar 0)))) zz1 f (envQ z s j i k0 k G c)=some (.nx (envQ z s j i k0 L (G++yj2 s z f k c) M))
 |0,_,_,_,h,_=>by omega
 |f+1,k,G,c,h,hl=>by
  have R:v7 (m2 ltD (mvar 7) (mlen (bvar 0))) (envQ z s j i k0 k G c)=some (decide ((c:Int)<(z.length:Int))):=yb1 rfl (by unfold envQ;simp_arith [length_map])
  unfold M9
  rw[R]
  by_cases I:c<z.length
  .have hci:((c:Int)<(z.length:Int)):=by omega
   simp only[hci,decide_true]
   rw[xv9 z s O j i k0 k G c I hl]
   have hp:=xt5 k s N z c I
   obtain⟨L,M,e⟩:=zz5 z s N O j i k0 f (!k) (G++[c]) (c+fbs k s (z.drop c)) (by omega) (by simp;omega)
   refine⟨L,M,?_⟩
   simp only
   rw[e,yj2,if_pos I]
   simp
  .have hci:¬ ((c:Int)<(z.length:Int)):=by omega
   simp only[hci,decide_false]
   refine⟨k,c,?_⟩
   rw[yj2,if_neg I,append_nil]
noncomputable def zu5 (s:Int)(η:List Int):Nat:=fbs true s η
noncomputable def zu0 (s:Int)(η:List Int):Nat:=fbs false s η
noncomputable def E8 (s:Int)(η:List Int):Bool:=!decide (zu5 s η<zu0 s η)
noncomputable def cut0 (s:Int)(η:List Int):Nat:=min (zu5 s η) (zu0 s η)
noncomputable def yk7 (s:Int)(η:List Int):List Nat:=yj2 s η 1000 (E8 s η) (cut0 s η)
theorem xy7 {n:Nat}{m:MS}{ds es:List D}{d:D}(h:Run m (v3 n ds) (fun o=>o= .rp d es)):runB n m ds=some (.pr d es):=by
 obtain⟨o,e,rfl⟩:=h
 unfold runB;rw[e]
theorem zn7 (i:List Int)(s:Int)(j:1<=s)(L:i.length<=300):ze4 [.lst (i.map .int),.int s]=some (.pr (.str (kd (E8 s i))) ((NI (yk7 s i)).map .int)):=by
 unfold ze4 b_Z21
 refine xy7 ?_
 ((apply n9;focus (simp_arith [X1 s j];rfl)))
 have G:=U8 i s true 0 (Nat.zero_le _) (by omega)
 have z:=U8 i s false 0 (Nat.zero_le _) (by omega)
 rw[drop_zero,Nat.zero_add]at G z
 refine n9 ((Y0 (j9 (z6 (d:=.lst (i.map .int)) rfl (z6 (d:=.int s) rfl (z6 (d:=.str (kd true)) rfl (z6 (d:=.int ((0:Nat):Int)) rfl y9)))) G)).trans rfl) ?_
 refine n9 (ρ':=[k0a i,k0c s,some (.sh (.int (zu5 s i:Int))),some (.sh (.int (zu0 s i:Int))),none,none,none,none]) ((Y0 (j9 (z6 (d:=.lst (i.map .int)) rfl (z6 (d:=.int s) rfl (z6 (d:=.str (kd false)) rfl (z6 (d:=.int ((0:Nat):Int)) rfl y9)))) z)).trans rfl) ?_
 refine n9 (ρ':=[k0a i,k0c s,some (.sh (.int (zu5 s i:Int))),some (.sh (.int (zu0 s i:Int))),some (.sh (.str (kd (E8 s i)))),none,none,none]) ?_ ?_
 .by_cases h:zu5 s i<zu0 s i
  .have hi:(zu5 s i:Int)<(zu0 s i:Int):=by omega
   have hk:E8 s i=false:=by unfold E8;simp[h]
   rw[hk]
   simp_arith [hi,decide_true]
   rfl
  .have hi:¬ (zu5 s i:Int)<(zu0 s i:Int):=by omega
   have hk:E8 s i=true:=by unfold E8;simp[h]
   rw[hk]
   simp_arith [hi,decide_false]
   rfl
 ((apply n9;focus (simp_arith [];rfl)))
 have I:0<=sizeLine:=Nat.zero_le _
 ((apply n9;focus (simp_arith [I,if_true];rfl)))
 refine n9 (ρ':=envQ i s (zu5 s i) (zu0 s i) (E8 s i) (E8 s i) [] (cut0 s i)) ?_ ?_
 .have hm:min (zu5 s i:Int) (zu0 s i:Int)=((cut0 s i:Nat):Int):=by unfold cut0;omega
  simp_arith [ya5,hm]
  rfl
 obtain⟨M,N,e⟩:=zz5 i s j L (zu5 s i) (zu0 s i) (E8 s i) 1000 (E8 s i) [] (cut0 s i) (by omega) (by simp)
 refine n9 e ?_
 refine⟨_,?_,rfl⟩
 unfold yf9
 rfl
end
section
open PySem L2
theorem X7 {f:D->D->Option D}{x y:ME}{ρ:Ro}{a b:D}(h1:x ρ=some a)(h2:y ρ=some b):m2 f x y ρ=f a b:=by
 unfold m2;rw[h1,h2];rfl
theorem yz7 {i:Type}(f:Nat->i)(j:Nat):(List.range (j+1)).map f=(List.range j).map f++[f j]:=by
 rw[range_succ,map_append];rfl
noncomputable def abv (η:List Int)(s:Int)(d:Bool)(p:Nat):List Nat:=((List.range (η.length-(p+1))).map fun j=>p+1+j).filter fun q=>decide (far s d (xr η p) (xr η q))
theorem abv_mem {i:List Int}{s:Int}{d:Bool}{p q:Nat}:q∈abv i s d p↔p<q/\q<i.length/\far s d (xr i p) (xr i q):=by
 unfold abv
 rw[mem_filter,mem_map,decide_eq_true_eq]
 constructor
 .rintro⟨⟨j,hj,rfl⟩,h⟩
  have:=List.mem_range.mp hj
  exact⟨by omega,by omega,h⟩
 .rintro⟨h1,h2,h3⟩
  exact⟨⟨q-(p+1),List.mem_range.mpr (by omega),by omega⟩,h3⟩
theorem zv3 (i:List Int)(s:Int)(d:Bool)(p:Nat):(abv i s d p).length<=i.length:=by
 unfold abv
 refine Nat.le_trans (length_filter_le _ _) ?_
 rw[length_map,length_range];omega
noncomputable def zj5 (η:List Int)(s:Int)(A B:List (List Nat))(o4 o5:Option S):Ro:=[k0a η,k0c s,some (.own (A.map L)),some (.own (B.map L)),o4,o5]
theorem yh8 (z:List Int)(p:Nat)(G:z.length<=300)(hp:p<z.length):R7 ((p:Int)+1) ((z.length:Int)-((p:Int)+1)).toNat=((List.range (z.length-(p+1))).map fun j=>p+1+j).map dN:=by
 rw[G6,show ((z.length:Int)-((p:Int)+1)).toNat=z.length-(p+1)by omega,map_map]
 apply map_congr_left
 intro i _
 show D.int _=D.int _
 congr 1
theorem yx5 (i:List Int)(s:Int)(d:Bool)(p:Nat)(L:i.length<=300)(hp:p<i.length)(A B:List (List Nat))(z:MB)
  (M:∀ q:Nat,q<i.length->z [some (.sh (dN q)),k0c s,some (.sh (.int (xr i p))),k0a i]=some (decide (far s d (xr i p) (xr i q)))):
  U7 [none,some 1,some 5,some 0] (Y3 rng2 (z7 (m2 addD (mvar 4) (mc (.int 1))) (z7 (mlen (bvar 0)) anil))) (.nm 0) z (mvar 0) (zj5 i s A B (k0b p) (some (.sh (.int (xr i p)))))=some ((abv i s d p).map dN):=by
 have k1:okR ((p:Int)+1)=true:=D5 (by omega) (by omega)
 have k2:okR (i.length:Int)=true:=D5 (by omega) (by omega)
 have e1:Y3 rng2 (z7 (m2 addD (mvar 4) (mc (.int 1))) (z7 (mlen (bvar 0)) anil)) (zj5 i s A B (k0b p) (some (.sh (.int (xr i p)))))=some (((List.range (i.length-(p+1))).map fun j=>p+1+j).map dN):=by
  unfold zj5
  simp_arith [length_map,yr0 k1 k2,yh8 i p L hp]
 unfold U7
 rw[e1,Option.bind_some]
 show S0 _ _ _ _ [none,k0c s,some (.sh (.int (xr i p))),k0a i] []=_
 rw[U5 (f:=dN) (p:=fun q=>decide (far s d (xr i p) (xr i q))) (G:=dN) (fun qs ρ=>(∀ q∈qs,q<i.length)/\∃ o,ρ=[o,k0c s,some (.sh (.int (xr i p))),k0a i])
  (by
   rintro q qs ρ ⟨I,o,rfl⟩
   exact⟨_,rfl,M q (I q (by simp)),fun _=>rfl,fun r L=>I r (by simp[L]),_,rfl⟩) _ _ [] ⟨fun q I=>by
    obtain⟨j,N,rfl⟩:=List.mem_map.mp I
    have:=List.mem_range.mp N
    omega,_,rfl⟩ (u8 (by simp;omega)),nil_append]
 rfl
theorem N9 (z:List Int)(s:Int)(U:z.length<=300):ze5 [.lst (z.map .int),.int s]=some (.sh (.tup [.lst (((List.range z.length).map (abv z s true)).map L),.lst (((List.range z.length).map (abv z s false)).map L)])):=by
 unfold ze5 b_Z15
 refine zr3 ?_
 have a0:=m6
 have S:0<=sizeLine:=Nat.zero_le _
 have i2:2<=sizeLine:=u8 (by decide)
 refine n9 (ρ':=[k0a z,k0c s,some (.own []),none,none,none]) (by unfold P3;rw[u5 y9 S];rfl) ?_
 refine n9 (ρ':=zj5 z s [] [] none none) (by unfold P3;rw[u5 y9 S];rfl) ?_
 have ee:Y3 zd4 (z7 (mvar 0) anil) (zj5 z s [] [] none none)=some ((List.range z.length).map fun(i:Nat)=>D.tup [.int (i:Int),.int (xr z i)]):=by
  unfold Y3
  rw[z6 (x:=mvar 0) (d:=.lst (z.map .int)) rfl y9,Option.bind_some]
  show some (zw7 0 (z.map .int))=_
  rw[zw6]
  congr 1
  apply map_congr_left
  intro i _
  rw[Nat.zero_add]
 refine S3 (B9 z.length (f:=fun(i:Nat)=>D.tup [.int (i:Int),.int (xr z i)]) ee
  (I:=fun j ρ=>∃ R O,ρ=zj5 z s ((List.range j).map (abv z s true)) ((List.range j).map (abv z s false)) R O) _ ⟨_,_,rfl⟩ ?_ ?_)
 .rintro j ρ hj ⟨R,O,rfl⟩
  refine⟨zj5 z s ((List.range j).map (abv z s true)) ((List.range j).map (abv z s false)) (k0b j) (some (.sh (.int (xr z j)))),rfl,?_⟩
  unfold yx2
  have Y:∀ q:Nat,q<z.length->mix (bvar 3) (mvar 0) [some (.sh (dN q)),k0c s,some (.sh (.int (xr z j))),k0a z]=some (.int (xr z q)):=fun q G=>D6 rfl rfl (yx3 z q G)
  have c1:=yx5 z s true j U hj ((List.range j).map (abv z s true)) ((List.range j).map (abv z s false)) (v7 (m2 geD (m2 subD (mix (bvar 3) (mvar 0)) (mvar 2)) (mvar 1))) (fun q G=>by
   rw[yb2 ((X7 (Y q G) rfl).trans (show subD (.int (xr z q)) (.int (xr z j))=some (.int (xr z q-xr z j))from rfl)) rfl]
   unfold far;simp)
  have c2:=yx5 z s false j U hj ((List.range (j+1)).map (abv z s true)) ((List.range j).map (abv z s false)) (v7 (m2 geD (m2 subD (mvar 2) (mix (bvar 3) (mvar 0))) (mvar 1))) (fun q G=>by
   rw[yb2 ((X7 (show mvar 2 _=some (.int (xr z j))from rfl) (Y q G)).trans (show subD (.int (xr z j)) (.int (xr z q))=some (.int (xr z j-xr z q))from rfl)) rfl]
   unfold far;simp)
  have N:∀(ρ:Ro)(i:Nat)(M:List (List Nat))(m:ML)(l:List Nat),ρ[i]? =some (some (.own (M.map L)))->m ρ=some (l.map dN)->M.length<sizeLine->mapp i (mlst m) ρ=some (.nx (ρ.set i (some (.own ((M++[l]).map L))))):=by
   intro ρ i M m l h1 h2 Z
   unfold mapp
   rw[h1,l9 h2]
   show (some (D.lst (l.map dN))).bind (fun d=>if (M.map L).length<sizeLine then some (Out.nx (ρ.set i (some (.own (M.map L++[d])))))else none)=_
   rw[Option.bind_some,if_pos (by rw[length_map];exact Z),map_append]
   rfl
  refine n9 (ρ':=zj5 z s ((List.range (j+1)).map (abv z s true)) ((List.range j).map (abv z s false)) (k0b j) (some (.sh (.int (xr z j))))) ?_ ?_
  .rw[N _ 2 _ _ _ rfl c1 (by simp;omega),<-yz7]
   rfl
  .refine⟨_,N _ 3 _ _ _ rfl c2 (by simp;omega),?_⟩
   rw[<-yz7]
   exact⟨_,_,rfl⟩
 .rintro ρ ⟨R,O,rfl⟩
  unfold yx1
  refine W9 (ds:=((List.range z.length).map (abv z s false)).map L) rfl (W9 (ds:=((List.range z.length).map (abv z s true)).map L) rfl ⟨_,R0 (S9 (z6 (d:=.lst (((List.range z.length).map (abv z s true)).map L)) rfl (z6 (d:=.lst (((List.range z.length).map (abv z s false)).map L)) rfl y9)) i2),rfl⟩)
theorem yh3 (ns:List Nat):(ns.map fun(k:Nat)=>(k:Int)).sum=((ns.sum:Nat):Int):=by
 induction ns with
 |nil=>rfl
 |cons n ns i=>rw[map_cons,sum_cons,sum_cons,i];omega
theorem dns (ns:List Nat):ns.map dN=(ns.map fun(k:Nat)=>(k:Int)).map .int:=by rw[map_map];rfl
theorem yo4 {m:ML}{ρ:Ro}{ns:List Nat}(h:m ρ=some (ns.map dN)):msum m ρ=some (dN ns.sum):=by
 unfold msum
 rw[h,dns]
 simp only[J5,yh3]
 rfl
end
section
open PySem L2
end
section
open PySem L2
theorem zq3 {x:ME}{ρ:Ro}{b:Bool}(h:x ρ=some (.bl b)):v7 x ρ=some b:=by unfold v7;rw[h]
theorem za9 {i:Nat}{x:ML}{ρ:Ro}{ds:List D}(h:x ρ=some ds):P3 i x ρ=some (.nx (ρ.set i (some (.own ds)))):=by unfold P3;rw[h];rfl
end
section
open PySem L2
noncomputable def PN (q:Nat×Nat):D:=.tup [dN q.1,dN q.2]
theorem xu2 (ns:List Nat):∃ v:Nat,maxI (0::ns.map fun(k:Nat)=>(k:Int))=(v:Int)/\(∀ y∈ns,y<=v)/\(v=0\/v∈ns):=by
 have hm:maxI (0::ns.map fun(k:Nat)=>(k:Int))∈0::ns.map fun(k:Nat)=>(k:Int):=yz6 (by simp)
 have j:∀ y∈ns,(y:Int)<=maxI (0::ns.map fun(k:Nat)=>(k:Int)):=fun y i=>yn7 (mem_cons_of_mem _ (List.mem_map.mpr ⟨y,i,rfl⟩))
 generalize maxI (0::ns.map fun(k:Nat)=>(k:Int))=w at hm j
 rcases List.mem_cons.mp hm with h|h
 .exact⟨0,by rw[h];rfl,fun y i=>by have:=j y i;omega,.inl rfl⟩
 .obtain⟨y,i,e⟩:=List.mem_map.mp h
  exact⟨y,e.symm,fun z G=>by have:=j z G;rw[<-e]at this;omega,.inr i⟩
theorem xj5 (a b:Nat):eqSD (.int (a:Int)) (.int (b:Int))=some (.bl (decide (a=b))):=by
 show some (D.bl ((a:Int)==(b:Int)))=_
 by_cases h:a=b
 .rw[h,beq_self_eq_true,decide_eq_true rfl]
 .rw[decide_eq_false h,beq_eq_false_iff_ne.mpr (by omega)]
theorem zj2 {mi:ML}{ρ:Ro}(T:List (Nat×Nat))(h:mi ρ=some (T.map PN))(j:T.length<=1000):U7 [none,none] mi (.tp [0,1]) cyes (mvar 0) ρ=some ((T.map (·.1)).map dN):=by
 have i:=m6
 unfold U7
 rw[h,Option.bind_some]
 show S0 _ _ _ _ [none,none] []=_
 rw[T9 (f:=PN) (G:=fun q=>dN q.1) (fun _ ρ=>∃ x y,ρ=[x,y]) (by
  rintro q qs ρ ⟨x,y,rfl⟩
  exact⟨[some (.sh (dN q.1)),some (.sh (dN q.2))],rfl,rfl,rfl,_,_,rfl⟩) T _ [] ⟨none,none,rfl⟩ (by simp;omega),nil_append,map_map]
 rfl
theorem zb1 {mi:ML}{ρ:Ro}{i:Nat}(T:List (Nat×Nat))(v:Nat)(h:mi ρ=some (T.map PN))(j:V9 [none,none,some i] ρ=[none,none,some (.sh (dN v))])(I:T.length<=1000):U7 [none,none,some i] mi (.tp [0,1]) (v7 (m2 eqSD (mvar 0) (mvar 2))) (mvar 1) ρ=some (((T.filter fun q=>decide (q.1=v)).map (·.2)).map dN):=by
 have z:=m6
 unfold U7
 rw[h,Option.bind_some,j]
 show S0 _ _ _ _ [none,none,some (.sh (dN v))] []=_
 rw[U5 (f:=PN) (p:=fun q=>decide (q.1=v)) (G:=fun q=>dN q.2) (fun _ ρ=>∃ x y,ρ=[x,y,some (.sh (dN v))]) (by
  rintro q qs ρ ⟨x,y,rfl⟩
  exact⟨[some (.sh (dN q.1)),some (.sh (dN q.2)),some (.sh (dN v))],rfl,zq3 ((X7 (a:=dN q.1) (b:=dN v) rfl rfl).trans (xj5 q.1 v)),fun _=>rfl,_,_,rfl⟩) T _ [] ⟨none,none,rfl⟩ (by simp;omega),nil_append,map_map]
 rfl
theorem E7 (T:List (Nat×Nat))(U:T.length<=300):∃ v:Nat,(∀ q∈T,q.1<=v)/\(v=0\/∃ q∈T,q.1=v)/\m_Z5 [.lst (T.map PN)]=some (.sh (PN (v+1,((((0,1)::T).filter fun q=>decide (q.1=v)).map (·.2)).sum))):=by
 obtain⟨v,e,L,I⟩:=xu2 (T.map (·.1))
 refine⟨v,fun q j=>L _ (List.mem_map.mpr ⟨q,j,rfl⟩),?_,?_⟩
 .rcases I with z|z
  .exact .inl z
  .obtain⟨q,j,z⟩:=List.mem_map.mp z
   exact .inr ⟨q,j,z⟩
 have S:=m6
 have i2:2<=sizeLine:=u8 (by decide)
 have i1:1<=sizeLine:=u8 (by decide)
 unfold m_Z5 b_Z5
 refine U6 ?_
 have R:=E6 (u5 (m:=z7 (mtup (z7 (mc (.int 0)) (z7 (mc (.int 1)) anil))) anil) (ρ:=v3 3 [.lst (T.map PN)]) (z6 (S9 (z6 (d:=.int 0) rfl (z6 (d:=.int 1) rfl y9)) i2) y9) i1) (show bvar 0 (v3 3 [.lst (T.map PN)])=some (T.map PN)from rfl) (by simp;omega)
 refine seqI (ρ':=[some (.sh (.lst (T.map PN))),some (.sh (.lst ((((0,1)::T:List (Nat×Nat))).map PN))),none]) ((Y0 (l9 R)).trans rfl) ?_
 have O:=zj2 (mi:=k7 (mvar 1)) (ρ:=[some (.sh (.lst (T.map PN))),some (.sh (.lst ((((0,1)::T:List (Nat×Nat))).map PN))),none]) ((0,1)::T) (g0 rfl) (by simp;omega)
 have G:=ye1 (x:=0) (r:=(T.map (·.1)).map fun(k:Nat)=>(k:Int)) (O.trans (by rw[map_cons,dns];rfl))
 rw[e]at G
 refine seqI (ρ':=[some (.sh (.lst (T.map PN))),some (.sh (.lst ((((0,1)::T:List (Nat×Nat))).map PN))),some (.sh (dN v))]) ((Y0 G).trans rfl) ?_
 have N:=yo4 (zb1 (mi:=k7 (mvar 1)) (i:=2) (ρ:=[some (.sh (.lst (T.map PN))),some (.sh (.lst ((((0,1)::T:List (Nat×Nat))).map PN))),some (.sh (dN v))]) ((0,1)::T) v (g0 rfl) rfl (by simp;omega))
 have M:m2 addD (mvar 2) (mc (.int 1)) [some (.sh (.lst (T.map PN))),some (.sh (.lst ((((0,1)::T:List (Nat×Nat))).map PN))),some (.sh (dN v))]=some (dN (v+1)):=(X7 (a:=dN v) (b:=.int 1) rfl rfl).trans rfl
 exact R0 (S9 (z6 M (z6 N y9)) i2)
end
section
open PySem L2
theorem xd1 (T:List (Nat×Nat))(q:Nat)(h:q<T.length):atI (T.map PN) (q:Int)=some (PN (T.getD q (0,0))):=by
 have:=zp4 PN T (q:Int) (by omega) (by omega) (0,0)
 rw[Int.toNat_natCast]at this
 exact this
noncomputable def envX (η:List Int)(s:Int)(A B:List (Nat×Nat))(o6:Option S):Ro:=[k0a η,k0c s,some (.sh (.lst (((List.range η.length).map (abv η s true)).map L))),some (.sh (.lst (((List.range η.length).map (abv η s false)).map L))),some (.own (A.map PN)),some (.own (B.map PN)),o6,none]
theorem xh1 (i:List Int)(s:Int)(d:Bool)(p:Nat)(h:p<i.length):atI (((List.range i.length).map (abv i s d)).map L) (p:Int)=some (L (abv i s d p)):=by
 have:=at_L ((List.range i.length).map (abv i s d)) p (by simp;omega)
 rw[this,getD_eq_getElem?_getD,getElem?_map,getElem?_range h];rfl
theorem yb5 (i:Nat)(A:List (Nat×Nat))(p:Nat)(q:Nat×Nat)(x:ME)(ρ:Ro)(hi:ρ[i]? =some (some (.own (A.map PN))))(hp:mvar 6 ρ=some (.int (p:Int)))(G:x ρ=some (PN q))(z:p<A.length):T6 i (mvar 6) x ρ=some (.nx (ρ.set i (some (.own ((A.set p q).map PN))))):=by
 unfold T6
 rw[G,hi,hp]
 show ((ixN (A.map PN).length (p:Int)).map fun j=>Out.nx (ρ.set i (some (.own ((A.map PN).set j (PN q))))))=_
 rw[length_map,ym4 _ _ z]
 show some (Out.nx _)=_
 rw[map_set]
theorem xe7 (a b:Nat):gtI (dN b) (dN a)=some (decide (a<b)):=by
 show some (decide ((a:Int)<(b:Int)))=_
 congr 1
 apply decide_eq_decide.mpr
 omega
theorem ze2:∀(ns:List Nat)(a:Nat),∃ v,maxP (ns.map dN) (dN a)=some (dN v)/\(∀ y∈a::ns,y<=v)/\v∈a::ns
 |[],a=>⟨a,rfl,by simp,by simp⟩
 |b::ns,a=>by
  rw[map_cons,maxP,xe7]
  by_cases h:a<b
  .rw[decide_eq_true h]
   obtain⟨v,e,i,G⟩:=ze2 ns b
   refine⟨v,e,fun y j=>?_,mem_cons_of_mem _ G⟩
   rcases List.mem_cons.mp j with z|z
   .have:=i b (by simp);omega
   .exact i y z
  .rw[decide_eq_false h]
   obtain⟨v,e,i,G⟩:=ze2 ns a
   refine⟨v,e,fun y j=>?_,?_⟩
   .rcases List.mem_cons.mp j with z|z
    .exact i y (by simp[z])
    .rcases List.mem_cons.mp z with z|z
     .have:=i a (by simp);omega
     .exact i y (by simp[z])
   .rcases List.mem_cons.mp G with z|z
    .simp[z]
    .simp[z]
theorem xu3 (ns:List Nat):∃ v,maxE (ns.map dN) (.int 0)=some (dN v)/\(∀ y∈ns,y<=v)/\(ns=[]/\v=0\/v∈ns):=by
 cases ns with
 |nil=>exact⟨0,rfl,by simp,.inl ⟨rfl,rfl⟩⟩
 |cons a ns=>
  obtain⟨v,e,j,i⟩:=ze2 ns a
  exact⟨v,e,j,.inr i⟩
theorem mmaxE_ev {m:ML}{i:ME}{ρ:Ro}{ds:List D}{d0:D}(h1:m ρ=some ds)(h2:i ρ=some d0):zk1 m i ρ=maxE ds d0:=by
 unfold zk1
 rw[h1,h2];rfl
theorem yt3 (n:Nat):(List.replicate n [D.tup [.int 0,.int 0]]).flatten=((List.range n).map fun _=>((0,0):Nat×Nat)).map PN:=by
 induction n with
 |zero=>rfl
 |succ n i=>rw[replicate_succ',flatten_append,i,range_succ,map_append,map_append];rfl
theorem zc8 (i:List Int)(L:i.length<=300)(ρ:Ro)(z:bvar 0 ρ=some (i.map .int)):mrep (t7 (z7 (mtup (z7 (mc (.int 0)) (z7 (mc (.int 0)) anil))) anil)) (mlen (bvar 0)) ρ=some (((List.range i.length).map fun _=>((0,0):Nat×Nat)).map PN):=by
 have I:=m6
 have i2:2<=sizeLine:=u8 (by decide)
 have i1:1<=sizeLine:=u8 (by decide)
 have j:zr4 1 (i.length:Int)=true:=by
  unfold zr4
  rw[decide_eq_true (by omega),decide_eq_true (by omega),decide_eq_true (by rw[Int.toNat_natCast];omega)];rfl
 have G:mlen (bvar 0) ρ=some (.int (i.length:Int)):=by rw[P5 z,length_map]
 have rp:=zf7 (x:=t7 (z7 (mtup (z7 (mc (.int 0)) (z7 (mc (.int 0)) anil))) anil)) (ρ:=ρ) (u5 (z6 (S9 (z6 (d:=.int 0) rfl (z6 (d:=.int 0) rfl y9)) i2) y9) i1) G j
 rw[Int.toNat_natCast,yt3]at rp
 exact rp
noncomputable def envZ (η:List Int)(s:Int)(A B:List (Nat×Nat))(o6 o7:Option S):Ro:=[k0a η,k0c s,some (.sh (.lst (((List.range η.length).map (abv η s true)).map L))),some (.sh (.lst (((List.range η.length).map (abv η s false)).map L))),some (.sh (.lst (A.map PN))),some (.sh (.lst (B.map PN))),o6,o7]
theorem xs6 (i:List Int)(s:Int)(A B:List (Nat×Nat))(z j:Option S)(L:A.length<=300)(I:B.length<=300):k7 (m2 addD (mvar 4) (mvar 5)) (envZ i s A B z j)=some ((A++B).map PN):=by
 have G:=m6
 refine g0 ((X7 (a:=.lst (A.map PN)) (b:=.lst (B.map PN)) rfl rfl).trans ?_)
 show (if (A.map PN).length+(B.map PN).length<=sizeLine then some (D.lst (A.map PN++B.map PN))else none)=_
 rw[if_pos (by rw[length_map,length_map];omega),map_append]
theorem zb4 {i:List Int}{s:Int}(hr:i.length<=300)(p:Nat)(R:p<i.length)(d:Bool)(j I:Nat)(ρ:Ro)(A:List (Nat×Nat))(M:A.length=i.length)(ha:bvar j ρ=some (((List.range i.length).map (abv i s d)).map L))(hp:mvar 6 ρ=some (.int (p:Int)))
  (S:C6 [none,some I] ρ=[none,some (.own (A.map PN))]):P7 [none,some I] (k7 (mix (bvar j) (mvar 6))) (.nm 0) cyes (mix (bvar 1) (mvar 0)) ρ=some (((abv i s d p).map fun q=>A.getD q (0,0)).map PN):=by
 have Z:=m6
 have la:=zv3 i s d p
 have Y:k7 (mix (bvar j) (mvar 6)) ρ=some ((abv i s d p).map dN):=g0 (D6 ha hp (xh1 i s d p R))
 unfold P7
 rw[Y,Option.bind_some,S]
 rw[T9 (f:=dN) (G:=fun q=>PN (A.getD q (0,0))) (fun es ρ=>(∀ q∈es,q<i.length)/\∃ o,ρ=[o,some (.own (A.map PN))]) (fun q es ρ U=>by
  obtain⟨h,o,rfl⟩:=U
  exact⟨[some (.sh (dN q)),some (.own (A.map PN))],rfl,rfl,D6 (ds:=A.map PN) (k:=(q:Int)) rfl rfl (xd1 _ q (by rw[M];exact h q (by simp))),fun z N=>h z (by simp[N]),_,rfl⟩) (abv i s d p) _ [] ⟨fun q O=>(abv_mem.mp O).2.1,none,rfl⟩ (by simp;omega),nil_append,map_map]
 rfl
theorem ye8 {i:List Int}{s:Int}(G:i.length<=300)(A B:List (Nat×Nat))(N:A.length=i.length)(L:B.length=i.length)(p:Nat)(hp:p<i.length):
  ∃ M B':List (Nat×Nat),M.length=i.length/\B'.length=i.length/\zc1 (envX i s A B (k0b p))=some (.nx (envX i s M B' (k0b p))):=by
 unfold zc1
 have jn:∀(d:Bool)(C:List (Nat×Nat)),∃ q,m_Z5 [.lst (((abv i s d p).map fun q=>C.getD q (0,0)).map PN)]=some (.sh (PN q)):=fun d C=>by
  obtain⟨v,_,_,e⟩:=E7 ((abv i s d p).map fun q=>C.getD q (0,0)) (by rw[length_map];exact Nat.le_trans (zv3 i s d p) G)
  exact⟨_,e⟩
 obtain⟨j,R⟩:=jn true B
 have r1:=zb4 (s:=s) G p hp true 2 5 (envX i s A B (k0b p)) B L rfl rfl rfl
 have p1:=yb5 4 A p j _ (envX i s A B (k0b p)) rfl rfl (j9 (z6 (l9 r1) y9) R) (by omega)
 obtain⟨I,O⟩:=jn false (A.set p j)
 have z:(A.set p j).length=i.length:=by rw[length_set,N]
 have r2:=zb4 (s:=s) G p hp false 3 4 (envX i s (A.set p j) B (k0b p)) (A.set p j) z rfl rfl rfl
 have p2:=yb5 5 B p I _ (envX i s (A.set p j) B (k0b p)) rfl rfl (j9 (z6 (l9 r2) y9) O) (by omega)
 exact⟨A.set p j,B.set p I,z,by rw[length_set,L],seqI (p1.trans rfl) (p2.trans rfl)⟩
theorem yv9 (z:List Int)(s:Int)(hs:1<=s)(M:z.length<=300):∃ d:Int,m_Z0 [.lst (z.map .int),.int s]=some (.sh (.int d)):=by
 have a0:=m6
 suffices h:Run b_Z0 (v3 8 [.lst (z.map .int),.int s]) (fun o=>∃ d:Int,o= .rt (.int d))by
  obtain⟨o,e,d,rfl⟩:=h
  exact⟨d,by unfold m_Z0;exact U6 e⟩
 unfold b_Z0
 refine n9 (ρ':=[k0a z,k0c s,none,none,none,none,none,none]) ?_ ?_
 .unfold P6
  rw[j9 (z6 (d:=.int s) rfl y9) (X1 s hs)];rfl
 refine n9 (ρ':=[k0a z,k0c s,some (.sh (.lst (((List.range z.length).map (abv z s true)).map L))),some (.sh (.lst (((List.range z.length).map (abv z s false)).map L))),none,none,none,none]) ?_ ?_
 .have e:=j9 (ρ:=[k0a z,k0c s,none,none,none,none,none,none]) (z6 (x:=mvar 0) (d:=.lst (z.map .int)) rfl (z6 (x:=mvar 1) (d:=.int s) rfl y9)) (N9 z s M)
  unfold masg
  rw[e];rfl
 refine n9 (ρ':=[k0a z,k0c s,some (.sh (.lst (((List.range z.length).map (abv z s true)).map L))),some (.sh (.lst (((List.range z.length).map (abv z s false)).map L))),some (.own (((List.range z.length).map fun _=>((0,0):Nat×Nat)).map PN)),none,none,none]) ((za9 (zc8 z M _ rfl)).trans rfl) ?_
 refine n9 (ρ':=envX z s ((List.range z.length).map fun _=>(0,0)) ((List.range z.length).map fun _=>(0,0)) none) ((za9 (zc8 z M _ rfl)).trans rfl) ?_
 have k2:okR (z.length:Int)=true:=D5 (by omega) (by omega)
 have ed:zp0 z.length=(List.range z.length).map fun(j:Nat)=>D.int ((z.length:Int)-1-(j:Int)):=rfl
 refine S3 (B9 z.length (f:=fun(j:Nat)=>D.int ((z.length:Int)-1-(j:Int))) ?_
  (I:=fun j ρ=>∃ A B G,A.length=z.length/\B.length=z.length/\ρ=envX z s A B G) _ ⟨_,_,_,by simp,by simp,rfl⟩ ?_ ?_)
 .unfold Y3
  rw[z6 (x:=mlen (bvar 0)) (d:=.int ((z.map D.int).length:Int)) (P5 rfl) y9,Option.bind_some,length_map,ys9 k2,Int.toNat_natCast,ed]
 .intro j ρ hj R
  obtain⟨A,B,G,U,S,rfl⟩:=R
  obtain⟨A',B',O,N,e⟩:=ye8 (s:=s) M A B U S (z.length-1-j) (by omega)
  refine⟨envX z s A B (some (.sh (.int ((z.length-1-j:Nat):Int)))),?_,_,e,A',B',_,O,N,rfl⟩
  rw[show (z.length:Int)-1-(j:Int)=((z.length-1-j:Nat):Int)by omega];rfl
 intro ρ R
 obtain⟨A,B,G,U,S,rfl⟩:=R
 show Run zc0 _ _
 unfold zc0
 refine W9 (ds:=A.map PN) rfl (W9 (ds:=B.map PN) rfl ?_)
 show Run _ (envZ z s A B G none) _
 have Z:=fun o7=>xs6 z s A B G o7 (by omega) (by omega)
 have ef:=zj2 (ρ:=envZ z s A B G none) _ (Z none) (by rw[length_append];omega)
 obtain⟨v,ev,_,_⟩:=xu3 ((A++B).map (·.1))
 refine n9 (ρ':=envZ z s A B G (some (.sh (dN v)))) ((Y0 ((mmaxE_ev (d0:=.int 0) ef rfl).trans ev)).trans rfl) ?_
 have Y:v7 (m2 ltD (mvar 7) (mc (.int 2))) (envZ z s A B G (some (.sh (dN v))))=some (decide ((v:Int)<2)):=zq3 ((X7 (a:=dN v) (b:=.int 2) rfl rfl).trans rfl)
 by_cases h:(v:Int)<2
 .refine S3 (yb4 (b:=true) (by rw[Y,decide_eq_true h]) ?_)
  have em:∃ w:Int,D1 ye7 (z7 (mc (.int 1)) (z7 (mlen (bvar 0)) anil)) (envZ z s A B G (some (.sh (dN v))))=some (.int w):=by
   unfold D1
   rw[z6 (x:=mc (.int 1)) (d:=.int 1) rfl (z6 (P5 (ds:=z.map .int) rfl) y9)]
   exact⟨_,rfl⟩
  obtain⟨w,em⟩:=em
  exact⟨.rt (.int w),R0 em,w,rfl⟩
 .refine S3 (yb4 (b:=false) (by rw[Y,decide_eq_false h]) (yh6 ?_))
  show Run _ _ _
  exact⟨_,R0 (yo4 (zb1 (i:=7) (ρ:=envZ z s A B G (some (.sh (dN v)))) _ v (Z _) rfl (by rw[length_append];omega))),_,rfl⟩
end
section
open PySem L2
noncomputable def wt (w:Nat->Int)(l:List Nat):Int:=(l.map w).sum
theorem xz1 (w:Nat->Int)(p:Nat)(l:List Nat):wt w (p::l)=w p+wt w l:=by unfold wt;rw[map_cons,sum_cons]
noncomputable def HT (w:Nat->Int)(l:List Nat):D:=.tup [.int (wt w l),L l]
noncomputable def KH (w:Nat->Int)(l:List Nat):D:=.tup [.int (-(wt w l)),.int (l.length:Int),L l]
theorem keyH (w:Nat->Int)(l:List Nat):m_Z9 [HT w l]=some (.sh (KH w l)):=by
 unfold m_Z9 b_Z9
 have i3:0+1+1+1<=sizeLine:=u8 (by decide)
 refine U6 ?_
 refine seqI (ρ':=[some (.sh (HT w l)),some (.sh (.int (wt w l))),some (.sh (L l))]) rfl ?_
 unfold HT KH L
 simp_arith [i3,if_true,length_map]
theorem zu8:∀ l m:List Nat,∃ b,zipE (eqF 6) (l.map dN) (m.map dN)=some b
 |[],_=>⟨true,by unfold zipE;rfl⟩
 |_::_,[]=>⟨true,rfl⟩
 |a::l,b::m=>by
  obtain⟨c,e⟩:=zu8 l m
  rw[map_cons,map_cons,zipE,e]
  exact⟨_,rfl⟩
theorem zs2:∀ l m:List Nat,∃ b,lexF (eqF 6) (ltF 6) (l.map dN) (m.map dN)=some b
 |[],[]=>⟨_,rfl⟩
 |[],_::_=>⟨_,rfl⟩
 |_::_,[]=>⟨_,rfl⟩
 |a::l,b::m=>by
  obtain⟨c,e⟩:=zs2 l m
  rw[map_cons,map_cons,lexF,show eqF 6 (dN a) (dN b)=some ((a:Int)==(b:Int))from rfl]
  cases ((a:Int)==(b:Int))with
  |true=>exact⟨c,e⟩
  |false=>exact⟨_,rfl⟩
theorem yd0 (w:Nat->Int)(l m:List Nat):∃ b,ltF 8 (KH w l) (KH w m)=some b:=by
 show ∃ b,lexF (eqF 7) (ltF 7) [.int (-(wt w l)),.int (l.length:Int),L l] [.int (-(wt w m)),.int (m.length:Int),L m]=some b
 rw[lexF,show eqF 7 (.int (-(wt w l))) (.int (-(wt w m)))=some (-(wt w l)== -(wt w m))from rfl]
 cases (-(wt w l)== -(wt w m))with
 |false=>exact⟨_,rfl⟩
 |true=>
  simp only
  rw[lexF,show eqF 7 (.int (l.length:Int)) (.int (m.length:Int))=some ((l.length:Int)==(m.length:Int))from rfl]
  cases ((l.length:Int)==(m.length:Int))with
  |false=>exact⟨_,rfl⟩
  |true=>
   simp only
   obtain⟨b,e⟩:=zu8 l m
   have i:eqF 7 (L l) (L m)=some (if (l.map dN).length=(m.map dN).length then b else false):=by
    show (if (l.map dN).length=(m.map dN).length then zipE (eqF 6) (l.map dN) (m.map dN)else some false)=_
    rw[e];split <;> rfl
   rw[lexF,i]
   cases (if (l.map dN).length=(m.map dN).length then b else false)with
   |true=>exact⟨_,rfl⟩
   |false=>exact zs2 l m
theorem zx3 {w:Nat->Int}{mk:D->Option D}(hk:∀ l,mk (HT w l)=some (KH w l)):∀(ls:List (List Nat))(b:List Nat),∃ r,minF mk (ls.map (HT w)) (HT w b) (KH w b)=some (HT w r)/\r∈b::ls
 |[],b=>⟨b,rfl,by simp⟩
 |m::ls,b=>by
  rw[map_cons]
  unfold minF
  rw[hk m]
  obtain⟨c,e⟩:=yd0 w m b
  simp only[e]
  cases c with
  |true=>
   obtain⟨r,e,h1⟩:=zx3 hk ls m
   exact⟨r,e,mem_cons_of_mem _ h1⟩
  |false=>
   obtain⟨r,e,h1⟩:=zx3 hk ls b
   refine⟨r,e,?_⟩
   rcases List.mem_cons.mp h1 with h1|h1
   .simp[h1]
   .simp[h1]
theorem Y9 (w:Nat->Int)(ls:List (List Nat))(z:ls.length<=1000):∃ r,m_Z6 [.lst (ls.map (HT w))]=some (.sh (HT w r))/\r∈[]::ls:=by
 obtain⟨r,e,h1⟩:=zx3 (w:=w) (mk:=fun d=>shOf (m_Z9 [d])) (fun l=>by rw[keyH];rfl) ls []
 refine⟨r,?_,h1⟩
 have j:=m6
 unfold m_Z6 b_Z6
 refine U6 (R0 ?_)
 have i1:1<=sizeLine:=u8 (by decide)
 have i2:2<=sizeLine:=u8 (by decide)
 have i:t7 (z7 (mtup (z7 (mc (.int 0)) (z7 (mlst (t7 anil)) anil))) anil) (v3 1 [.lst (ls.map (HT w))])=some [HT w []]:=
  u5 (z6 (S9 (z6 (d:=.int 0) rfl (z6 (l9 (u5 y9 (Nat.zero_le _))) y9)) i2) y9) i1
 have e1:mcat (t7 (z7 (mtup (z7 (mc (.int 0)) (z7 (mlst (t7 anil)) anil))) anil)) (bvar 0) (v3 1 [.lst (ls.map (HT w))])=some (HT w []::ls.map (HT w)):=
  E6 i (show bvar 0 (v3 1 [.lst (ls.map (HT w))])=some (ls.map (HT w))from rfl) (by rw[length_map,length_singleton];omega)
 rw[ye0 e1]
 show (match shOf (m_Z9 [HT w []])with |some kd=>minF _ (ls.map (HT w)) (HT w []) kd|none=>none)=_
 rw[keyH]
 exact e
noncomputable def envH (η ws:List Int)(s:Int)(U V:List (List Nat))(o7 o8 o9:Option S):Ro:=[k0a η,k0c s,k0a ws,some (.sh (.lst (((List.range η.length).map (abv η s true)).map L))),some (.sh (.lst (((List.range η.length).map (abv η s false)).map L))),some (.own (U.map (HT (xr ws)))),some (.own (V.map (HT (xr ws)))),o7,o8,o9]
theorem xd2 (w:Nat->Int)(U:List (List Nat))(p:Nat)(h:p<U.length):atI (U.map (HT w)) (p:Int)=some (HT w (U.getD p [])):=by
 have:=zp4 (HT w) U (p:Int) (by omega) (by omega) []
 rw[Int.toNat_natCast]at this
 exact this
theorem yh9 {i:Type}(f:Nat->i)(n p:Nat)(h:p<n)(d:i):((List.range n).map f).getD p d=f p:=by
 rw[getD_eq_getElem?_getD,getElem?_map,getElem?_range h];rfl
theorem ya6 (j ws:List Int)(s:Int)(hw:ws.length=j.length)(d:Bool)(i z:Nat)(U V M:List (List Nat))(p:Nat)(hp:p<j.length)(N:j.length<=300)(Z:M.length=j.length)(ρ:Ro)
  (hi:ρ[i]? =some (some (.own (M.map (HT (xr ws)))))) (ha:ρ[z]? =some (some (.sh (.lst (((List.range j.length).map (abv j s d)).map L))))) (O:ρ[7]? =some (k0b p)):
  P7 [none,some i] (k7 (mix (bvar z) (mvar 7))) (.nm 0) cyes (mix (bvar 1) (mvar 0)) ρ=some (((abv j s d p).map fun q=>M.getD q []).map (HT (xr ws))):=by
 have Y:mvar 7 ρ=some (.int (p:Int)):=by unfold mvar;rw[O]
 have S:bvar z ρ=some (((List.range j.length).map (abv j s d)).map L):=by unfold bvar;rw[ha]
 have e1:k7 (mix (bvar z) (mvar 7)) ρ=some ((abv j s d p).map dN):=by
  refine g0 (D6 S Y ?_)
  rw[at_L _ p (by simp;exact hp),yh9 _ _ _ hp];rfl
 have R:C6 [none,some i] ρ=[none,some (.own (M.map (HT (xr ws))))]:=by
  unfold C6
  simp only[map_cons,map_nil,Option.bind_none,Option.bind_some,hi]
 have al:=zv3 j s d p
 unfold P7
 rw[e1,Option.bind_some,R]
 rw[T9 (f:=dN) (G:=fun q=>HT (xr ws) (M.getD q [])) (fun qs ρ=>(∀ q∈qs,q<j.length)/\∃ o,ρ=[o,some (.own (M.map (HT (xr ws))))])
  (by
   rintro q qs ρ ⟨I,o,rfl⟩
   have:=I q (by simp)
   exact⟨_,rfl,rfl,D6 (ds:=M.map (HT (xr ws))) (k:=(q:Int)) rfl rfl (xd2 _ M q (by omega)),fun r N=>I r (by simp[N]),_,rfl⟩) (abv j s d p) _ [] ⟨fun q I=>(abv_mem.mp I).2.1,none,rfl⟩ (u8 (by simp only[length_nil];omega)),nil_append,map_map]
 rfl
theorem yb6 (ws:List Int)(i:Nat)(U:List (List Nat))(p:Nat)(r:List Nat)(hp:p<ws.length)(hU:U.length=ws.length)(hr:r.length<=1000)(ρ:Ro)(hi:ρ[i]? =some (some (.own (U.map (HT (xr ws))))))(h2:ρ[2]? =some (k0a ws))(M:ρ[7]? =some (k0b p))
  (I:ρ[8]? =some (some (.sh (.int (wt (xr ws) r))))) (G:ρ[9]? =some (some (.sh (L r)))):
  T6 i (mvar 7) (mtup (z7 (m2 addD (mix (bvar 2) (mvar 7)) (mvar 8)) (z7 (mlst (mcat (t7 (z7 (mvar 7) anil)) (bvar 9))) anil))) ρ=some (.nx (ρ.set i (some (.own ((U.set p (p::r)).map (HT (xr ws))))))):=by
 have S:=m6
 have i1:1<=sizeLine:=u8 (by decide)
 have i2:2<=sizeLine:=u8 (by decide)
 have z:mvar 7 ρ=some (.int (p:Int)):=by unfold mvar;rw[M]
 have R:mvar 8 ρ=some (.int (wt (xr ws) r)):=by unfold mvar;rw[I]
 have e2:bvar 2 ρ=some (ws.map .int):=by unfold bvar;rw[h2]
 have O:bvar 9 ρ=some (r.map dN):=by unfold bvar;rw[G];rfl
 have Z:m2 addD (mix (bvar 2) (mvar 7)) (mvar 8) ρ=some (.int (wt (xr ws) (p::r))):=by
  rw[X7 (D6 e2 z (yx3 ws p hp)) R,xz1];rfl
 have Y:mlst (mcat (t7 (z7 (mvar 7) anil)) (bvar 9)) ρ=some (L (p::r)):=by
  rw[l9 (E6 (u5 (z6 z y9) i1) O (by rw[length_map,length_singleton];omega))];rfl
 have N:mtup (z7 (m2 addD (mix (bvar 2) (mvar 7)) (mvar 8)) (z7 (mlst (mcat (t7 (z7 (mvar 7) anil)) (bvar 9))) anil)) ρ=some (HT (xr ws) (p::r)):=S9 (z6 Z (z6 Y y9)) i2
 unfold T6
 rw[N,hi,z]
 show ((ixN (U.map (HT (xr ws))).length (p:Int)).map fun j=>Out.nx (ρ.set i (some (.own ((U.map (HT (xr ws))).set j (HT (xr ws) (p::r)))))))=_
 rw[length_map,ym4 _ _ (by omega)]
 show some (Out.nx _)=_
 rw[map_set]
theorem xt3 {i:Type}(l:List i)(q:Nat)(h:q<l.length)(d:i):l.getD q d∈l:=by
 rw[getD_eq_getElem?_getD,getElem?_eq_getElem h];exact getElem_mem h
theorem zo7 {U:List (List Nat)}{p N:Nat}{r:List Nat}(h:∀ l∈U,l.length<=N)(i:r.length<=N):∀ l∈U.set p r,l.length<=N:=fun l j=>by
 rcases mem_or_eq_of_mem_set j with z|z
 .exact h l z
 .rw[z];exact i
theorem zb2 {i:List Int}{s:Int}{d:Bool}{p N:Nat}{M:List (List Nat)}(j:M.length=i.length)(z:∀ l∈M,l.length<=N){r:List Nat}(h:r∈[]::(abv i s d p).map fun q=>M.getD q []):r.length<=N:=by
 rcases List.mem_cons.mp h with rfl|h
 .simp
 .obtain⟨q,hq,rfl⟩:=List.mem_map.mp h
  exact z _ (xt3 M q (by rw[j];exact(abv_mem.mp hq).2.1) [])
def Bd (N:Nat)(U V:List (List Nat)):Prop:=(∀ l∈U,l.length<=N)/\∀ l∈V,l.length<=N
theorem xz4 (i ws:List Int)(s:Int)(hw:ws.length=i.length)(hr:i.length<=300)(U V:List (List Nat))(p N:Nat)(hN:N<=700)(hp:p<i.length)(hU:U.length=i.length)(O:V.length=i.length)(hd:Bd N U V)(o8 Z:Option S):
  ∃ Y R M I,Y.length=i.length/\R.length=i.length/\Bd (N+2) Y R/\zp3 (envH i ws s U V (k0b p) o8 Z)=some (.nx (envH i ws s Y R (k0b p) M I)):=by
 unfold zp3
 have a1:=zv3 i s true p
 have a0:=zv3 i s false p
 obtain⟨r1,e1,m1⟩:=Y9 (xr ws) ((abv i s true p).map fun q=>V.getD q []) (by rw[length_map];omega)
 have c1:=ya6 i ws s hw true 6 3 U V V p hp hr O (envH i ws s U V (k0b p) o8 Z) rfl rfl rfl
 have l1:=zb2 O hd.2 m1
 have j:(U.set p (p::r1)).length=i.length:=by rw[length_set];exact hU
 have G:∀ l∈U.set p (p::r1),l.length<=N+1:=zo7 (fun l z=>Nat.le_succ_of_le (hd.1 l z)) (by simp;omega)
 obtain⟨r2,e2,m2'⟩:=Y9 (xr ws) ((abv i s false p).map fun q=>(U.set p (p::r1)).getD q []) (by rw[length_map];omega)
 have c2:=ya6 i ws s hw false 5 4 U V (U.set p (p::r1)) p hp hr j (envH i ws s (U.set p (p::r1)) V (k0b p) (some (.sh (.int (wt (xr ws) r1)))) (some (.sh (L r1)))) rfl rfl rfl
 have l2:=zb2 j G m2'
 refine⟨U.set p (p::r1),V.set p (p::r2),some (.sh (.int (wt (xr ws) r2))),some (.sh (L r2)),j,by rw[length_set];exact O,⟨fun l z=>Nat.le_succ_of_le (G l z),zo7 (fun l z=>Nat.le_trans (hd.2 l z) (by omega)) (by simp;omega)⟩,?_⟩
 refine seqI (ρ':=envH i ws s U V (k0b p) (some (.sh (.int (wt (xr ws) r1)))) (some (.sh (L r1)))) (by unfold masg;rw[j9 (z6 (l9 c1) y9) e1];rfl) ?_
 refine seqI (ρ':=envH i ws s (U.set p (p::r1)) V (k0b p) (some (.sh (.int (wt (xr ws) r1)))) (some (.sh (L r1)))) ((yb6 ws 5 U p r1 (by omega) (by omega) (by omega) (envH i ws s U V (k0b p) (some (.sh (.int (wt (xr ws) r1)))) (some (.sh (L r1)))) rfl rfl rfl rfl rfl).trans rfl) ?_
 refine seqI (ρ':=envH i ws s (U.set p (p::r1)) V (k0b p) (some (.sh (.int (wt (xr ws) r2)))) (some (.sh (L r2)))) (by unfold masg;rw[j9 (z6 (l9 c2) y9) e2];rfl) ?_
 exact(yb6 ws 6 V p r2 (by omega) (by omega) (by omega) (envH i ws s (U.set p (p::r1)) V (k0b p) (some (.sh (.int (wt (xr ws) r2)))) (some (.sh (L r2)))) rfl rfl rfl rfl rfl).trans rfl
theorem xy9 (w:Nat->Int)(n:Nat):(List.replicate n [HT w []]).flatten=(List.replicate n ([]:List Nat)).map (HT w):=by
 induction n with
 |zero=>rfl
 |succ n i=>rw[replicate_succ,flatten_cons,i,replicate_succ,map_cons];rfl
theorem zu4 (i ws:List Int)(s:Int)(hw:ws.length=i.length)(Y:i.length<=300):∃ U V:List (List Nat),ye9 [.lst (i.map .int),.int s,.lst (ws.map .int)]=some (.sh (.tup [.lst (U.map (HT (xr ws))),.lst (V.map (HT (xr ws)))]))/\U.length=i.length/\V.length=i.length:=by
 suffices h:Run b_Z18 (v3 10 [.lst (i.map .int),.int s,.lst (ws.map .int)]) (fun o=>∃ U V:List (List Nat),o= .rt (.tup [.lst (U.map (HT (xr ws))),.lst (V.map (HT (xr ws)))])/\U.length=i.length/\V.length=i.length)by
  obtain⟨o,e,U,V,rfl,r⟩:=h
  exact⟨U,V,U6 e,r⟩
 unfold b_Z18
 have a2:=m6
 have i1:1<=sizeLine:=u8 (by decide)
 have i2:2<=sizeLine:=u8 (by decide)
 have k2:okR (i.length:Int)=true:=D5 (by omega) (by omega)
 have Z:zr4 1 (i.length:Int)=true:=by
  unfold zr4
  rw[decide_eq_true (by omega),decide_eq_true (by omega),decide_eq_true (by rw[Int.toNat_natCast];omega)];rfl
 refine n9 (ρ':=[k0a i,k0c s,k0a ws,some (.sh (.lst (((List.range i.length).map (abv i s true)).map L))),some (.sh (.lst (((List.range i.length).map (abv i s false)).map L))),none,none,none,none,none]) ?_ ?_
 .unfold masg
  rw[j9 (z6 (d:=.lst (i.map .int)) rfl (z6 (d:=.int s) rfl y9)) (N9 i s Y)];rfl
 have rep:∀ ρ:Ro,bvar 0 ρ=some (i.map .int)->mrep (t7 (z7 (mtup (z7 (mc (.int 0)) (z7 (mlst (t7 anil)) anil))) anil)) (mlen (bvar 0)) ρ=some ((List.replicate i.length ([]:List Nat)).map (HT (xr ws))):=by
  intro ρ h0
  have e0:t7 (z7 (mtup (z7 (mc (.int 0)) (z7 (mlst (t7 anil)) anil))) anil) ρ=some [HT (xr ws) []]:=
   u5 (z6 (S9 (z6 (d:=.int 0) rfl (z6 (l9 (u5 y9 (Nat.zero_le _))) y9)) i2) y9) i1
  have el:mlen (bvar 0) ρ=some (.int (i.length:Int)):=by rw[P5 h0,length_map]
  rw[zf7 e0 el Z,Int.toNat_natCast,xy9]
 refine n9 (ρ':=[k0a i,k0c s,k0a ws,some (.sh (.lst (((List.range i.length).map (abv i s true)).map L))),some (.sh (.lst (((List.range i.length).map (abv i s false)).map L))),some (.own ((List.replicate i.length ([]:List Nat)).map (HT (xr ws)))),none,none,none,none]) (by unfold P3;rw[rep _ rfl];rfl) ?_
 refine n9 (ρ':=envH i ws s (List.replicate i.length []) (List.replicate i.length []) none none none) (by unfold P3;rw[rep _ rfl];rfl) ?_
 have ed:zp0 i.length=(List.range i.length).map fun(j:Nat)=>D.int ((i.length:Int)-1-(j:Int)):=rfl
 refine S3 (B9 i.length (f:=fun(j:Nat)=>D.int ((i.length:Int)-1-(j:Int))) ?_
  (I:=fun j ρ=>∃ U V M G z,U.length=i.length/\V.length=i.length/\Bd (2*j) U V/\ρ=envH i ws s U V M G z) _
  ⟨_,_,_,_,_,by simp,by simp,⟨fun l N=>by rw[(List.mem_replicate.mp N).2];simp,fun l N=>by rw[(List.mem_replicate.mp N).2];simp⟩,rfl⟩ ?_ ?_)
 .unfold Y3
  rw[z6 (x:=mlen (bvar 0)) (d:=.int ((i.map D.int).length:Int)) (P5 rfl) y9,Option.bind_some,length_map,ys9 k2,Int.toNat_natCast,ed]
 .rintro j ρ hj ⟨U,V,M,G,z,hU,hV,hd,rfl⟩
  have e:(i.length:Int)-1-(j:Int)=((i.length-1-j:Nat):Int):=by omega
  refine⟨envH i ws s U V (some (.sh (.int ((i.length-1-j:Nat):Int)))) G z,by rw[e];rfl,?_⟩
  obtain⟨U',V',a1,a0,S,R,O,e2⟩:=xz4 i ws s hw Y U V (i.length-1-j) (2*j) (by omega) (by omega) hU hV hd G z
  exact⟨_,e2,U',V',_,_,_,S,R,O,rfl⟩
 .rintro ρ ⟨U,V,M,G,z,hU,hV,hd,rfl⟩
  unfold yy9
  refine W9 (ds:=U.map (HT (xr ws))) rfl (W9 (ds:=V.map (HT (xr ws))) rfl ⟨_,R0 (S9 (z6 (d:=.lst (U.map (HT (xr ws)))) rfl (z6 (d:=.lst (V.map (HT (xr ws)))) rfl y9)) i2),U,V,rfl,hU,hV⟩)
theorem zd0 (i ws:List Int)(s:Int)(j:1<=s)(hw:ws.length=i.length)(G:∀ x∈ws,0<=x)(z:i.length<=300):∃ l,yu2 [.lst (i.map .int),.int s,.lst (ws.map .int)]=some (.sh (HT (xr ws) l)):=by
 obtain⟨U,V,I,N,M⟩:=zu4 i ws s hw z
 obtain⟨r,e,m⟩:=Y9 (xr ws) (U++V) (by rw[length_append];omega)
 have L:=m6
 refine⟨r,?_⟩
 .unfold yu2 b_Z22
  refine zr3 ?_
  refine n9 (ρ':=[k0a i,k0c s,k0a ws,none,none]) ?_ ?_
  .unfold P6
   rw[j9 (z6 (d:=.int s) rfl y9) (X1 s j)];rfl
  refine n9 (ρ':=[k0a i,k0c s,k0a ws,none,none]) ?_ ?_
  .unfold P6
   rw[j9 (z6 (d:=.lst (i.map .int)) rfl (z6 (d:=.lst (ws.map .int)) rfl y9)) (G5 i ws hw G)];rfl
  refine n9 (ρ':=[k0a i,k0c s,k0a ws,some (.sh (.lst (U.map (HT (xr ws))))),some (.sh (.lst (V.map (HT (xr ws)))))]) ?_ ?_
  .unfold masg
   rw[j9 (z6 (d:=.lst (i.map .int)) rfl (z6 (d:=.int s) rfl (z6 (d:=.lst (ws.map .int)) rfl y9))) I];rfl
  .have hz:(U.map (HT (xr ws))).length+(V.map (HT (xr ws))).length<=sizeLine:=u8 (by simp;omega)
   have e1:m2 addD (mvar 3) (mvar 4) [k0a i,k0c s,k0a ws,some (.sh (.lst (U.map (HT (xr ws))))),some (.sh (.lst (V.map (HT (xr ws)))))]=some (.lst ((U++V).map (HT (xr ws)))):=by
    refine(X7 (a:=.lst (U.map (HT (xr ws)))) (b:=.lst (V.map (HT (xr ws)))) rfl rfl).trans ?_
    show (if (U.map (HT (xr ws))).length+(V.map (HT (xr ws))).length<=sizeLine then some (D.lst (U.map (HT (xr ws))++V.map (HT (xr ws))))else none)=_
    rw[if_pos hz,map_append]
   exact⟨_,R0 (j9 (z6 e1 y9) e),rfl⟩
end
section
open PySem L2
theorem Y4 {m:ME}{ρ:Ro}{d:D}(h:m ρ=some d):mpu m ρ=some (d,ρ):=by unfold mpu;rw[h]
theorem S1 {m:ML}{ρ:Ro}{d:List D}(h:m ρ=some d):apu m ρ=some (d,ρ):=by unfold apu;rw[h]
theorem Q4 {f:D->D->Option D}{x y:MEm}{ρ ρ1 ρ2:Ro}{d e g:D}(h1:x ρ=some (d,ρ1))(h2:y ρ1=some (e,ρ2))(i:f d e=some g):m2m f x y ρ=some (g,ρ2):=by
 unfold m2m;rw[h1];simp only;rw[h2];simp only;rw[i]
theorem m7 {x:MEm}{r:MLm}{ρ ρ1 ρ2:Ro}{d:D}{ds:List D}(h1:x ρ=some (d,ρ1))(h2:r ρ1=some (ds,ρ2)):d8 x r ρ=some (d::ds,ρ2):=by
 unfold d8;rw[h1];simp only;rw[h2]
theorem zq7 {m:MLm}{ρ ρ1:Ro}{ds:List D}(h:m ρ=some (ds,ρ1))(i:ds.length<=sizeLine):zf9 m ρ=some (.lst ds,ρ1):=by
 unfold zf9;rw[h];simp only[i,if_true]
theorem O9 {i:Nat}{x:MEm}{ρ ρ1:Ro}{d:D}(h:x ρ=some (d,ρ1)):E4 i x ρ=some (.nx (ρ1.set i (some (.sh d)))):=by unfold E4;rw[h]
theorem R1 {i:Nat}{x:MEm}{ρ ρ1:Ro}{d:D}{p:Addr}{r:List D}(h:x ρ=some (d,ρ1))(h2:ρ1[i]? =some (some (.ob p r))):N7 i x ρ=some (.rg d p r):=by unfold N7;rw[h];simp only;rw[h2]
theorem zk3 {f:MG}{i:Nat}{m:MLm}{ρ ρ1:Ro}{p:Addr}{r0 r1 r2 ds:List D}{t:Rt}{d:D}(G:ρ[i]? =some (some (.ob p r2)))(h1:m ρ=some (ds,ρ1))(h2:ρ1[i]? =some (some (.ob p r0)))(z:f p r0 ds=some (t,r1))(j:rtD t=some d):m9 f i m ρ=some (d,ρ1.set i (some (.ob p r1))):=by
 unfold m9;rw[G];simp only;rw[h1];simp only;rw[h2];simp only;rw[z];simp only;rw[j]
theorem V0 {f:MG}{i:Nat}{m:MLm}{ρ ρ1:Ro}{r0 r1 r2 ds:List D}{t:Rt}{d:D}(G:ρ[i]? =some (some (.own r2)))(h1:m ρ=some (ds,ρ1))(h2:ρ1[i]? =some (some (.own r0)))(z:∀ p,f p r0 ds=some (t,r1))(j:rtD t=some d):m9 f i m ρ=some (d,ρ1.set i (some (.own r1))):=by
 unfold m9;rw[G];simp only;rw[h1];simp only;rw[h2];simp only;rw[xs9 z];simp only;rw[j]
theorem S4 {n:Nat}{m:MS}{p:Addr}{r i ds:List D}{d:D}(h:m (L7 n p r ds)=some (.rg d p i)):runG n m p r ds=some (.sh d,i):=by unfold runG;rw[h];simp only[if_true]
noncomputable def RL (a b:Int):List D:=[.int a,.int b]
theorem at3 (x y z:Int)(k:Int)(i:0<=k)(h1:k<3):∃ w,atI [D.int x,.int y,.int z] k=some (.int w)/\(w=x\/w=y\/w=z):=by
 have:k=0\/k=1\/k=2:=by omega
 rcases this with h|h|h <;> subst h
 .exact⟨_,rfl,by simp⟩
 .exact⟨_,rfl,by simp⟩
 .exact⟨_,rfl,by simp⟩
end
section
open PySem L2
theorem f7 (c k m:Int)(h:0<m)(h2:m<1073741824):∃ x c' Z,0<=x/\x<m/\∀ p,Z6 p (RL c k) [.int m]=some (.sh (.int x),RL c' Z):=by
 have hp:((10:Int)^(18:Int).toNat)=10^18:=rfl
 have j:zn4 10 18=true:=by decide
 have M:∀ x y:Int,atI [D.int x,D.int y] 0=some (.int x):=fun _ _=>rfl
 have L:∀ x y:Int,atI [D.int x,D.int y] 1=some (.int y):=fun _ _=>rfl
 have G:ixN (0+1+1) 0=some 0:=rfl
 have z:ixN (0+1+1) 1=some 1:=rfl
 by_cases I:10^18<=c
 .refine⟨c % m,c / m,k+1,Int.emod_nonneg _ (by omega),Int.emod_lt_of_pos _ h,fun p=>?_⟩
  unfold Z6
  refine S4 ?_
  unfold b_Z23 L7 RL
  simp_arith [hp,j,M,L,I,decide_true,if_true,N0 c m h,zj3 c m h h2,G,z,N7,mpu,set_cons_zero,set_cons_succ]
 .have q3:∀ i,zf8 i 2147483647=true:=fun i=>N0 _ _ (by decide)
  have R:∀ i,zf8 i 2147483629=true:=fun i=>N0 _ _ (by decide)
  have O:∀ i,zf8 i 2147483587=true:=fun i=>N0 _ _ (by decide)
  have N:∀ i,zf8 i m=true:=fun i=>N0 _ _ h
  have f8:∀ i,zj4 i 8=true:=fun i=>zj3 _ _ (by decide) (by decide)
  have m1:∀ i,E3 i 69621=true:=fun i=>zq2 _ _ (by decide) (by decide)
  have m2:∀ i,E3 i 7919=true:=fun i=>zq2 _ _ (by decide) (by decide)
  have Y:∀ i,E3 i 48271=true:=fun i=>zq2 _ _ (by decide) (by decide)
  have U:∀ i,E3 i 40692=true:=fun i=>zq2 _ _ (by decide) (by decide)
  have bb:=zk0 (x:=c*69621+(k+1)*7919+13) (show (0:Int)<2147483647 by decide)
  have S:E3 ((c*69621+(k+1)*7919+13) % 2147483647) ((c*69621+(k+1)*7919+13) % 2147483647)=true:=yo3 _ _ (by omega) (by omega)
  refine⟨_,c,k+1,Int.emod_nonneg _ (by omega),Int.emod_lt_of_pos (((((c*69621+(k+1)*7919+13) % 2147483647)*((c*69621+(k+1)*7919+13) % 2147483647) % 2147483629)*48271+(k+1)*40692) % 2147483587 / 8) h,fun p=>?_⟩
  unfold Z6
  refine S4 ?_
  unfold b_Z23 L7 RL
  simp_arith [hp,j,M,L,I,decide_false,if_true,q3,R,O,N,f8,m1,m2,Y,U,S,G,z,N7,mpu,set_cons_zero,set_cons_succ]
abbrev Nx (c k m x c' k':Int):Prop:=∀ p,Z6 p (RL c k) [.int m]=some (.sh (.int x),RL c' k')
theorem g9 {p:Addr}{c k m x j i:Int}{e:ME}{tl:List (Option S)}(h:Nx c k m x j i)(z:e (some (.ob p (RL c k))::tl)=some (.int m)):m9 Z6 0 (apu (z7 e anil)) (some (.ob p (RL c k))::tl)=some (.int x,some (.ob p (RL j i))::tl):=
 zk3 (ρ:=some (.ob p (RL c k))::tl) rfl (S1 (z6 z y9)) rfl (h p) rfl
theorem zv7 (c k kind:Int):∃ x U O,(-1000000000000000000000000000000<=x/\x<=1000000000000000000000000000000)/\∀ p,m_Z2 p (RL c k) [.int kind]=some (.sh (.int x),RL U O):=by
 have i2:0+1+1<=sizeLine:=u8 (by decide)
 have i:∀(p:Addr)(j:Int),v7 (m2 eqSD (mvar 1) (mc (.int j))) [some (.ob p (RL c k)),k0c kind]=some (kind==j):=fun p j=>by unfold v7 m2;rfl
 by_cases M:kind=0
 .obtain⟨x,G,k1,g1,g2,e⟩:=f7 c k 4 (by decide) (by decide)
  refine⟨x,G,k1,by omega,fun p=>?_⟩
  unfold m_Z2 b_Z2
  refine S4 (Z2 (o:=.rg (.int x) p (RL G k1)) ?_)
  show mif _ _ _ [some (.ob p (RL c k)),k0c kind]=_
  rw[Q2 (i p 0),show (kind==0)=true by rw[M];rfl]
  exact R1 (g9 e rfl) rfl
 .have f0:(kind==0)=false:=beq_eq_false_iff_ne.mpr M
  by_cases h1:kind=1
  .obtain⟨x,G,k1,g1,g2,e⟩:=f7 c k 21 (by decide) (by decide)
   refine⟨x-10,G,k1,by omega,fun p=>?_⟩
   unfold m_Z2 b_Z2
   refine S4 (seqI (ρ':=[some (.ob p (RL c k)),k0c kind]) ?_ (Z2 (o:=.rg (.int (x-10)) p (RL G k1)) ?_))
   .show mif _ _ _ [some (.ob p (RL c k)),k0c kind]=_
    rw[Q2 (i p 0),f0];rfl
   .rw[Q2 (i p 1),show (kind==1)=true by rw[h1];rfl]
    exact R1 (Q4 (g9 e rfl) (Y4 (d:=.int 10) rfl) rfl) rfl
  .have f1:(kind==1)=false:=beq_eq_false_iff_ne.mpr h1
   by_cases h2:kind=2
   .obtain⟨x,G,k1,g1,g2,e⟩:=f7 c k 1001 (by decide) (by decide)
    refine⟨x-500,G,k1,by omega,fun p=>?_⟩
    unfold m_Z2 b_Z2
    refine S4 (seqI (ρ':=[some (.ob p (RL c k)),k0c kind]) ?_ (seqI (ρ':=[some (.ob p (RL c k)),k0c kind]) ?_ (Z2 (o:=.rg (.int (x-500)) p (RL G k1)) ?_)))
    .show mif _ _ _ [some (.ob p (RL c k)),k0c kind]=_
     rw[Q2 (i p 0),f0];rfl
    .rw[Q2 (i p 1),f1];rfl
    .rw[Q2 (i p 2),show (kind==2)=true by rw[h2];rfl]
     exact R1 (Q4 (g9 e rfl) (Y4 (d:=.int 500) rfl) rfl) rfl
   .have f2:(kind==2)=false:=beq_eq_false_iff_ne.mpr h2
    obtain⟨x,G,k1,l1,Z,e⟩:=f7 c k 2 (by decide) (by decide)
    obtain⟨y,S,k2,l2,Y,e2⟩:=f7 G k1 1000 (by decide) (by decide)
    obtain⟨z,R,L⟩:∃ z,atI [D.int (-1),.int 1] x=some (.int z)/\(z= -1\/z=1):=by
     have:x=0\/x=1:=by omega
     rcases this with h|h <;> subst h
     .exact⟨_,rfl,by simp⟩
     .exact⟨_,rfl,by simp⟩
    have N:E3 z (100000000000000000000000000000+y)=true:=yo3 _ _ (by omega) (by omega)
    refine⟨z*(100000000000000000000000000000+y),S,k2,by rcases L with h|h <;> subst h <;> omega,fun p=>?_⟩
    unfold m_Z2 b_Z2
    refine S4 (seqI (ρ':=[some (.ob p (RL c k)),k0c kind]) ?_ (seqI (ρ':=[some (.ob p (RL c k)),k0c kind]) ?_ (seqI (ρ':=[some (.ob p (RL c k)),k0c kind]) ?_ ?_)))
    .show mif _ _ _ [some (.ob p (RL c k)),k0c kind]=_
     rw[Q2 (i p 0),f0];rfl
    .rw[Q2 (i p 1),f1];rfl
    .rw[Q2 (i p 2),f2];rfl
    .have p29:(10:Int)^(29:Int).toNat=100000000000000000000000000000:=by decide
     have I:zn4 10 29=true:=by decide
     refine R1 (Q4 (Q4 (Y4 (l9 (u5 (z6 (d:=.int (-1)) rfl (z6 (d:=.int 1) rfl y9)) i2))) (g9 e rfl) (g:=.int z) R) (Q4 (Y4 (d:=.int 100000000000000000000000000000) ?_) (g9 e2 rfl) (g:=.int (100000000000000000000000000000+y)) rfl) ?_) rfl
     .simp_arith [p29,I,if_true]
     .show (if E3 _ _=true then _ else none)=_
      rw[if_pos N]
end
section
open PySem L2
theorem yv7 {src:List (Option Nat)}{mi:ML}{i j:Nat}{z:MEm}{ρ ρb:Ro}{rr:Addr}{r0 r1 its out:List D}(I:ρ[i]? =some (some (.ob rr r0)))(h1:mi ρ=some its)(h2:Q6 z its ((V9 src ρ).set j (some (.own r0))) []=some (out,ρb))(G:ρb[j]? =some (some (.own r1))):E5 src mi i j z ρ=some (.lst out,ρ.set i (some (.ob rr r1))):=by
 unfold E5
 rw[I];simp only;rw[h1];simp only;rw[h2];simp only;rw[G]
theorem zt9 (kind:Int):∀(its:List Int)(c k:Int)(o:Option S)(acc:List Int),acc.length+its.length<=1000->(∀ v∈acc,-1000000000000000000000000000000<=v/\v<=1000000000000000000000000000000)->∃(f:List Int)(I j:Int)(o':Option S),f.length=acc.length+its.length/\(∀ v∈f,-1000000000000000000000000000000<=v/\v<=1000000000000000000000000000000)/\
  Q6 (m9 m_Z2 1 (apu (z7 (mvar 2) anil))) (its.map .int) [o,some (.own (RL c k)),k0c kind] (acc.map .int)=some (f.map .int,[o',some (.own (RL I j)),k0c kind])
 |[],c,k,o,acc,_,hb=>⟨acc,c,k,o,by simp,hb,rfl⟩
 |i::its,c,k,o,acc,h,hb=>by
  obtain⟨x,L,k1,N,e⟩:=zv7 c k kind
  obtain⟨f,I,j,o',R,G,e2⟩:=zt9 kind its L k1 (k0c i) (acc++[x]) (by simp at h ⊢;omega) (fun v O=>by
   rcases List.mem_append.mp O with z|z
   .exact hb v z
   .rw[List.mem_singleton.mp z];exact N)
  refine⟨f,I,j,o',by rw[R];simp;omega,G,?_⟩
  rw[map_cons,Q6]
  have e3:m9 m_Z2 1 (apu (z7 (mvar 2) anil)) [k0c i,some (.own (RL c k)),k0c kind]=some (.int x,[k0c i,some (.own (RL L k1)),k0c kind]):=
   V0 (r0:=RL c k) (r2:=RL c k) rfl (S1 (z6 (d:=.int kind) rfl y9)) rfl e rfl
  show (match m9 m_Z2 1 (apu (z7 (mvar 2) anil)) [k0c i,some (.own (RL c k)),k0c kind]with |some (x,ρ1)=>if (acc.map D.int).length<sizeLine then Q6 _ (its.map .int) ρ1 (acc.map D.int++[x])else none|none=>none)=_
  rw[e3]
  have M:(acc.map D.int).length<sizeLine:=by
   have:=m6
   rw[length_map];simp at h;omega
  simp only[M,if_true]
  rw[map_append]at e2
  exact e2
theorem ym6 (f:List Int):M3 (f.map .int)=some f:=J5 f
noncomputable def envW (p:Addr)(c k most kind many:Int)(f:List Int)(o5:Option S):Ro:=[some (.ob p (RL c k)),k0c most,k0c kind,k0c many,k0a f,o5]
theorem G3 {p:Addr}{c k i kind many sh j:Int}{f g:List Int}{E:ME}(G:sh=j->E (envW p c k i kind many f (k0c sh))=some (.lst (g.map .int))):
  mif (v7 (m2 eqSD (mvar 5) (mc (.int j)))) (mset 4 E) W6 (envW p c k i kind many f (k0c sh))=some (.nx (envW p c k i kind many (if sh=j then g else f) (k0c sh))):=by
 have z:v7 (m2 eqSD (mvar 5) (mc (.int j))) (envW p c k i kind many f (k0c sh))=some (sh==j):=by unfold v7 m2;rfl
 rw[Q2 z]
 by_cases h:sh=j
 .rw[show (sh==j)=true by rw[h];exact beq_self_eq_true _,if_pos h]
  exact(Y0 (G h)).trans rfl
 .rw[beq_eq_false_iff_ne.mpr h,if_neg h];rfl
theorem zh3 (c k:Int)(j:Nat)(hm:j<60):∃(f:List Int)(c' k':Int),f.length<=j/\(∀ v∈f,-2000000000000000000000000000000<=v/\v<=2000000000000000000000000000000)/\∀ p,yn9 p (RL c k) [.int (j:Int)]=some (.sh (.lst (f.map .int)),RL c' k'):=by
 have i2:0+1+1<=sizeLine:=u8 (by decide)
 have i3:0+1+1+1<=sizeLine:=u8 (by decide)
 obtain⟨kind,c1,k1,_,_,e1⟩:=f7 c k 4 (by decide) (by decide)
 obtain⟨w,c2,k2,l2,u2,e2⟩:=f7 c1 k1 3 (by decide) (by decide)
 obtain⟨m,a0,a4⟩:=at3 (min 4 ((j:Int)+1)) (min 9 ((j:Int)+1)) ((j:Int)+1) w l2 u2
 obtain⟨many,U,k3,l3,u3,e3⟩:=f7 c2 k2 m (by omega) (by omega)
 obtain⟨n,rfl⟩:=xk3 l3
 obtain⟨f,c4,Y,o',hf,R,e4⟩:=zt9 kind ((List.range n).map fun(i:Nat)=>(i:Int)) U k3 none [] (by simp;omega) (fun v L=>by cases L)
 obtain⟨sh,N,k5,_,_,e5⟩:=f7 c4 Y 6 (by decide) (by decide)
 have O:f.length=n:=by simpa using hf
 let I:List Int:=if sh=0 then J4 f else f
 have l1:I.length=n:=by
  show (if sh=0 then J4 f else f).length=n
  split
  .rw[C0,O]
  .exact O
 let g2:List Int:=(List.range I.length).map fun(i:Nat)=>I.getD i 0+(if (i:Int) % 2=0 then 7 else -7)
 let M:List Int:=if sh=1 then g2 else I
 have a3:M.length=n:=by
  show (if sh=1 then g2 else I).length=n
  split
  .show (List.map _ (List.range I.length)).length=n
   rw[length_map,length_range,l1]
  .exact l1
 let Z:List Int:=(List.replicate n (M.take 1)).flatten
 let S:List Int:=if sh=2 then Z else M
 have a2:S.length<=n:=by
  show (if sh=2 then Z else M).length<=n
  split
  .show (List.replicate n (M.take 1)).flatten.length<=n
   rw[length_flatten,map_replicate,sum_replicate_nat,length_take]
   exact Nat.le_trans (Nat.mul_le_mul_left n (Nat.min_le_left 1 _)) (by omega)
  .omega
 have b1:∀ v∈I,-1000000000000000000000000000000<=v/\v<=1000000000000000000000000000000:=by
  intro v L
  have L:v∈(if sh=0 then J4 f else f):=L
  split at L
  .exact R v ((N3 f).mem_iff.mp L)
  .exact R v L
 have b2:∀ v∈M,-2000000000000000000000000000000<=v/\v<=2000000000000000000000000000000:=by
  intro v L
  have L:v∈(if sh=1 then g2 else I):=L
  split at L
  .obtain⟨i,hi,rfl⟩:=List.mem_map.mp (show v∈List.map _ (List.range I.length)from L)
   have hi:=List.mem_range.mp hi
   have:=b1 (I.getD i 0) (by rw[getD_eq_getElem?_getD,getElem?_eq_getElem hi];exact getElem_mem hi)
   split <;> omega
  .have:=b1 v L;omega
 have b3:∀ v∈S,-2000000000000000000000000000000<=v/\v<=2000000000000000000000000000000:=by
  intro v L
  have L:v∈(if sh=2 then Z else M):=L
  split at L
  .obtain⟨l,hl,hvl⟩:=List.mem_flatten.mp (show v∈(List.replicate n (M.take 1)).flatten from L)
   rw[(List.mem_replicate.mp hl).2]at hvl
   exact b2 v (mem_of_mem_take hvl)
  .exact b2 v L
 refine⟨S,N,k5,by omega,b3,fun p=>?_⟩
 unfold yn9 b_Z11
 refine S4 ?_
 refine seqI (ρ':=[some (.ob p (RL c1 k1)),k0b j,k0c kind,none,none,none]) ((O9 (g9 (tl:=[k0b j,none,none,none,none]) e1 rfl)).trans rfl) ?_
 refine seqI (ρ':=[some (.ob p (RL U k3)),k0b j,k0c kind,k0b n,none,none]) ?_ ?_
 .have q1:t7 (z7 (D1 ze0 (z7 (mc (.int 4)) (z7 (m2 addD (mvar 1) (mc (.int 1))) anil))) (z7 (D1 ze0 (z7 (mc (.int 9)) (z7 (m2 addD (mvar 1) (mc (.int 1))) anil))) (z7 (m2 addD (mvar 1) (mc (.int 1))) anil))) [some (.ob p (RL c1 k1)),k0b j,k0c kind,none,none,none]=some [.int (min 4 ((j:Int)+1)),.int (min 9 ((j:Int)+1)),.int ((j:Int)+1)]:=by
   simp_arith [ya5,i3,if_true]
  refine(O9 (ρ1:=[some (.ob p (RL U k3)),k0b j,k0c kind,none,none,none]) (zk3 (ρ1:=[some (.ob p (RL c2 k2)),k0b j,k0c kind,none,none,none]) (p:=p) (r2:=RL c1 k1) rfl (m7 (Q4 (Y4 (l9 q1)) (g9 (tl:=[k0b j,k0c kind,none,none,none]) e2 rfl) (g:=.int m) a0) (S1 y9)) rfl (e3 p) rfl)).trans rfl
 have kn:okR (n:Int)=true:=D5 (by omega) (by omega)
 refine seqI (ρ':=envW p c4 Y j kind n f none) ?_ ?_
 .refine(O9 (yv7 (ρ:=[some (.ob p (RL U k3)),k0b j,k0c kind,k0b n,none,none]) (rr:=p) (r0:=RL U k3) (r1:=RL c4 Y) rfl (its:=((List.range n).map fun(i:Nat)=>(i:Int)).map .int) ?_ (out:=f.map .int) (ρb:=[o',some (.own (RL c4 Y)),k0c kind]) e4 rfl)).trans rfl
  unfold Y3
  rw[z6 (d:=.int (n:Int)) rfl y9,Option.bind_some,yr1 kn,Int.toNat_natCast,yr3]
 refine seqI (ρ':=envW p N k5 j kind n f (k0c sh)) ((O9 (g9 (tl:=[k0b j,k0c kind,k0b n,k0a f,none]) e5 rfl)).trans rfl) ?_
 refine seqI (G3 (g:=J4 f) fun _=>?_) ?_
 .refine l9 ?_
  unfold zq4
  show (match M3 (f.map D.int)with |some ns=>if ns.length<64 then some ((J4 ns).map D.int)else none|none=>none)=_
  rw[ym6]
  show (if f.length<64 then some ((J4 f).map D.int)else none)=_
  rw[if_pos (by omega)]
 show mseq _ _ (envW p N k5 j kind n I (k0c sh))=_
 refine seqI (G3 (g:=g2) fun _=>?_) ?_
 .refine l9 ?_
  unfold U7
  have ee:Y3 zd4 (z7 (mvar 4) anil) (envW p N k5 j kind n I (k0c sh))=some ((List.range I.length).map fun(i:Nat)=>D.tup [.int (i:Int),.int (I.getD i 0)]):=by
   unfold Y3
   rw[z6 (x:=mvar 4) (d:=.lst (I.map .int)) rfl y9,Option.bind_some]
   show some (zw7 0 (I.map .int))=_
   rw[zw6]
   simp only[Nat.zero_add]
  rw[ee,Option.bind_some]
  refine(T9 (f:=fun(i:Nat)=>D.tup [.int (i:Int),.int (I.getD i 0)]) (G:=fun(i:Nat)=>D.int (I.getD i 0+(if (i:Int) % 2=0 then 7 else -7))) (fun _ ρ=>∃ x y,ρ=[x,y]) (by
   rintro i ds ρ ⟨x,y,rfl⟩
   refine⟨[k0b i,some (.sh (.int (I.getD i 0)))],rfl,rfl,?_,_,_,rfl⟩
   have ix:mix (t7 (z7 (mc (.int 7)) (z7 (m1 negD (mc (.int 7))) anil))) (m2 modD (mvar 0) (mc (.int 2))) [k0b i,some (.sh (.int (I.getD i 0)))]=some (.int (if (i:Int) % 2=0 then 7 else -7)):=by
    refine D6 (u5 (z6 (d:=.int 7) rfl (z6 (d:=.int (-7)) rfl y9)) i2) (k:=(i:Int) % 2) ?_ ?_
    .simp_arith [N0 (i:Int) 2 (by decide),if_true]
    .have:=zk0 (x:=(i:Int)) (show (0:Int)<2 by decide)
     have:(i:Int) % 2=0\/(i:Int) % 2=1:=by omega
     rcases this with h|h
     .rw[h];rfl
     .rw[h];rfl
   rw[X7 (a:=.int (I.getD i 0)) rfl ix];rfl) (List.range I.length) _ [] ⟨none,none,rfl⟩ (u8 (by simp;omega))).trans ?_
  rw[nil_append]
  show some _=some (List.map D.int (List.map _ (List.range I.length)))
  rw[map_map]
  rfl
 show mseq _ _ (envW p N k5 j kind n M (k0c sh))=_
 refine seqI (G3 (g:=Z) fun _=>?_) ?_
 .refine l9 ?_
  have ec:mcut (bvar 4) B4 (F7 (mc (.int 1))) (envW p N k5 j kind n M (k0c sh))=some ((M.take 1).map .int):=by
   unfold mcut
   show some (cutL (M.map D.int) none (some 1))=_
   rw[A6]
   exact congrArg (fun z=>some (List.map D.int z)) (yk8 M 1)
  have a1:((M.take 1).map D.int).length<=1:=by rw[length_map,length_take];omega
  have a5:=m6
  rw[zf7 ec (k:=(n:Int)) rfl (by
   unfold zr4
   simp only[Bool.and_eq_true,decide_eq_true_eq]
   refine⟨⟨by omega,by omega⟩,?_⟩
   rw[Int.toNat_natCast]
   exact Nat.le_trans (Nat.mul_le_mul_right n a1) (by omega)),Int.toNat_natCast]
  show some _=some (List.map D.int (List.replicate n (M.take 1)).flatten)
  rw[map_flatten,map_replicate]
 show N7 0 (mpu (mvar 4)) (envW p N k5 j kind n S (k0c sh))=_
 exact R1 (Y4 (d:=.lst (S.map .int)) rfl) rfl
theorem zo5 (c k:Int):∃(s S I:Int),1<=s/\s<=100000000000000000000000000000/\∀ p,yu4 p (RL c k) []=some (.sh (.int s),RL S I):=by
 have L:0+1+1+1+1+1<=sizeLine:=u8 (by decide)
 obtain⟨x,R,k1,l1,Z,e1⟩:=f7 c k 4 (by decide) (by decide)
 obtain⟨y,O,k2,l2,Y,e2⟩:=f7 R k1 40 (by decide) (by decide)
 obtain⟨z,N,k3,l3,U,e3⟩:=f7 O k2 5 (by decide) (by decide)
 have j:(10:Int)^(29:Int).toNat=100000000000000000000000000000:=by decide
 have G:zn4 10 29=true:=by decide
 obtain⟨s,M,i⟩:∃ s,atI [D.int 1,.int 1,.int (1+x),.int (1+y),.int 100000000000000000000000000000] z=some (.int s)/\(1<=s/\s<=100000000000000000000000000000):=by
  have:z=0\/z=1\/z=2\/z=3\/z=4:=by omega
  rcases this with h|h|h|h|h <;> subst h <;> exact⟨_,rfl,by omega⟩
 refine⟨s,N,k3,i.1,i.2,fun p=>?_⟩
 unfold yu4 b_Z10
 refine S4 (R1 (Q4 (zq7 (m7 (Y4 (d:=.int 1) rfl) (m7 (Y4 (d:=.int 1) rfl) (m7 (Q4 (Y4 (d:=.int 1) rfl) (g9 (tl:=[]) e1 rfl) (g:=.int (1+x)) rfl) (m7 (Q4 (Y4 (d:=.int 1) rfl) (g9 (tl:=[]) e2 rfl) (g:=.int (1+y)) rfl) (S1 (z6 (d:=.int 100000000000000000000000000000) ?_ y9)))))) L) (g9 (tl:=[]) e3 rfl) (g:=.int s) M) rfl)
 simp_arith [j,G,if_true]
end
section
open PySem L2
theorem zn5:∀(xs:List Int)(o:Option S)(acc:List Int),acc.length+xs.length<=1000->zp1 (.nm 0) (t7 (z7 (mvar 0) (z7 (mc (.int 0)) anil))) (xs.map .int) [o] (acc.map fun c=>RL c 0)=some ((acc++xs).map fun c=>RL c 0)
 |[],o,acc,_=>by rw[append_nil];rfl
 |x::xs,o,acc,h=>by
  have i2:0+1+1<=sizeLine:=u8 (by decide)
  have j:=m6
  rw[map_cons,zp1]
  show (match t7 (z7 (mvar 0) (z7 (mc (.int 0)) anil)) [k0c x]with |some ds=>if (acc.map fun c=>RL c 0).length<sizeLine then zp1 _ _ (xs.map .int) [k0c x] ((acc.map fun c=>RL c 0)++[ds])else none|none=>none)=_
  rw[u5 (z6 (d:=.int x) rfl (z6 (d:=.int 0) rfl y9)) i2]
  have i:(acc.map fun c=>RL c 0).length<sizeLine:=by rw[length_map];simp at h;omega
  simp only[i,if_true]
  have:=zn5 xs (k0c x) (acc++[x]) (by simp at h ⊢;omega)
  rw[map_append,append_assoc]at this
  exact this
theorem xx8 (xs:List Int)(h:xs.length<=63):∃ z:List Int,T7 [.lst (xs.map .int)]=some (z.map fun c=>RL c 0):=by
 unfold T7 runP
 have i2:0+1+1<=sizeLine:=u8 (by decide)
 have j:v7 (m2 eqSD (mlen (bvar 0)) (mc (.int 0))) (v3 1 [.lst (xs.map .int)])=some ((xs.length:Int)==0):=by
  rw[yw1 (i:=(xs.length:Int)) (by rw[P5 (show bvar 0 _=some (xs.map .int)from rfl),length_map])]
 rw[j]
 cases hb:((xs.length:Int)==0)with
 |true=>
  refine⟨[0],?_⟩
  show yn1 _ _=_
  unfold yn1
  rw[u5 (z6 (d:=.int 0) rfl (z6 (d:=.int 0) rfl y9)) i2]
  rfl
 |false=>
  refine⟨cutI xs none (some 63),?_⟩
  show zs1 _ _ _ _ _=_
  unfold zs1
  have G:k7 (mlst (mcut (bvar 0) B4 (F7 (mc (.int 63))))) (v3 1 [.lst (xs.map .int)])=some ((cutI xs none (some 63)).map .int):=by
   refine g0 (l9 ?_)
   unfold mcut
   exact congrArg some (A6 D.int xs none (some 63))
  rw[G,Option.bind_some]
  have:=yy3 xs none (some 63)
  exact zn5 (cutI xs none (some 63)) none [] (by simp;omega)
theorem yy2 {j:Nat}{body:MS}(I:Ro->Prop)(z:∀ c ρ,I ρ->∃ ρ',body (ρ.set j (some (.own (RL c 0))))=some (.nx ρ')/\I ρ'):∀(i:List Int)(ρ:Ro),I ρ->∃ ρ',forP j body (i.map fun c=>RL c 0) ρ=some (.nx ρ')/\I ρ'
 |[],ρ,h=>⟨ρ,rfl,h⟩
 |c::i,ρ,h=>by
  obtain⟨ρ1,e1,h1⟩:=z c ρ h
  obtain⟨ρ2,e2,h2⟩:=yy2 I z i ρ1 h1
  refine⟨ρ2,?_,h2⟩
  rw[map_cons,forP,e1]
  exact e2
end
section
open PySem L2
noncomputable abbrev Gn:List Str:=["least_step","numbers","weights","lengths"]
noncomputable abbrev Gf (s:Int)(ns ws ls:List Int):List Fl:=[.v (.int s),.l (ns.map .int),.l (ws.map .int),.l (ls.map .int)]
noncomputable abbrev Gc (s:Int)(ns ws ls:List Int):Cell:=.ins "Grown" Gn (Gf s ns ws ls)
noncomputable abbrev Go (s:Int)(ns ws ls:List Int):D:=.obj "Grown" Gn [.int s,.lst (ns.map .int),.lst (ws.map .int),.lst (ls.map .int)]
theorem C5 (s:Int)(ns ws ls:List Int):zv1 (Gc s ns ws ls)=Go s ns ws ls:=rfl
theorem k9 {x y:MW}{ρ ρ':Ro}{β β':Bx}(h:x ρ β=some (.nx ρ',β')):Y2 x y ρ β=y ρ' β':=by unfold Y2;rw[h]
theorem zp7 {m:MS}{ρ ρ':Ro}{β:Bx}(h:m ρ=some (.nx ρ')):wS m ρ β=some (.nx ρ',β):=by unfold wS;rw[h]
theorem g7 (x:Addr)(c:Cell)(β:Bx):List.lookup x ((x,c)::β)=some c:=by rw[lookup_cons,beq_self_eq_true]
theorem W3 (x:Addr)(c i:Cell)(β:Bx):updB x i ((x,c)::β)=(x,i)::β:=by unfold updB;rw[if_pos rfl]
theorem xt4 {i:Nat}{c f:Str}{x:Ro->Bx->Option D}{ρ:Ro}{β:Bx}{d:D}{p:Addr}{ns:List Str}{fs:List Fl}(h:x ρ β=some d)(hp:ρ[i]? =some (some (.sh (.ptr p))))(j:β.lookup p=some (.ins c ns fs))(hn:ns.length<1000):yn2 i c f x ρ β=some (.nx ρ,updB p (.ins c (putN f (.v d) ns fs).1 (putN f (.v d) ns fs).2) β):=by
 unfold yn2;rw[h,Option.bind_some,hp];simp only;rw[j];simp only;rw[if_pos ⟨by trivial,hn⟩]
theorem J7 {i:Nat}{c f:Str}{x:Ro->Bx->Option (List D)}{ρ:Ro}{β:Bx}{ds:List D}{p:Addr}{ns:List Str}{fs:List Fl}(h:x ρ β=some ds)(hp:ρ[i]? =some (some (.sh (.ptr p))))(j:β.lookup p=some (.ins c ns fs))(hn:ns.length<1000):J0 i c f x ρ β=some (.nx ρ,updB p (.ins c (putN f (.l ds) ns fs).1 (putN f (.l ds) ns fs).2) β):=by
 unfold J0;rw[h,Option.bind_some,hp];simp only;rw[j];simp only;rw[if_pos ⟨by trivial,hn⟩]
theorem A4 {i:Nat}{c f:Str}{x:Ro->Bx->Option D}{ρ:Ro}{β:Bx}{d:D}{ds:List D}{p:Addr}{ns:List Str}{fs:List Fl}(h:x ρ β=some d)(hp:ρ[i]? =some (some (.sh (.ptr p))))(G:β.lookup p=some (.ins c ns fs))(z:getN f ns fs=some (.l ds))(j:ds.length<sizeLine):N8 i c f x ρ β=some (.nx ρ,updB p (.ins c ns (putN f (.l (ds++[d])) ns fs).2) β):=by
 unfold N8;rw[hp];simp only;rw[G];simp only;rw[z];simp only;rw[if_pos ⟨by trivial,j⟩,h];rfl
theorem zh8 {n:Nat}{m:MW}{ds:List D}{ρ:Ro}{β β':Bx}(h:m (v3 n ds) β=some (.nx ρ,β'))(i:β'.length=β.length):runW n m ds β=some (.sh .non,β'):=by
 unfold runW;rw[h];simp only[i,Nat.sub_self,drop_zero]
theorem ym7 (x:Addr)(s:Int)(G:1<=s)(β:Bx):w9 [.ptr x,.int s] ((x,.ins "Grown" [] [])::β)=some (.sh .non,(x,Gc s [] [] [])::β):=by
 unfold w9 b_Grown___init__
 have i:0<=sizeLine:=Nat.zero_le _
 have p1:(putN "least_step" (.v (.int s)) [] [])=((["least_step"]:List Str),[Fl.v (.int s)]):=rfl
 have p2:(putN "numbers" (.l []) ["least_step"] [Fl.v (.int s)])=((["least_step","numbers"]:List Str),[Fl.v (.int s),.l []]):=rfl
 have z:(putN "weights" (.l []) ["least_step","numbers"] [Fl.v (.int s),.l []])=((["least_step","numbers","weights"]:List Str),[Fl.v (.int s),.l [],.l []]):=rfl
 have j:(putN "lengths" (.l []) ["least_step","numbers","weights"] [Fl.v (.int s),.l [],.l []])=(Gn,[Fl.v (.int s),.l [],.l [],.l []]):=rfl
 refine zh8 (ρ:=[some (.sh (.ptr x)),k0c s]) ?_ rfl
 rw[k9 (zp7 (yz2 (j9 (z6 (d:=.int s) rfl y9) (X1 s G))))]
 rw[k9 (xt4 (d:=.int s) (p:=x) (ns:=[]) (fs:=[]) rfl rfl (g7 _ _ _) (by decide)),W3,p1]
 rw[k9 (J7 (ds:=[]) (p:=x) (ns:=["least_step"]) (fs:=[Fl.v (.int s)]) (u5 y9 i) rfl (g7 _ _ _) (by decide)),W3,p2]
 rw[k9 (J7 (ds:=[]) (p:=x) (u5 y9 i) rfl (g7 _ _ _) (by show 2<1000;decide)),W3,z]
 rw[J7 (ds:=[]) (p:=x) (u5 y9 i) rfl (g7 _ _ _) (by show 3<1000;decide),W3,j]
 rfl
theorem T8 {c f:Str}{m:ME}{ρ:Ro}{d e:D}(h:m ρ=some d)(h2:fldD c f d=some e):mfld c f m ρ=some e:=by unfold mfld;rw[h,Option.bind_some,h2]
theorem X8 (s:Int)(ns ws ls:List Int):fldD "Grown" "numbers" (Go s ns ws ls)=some (.lst (ns.map .int)):=rfl
theorem zi9 (s:Int)(ns ws ls:List Int):fldD "Grown" "weights" (Go s ns ws ls)=some (.lst (ws.map .int)):=rfl
theorem yi4 (s:Int)(ns ws ls:List Int):fldD "Grown" "lengths" (Go s ns ws ls)=some (.lst (ls.map .int)):=rfl
theorem yi2 (s:Int)(ns ws ls:List Int):fldD "Grown" "least_step" (Go s ns ws ls)=some (.int s):=rfl
theorem zx5 {c mn:Str}{f:MF}{mo:ME}{ρ:Ro}{ns:List Str}{ds0:List D}{d:D}(h:mo ρ=some (.obj c ns ds0))(hn:mn∉ns)(h2:f [.obj c ns ds0]=some (.sh d)):d7 c mn f mo anil ρ=some d:=by
 unfold d7;rw[h];simp only;rw[if_pos ⟨trivial,hn⟩];show (some []).bind _=_;rw[Option.bind_some];rw[h2]
def Pc (s:Int)(ns:List Int)(w:D)(cs:List D):Prop:=ze4 [D.lst (ns.map .int),.int s]=some (.pr w cs)
theorem xu1 {c mn:Str}{f:MF}{mo:ME}{ρ:Ro}{ns:List Str}{ds0 es:List D}{d:D}(h:mo ρ=some (.obj c ns ds0))(hn:mn∉ns)(h2:f [.obj c ns ds0]=some (.pr d es)):d7 c mn f mo anil ρ=some (.tup [d,.lst es]):=by
 unfold d7;rw[h];simp only;rw[if_pos ⟨trivial,hn⟩];show (some []).bind _=_;rw[Option.bind_some];rw[h2]
theorem zv4 {s:Int}{ns ws ls:List Int}{w:D}{i:List D}(h:Pc s ns w i):zu3 [Go s ns ws ls]=some (.pr w i):=by
 have e:yo6 ze4 (z7 (mfld "Grown" "numbers" (mvar 0)) (z7 (mfld "Grown" "least_step" (mvar 0)) anil)) (v3 1 [Go s ns ws ls])=some (.rp w i):=by
  unfold yo6
  rw[z6 (T8 (d:=Go s ns ws ls) rfl (X8 s ns ws ls)) (z6 (T8 (d:=Go s ns ws ls) rfl (yi2 s ns ws ls)) y9),Option.bind_some,h]
 unfold zu3 b_Z13 runB
 rw[e]
noncomputable def Lg (ns:List Int)(cs:List D):Int:=if ns.isEmpty then 0 else (cs.length:Int)+1
theorem M8 {s:Int}{ns ws ls:List Int}{w:D}{i:List D}(h:Pc s ns w i):Q7 [Go s ns ws ls]=some (.sh (.int (Lg ns i))):=by
 unfold Q7 b_Z14
 refine U6 ?_
 have e1:=xu1 (mo:=mvar 0) (mn:="pieces") (ρ:=v3 3 [Go s ns ws ls]) (f:=zu3) (d:=w) (es:=i) (c:="Grown") (ns:=Gn) (ds0:=[.int s,.lst (ns.map .int),.lst (ws.map .int),.lst (ls.map .int)]) rfl (by decide +kernel) (zv4 h)
 refine seqI (ρ':=[some (.sh (Go s ns ws ls)),some (.sh w),some (.sh (.lst i))]) (by unfold masg;rw[e1];rfl) ?_
 refine R0 ?_
 have e2:mtru (mfld "Grown" "numbers" (mvar 0)) [some (.sh (Go s ns ws ls)),some (.sh w),some (.sh (.lst i))]=some (!(ns.map D.int).isEmpty):=by
  unfold mtru;rw[T8 (d:=Go s ns ws ls) rfl (X8 s ns ws ls)];rfl
 unfold mite
 rw[e2]
 unfold Lg
 cases ns with
 |nil=>rfl
 |cons a ns=>
  have e3:mlen (bvar 2) [some (.sh (Go s (a::ns) ws ls)),some (.sh w),some (.sh (.lst i))]=some (.int i.length):=by unfold mlen;rfl
  show m2 addD (mlen (bvar 2)) (mc (.int 1)) _=some (.int ((i.length:Int)+1))
  unfold m2
  rw[e3]
  rfl
theorem U4 {x:Addr}{c i:Cell}:∀{β:Bx},β.lookup x=some c->(updB x i β).lookup x=some i
 |[],h=>by cases h
 | (q,d)::β,h=>by
  unfold updB
  by_cases z:q=x
  .rw[if_pos z,lookup_cons,beq_iff_eq.mpr z.symm]
  .have hb:(x==q)=false:=by
    cases w:x==q with
    |false=>rfl
    |true=>exact absurd (beq_iff_eq.mp w).symm z
   rw[if_neg z,lookup_cons,hb]
   rw[lookup_cons,hb]at h
   exact U4 h
theorem L5 {x:Addr}{c j:Cell}:∀{β:Bx},updB x j (updB x c β)=updB x j β
 |[]=>rfl
 | (q,d)::β=>by
  by_cases z:q=x
  .have e:∀(a b:Cell)(i:Bx),updB x a ((q,b)::i)=(q,a)::i:=fun a b i=>by rw[updB,if_pos z]
   rw[e,e,e]
  .have e:∀(a b:Cell)(i:Bx),updB x a ((q,b)::i)=(q,b)::updB x a i:=fun a b i=>by rw[updB,if_neg z]
   rw[e,e,e,L5]
theorem zx8 {x:Addr}{c:Cell}:∀{β:Bx},(updB x c β).length=β.length
 |[]=>rfl
 | (q,d)::β=>by
  unfold updB
  by_cases z:q=x
  .rw[if_pos z];rfl
  .rw[if_neg z,length_cons,zx8,length_cons]
theorem yh0 (x:Addr)(c:Cell)(β:Bx)(G:β.lookup x=some c)(j i:D)(h1:∀ a,j≠ .ptr a)(h2:∀ a,i≠ .ptr a):thaw [some (.sh (.ptr x)),some (.sh j),some (.sh i)] β=[some (.sh (zv1 c)),some (.sh j),some (.sh i)]:=by
 have t:∀ d,(∀ a,d≠D.ptr a)->U9 β (some (.sh d))=some (.sh d):=fun d hd=>by
  unfold U9
  split
  .rename_i p e
   cases e
   exact absurd rfl (hd p)
  .rfl
 have z:U9 β (some (.sh (.ptr x)))=some (.sh (zv1 c)):=by
  unfold U9;simp only;rw[G]
 unfold thaw
 rw[map_cons,map_cons,map_cons,map_nil,z,t j h1,t i h2]
theorem yb7 (x:Addr)(s:Int)(ns ws ls:List Int)(v g:Int)(β:Bx)(j:β.lookup x=some (Gc s ns ws ls)){w:D}{i:List D}(O:0<=g)(h:Pc s (ns++[v]) w i)(l1:ns.length<100000)(l2:ws.length<100000)(l3:ls.length<100000):k6 [.ptr x,.int v,.int g] β=some (.sh .non,updB x (Gc s (ns++[v]) (ws++[g]) (ls++[Lg (ns++[v]) i])) β):=by
 unfold k6 b_Grown_put
 have z:∀{xs:List Int},xs.length<100000->(xs.map D.int).length<sizeLine:=fun{xs} q=>by rw[length_map];exact Nat.lt_of_lt_of_le q (Nat.le_trans (by decide) m6)
 have G:∀(xs:List Int)(y:Int),xs.map D.int++[D.int y]=(xs++[y]).map D.int:=fun xs y=>by rw[map_append];rfl
 have M:(putN "numbers" (.l ((ns++[v]).map .int)) Gn (Gf s ns ws ls)).2=Gf s (ns++[v]) ws ls:=rfl
 have L:(putN "weights" (.l ((ws++[g]).map .int)) Gn (Gf s (ns++[v]) ws ls)).2=Gf s (ns++[v]) (ws++[g]) ls:=rfl
 have I:(putN "lengths" (.l ((ls++[Lg (ns++[v]) i]).map .int)) Gn (Gf s (ns++[v]) (ws++[g]) ls)).2=Gf s (ns++[v]) (ws++[g]) (ls++[Lg (ns++[v]) i]):=rfl
 refine zh8 (ρ:=[some (.sh (.ptr x)),k0c v,k0c g]) ?_ zx8
 rw[k9 (zp7 (yz2 (j9 (z6 (d:=.int g) rfl y9) (R6 g O))))]
 rw[k9 (A4 (d:=.int v) (ds:=ns.map .int) (p:=x) rfl rfl j rfl (z l1)),G,M]
 rw[k9 (A4 (d:=.int g) (ds:=ws.map .int) (p:=x) rfl rfl (U4 j) rfl (z l2)),L5,G,L]
 have N:V8 (d7 "Grown" "length" Q7 (mvar 0) anil) [some (.sh (.ptr x)),k0c v,k0c g] (updB x (Gc s (ns++[v]) (ws++[g]) ls) β)=some (.int (Lg (ns++[v]) i)):=by
  unfold V8
  rw[yh0 x _ _ (U4 j) (.int v) (.int g) (fun a z=>by cases z) (fun a z=>by cases z),C5,zx5 (mo:=mvar 0) (mn:="length") (f:=Q7) (c:="Grown") (ns:=Gn) (ds0:=[.int s,.lst ((ns++[v]).map .int),.lst ((ws++[g]).map .int),.lst (ls.map .int)]) rfl (by decide +kernel) (M8 h)]
  rfl
 show N8 0 "Grown" "lengths" (V8 (d7 "Grown" "length" Q7 (mvar 0) anil)) [some (.sh (.ptr x)),k0c v,k0c g] (updB x (Gc s (ns++[v]) (ws++[g]) ls) β)=_
 rw[A4 (d:=.int (Lg (ns++[v]) i)) (ds:=ls.map .int) (p:=x) N rfl (U4 j) rfl (z l3),L5,G,I]
theorem L6 (x:Addr)(c:Cell)(β:Bx)(I:β.lookup x=some c)(i:D)(o:Option S)(h1:∀ a,i≠ .ptr a)(h2:∀ a,o≠some (.sh (.ptr a))):thaw [some (.sh (.ptr x)),some (.sh i),o] β=[some (.sh (zv1 c)),some (.sh i),o]:=by
 have t:∀ y:Option S,(∀ a,y≠some (.sh (.ptr a)))->U9 β y=y:=fun y G=>by
  unfold U9
  split
  .rename_i p
   exact absurd rfl (G p)
  .rfl
 have j:U9 β (some (.sh (.ptr x)))=some (.sh (zv1 c)):=by
  unfold U9;simp only;rw[I]
 unfold thaw
 rw[map_cons,map_cons,map_cons,map_nil,j,t _ (fun a z=>by cases z;exact h1 a rfl),t o h2]
theorem zq9 (xs:List Int):(xs.map D.int).all isSc=true:=by
 induction xs with
 |nil=>rfl
 |cons a xs i=>rw[map_cons,all_cons,i];rfl
theorem ya7 {c:Ro->Bx->Option Bool}{x y:MW}{ρ:Ro}{β:Bx}(h:c ρ β=some false):mifW c x y ρ β=y ρ β:=by unfold mifW;rw[h]
theorem xz9 (x:Addr)(s:Int)(ns ws ls:List Int)(k:Nat)(β:Bx)(G:β.lookup x=some (Gc s ns ws ls)){w:D}{L:List D}(hk:k<=ns.length)(hw:ws.length=ns.length)(h:Pc s (ns.take (ns.length-k)) w L)(l3:ls.length<100000):
  i8 [.ptr x,.int (k:Int)] β=some (.sh .non,updB x (Gc s (ns.take (ns.length-k)) (ws.take (ns.length-k)) (ls++[Lg (ns.take (ns.length-k)) L])) β):=by
 unfold i8 b_Grown_take
 have ap:∀(xs:List Int)(y:Int),xs.map D.int++[D.int y]=(xs++[y]).map D.int:=fun xs y=>by rw[map_append];rfl
 have z:(ls.map D.int).length<sizeLine:=by rw[length_map];exact Nat.lt_of_lt_of_le l3 (Nat.le_trans (by decide) m6)
 have len:∀(o:Option S),mlen (k7 (mfld "Grown" "numbers" (mvar 0))) [some (.sh (Go s ns ws ls)),k0b k,o]=some (.int (ns.length:Int)):=fun o=>by
  unfold mlen;rw[g0 (T8 (d:=Go s ns ws ls) rfl (X8 s ns ws ls))];show some (D.int ((ns.map D.int).length:Int))=_;rw[length_map]
 refine zh8 (ρ:=[some (.sh (.ptr x)),k0b k,some (.sh (.int ((ns.length-k:Nat):Int)))]) ?_ zx8
 rw[show v3 3 [D.ptr x,.int (k:Int)]=[some (.sh (.ptr x)),k0b k,none]from rfl]
 have e1:zk6 (cor (v7 (m2 ltD (mvar 1) (mc (.int 0)))) (v7 (m2 gtD (mvar 1) (mlen (k7 (mfld "Grown" "numbers" (mvar 0))))))) [some (.sh (.ptr x)),k0b k,none] β=some false:=by
  unfold zk6
  rw[L6 x _ _ G (.int (k:Int)) none (fun a z=>by cases z) (fun a z=>by cases z),C5]
  refine yk9 (a:=false) (b:=false) ?_ ?_
  .rw[yb1 (i:=(k:Int)) (j:=0) rfl rfl,decide_eq_false (by omega)]
  .unfold v7 m2
   rw[len]
   show some (decide ((k:Int)>(ns.length:Int)))=_
   rw[decide_eq_false (by omega)]
 rw[k9 (ρ':=[some (.sh (.ptr x)),k0b k,none]) (β':=β) (by rw[ya7 e1];rfl)]
 have e2:yo5 2 (V8 (m2 subD (mlen (k7 (mfld "Grown" "numbers" (mvar 0)))) (mvar 1))) [some (.sh (.ptr x)),k0b k,none] β=some (.nx [some (.sh (.ptr x)),k0b k,some (.sh (.int ((ns.length-k:Nat):Int)))],β):=by
  unfold yo5 V8
  rw[L6 x _ _ G (.int (k:Int)) none (fun a z=>by cases z) (fun a z=>by cases z),C5]
  have:m2 subD (mlen (k7 (mfld "Grown" "numbers" (mvar 0)))) (mvar 1) [some (.sh (Go s ns ws ls)),k0b k,none]=some (.int ((ns.length-k:Nat):Int)):=by
   unfold m2
   rw[len]
   show some (D.int ((ns.length:Int)-(k:Int)))=_
   rw[show ((ns.length-k:Nat):Int)=(ns.length:Int)-(k:Int)by omega]
  rw[this]
  rfl
 rw[k9 e2]
 have I:∀(f:Str)(N us vs M:List Int)(O:Bx),O.lookup x=some (Gc s us vs M)->fldD "Grown" f (Go s us vs M)=some (.lst (N.map .int))->J2 (mcut (k7 (mfld "Grown" f (mvar 0))) B4 (F7 (mvar 2))) [some (.sh (.ptr x)),k0b k,some (.sh (.int ((ns.length-k:Nat):Int)))] O=some ((N.take (ns.length-k)).map .int):=fun f N us vs M O R hf=>by
  unfold J2
  rw[L6 x _ _ R (.int (k:Int)) (some (.sh (.int ((ns.length-k:Nat):Int)))) (fun a z=>by cases z) (fun a z=>by cases z),C5]
  have:mcut (k7 (mfld "Grown" f (mvar 0))) B4 (F7 (mvar 2)) [some (.sh (Go s us vs M)),k0b k,some (.sh (.int ((ns.length-k:Nat):Int)))]=some ((N.take (ns.length-k)).map .int):=by
   unfold mcut
   rw[g0 (T8 (d:=Go s us vs M) rfl hf)]
   show some (cutL (N.map D.int) none (some ((ns.length-k:Nat):Int)))=_
   rw[A6,yk8]
  rw[this,Option.bind_some,if_pos (zq9 _)]
 have Z:putN "numbers" (.l ((ns.take (ns.length-k)).map .int)) Gn (Gf s ns ws ls)=(Gn,Gf s (ns.take (ns.length-k)) ws ls):=rfl
 have Y:putN "weights" (.l ((ws.take (ns.length-k)).map .int)) Gn (Gf s (ns.take (ns.length-k)) ws ls)=(Gn,Gf s (ns.take (ns.length-k)) (ws.take (ns.length-k)) ls):=rfl
 have U:(putN "lengths" (.l ((ls++[Lg (ns.take (ns.length-k)) L]).map .int)) Gn (Gf s (ns.take (ns.length-k)) (ws.take (ns.length-k)) ls)).2=Gf s (ns.take (ns.length-k)) (ws.take (ns.length-k)) (ls++[Lg (ns.take (ns.length-k)) L]):=rfl
 rw[k9 (J7 (p:=x) (ns:=Gn) (fs:=Gf s ns ws ls) (I "numbers" ns ns ws ls β G (X8 s ns ws ls)) rfl G (by decide +kernel)),Z]
 rw[k9 (J7 (p:=x) (ns:=Gn) (fs:=Gf s (ns.take (ns.length-k)) ws ls) (I "weights" ws (ns.take (ns.length-k)) ws ls _ (U4 G) (zi9 s _ ws ls)) rfl (U4 G) (by decide +kernel)),L5,Y]
 have lk:V8 (d7 "Grown" "length" Q7 (mvar 0) anil) [some (.sh (.ptr x)),k0b k,some (.sh (.int ((ns.length-k:Nat):Int)))] (updB x (Gc s (ns.take (ns.length-k)) (ws.take (ns.length-k)) ls) β)=some (.int (Lg (ns.take (ns.length-k)) L)):=by
  unfold V8
  rw[L6 x _ _ (U4 G) (.int (k:Int)) (some (.sh (.int ((ns.length-k:Nat):Int)))) (fun a z=>by cases z) (fun a z=>by cases z),C5,zx5 (mo:=mvar 0) (mn:="length") (f:=Q7) (c:="Grown") (ns:=Gn) (ds0:=[.int s,.lst ((ns.take (ns.length-k)).map .int),.lst ((ws.take (ns.length-k)).map .int),.lst (ls.map .int)]) rfl (by decide +kernel) (M8 h)]
  rfl
 show N8 0 "Grown" "lengths" (V8 (d7 "Grown" "length" Q7 (mvar 0) anil)) [some (.sh (.ptr x)),k0b k,some (.sh (.int ((ns.length-k:Nat):Int)))] (updB x (Gc s (ns.take (ns.length-k)) (ws.take (ns.length-k)) ls) β)=_
 rw[A4 (d:=.int (Lg (ns.take (ns.length-k)) L)) (ds:=ls.map .int) (p:=x) lk rfl (U4 G) rfl z,L5,ap,U]
theorem yx6 (s:Int)(ns ws ls:List Int):zk4 [Go s ns ws ls]=some (.fr (ns.map .int)):=by
 unfold zk4 b_Z20
 refine zg0 ?_
 unfold zq6
 rw[g0 (T8 (d:=Go s ns ws ls) rfl (X8 s ns ws ls))]
 rfl
theorem C9 (s:Int)(ns ws ls:List Int):m_Z8 [Go s ns ws ls]=some (.fr (ls.map .int)):=by
 unfold m_Z8 b_Z8
 refine zg0 ?_
 unfold zq6
 rw[g0 (T8 (d:=Go s ns ws ls) rfl (yi4 s ns ws ls))]
 rfl
end
section
open PySem L2
noncomputable def cutD (s:Int)(ns:List Int):List D:=(NI (yk7 s ns)).map .int
noncomputable def zs9 (s:Int)(ns:List Int):D:=.str (kd (E8 s ns))
theorem za6 (s:Int)(ns:List Int)(i:1<=s)(j:ns.length<=300):Pc s ns (zs9 s ns) (cutD s ns):=zn7 ns s i j
noncomputable def lenG (s:Int)(ns:List Int):Int:=Lg ns (cutD s ns)
theorem zc6 (s:Int)(ns ws ls:List Int)(i:1<=s)(hw:ws.length=ns.length)(z:∀ x∈ws,0<=x)(j:ns.length<=300):∃ w:Int,∀ ls,yu3 [Go s ns ws ls]=some (.sh (.int w)):=by
 obtain⟨l,e⟩:=zd0 ns ws s i hw z j
 refine⟨wt (xr ws) l,fun ls=>?_⟩
 unfold yu3 b_Z12
 refine U6 ?_
 have e1:=j9 (f:=yu2) (m:=z7 (mfld "Grown" "numbers" (mvar 0)) (z7 (mfld "Grown" "least_step" (mvar 0)) (z7 (mfld "Grown" "weights" (mvar 0)) anil))) (ρ:=v3 3 [Go s ns ws ls]) (z6 (T8 (d:=Go s ns ws ls) rfl (X8 s ns ws ls)) (z6 (T8 (d:=Go s ns ws ls) rfl (yi2 s ns ws ls)) (z6 (T8 (d:=Go s ns ws ls) rfl (zi9 s ns ws ls)) y9))) e
 refine seqI (ρ':=[some (.sh (Go s ns ws ls)),some (.sh (.int (wt (xr ws) l))),some (.sh (L l))]) (by unfold masg;rw[e1];rfl) rfl
theorem yi3 (s:Int)(ns ws:List Int)(i:1<=s)(j:ns.length<=300):∃ w:Int,∀ ls,m_Z4 [Go s ns ws ls]=some (.sh (.int w)):=by
 obtain⟨w,e⟩:=yv9 ns s i j
 refine⟨w,fun ls=>?_⟩
 unfold m_Z4 b_Z4
 exact U6 (R0 (j9 (z6 (T8 (d:=Go s ns ws ls) rfl (X8 s ns ws ls)) (z6 (T8 (d:=Go s ns ws ls) rfl (yi2 s ns ws ls)) y9)) e))
theorem yn4 {c mn:Str}{f:MF}{mo:ME}{ρ:Ro}{ns:List Str}{ds0 es:List D}(h:mo ρ=some (.obj c ns ds0))(hn:mn∉ns)(h2:f [.obj c ns ds0]=some (.fr es)):d7 c mn f mo anil ρ=some (.lst es):=by
 unfold d7;rw[h];simp only;rw[if_pos ⟨trivial,hn⟩];show (some []).bind _=_;rw[Option.bind_some];rw[h2]
theorem xt8 (n:Nat)(w:Str)(xs:List Int):eqF (n+3) (.tup [.str w,.lst (xs.map .int)]) (.tup [.str w,.lst (xs.map .int)])=some true:=by
 show ((zipE (eqF (n+2)) [.str w,.lst (xs.map .int)] [.str w,.lst (xs.map .int)]).map fun b=>b&&_)=_
 simp only[zipE,ya8 n,Option.bind_some,Bool.and_self]
 show ((some (w==w)).bind _).map _=_
 rw[show (w==w)=true from beq_self_eq_true w];rfl
theorem xs0 (n:Nat)(i:Int):eqF (n+1) (.int i) (.int i)=some true:=by
 show some (i==i)=_
 rw[beq_self_eq_true]
def same (es:List D):Prop:=∀ neg,eqFD neg (.lst es) (.lst es)=some (.bl (!neg))
theorem yz3 {c mn:Str}{f:MF}{mo:ME}{ρ:Ro}{ns:List Str}{ds0 es:List D}(h:mo ρ=some (.obj c ns ds0))(hn:mn∉ns)(h2:f [.obj c ns ds0]=some (.fr es)):P4 c mn f mo ρ=some es:=by
 unfold P4;rw[h];simp only;rw[if_pos ⟨trivial,hn⟩,h2]
theorem xq3 {x:Addr}{c:Cell}{β:Bx}(i:β.lookup x=some c):thaw [some (.sh (.ptr x))] β=[some (.sh (zv1 c))]:=by
 unfold thaw
 rw[map_cons,map_nil]
 unfold U9;simp only;rw[i]
theorem N5 {x:Ro->Bx->Option D}{m:Ro->Bx->Option (List D)}{ρ:Ro}{β:Bx}{d:D}{ds:List D}(h:x ρ β=some d)(h2:m ρ β=some ds):zu6 x m ρ β=some (d::ds):=by
 unfold zu6;rw[h,Option.bind_some,h2];rfl
theorem yh4 (s:Int)(ns ws ls:List Int)(j:1<=s)(hw:ws.length=ns.length)(U:∀ x∈ws,0<=x)(z:ns.length<=300):∃ es,same es/\∀ x β,β.lookup x=some (Gc s ns ws ls)->c7 [.ptr x] β=some (.sh (.lst es),β):=by
 obtain⟨w,Y⟩:=zc6 s ns ws [] j hw U z
 obtain⟨v,Z⟩:=yi3 s ns ws j z
 have G:=za6 s ns j z
 refine⟨[.lst (ns.map .int),.lst (ls.map .int),.int (lenG s ns),.int w,.int v,.tup [zs9 s ns,.lst (cutD s ns)]],fun i=>?_,fun x β S=>?_⟩
 .unfold eqFD
  have:eqF 8 (.lst [.lst (ns.map .int),.lst (ls.map .int),.int (lenG s ns),.int w,.int v,.tup [zs9 s ns,.lst (cutD s ns)]]) (.lst [.lst (ns.map .int),.lst (ls.map .int),.int (lenG s ns),.int w,.int v,.tup [zs9 s ns,.lst (cutD s ns)]])=some true:=by
   show (if _=_ then zipE (eqF 7) _ _ else some false)=_
   rw[if_pos rfl]
   have t:=xt8 4 (kd (E8 s ns)) (NI (yk7 s ns))
   simp only[zipE,ya8 5,xs0 6,Option.bind_some,Bool.and_self,zs9,cutD,t]
  rw[this];cases i <;> rfl
 .have i6:6<=sizeLine:=u8 (by decide)
  have tb:=xq3 S
  rw[C5]at tb
  have ob:mvar 0 [some (.sh (Go s ns ws ls))]=some (.obj "Grown" Gn [.int s,.lst (ns.map .int),.lst (ws.map .int),.lst (ls.map .int)]):=rfl
  have O:("row":Str)∉Gn:=by decide +kernel
  have R:("moments":Str)∉Gn:=by decide +kernel
  have N:("length":Str)∉Gn:=by decide +kernel
  have M:("weight":Str)∉Gn:=by decide +kernel
  have L:("how_many":Str)∉Gn:=by decide +kernel
  have I:("pieces":Str)∉Gn:=by decide +kernel
  have a1:lsW (J2 (P4 "Grown" "row" zk4 (mvar 0))) [some (.sh (.ptr x))] β=some (.lst (ns.map .int)):=by
   unfold lsW J2
   rw[tb,yz3 ob O (yx6 s ns ws ls),Option.bind_some,if_pos (zq9 ns)];rfl
  have a0:lsW (J2 (P4 "Grown" "moments" m_Z8 (mvar 0))) [some (.sh (.ptr x))] β=some (.lst (ls.map .int)):=by
   unfold lsW J2
   rw[tb,yz3 ob R (C9 s ns ws ls),Option.bind_some,if_pos (zq9 ls)];rfl
  have a2:V8 (d7 "Grown" "length" Q7 (mvar 0) anil) [some (.sh (.ptr x))] β=some (.int (lenG s ns)):=by
   unfold V8
   rw[tb,zx5 ob N (M8 G)];rfl
  have a3:V8 (d7 "Grown" "weight" yu3 (mvar 0) anil) [some (.sh (.ptr x))] β=some (.int w):=by
   unfold V8
   rw[tb,zx5 ob M (Y ls)];rfl
  have a4:V8 (d7 "Grown" "how_many" m_Z4 (mvar 0) anil) [some (.sh (.ptr x))] β=some (.int v):=by
   unfold V8
   rw[tb,zx5 ob L (Z ls)];rfl
  have a5:zk2 0 "Grown" "pieces" zu3 [some (.sh (.ptr x))] β=some (.tup [zs9 s ns,.lst (cutD s ns)]):=by
   unfold zk2
   rw[tb]
   show (if _ then _ else _)=_
   rw[if_pos ⟨rfl,I⟩,show zu3 [.obj "Grown" Gn [.int s,.lst (ns.map .int),.lst (ws.map .int),.lst (ls.map .int)]]=some (.pr (zs9 s ns) (cutD s ns))from zv4 G]
   simp only
   rw[if_pos ⟨rfl,zq9 _⟩]
  have key:b_law_stood [some (.sh (.ptr x))] β=some (.rt (.lst [.lst (ns.map .int),.lst (ls.map .int),.int (lenG s ns),.int w,.int v,.tup [zs9 s ns,.lst (cutD s ns)]]),β):=by
   unfold b_law_stood zq5 lstW
   rw[N5 a1 (N5 a0 (N5 a2 (N5 a3 (N5 a4 (N5 a5 rfl))))),Option.bind_some,if_pos (show [D.lst (ns.map .int),.lst (ls.map .int),.int (lenG s ns),.int w,.int v,.tup [zs9 s ns,.lst (cutD s ns)]].length<=sizeLine from i6)]
   rfl
  unfold c7 runW
  rw[show v3 1 [D.ptr x]=[some (.sh (.ptr x))]from rfl,key]
  simp only[Nat.sub_self,drop_zero]
theorem xg7 {i:Nat}{m:ML}{ρ:Ro}{β:Bx}{x:Addr}{s:Int}{ns ws ls:List Int}{v g:Int}(hp:ρ[i]? =some (some (.sh (.ptr x))))(j:β.lookup x=some (Gc s ns ws ls))(hm:m ρ=some [.int v,.int g])(G:0<=g)(z:1<=s)(l1:ns.length<300)(l2:ws.length<300)(l3:ls.length<100000):
  Q3 (Q0 i "Grown" "put" k6 m) ρ β=some (.nx ρ,updB x (Gc s (ns++[v]) (ws++[g]) (ls++[lenG s (ns++[v])])) β):=by
 unfold Q3 Q0
 rw[hp];simp only;rw[j];simp only
 rw[if_pos ⟨trivial,by decide +kernel⟩,hm,Option.bind_some,yb7 x s ns ws ls v g β j G (za6 s (ns++[v]) z (by simp;omega)) (by omega) (by omega) l3]
 rfl
theorem xg8 {i:Nat}{m:MLm}{ρ ρ1:Ro}{β:Bx}{x:Addr}{s:Int}{ns ws ls:List Int}{v g:Int}(hp:ρ[i]? =some (some (.sh (.ptr x))))(j:β.lookup x=some (Gc s ns ws ls))(hm:m ρ=some ([.int v,.int g],ρ1))(G:0<=g)(z:1<=s)(l1:ns.length<300)(l2:ws.length<300)(l3:ls.length<100000):
  zx1 i "Grown" "put" k6 m ρ β=some (.nx ρ1,updB x (Gc s (ns++[v]) (ws++[g]) (ls++[lenG s (ns++[v])])) β):=by
 unfold zx1
 rw[hp];simp only;rw[j];simp only
 rw[if_pos ⟨trivial,by decide +kernel⟩,hm];simp only
 rw[yb7 x s ns ws ls v g β j G (za6 s (ns++[v]) z (by simp;omega)) (by omega) (by omega) l3]
 rfl
theorem xq4 {i:Nat}{m:ML}{ρ:Ro}{β:Bx}{x:Addr}{s:Int}{ns ws ls:List Int}{k:Nat}(hp:ρ[i]? =some (some (.sh (.ptr x))))(j:β.lookup x=some (Gc s ns ws ls))(hm:m ρ=some [.int (k:Int)])(z:1<=s)(hk:k<=ns.length)(hw:ws.length=ns.length)(l1:ns.length<=300)(l3:ls.length<100000):
  Q3 (Q0 i "Grown" "take" i8 m) ρ β=some (.nx ρ,updB x (Gc s (ns.take (ns.length-k)) (ws.take (ns.length-k)) (ls++[lenG s (ns.take (ns.length-k))])) β):=by
 unfold Q3 Q0
 rw[hp];simp only;rw[j];simp only
 rw[if_pos ⟨trivial,by decide +kernel⟩,hm,Option.bind_some,xz9 x s ns ws ls k β j hk hw (za6 s _ z (by rw[length_take];omega)) l3]
 rfl
end
section
open PySem L2
theorem zv6 (c k:Int):∃(s Z L:Int),0<=s/\∀ p,m_Z1 p (RL c k) []=some (.sh (.int s),RL Z L):=by
 have M:0+1+1+1+1+1<=sizeLine:=u8 (by decide)
 obtain⟨x,Y,k1,l1,u1,e1⟩:=f7 c k 10 (by decide) (by decide)
 obtain⟨y,U,k2,l2,u2,e2⟩:=f7 Y k1 1000 (by decide) (by decide)
 obtain⟨v,S,k3,l3,u3,e3⟩:=f7 U k2 1000 (by decide) (by decide)
 obtain⟨z,R,I,l4,u4,O⟩:=f7 S k3 5 (by decide) (by decide)
 have i:(10:Int)^(29:Int).toNat=100000000000000000000000000000:=by decide
 have j:zn4 10 29=true:=by decide
 obtain⟨s,N,G⟩:∃ s,atI [D.int 0,.int 1,.int x,.int y,.int (100000000000000000000000000000+v)] z=some (.int s)/\0<=s:=by
  have:z=0\/z=1\/z=2\/z=3\/z=4:=by omega
  rcases this with h|h|h|h|h <;> subst h <;> exact⟨_,rfl,by omega⟩
 refine⟨s,R,I,G,fun p=>?_⟩
 unfold m_Z1 b_Z1
 refine S4 (R1 (Q4 (zq7 (m7 (Y4 (d:=.int 0) rfl) (m7 (Y4 (d:=.int 1) rfl) (m7 (g9 (tl:=[]) e1 rfl) (m7 (g9 (tl:=[]) e2 rfl) (m7 (Q4 (Y4 (d:=.int 100000000000000000000000000000) ?_) (g9 (tl:=[]) e3 rfl) (g:=.int (100000000000000000000000000000+v)) rfl) (S1 y9)))))) M) (g9 (tl:=[]) O rfl) (g:=.int s) N) rfl)
 simp_arith [i,j,if_true]
theorem zd1 {g:Tg}{body:MW}{d:D}{ds:List D}{ρ ρ1 ρ2:Ro}{β i:Bx}(h1:tgD g d ρ=some ρ1)(h2:body ρ1 β=some (.nx ρ2,i)):forW g body (d::ds) ρ β=forW g body ds ρ2 i:=by
 rw[forW,h1];simp only;rw[h2]
noncomputable abbrev RI (xs:List Int):D:=.lst (xs.map .int)
theorem xr0 {i:Type}{β:Bx}{f:Addr->Option i}(h:∀ x,f x=none):anyN β f=none:=by
 unfold anyN
 rw[dif_neg]
 rintro⟨r,z⟩
 obtain⟨x,j⟩:=zs4 (β.map Prod.fst)
 have:=z x j
 rw[h x]at this
 cases this
theorem zh4 {x y:MW}{ρ:Ro}{β:Bx}(h:x ρ β=none):Y2 x y ρ β=none:=by unfold Y2;rw[h]
theorem xr6 {m:MS}{ρ:Ro}{β:Bx}(h:m ρ=none):wS m ρ β=none:=by unfold wS;rw[h]
theorem zh9 {n:Nat}{m:MW}{ds:List D}{β:Bx}(h:m (v3 n ds) β=none):runW n m ds β=none:=by unfold runW;rw[h]
theorem J6 {c:Ro->Bx->Option Bool}{x y:MW}{ρ:Ro}{β:Bx}{b:Bool}(h:c ρ β=some b):mifW c x y ρ β=(if b then x else y) ρ β:=by unfold mifW;rw[h];cases b <;> rfl
theorem zh0 {c:MB}{x y:MXe}{ρ:Ro}{b:Bool}(h:c ρ=some b):xifE c x y ρ=(if b then x else y) ρ:=by unfold xifE;rw[h];cases b <;> rfl
theorem xy2 (s:Int)(h:s<1):J1 [.int s]=none:=by
 unfold J1 b_Z17
 refine ys8 ?_
 rw[Q2 (zo2 (i:=s) (k:=1) rfl rfl),decide_eq_true h];rfl
theorem xq9 (s:Int)(h:s<1):zu9 [.int s]=some "NoStep":=by
 unfold zu9 yj7
 refine zy0 (ρ:=v3 1 [.int s]) ?_
 rw[yt5 (zo2 (i:=s) (k:=1) rfl rfl),decide_eq_true h]
 exact zz3 (z6 rfl y9)
theorem yt8 (g:Int)(h:g<0):m_Z7 [.int g]=none:=by
 unfold m_Z7 b_Z7
 refine ys8 ?_
 rw[Q2 (zo2 (i:=g) (k:=0) rfl rfl),decide_eq_true h];rfl
theorem yi8 (g:Int)(h:g<0):yx8 [.int g]=some "NoWeights":=by
 unfold yx8 xs5
 refine zy0 (ρ:=v3 1 [.int g]) ?_
 rw[yt5 (zo2 (i:=g) (k:=0) rfl rfl),decide_eq_true h]
 exact zz3 (z6 rfl y9)
theorem xu7 (x:Addr)(s:Int)(h:s<1)(β:Bx):w9 [.ptr x,.int s] β=none:=by
 unfold w9 b_Grown___init__
 exact zh9 (zh4 (xr6 (yz1 (yz4 (z6 (d:=.int s) rfl y9) (xy2 s h)))))
theorem xj1 (x:Addr)(s:Int)(h:s<1):j5 [.ptr x,.int s]=some "NoStep":=by
 unfold j5 X0
 exact zy0 (xr5 (zb0 (z6 (d:=.int s) rfl y9) (xq9 s h)))
theorem xp9 (x:Addr)(v g:Int)(h:g<0)(β:Bx):k6 [.ptr x,.int v,.int g] β=none:=by
 unfold k6 b_Grown_put
 exact zh9 (zh4 (xr6 (yz1 (yz4 (z6 (d:=.int g) rfl y9) (yt8 g h)))))
theorem xp8 (d:D)(v g:Int)(h:g<0):X2 [d,.int v,.int g]=some "NoWeights":=by
 unfold X2 O3
 exact zy0 (xr5 (zb0 (z6 (d:=.int g) rfl y9) (yi8 g h)))
section
variable (s:Int)(ns ws ls:List Int)(k:Int)(hk:k<0\/(ns.length:Int)<k)
include hk
theorem zo0 (o:Option S):cor (v7 (m2 ltD (mvar 1) (mc (.int 0)))) (v7 (m2 gtD (mvar 1) (mlen (k7 (mfld "Grown" "numbers" (mvar 0)))))) [some (.sh (Go s ns ws ls)),k0c k,o]=some true:=by
 have len:mlen (k7 (mfld "Grown" "numbers" (mvar 0))) [some (.sh (Go s ns ws ls)),k0c k,o]=some (.int (ns.length:Int)):=by
  unfold mlen;rw[g0 (T8 (d:=Go s ns ws ls) rfl (X8 s ns ws ls))];show some (D.int ((ns.map D.int).length:Int))=_;rw[length_map]
 have e1:v7 (m2 ltD (mvar 1) (mc (.int 0))) [some (.sh (Go s ns ws ls)),k0c k,o]=some (decide (k<0)):=zo2 rfl rfl
 have e2:v7 (m2 gtD (mvar 1) (mlen (k7 (mfld "Grown" "numbers" (mvar 0))))) [some (.sh (Go s ns ws ls)),k0c k,o]=some (decide (k>(ns.length:Int))):=by
  unfold v7
  rw[X7 (a:=.int k) rfl len];rfl
 refine(yk9 e1 e2).trans ?_
 congr 1
 rw[Bool.or_eq_true,decide_eq_true_eq,decide_eq_true_eq]
 omega
theorem xz8 (x:Addr)(β:Bx)(i:β.lookup x=some (Gc s ns ws ls)):i8 [.ptr x,.int k] β=none:=by
 unfold i8 b_Grown_take
 refine zh9 (zh4 ?_)
 rw[show v3 3 [D.ptr x,.int k]=[some (.sh (.ptr x)),k0c k,none]from rfl]
 have e1:zk6 (cor (v7 (m2 ltD (mvar 1) (mc (.int 0)))) (v7 (m2 gtD (mvar 1) (mlen (k7 (mfld "Grown" "numbers" (mvar 0))))))) [some (.sh (.ptr x)),k0c k,none] β=some true:=by
  unfold zk6
  rw[L6 x _ _ i (.int k) none (fun a z=>by cases z) (fun a z=>by cases z),C5]
  exact zo0 s ns ws ls k hk none
 rw[J6 e1]
 rfl
theorem xz7:Z8 [Go s ns ws ls,.int k]=some "NoNumber":=by
 unfold Z8 R3
 refine zy0 (ρ:=v3 3 [Go s ns ws ls,.int k]) ?_
 rw[yt5 (show cor _ _ (v3 3 [Go s ns ws ls,.int k])=some true from zo0 s ns ws ls k hk none)]
 exact zz3 (z6 rfl y9)
end
noncomputable def fN (d:Nat):Str:=match d with |0=>"NoStep"|1=>"NoWeights"|_=>"NoNumber"
noncomputable def fB (d:Nat):List Bool:=match d with |0=>[true,false,false,false,false,false,false,false]|1=>[false,false,true,false,false,false,false,false]|_=>[false,true,false,false,false,false,false,false]
theorem yc2 (d:Nat):yn8 [.exc (fN d)]=some (.fr ((fB d).map .bl)):=by
 have x:∀{o:Option S}{z j i:Bool},misX [("NoNumber",z),("NoStep",j),("NoWeights",i)] (mvar 0) [some (.sh (.exc (fN d))),o]=some (.bl (match d with |0=>j|1=>i|_=>z)):=fun{o z j i}=>by
  refine xu0 (c:=fN d) rfl ?_
  match d with
  |0=>rfl
  |1=>rfl
  |d+2=>rfl
 have M:0+1+1+1+1<=sizeLine:=u8 (by decide)
 have i3:0+1+1+1<=sizeLine:=u8 (by decide)
 have i1:0+1<=sizeLine:=u8 (by decide)
 have N:=m6
 unfold yn8 b_Z19
 refine zg0 ?_
 refine seqI (ρ':=[some (.sh (.exc (fN d))),some (.sh (.lst (((fB d).take 4).map .bl)))]) ((Y0 (l9 (u5 (z6 x (z6 x (z6 x (z6 x y9)))) M))).trans ?_) ?_
 .match d with
  |0=>rfl
  |1=>rfl
  |d+2=>rfl
 have L:((fB d).take 4).length=4:=by
  match d with
  |0=>rfl
  |1=>rfl
  |d+2=>rfl
 have I:((fB d).take 7).length=7:=by
  match d with
  |0=>rfl
  |1=>rfl
  |d+2=>rfl
 refine seqI (ρ':=[some (.sh (.exc (fN d))),some (.sh (.lst (((fB d).take 7).map .bl)))]) ((Y0 (l9 (E6 (ds:=((fB d).take 4).map .bl) rfl (u5 (z6 x (z6 x (z6 x y9))) i3) (by rw[length_map,L];simp;omega)))).trans ?_) ?_
 .match d with
  |0=>rfl
  |1=>rfl
  |d+2=>rfl
 have G:m1 notD (misX [("NoNumber",true),("NoStep",true),("NoWeights",true)] (mvar 0)) [some (.sh (.exc (fN d))),some (.sh (.lst (((fB d).take 7).map .bl)))]=some (.bl false):=by
  unfold m1;rw[x]
  match d with
  |0=>rfl
  |1=>rfl
  |d+2=>rfl
 unfold zq6
 rw[E6 (ds:=((fB d).take 7).map .bl) rfl (u5 (z6 G y9) i1) (by rw[length_map,I];simp;omega)]
 match d with
 |0=>rfl
 |1=>rfl
 |d+2=>rfl
theorem xz5 {names:List Str}{mb:MW}{z:MS}{j:MXe}{i:Nat}{ρ:Ro}{β:Bx}{o:Out×Bx}(h:mb ρ β=some o):zf6 names mb j i z ρ β=some o:=by unfold zf6;rw[h]
theorem xq0 {names:List Str}{mb:MW}{z:MS}{j:MXe}{i:Nat}{ρ ρ2:Ro}{β:Bx}{c:Str}(h:mb ρ β=none)(G:j (thaw ρ β)=some c)(L:c∈names)(I:z (ρ.set i (some (.sh (.exc c))))=some (.nx ρ2)):zf6 names mb j i z ρ β=some (.nx (ρ2.set i none),β):=by
 unfold zf6
 rw[h,G]
 dsimp only
 rw[if_pos L,I]
noncomputable def eR (d:Int)(x:Addr)(v g:Int)(f:D):Ro:=[k0c d,some (.sh (.ptr x)),k0c v,k0c g,some (.sh f),none]
theorem xq2 {d:Int}{x:Addr}{v g:Int}{f:List D}{β:Bx}{c:Cell}(i:β.lookup x=some c):thaw (eR d x v g (.lst f)) β=[k0c d,some (.sh (zv1 c)),k0c v,k0c g,some (.sh (.lst f)),none]:=by
 unfold thaw eR
 simp only[map_cons,map_nil]
 rw[show U9 β (some (.sh (.ptr x)))=some (.sh (zv1 c))by unfold U9;simp only;rw[i]]
 rfl
theorem yn3 {i:Nat}{c mn:Str}{f:MFW}{m:ML}{ρ:Ro}{β:Bx}{p:Addr}{ns:List Str}{fs:List Fl}{ds:List D}(hp:ρ[i]? =some (some (.sh (.ptr p))))(j:β.lookup p=some (.ins c ns fs))(hn:mn∉ns)(hm:m ρ=some ds)(h:f (.ptr p::ds) β=none):Q3 (Q0 i c mn f m) ρ β=none:=by
 unfold Q3 Q0
 rw[hp];simp only;rw[j];simp only
 rw[if_pos ⟨trivial,hn⟩,hm,Option.bind_some,h]
 rfl
theorem zc9 {c mn:Str}{i:MFX}{mo:ME}{m:ML}{ρ:Ro}{ns:List Str}{ds0 ds:List D}{k:Str}(h:mo ρ=some (.obj c ns ds0))(hn:mn∉ns)(hm:m ρ=some ds)(h2:i (.obj c ns ds0::ds)=some k):yx7 c mn i mo m ρ=some k:=by
 unfold yx7;rw[h];simp only;rw[if_pos ⟨trivial,hn⟩,hm,Option.bind_some,h2]
def Bad (ns:List Int)(d:Nat)(v g:Int):Prop:=(d=0/\v<1)\/(d=1/\g<0)\/(d=2/\(v<0\/(ns.length:Int)<v))
theorem zg1 (s:Int)(ns ws ls:List Int)(d:Nat)(v g:Int)(h:Bad ns d v g)(x:Addr)(β:Bx)(j:β.lookup x=some (Gc s ns ws ls)):u7 [.int (d:Int),.ptr x,.int v,.int g] β=some (.sh (.lst ((fB d).map .bl)),β):=by
 have L:0<=sizeLine:=Nat.zero_le _
 have I:("put":Str)∉Gn:=by decide +kernel
 have G:("take":Str)∉Gn:=by decide +kernel
 have key:b_law_refused (v3 6 [.int (d:Int),.ptr x,.int v,.int g]) β=some (.rt (.lst ((fB d).map .bl)),β):=by
  unfold b_law_refused
  rw[k9 (ρ':=eR d x v g (.lst [])) (zp7 ((Y0 (l9 (u5 y9 L))).trans rfl))]
  rw[k9 (ρ':=eR d x v g (.lst ((fB d).map .bl))) (β':=β)]
  .rfl
  refine(xq0 (c:=fN d) (ρ2:=(eR d x v g (.lst ((fB d).map .bl))).set 5 (some (.sh (.exc (fN d))))) ?_ ?_ ?_ ?_).trans rfl
  .have z:wE (v7 (m2 eqSD (mvar 0) (mc (.int 0)))) (eR d x v g (.lst [])) β=some ((d:Int)==0):=yw1 rfl
   have i:wE (v7 (m2 eqSD (mvar 0) (mc (.int 1)))) (eR d x v g (.lst [])) β=some ((d:Int)==1):=yw1 rfl
   rw[J6 z]
   rcases h with⟨rfl,h⟩|⟨rfl,h⟩|⟨rfl,h⟩
   .show D7 "Grown" w9 (z7 (mvar 2) anil) _ β=none
    unfold D7
    rw[z6 (d:=.int v) rfl y9,Option.bind_some]
    refine xr0 fun y=>?_
    rw[xu7 y v h]
   .show mifW _ _ _ _ β=none
    rw[J6 i]
    exact yn3 (p:=x) rfl j I (z6 (d:=.int v) rfl (z6 (d:=.int g) rfl y9)) (xp9 x v g h β)
   .show mifW _ _ _ _ β=none
    rw[J6 i]
    exact yn3 (p:=x) rfl j G (z6 (d:=.int v) rfl y9) (xz8 s ns ws ls v h x β j)
  .rw[xq2 j,C5]
   have z:v7 (m2 eqSD (mvar 0) (mc (.int 0))) [k0b d,some (.sh (Go s ns ws ls)),k0c v,k0c g,some (.sh (.lst [])),none]=some ((d:Int)==0):=yw1 rfl
   have i:v7 (m2 eqSD (mvar 0) (mc (.int 1))) [k0b d,some (.sh (Go s ns ws ls)),k0c v,k0c g,some (.sh (.lst [])),none]=some ((d:Int)==1):=yw1 rfl
   rw[zh0 z]
   rcases h with⟨rfl,h⟩|⟨rfl,h⟩|⟨rfl,h⟩
   .show yt4 j5 (z7 (mvar 2) anil) _=_
    unfold yt4
    rw[z6 (d:=.int v) rfl y9,Option.bind_some]
    exact zc2 fun y _=>xj1 y v h
   .show xifE _ _ _ _=_
    rw[zh0 i]
    exact zc9 (ns:=Gn) rfl I (z6 (d:=.int v) rfl (z6 (d:=.int g) rfl y9)) (xp8 _ v g h)
   .show xifE _ _ _ _=_
    rw[zh0 i]
    exact zc9 (ns:=Gn) rfl G (z6 (d:=.int v) rfl y9) (xz7 s ns ws ls v h)
  .match d with
   |0=>exact mem_cons_of_mem _ (mem_cons_self ..)
   |1=>exact mem_cons_of_mem _ (mem_cons_of_mem _ (mem_cons_self ..))
   |d+2=>exact mem_cons_self ..
  .exact(Y0 (ye5 (z6 (d:=.exc (fN d)) rfl y9) (yc2 d))).trans rfl
 unfold u7 runW
 rw[key]
 simp only[Nat.sub_self,drop_zero]
theorem G4 {d:Int}{x:Addr}{v g:Int}{β β':Bx}(j:β'.length=β.length)(h:mifW (wE (v7 (m2 eqSD (mvar 0) (mc (.int 0))))) (D7 "Grown" w9 (z7 (mvar 2) anil)) (mifW (wE (v7 (m2 eqSD (mvar 0) (mc (.int 1))))) (Q3 (Q0 1 "Grown" "put" k6 (z7 (mvar 2) (z7 (mvar 3) anil)))) (Q3 (Q0 1 "Grown" "take" i8 (z7 (mvar 2) anil)))) (eR d x v g (.lst [])) β=some (.nx (eR d x v g (.lst [])),β')):u7 [.int d,.ptr x,.int v,.int g] β=some (.sh (.lst []),β'):=by
 have i:0<=sizeLine:=Nat.zero_le _
 have key:b_law_refused (v3 6 [.int d,.ptr x,.int v,.int g]) β=some (.rt (.lst []),β'):=by
  unfold b_law_refused
  rw[k9 (ρ':=eR d x v g (.lst [])) (zp7 ((Y0 (l9 (u5 y9 i))).trans rfl))]
  rw[k9 (xz5 h)]
  rfl
 unfold u7 runW
 rw[key]
 simp only[j,Nat.sub_self,drop_zero]
theorem yt9 {x:ME}{ρ:Ro}{β:Bx}{i k:Int}(h:x ρ=some (.int i)):wE (v7 (m2 eqSD x (mc (.int k)))) ρ β=some (i==k):=yw1 h
theorem yc0 (x:Addr)(v g:Int)(β:Bx)(j:1<=v):u7 [.int 0,.ptr x,.int v,.int g] β=some (.sh (.lst []),β):=by
 refine G4 rfl ?_
 rw[J6 (yt9 (i:=0) (k:=0) rfl)]
 show D7 "Grown" w9 (z7 (mvar 2) anil) _ β=_
 unfold D7
 rw[z6 (d:=.int v) rfl y9,Option.bind_some]
 refine zc2 fun y _=>?_
 rw[ym7 y v j β]
 simp
theorem yd9 (x:Addr)(s:Int)(ns ws ls:List Int)(v g:Int)(β:Bx)(G:β.lookup x=some (Gc s ns ws ls))(j:1<=s)(z:0<=g)(l1:ns.length<300)(l2:ws.length<300)(l3:ls.length<100000):u7 [.int 1,.ptr x,.int v,.int g] β=some (.sh (.lst []),updB x (Gc s (ns++[v]) (ws++[g]) (ls++[lenG s (ns++[v])])) β):=by
 refine G4 zx8 ?_
 rw[J6 (yt9 (i:=1) (k:=0) rfl)]
 show mifW _ _ _ _ β=_
 rw[J6 (yt9 (i:=1) (k:=1) rfl)]
 exact xg7 (x:=x) rfl G (z6 (d:=.int v) rfl (z6 (d:=.int g) rfl y9)) z j l1 l2 l3
theorem zw4 (x:Addr)(s:Int)(ns ws ls:List Int)(k:Nat)(g:Int)(β:Bx)(z:β.lookup x=some (Gc s ns ws ls))(j:1<=s)(hk:k<=ns.length)(hw:ws.length=ns.length)(l1:ns.length<=300)(l3:ls.length<100000):u7 [.int 2,.ptr x,.int (k:Int),.int g] β=some (.sh (.lst []),updB x (Gc s (ns.take (ns.length-k)) (ws.take (ns.length-k)) (ls++[lenG s (ns.take (ns.length-k))])) β):=by
 refine G4 zx8 ?_
 rw[J6 (yt9 (i:=2) (k:=0) rfl)]
 show mifW _ _ _ _ β=_
 rw[J6 (yt9 (i:=2) (k:=1) rfl)]
 exact xq4 (x:=x) rfl z (z6 (d:=.int (k:Int)) rfl y9) j hk hw l1 l3
end
section
open PySem L2
noncomputable def eW (scr:D)(c k:Int)(x:Addr)(o3 o4 o5 o6 o7 o8 o9:Option S):Ro:=[some (.sh scr),some (.own (RL c k)),some (.sh (.ptr x)),o3,o4,o5,o6,o7,o8,o9]
theorem zh1 (i:D)(c k:Int)(x:Addr)(N M L I G z j:Option S){w R O:Int}(e:∀ p,m_Z1 p (RL c k) []=some (.sh (.int w),RL R O)):m9 m_Z1 1 (apu anil) (eW i c k x N M L I G z j)=some (.int w,eW i R O x N M L I G z j):=
 V0 (r0:=RL c k) (r2:=RL c k) rfl (S1 y9) rfl e rfl
theorem fill (i:D)(s:Int)(hs:1<=s)(U O N M L I:Option S):∀(os:List Int)(c k:Int)(ns ws ls:List Int)(Z:Option S),ws.length=ns.length->(∀ w∈ws,0<=w)->ns.length+os.length<=100->ls.length+os.length<=1000->
  ∃(c' k':Int)(j G:List Int)(R:Option S),j.length=ns.length+os.length/\(∀ w∈j,0<=w)/\G.length=ls.length+os.length/\∀ x,forW (.nm 4) G2 (os.map .int) (eW i c k x U Z O N M L I) [(x,Gc s ns ws ls)]=some (.nx (eW i c' k' x U R O N M L I),[(x,Gc s (ns++os) j G)])
 |[],c,k,ns,ws,ls,Z,hw,h0,_,_=>⟨c,k,ws,ls,Z,by simpa using hw,h0,by simp,fun x=>by rw[append_nil];rfl⟩
 |v::os,c,k,ns,ws,ls,Z,hw,h0,l1,l2=>by
  rw[length_cons]at l1 l2
  obtain⟨w,c1,k1,Y,e1⟩:=zv6 c k
  obtain⟨c',k',j,G,R,g1,g2,g3,e2⟩:=fill i s hs U O N M L I os c1 k1 (ns++[v]) (ws++[w]) (ls++[lenG s (ns++[v])]) (k0c v) (by simp[hw]) (fun y hy=>by
   rcases List.mem_append.mp hy with z|z
   .exact h0 y z
   .rw[List.mem_singleton.mp z];exact Y) (by simp;omega) (by simp;omega)
  refine⟨c',k',j,G,R,by rw[g1];simp;omega,g2,by rw[g3];simp;omega,fun x=>?_⟩
  have b1:G2 (eW i c k x U (k0c v) O N M L I) [(x,Gc s ns ws ls)]=some (.nx (eW i c1 k1 x U (k0c v) O N M L I),[(x,Gc s (ns++[v]) (ws++[w]) (ls++[lenG s (ns++[v])]))]):=by
   unfold G2
   rw[xg8 (x:=x) (v:=v) (g:=w) rfl (g7 _ _ _) (m7 (Y4 (d:=.int v) rfl) (m7 (zh1 i c k x U (k0c v) O N M L I e1) (S1 y9))) Y hs (by omega) (by omega) (by omega),W3]
  rw[map_cons,zd1 (ρ1:=eW i c k x U (k0c v) O N M L I) rfl b1,e2]
  simp only[append_assoc,singleton_append]
noncomputable def T3 (t:Nat×Int×Int):D:=.tup [.int (t.1:Int),.int t.2.1,.int t.2.2]
theorem ym8 {f:D->D->Option D}{m:Ro->Bx->Option (D×Bx)}{y:ME}{a b:MW}{ρ:Ro}{β β':Bx}{d e:D}(h1:m ρ β=some (d,β'))(h2:y ρ=some e)(i:f d e=some (.bl false)):mifX (ze1 f m y) a b ρ β=b ρ β':=by
 unfold mifX ze1
 rw[h1];simp only;rw[h2];simp only;rw[i]
theorem A8 {f:MFW}{m:ML}{ρ:Ro}{β β':Bx}{ds:List D}{d:D}(h:m ρ=some ds)(h2:f ds β=some (.sh d,β')):D8 f m ρ β=some (d,β'):=by
 unfold D8;rw[h,Option.bind_some,h2];rfl
theorem zb3:∀ bs:List Bool,∀ n,zipE (eqF (n+1)) (bs.map .bl) (bs.map .bl)=some true
 |[],_=>rfl
 |b::bs,n=>by
  rw[map_cons,zipE,zb3 bs n,show eqF (n+1) (.bl b) (.bl b)=some (b==b)from rfl,beq_self_eq_true];rfl
theorem xk2 (bs:List Bool):eqFD true (.lst (bs.map .bl)) (.lst (bs.map .bl))=some (.bl false):=by
 have:eqF 8 (.lst (bs.map .bl)) (.lst (bs.map .bl))=some true:=by
  show (if _=_ then zipE (eqF 7) _ _ else some false)=_
  rw[if_pos rfl,zb3 bs 6]
 unfold eqFD
 rw[this];rfl
noncomputable def ixd (d:Nat):Int:=match d with |0=>0|1=>2|_=>1
theorem xz2 (d:Nat)(hd:d<3){ρ:Ro}(h:ρ[8]? =some (k0b d))(i:V9 [none,some 8] ρ=[none,k0b d]):mlst (U7 [none,some 8] (Y3 rng1 (z7 (mc (.int 8)) anil)) (.nm 0) cyes (m2 eqSD (mvar 0) (mix (t7 (z7 (mc (.int 0)) (z7 (mc (.int 2)) (z7 (mc (.int 1)) anil)))) (mvar 1)))) ρ=some (.lst ((fB d).map .bl)):=by
 refine l9 ?_
 have j:Y3 rng1 (z7 (mc (.int 8)) anil) ρ=some ((List.range 8).map dN):=by
  unfold Y3
  rw[z6 (d:=.int 8) rfl y9,Option.bind_some,yr1 (D5 (by decide) (by decide))]
  rfl
 have z:=m6
 unfold U7
 rw[j,Option.bind_some,i]
 refine(T9 (f:=dN) (G:=fun k=>D.bl ((k:Int)==ixd d)) (fun _ ρ=>∃ o,ρ=[o,k0b d]) (by
  rintro k ks ρ ⟨o,rfl⟩
  refine⟨[some (.sh (dN k)),k0b d],rfl,rfl,?_,_,rfl⟩
  have em:mix (t7 (z7 (mc (.int 0)) (z7 (mc (.int 2)) (z7 (mc (.int 1)) anil)))) (mvar 1) [some (.sh (dN k)),k0b d]=some (.int (ixd d)):=by
   refine D6 (ds:=[.int 0,.int 2,.int 1]) (k:=(d:Int)) (u5 (z6 rfl (z6 rfl (z6 rfl y9))) (u8 (by decide))) rfl ?_
   have:d=0\/d=1\/d=2:=by omega
   rcases this with h|h|h <;> subst h <;> rfl
  exact(X7 (a:=dN k) rfl em).trans rfl) (List.range 8) _ [] ⟨none,rfl⟩ (by simp;omega)).trans ?_
 have:d=0\/d=1\/d=2:=by omega
 rcases this with h|h|h <;> subst h <;> rfl
theorem xi8 (i:D)(c k:Int)(s:Int)(ns ws ls:List Int)(es:List D)(L:same es)(st:∀ x β,β.lookup x=some (Gc s ns ws ls)->c7 [.ptr x] β=some (.sh (.lst es),β))(t:Nat×Int×Int)(I:Bad ns t.1 t.2.1 t.2.2)(x:Addr)(G z j:Option S):
  G1 (eW i c k x G (some (.sh (.int t.2.1))) (some (.sh (.lst es))) z j (some (.sh (.int (t.1:Int)))) (some (.sh (.int t.2.2)))) [(x,Gc s ns ws ls)]=some (.nx (eW i c k x G (some (.sh (.int t.2.1))) (some (.sh (.lst es))) z j (some (.sh (.int (t.1:Int)))) (some (.sh (.int t.2.2)))),[(x,Gc s ns ws ls)]):=by
 obtain⟨d,v,g⟩:=t
 have hd:d<3:=by
  rcases I with h|h|h
  .have:=h.1;simp only at this;omega
  .have:=h.1;simp only at this;omega
  .have:=h.1;simp only at this;omega
 unfold G1
 rw[k9 (ρ':=eW i c k x G (k0c v) (some (.sh (.lst es))) z j (k0b d) (k0c g)) (β':=[(x,Gc s ns ws ls)])]
 .refine(ym8 (d:=.lst es) (e:=.lst es) (A8 (z6 (d:=.ptr x) rfl y9) (st x _ (g7 _ _ _))) rfl (L true)).trans rfl
 .refine(ym8 (d:=.lst ((fB d).map .bl)) (e:=.lst ((fB d).map .bl)) (A8 (z6 (d:=.int (d:Int)) rfl (z6 (d:=.ptr x) rfl (z6 (d:=.int v) rfl (z6 (d:=.int g) rfl y9)))) (zg1 s ns ws ls d v g I x _ (g7 _ _ _))) (xz2 d hd rfl rfl) (xk2 _)).trans rfl
theorem bads (i:D)(c k:Int)(s:Int)(ns ws ls:List Int)(es:List D)(Z:same es)(st:∀ x β,β.lookup x=some (Gc s ns ws ls)->c7 [.ptr x] β=some (.sh (.lst es),β))(I G j:Option S):∀(L:List (Nat×Int×Int))(O N M:Option S),(∀ t∈L,Bad ns t.1 t.2.1 t.2.2)->
  ∃ Y U R,∀ x,forW (.tp [8,4,9]) G1 (L.map T3) (eW i c k x I O (some (.sh (.lst es))) G j N M) [(x,Gc s ns ws ls)]=some (.nx (eW i c k x I Y (some (.sh (.lst es))) G j U R),[(x,Gc s ns ws ls)])
 |[],O,N,M,_=>⟨O,N,M,fun x=>rfl⟩
 |t::L,O,N,M,h=>by
  obtain⟨Y,U,R,e⟩:=bads i c k s ns ws ls es Z st I G j L (some (.sh (.int t.2.1))) (some (.sh (.int (t.1:Int)))) (some (.sh (.int t.2.2))) fun z hz=>h z (by simp[hz])
  refine⟨Y,U,R,fun x=>?_⟩
  rw[map_cons,zd1 (ρ1:=eW i c k x I (some (.sh (.int t.2.1))) (some (.sh (.lst es))) G j (some (.sh (.int (t.1:Int)))) (some (.sh (.int t.2.2)))) rfl (xi8 i c k s ns ws ls es Z st t (h t (by simp)) x I G j)]
  exact e x
theorem xu9 (i:D)(c k:Int)(t:Nat×Int×Int)(x:Addr)(I G z j:Option S){β β':Bx}(h:u7 [.int (t.1:Int),.ptr x,.int t.2.1,.int t.2.2] β=some (.sh (.lst []),β')):
  R4 (eW i c k x I (some (.sh (.int t.2.1))) G z j (some (.sh (.int (t.1:Int)))) (some (.sh (.int t.2.2)))) β=some (.nx (eW i c k x I (some (.sh (.int t.2.1))) G z j (some (.sh (.int (t.1:Int)))) (some (.sh (.int t.2.2)))),β'):=by
 unfold R4
 exact(ym8 (d:=.lst []) (e:=.lst []) (A8 (z6 (d:=.int (t.1:Int)) rfl (z6 (d:=.ptr x) rfl (z6 (d:=.int t.2.1) rfl (z6 (d:=.int t.2.2) rfl y9)))) h) (l9 (u5 y9 (Nat.zero_le _))) rfl).trans rfl
theorem P9 (i:D)(c k:Int)(t:Nat×Int×Int)(L:List (Nat×Int×Int))(x:Addr)(I O G z j N M:Option S){β β':Bx}{r:Option (Out×Bx)}(h:u7 [.int (t.1:Int),.ptr x,.int t.2.1,.int t.2.2] β=some (.sh (.lst []),β'))
  (R:forW (.tp [8,4,9]) R4 (L.map T3) (eW i c k x I (some (.sh (.int t.2.1))) G z j (some (.sh (.int (t.1:Int)))) (some (.sh (.int t.2.2)))) β'=r):forW (.tp [8,4,9]) R4 ((t::L).map T3) (eW i c k x I O G z j N M) β=r:=by
 rw[map_cons,zd1 (ρ1:=eW i c k x I (some (.sh (.int t.2.1))) G z j (some (.sh (.int (t.1:Int)))) (some (.sh (.int t.2.2)))) rfl (xu9 i c k t x I G z j h)]
 exact R
theorem xe9 (i:D)(c k:Int)(s:Int)(M:1<=s)(ns ws ls:List Int)(hw:ws.length=ns.length)(l1:ns.length<=200)(l3:ls.length<=1000)(far:Int)(I Z G z j Y U:Option S):∃ L:List Int,∃ R O N,L.length=ls.length+4/\∀ x,forW (.tp [8,4,9]) R4 ([((0:Nat),(1:Int),(0:Int)),(1,0-far,0),(2,1,0),(2,(ns.length:Int),0),(2,0,0)].map T3) (eW i c k x I Z G z j Y U) [(x,Gc s ns ws ls)]=some (.nx (eW i c k x I R G z j O N),[(x,Gc s [] [] L)]):=by
 have e1:(ns++[0-far]).take ((ns++[0-far]).length-1)=ns:=by simp
 have e2:(ws++[0]).take ((ns++[0-far]).length-1)=ws:=by
  rw[show (ns++[0-far]).length-1=ws.length by simp[hw]]
  exact take_left' rfl
 refine⟨(((ls++[lenG s (ns++[0-far])])++[lenG s ns])++[lenG s []])++[lenG s []],some (.sh (.int 0)),some (.sh (.int ((2:Nat):Int))),some (.sh (.int 0)),by simp,fun x=>?_⟩
 refine P9 i c k (0,1,0) _ x I _ G z j _ _ (yc0 x 1 0 _ (by decide)) ?_
 refine P9 i c k (1,0-far,0) _ x I _ G z j _ _ (β':=[(x,Gc s (ns++[0-far]) (ws++[0]) (ls++[lenG s (ns++[0-far])]))]) ?_ ?_
 .have:=yd9 x s ns ws ls (0-far) 0 [(x,Gc s ns ws ls)] (g7 _ _ _) M (by decide) (by omega) (by omega) (by omega)
  rw[W3]at this
  exact this
 refine P9 i c k (2,1,0) _ x I _ G z j _ _ (β':=[(x,Gc s ns ws ((ls++[lenG s (ns++[0-far])])++[lenG s ns]))]) ?_ ?_
 .have:=zw4 x s (ns++[0-far]) (ws++[0]) (ls++[lenG s (ns++[0-far])]) 1 0 [(x,Gc s (ns++[0-far]) (ws++[0]) (ls++[lenG s (ns++[0-far])]))] (g7 _ _ _) M (by simp) (by simp[hw]) (by simp;omega) (by simp;omega)
  rw[W3,e1,e2]at this
  exact this
 refine P9 i c k (2,(ns.length:Int),0) _ x I _ G z j _ _ (β':=[(x,Gc s [] [] (((ls++[lenG s (ns++[0-far])])++[lenG s ns])++[lenG s []]))]) ?_ ?_
 .have:=zw4 x s ns ws ((ls++[lenG s (ns++[0-far])])++[lenG s ns]) ns.length 0 [(x,Gc s ns ws ((ls++[lenG s (ns++[0-far])])++[lenG s ns]))] (g7 _ _ _) M (Nat.le_refl _) hw (by omega) (by simp;omega)
  rw[W3,Nat.sub_self,take_zero,take_zero]at this
  exact this
 refine P9 i c k (2,0,0) _ x I _ G z j _ _ (β':=[(x,Gc s [] [] ((((ls++[lenG s (ns++[0-far])])++[lenG s ns])++[lenG s []])++[lenG s []]))]) ?_ ?_
 .have:=zw4 x s [] [] (((ls++[lenG s (ns++[0-far])])++[lenG s ns])++[lenG s []]) 0 0 [(x,Gc s [] [] (((ls++[lenG s (ns++[0-far])])++[lenG s ns])++[lenG s []]))] (g7 _ _ _) M (Nat.le_refl _) rfl (by simp) (by simp;omega)
  rw[W3]at this
  exact this
 rfl
theorem ze8 (i:List Int){ρ:Ro}(h:ρ[3]? =some (some (.sh (RI i)))):mlen (bvar 3) ρ=some (.int (i.length:Int)):=by
 have:bvar 3 ρ=some (i.map .int):=by unfold bvar;rw[h]
 rw[P5 this,length_map]
theorem xo0 (i:D)(c:Int)(o2 o3 o4 o5 Y I M L:Option S):∃ p1 p2 p3 p4 p5 p6 p7 p8 p9,zz0 [some (.sh i),some (.own (RL c 0)),o2,o3,o4,o5,Y,I,M,L]=some (.nx [some (.sh i),p1,p2,p3,p4,p5,p6,p7,p8,p9]):=by
 have aa:=m6
 obtain⟨s,c1,k1,hs,_,e1⟩:=zo5 c 0
 obtain⟨j,c2,k2,hl,_,e2⟩:=zh3 c1 k1 12 (by decide)
 obtain⟨c3,k3,ws,ls,U,hw,h0,a1,fl⟩:=fill i s hs (some (.sh (RI j))) o5 Y I M L j c2 k2 [] [] [] o4 rfl (by simp) (by simp;omega) (by simp;omega)
 rw[nil_append]at fl
 have hw:ws.length=j.length:=by simpa using hw
 have a1:ls.length=j.length:=by simpa using a1
 obtain⟨es,se,st⟩:=yh4 s j ws ls hs hw h0 (by omega)
 obtain⟨f,c4,k4,f0,_,e4⟩:=f7 c3 k3 1000000000 (by decide) (by decide)
 obtain⟨y,O,k5,y0,y1,e5⟩:=f7 c4 k4 5 (by decide) (by decide)
 have p9:(10:Int)^(9:Int).toNat=1000000000:=by decide
 have a3:zn4 10 9=true:=by decide
 have a2:(10:Int)^(29:Int).toNat=100000000000000000000000000000:=by decide
 have a4:zn4 10 29=true:=by decide
 obtain⟨far,hf,a9⟩:∃ z,atI [D.int 0,.int 1,.int 9,.int 100000000000000000000000000000,.int f] y=some (.int z)/\0<=z:=by
  have:y=0\/y=1\/y=2\/y=3\/y=4:=by omega
  rcases this with h|h|h|h|h <;> subst h <;> exact⟨_,rfl,by omega⟩
 let N:List (Nat×Int×Int):=[(0,0,0),(0,-1,0),(0,-1-far,0),(1,5,-1),(1,far,-1-far),(1,-1-far,-1)]
 let R:List (Nat×Int×Int):=[(2,-1,0),(2,-1-far,0),(2,(j.length:Int)+1,0),(2,(j.length:Int)+1+far,0)]
 have hb:∀ t∈N++R,Bad j t.1 t.2.1 t.2.2:=by
  intro t ht
  simp only[N,R,cons_append,nil_append,mem_cons,not_mem_nil,or_false]at ht
  unfold Bad
  rcases ht with rfl|rfl|rfl|rfl|rfl|rfl|rfl|rfl|rfl|rfl <;> first|exact .inl ⟨rfl,by dsimp only;omega⟩|exact .inr (.inl ⟨rfl,by dsimp only;omega⟩)|exact .inr (.inr ⟨rfl,by dsimp only;omega⟩)
 obtain⟨r4,r8,r9,eb⟩:=bads i O k5 s j ws ls es se st (some (.sh (RI j))) (k0c far) (some (.sh (.lst ((N++R).map T3)))) (N++R) U M L hb
 obtain⟨G,t4,t8,Z,a8,eg⟩:=xe9 i O k5 s hs j ws ls hw (by omega) (by omega) far (some (.sh (RI j))) r4 (some (.sh (.lst es))) (k0c far) (some (.sh (.lst ((N++R).map T3)))) r8 r9
 refine⟨some (.own (RL O k5)),none,some (.sh (RI j)),t4,some (.sh (.lst es)),k0c far,some (.sh (.lst ((N++R).map T3))),t8,Z,?_⟩
 have r6:∀ x,A9 (eW i c1 k1 x o3 o4 o5 Y I M L) [(x,Gc s [] [] [])]=some (.nx (eW i O k5 x (some (.sh (RI j))) t4 (some (.sh (.lst es))) (k0c far) (some (.sh (.lst ((N++R).map T3)))) t8 Z),[(x,Gc s [] [] G)]):=fun x=>by
  unfold A9
  rw[k9 (ρ':=eW i c2 k2 x (some (.sh (RI j))) o4 o5 Y I M L) (zp7 ((O9 (V0 (r0:=RL c1 k1) (r2:=RL c1 k1) rfl (S1 (z6 (d:=.int 12) rfl y9)) rfl e2 rfl)).trans rfl))]
  have el:zx4 (k7 (mvar 3)) (.nm 4) G2 (eW i c2 k2 x (some (.sh (RI j))) o4 o5 Y I M L) [(x,Gc s [] [] [])]=some (.nx (eW i c3 k3 x (some (.sh (RI j))) U o5 Y I M L),[(x,Gc s j ws ls)]):=by
   unfold zx4
   rw[g0 (ds:=j.map .int) rfl,Option.bind_some]
   exact fl x
  rw[k9 el]
  unfold yy6
  rw[k9 (ρ':=eW i c3 k3 x (some (.sh (RI j))) U (some (.sh (.lst es))) Y I M L) (β':=[(x,Gc s j ws ls)]) (by
   unfold yf8
   rw[A8 (z6 (x:=mvar 2) (d:=.ptr x) rfl y9) (st x _ (g7 _ _ _))]
   rfl)]
  have t1:m9 Z6 1 (apu (z7 (m2 powD (mc (.int 10)) (mc (.int 9))) anil)) (eW i c3 k3 x (some (.sh (RI j))) U (some (.sh (.lst es))) Y I M L)=some (.int f,eW i c4 k4 x (some (.sh (RI j))) U (some (.sh (.lst es))) Y I M L):=
   V0 (r0:=RL c3 k3) (r2:=RL c3 k3) rfl (S1 (z6 (d:=.int 1000000000) (by simp_arith [p9,a3,if_true]) y9)) rfl e4 rfl
  have t2:m9 Z6 1 (apu (z7 (mc (.int 5)) anil)) (eW i c4 k4 x (some (.sh (RI j))) U (some (.sh (.lst es))) Y I M L)=some (.int y,eW i O k5 x (some (.sh (RI j))) U (some (.sh (.lst es))) Y I M L):=
   V0 (r0:=RL c4 k4) (r2:=RL c4 k4) rfl (S1 (z6 (d:=.int 5) rfl y9)) rfl e5 rfl
  rw[k9 (ρ':=eW i O k5 x (some (.sh (RI j))) U (some (.sh (.lst es))) (k0c far) I M L) (zp7 ((O9 (Q4 (zq7 (ds:=[.int 0,.int 1,.int 9,.int 100000000000000000000000000000,.int f]) (m7 (Y4 (d:=.int 0) rfl) (m7 (Y4 (d:=.int 1) rfl) (m7 (Y4 (d:=.int 9) rfl) (m7 (Y4 (d:=.int 100000000000000000000000000000) (by simp_arith [a2,a4,if_true])) (m7 t1 (S1 y9)))))) (u8 (by simp))) t2 (g:=.int far) hf)).trans rfl))]
  have i3:0+1+1+1<=sizeLine:=u8 (by decide)
  have tp:∀{ρ:Ro}{a b d:ME}{t:Nat×Int×Int},a ρ=some (.int (t.1:Int))->b ρ=some (.int t.2.1)->d ρ=some (.int t.2.2)->mtup (z7 a (z7 b (z7 d anil))) ρ=some (T3 t):=fun h1 h2 h3=>S9 (z6 h1 (z6 h2 (z6 h3 y9))) i3
  have a0:∀ I,m2 subD (m1 negD (mc (.int 1))) (mvar 6) (eW i O k5 x (some (.sh (RI j))) U (some (.sh (.lst es))) (k0c far) I M L)=some (.int (-1-far)):=fun I=>(X7 (a:=.int (-1)) (b:=.int far) rfl rfl).trans rfl
  have l1:∀ I,m2 addD (mlen (bvar 3)) (mc (.int 1)) (eW i O k5 x (some (.sh (RI j))) U (some (.sh (.lst es))) (k0c far) I M L)=some (.int ((j.length:Int)+1)):=fun I=>(X7 (ze8 j rfl) (b:=.int 1) rfl).trans rfl
  have l2:∀ I,m2 addD (m2 addD (mlen (bvar 3)) (mc (.int 1))) (mvar 6) (eW i O k5 x (some (.sh (RI j))) U (some (.sh (.lst es))) (k0c far) I M L)=some (.int ((j.length:Int)+1+far)):=fun I=>(X7 (l1 I) (b:=.int far) rfl).trans rfl
  rw[k9 (ρ':=eW i O k5 x (some (.sh (RI j))) U (some (.sh (.lst es))) (k0c far) (some (.sh (.lst (N.map T3)))) M L) (zp7 ((Y0 (l9 (u5 (z6 (tp (t:=(0,0,0)) rfl rfl rfl) (z6 (tp (t:=(0,-1,0)) rfl rfl rfl) (z6 (tp (t:=(0,-1-far,0)) rfl (a0 _) rfl) (z6 (tp (t:=(1,5,-1)) rfl rfl rfl) (z6 (tp (t:=(1,far,-1-far)) rfl rfl (a0 _)) (z6 (tp (t:=(1,-1-far,-1)) rfl (a0 _) rfl) y9)))))) (u8 (by simp))))).trans rfl))]
  rw[k9 (ρ':=eW i O k5 x (some (.sh (RI j))) U (some (.sh (.lst es))) (k0c far) (some (.sh (.lst ((N++R).map T3)))) M L) (zp7 ((Y0 (l9 (E6 (ds:=N.map T3) rfl (u5 (z6 (tp (t:=(2,-1,0)) rfl rfl rfl) (z6 (tp (t:=(2,-1-far,0)) rfl (a0 _) rfl) (z6 (tp (t:=(2,(j.length:Int)+1,0)) rfl (l1 _) rfl) (z6 (tp (t:=(2,(j.length:Int)+1+far,0)) rfl (l2 _) rfl) y9)))) (u8 (by simp))) (u8 (by simp[N]))))).trans rfl))]
  have a7:zx4 (k7 (mvar 7)) (.tp [8,4,9]) G1 (eW i O k5 x (some (.sh (RI j))) U (some (.sh (.lst es))) (k0c far) (some (.sh (.lst ((N++R).map T3)))) M L) [(x,Gc s j ws ls)]=some (.nx (eW i O k5 x (some (.sh (RI j))) r4 (some (.sh (.lst es))) (k0c far) (some (.sh (.lst ((N++R).map T3)))) r8 r9),[(x,Gc s j ws ls)]):=by
   unfold zx4
   rw[g0 (ds:=(N++R).map T3) rfl,Option.bind_some]
   exact eb x
  rw[k9 a7]
  unfold yy7
  have a6:zx4 (k7 (mlst (t7 (z7 (mtup (z7 (mc (.int 0)) (z7 (mc (.int 1)) (z7 (mc (.int 0)) anil)))) (z7 (mtup (z7 (mc (.int 1)) (z7 (m2 subD (mc (.int 0)) (mvar 6)) (z7 (mc (.int 0)) anil)))) (z7 (mtup (z7 (mc (.int 2)) (z7 (mc (.int 1)) (z7 (mc (.int 0)) anil)))) (z7 (mtup (z7 (mc (.int 2)) (z7 (mlen (bvar 3)) (z7 (mc (.int 0)) anil)))) (z7 (mtup (z7 (mc (.int 2)) (z7 (mc (.int 0)) (z7 (mc (.int 0)) anil)))) anil)))))))) (.tp [8,4,9]) R4 (eW i O k5 x (some (.sh (RI j))) r4 (some (.sh (.lst es))) (k0c far) (some (.sh (.lst ((N++R).map T3)))) r8 r9) [(x,Gc s j ws ls)]=some (.nx (eW i O k5 x (some (.sh (RI j))) t4 (some (.sh (.lst es))) (k0c far) (some (.sh (.lst ((N++R).map T3)))) t8 Z),[(x,Gc s [] [] G)]):=by
   unfold zx4
   rw[g0 (l9 (u5 (z6 (tp (t:=(0,1,0)) rfl rfl rfl) (z6 (tp (t:=(1,0-far,0)) rfl ((X7 (a:=.int 0) (b:=.int far) rfl rfl).trans rfl) rfl) (z6 (tp (t:=(2,1,0)) rfl rfl rfl) (z6 (tp (t:=(2,(j.length:Int),0)) rfl (ze8 j rfl) rfl) (z6 (tp (t:=(2,0,0)) rfl rfl rfl) y9))))) (u8 (by simp)))),Option.bind_some]
   exact eg x
  rw[k9 a6]
  unfold yy8
  refine(ya7 ?_).trans rfl
  unfold zk6
  have tw:thaw (eW i O k5 x (some (.sh (RI j))) t4 (some (.sh (.lst es))) (k0c far) (some (.sh (.lst ((N++R).map T3)))) t8 Z) [(x,Gc s [] [] G)]=(thaw (eW i O k5 x (some (.sh (RI j))) t4 (some (.sh (.lst es))) (k0c far) (some (.sh (.lst ((N++R).map T3)))) t8 Z) [(x,Gc s [] [] G)]):=rfl
  have g2:(thaw (eW i O k5 x (some (.sh (RI j))) t4 (some (.sh (.lst es))) (k0c far) (some (.sh (.lst ((N++R).map T3)))) t8 Z) [(x,Gc s [] [] G)])[2]? =some (some (.sh (Go s [] [] G))):=by
   unfold thaw eW
   simp only[map_cons,map_nil,getElem?_cons_succ,getElem?_cons_zero]
   rw[show U9 [(x,Gc s [] [] G)] (some (.sh (.ptr x)))=some (.sh (zv1 (Gc s [] [] G)))by unfold U9;simp only;rw[g7]]
   rfl
  have g3:(thaw (eW i O k5 x (some (.sh (RI j))) t4 (some (.sh (.lst es))) (k0c far) (some (.sh (.lst ((N++R).map T3)))) t8 Z) [(x,Gc s [] [] G)])[3]? =some (some (.sh (RI j))):=rfl
  generalize (thaw (eW i O k5 x (some (.sh (RI j))) t4 (some (.sh (.lst es))) (k0c far) (some (.sh (.lst ((N++R).map T3)))) t8 Z) [(x,Gc s [] [] G)])=ρz at g2 g3
  have ob:mvar 2 ρz=some (.obj "Grown" Gn [.int s,.lst (([]:List Int).map .int),.lst (([]:List Int).map .int),.lst (G.map .int)]):=by unfold mvar;rw[g2]
  have n1:("row":Str)∉Gn:=by decide +kernel
  have n2:("moments":Str)∉Gn:=by decide +kernel
  refine yk9 (a:=false) (b:=false) (xs3 (g0 (yn4 ob n1 (yx6 s [] [] G)))) (zq3 ?_)
  have ea:mlen (k7 (d7 "Grown" "moments" m_Z8 (mvar 2) anil)) ρz=some (.int (G.length:Int)):=by
   rw[P5 (g0 (yn4 ob n2 (C9 s [] [] G))),length_map]
  have ec:m2 addD (mlen (bvar 3)) (mc (.int 4)) ρz=some (.int ((j.length:Int)+4)):=(X7 (ze8 j g3) (b:=.int 4) rfl).trans rfl
  rw[X7 ea ec]
  show some (D.bl (!((G.length:Int)==(j.length:Int)+4)))=_
  rw[show ((G.length:Int)==(j.length:Int)+4)=true from beq_iff_eq.mpr (by omega)]
  rfl
 unfold zz0 lowS yz0
 have a5:m9 yu4 1 (apu anil) [some (.sh i),some (.own (RL c 0)),o2,o3,o4,o5,Y,I,M,L]=some (.int s,[some (.sh i),some (.own (RL c1 k1)),o2,o3,o4,o5,Y,I,M,L]):=
  V0 (r0:=RL c 0) (r2:=RL c 0) rfl (S1 y9) rfl e1 rfl
 rw[m7 a5 (S1 y9),Option.bind_some]
 rw[zc2 (r:=(Out.nx [some (.sh i),some (.own (RL O k5)),none,some (.sh (RI j)),t4,some (.sh (.lst es)),k0c far,some (.sh (.lst ((N++R).map T3))),t8,Z],[])) fun x _=>by
  show (match w9 [.ptr x,.int s] ((x,.ins "Grown" [] [])::[])with |some (.sh .non,β')=>(A9 (eW i c1 k1 x o3 o4 o5 Y I M L) β').map (letGo 2 0)|_=>none)=_
  rw[ym7 x s hs []]
  simp only
  rw[r6 x]
  rfl]
 rfl
theorem law_true (ns:List Int)(hn:ns.length<=63):ze3 [.lst (ns.map .int)]=some (.sh (.bl true)):=by
 unfold ze3 yc8
 refine U6 ?_
 have U:mlst (mcut (bvar 0) B4 (F7 (mc (.int 4)))) (v3 10 [.lst (ns.map .int)])=some (.lst ((cutI ns none (some 4)).map .int)):=by
  refine l9 ?_
  unfold mcut
  exact congrArg some (A6 D.int ns none (some 4))
 have Y:=yy3 ns none (some 4)
 obtain⟨S,e⟩:=xx8 (cutI ns none (some 4)) (by omega)
 obtain⟨ρ',e2,R,O,N,M,L,I,G,z,i,rfl⟩:=yy2 (j:=1) (body:=zz0) (fun ρ=>∃ R O N M L I G z i,ρ=[k0a ns,R,O,N,M,L,I,G,z,i]) (fun c ρ h=>by
  obtain⟨R,O,N,M,L,I,G,z,i,rfl⟩:=h
  obtain⟨a1,a2,a3,a4,a5,a6,a7,a8,Z,e⟩:=xo0 (.lst (ns.map .int)) c O N M L I G z i
  exact⟨_,e,_,_,_,_,_,_,_,_,_,rfl⟩) S (v3 10 [.lst (ns.map .int)]) ⟨none,none,none,none,none,none,none,none,none,rfl⟩
 refine seqI (ρ':=[k0a ns,R,O,N,M,L,I,G,z,i]) ?_ rfl
 unfold ye4 yz5
 rw[z6 U y9,Option.bind_some,e,Option.bind_some]
 exact e2
end
end
end Lw
namespace Lw
open List
open PySem L2
open PyProof.Rows
section
noncomputable def top (i:Nat):Stmt:=PySem.Challenge.pw_wavyrow_k33_grown_refused.main.body.getD i (.Pass ⟨0,0,0,0⟩)
noncomputable def xi6:Stmt->List Stmt
 | .ClassDef _ _ _ b _ _ _ _ _ _ _=>b
 |_=>[]
noncomputable def zq8 (i j:Nat):Stmt:=(xi6 (top i)).getD j (.Pass ⟨0,0,0,0⟩)
noncomputable abbrev zh6:Stmt:=top 10
noncomputable abbrev xc0:List Str:=["step"]
theorem yb3:FnScope xc0 ["step"] (z9 zh6):=⟨rfl,rfl,rfl,by decide +kernel,rfl,by decide +kernel,by decide +kernel⟩
theorem xm4 {P:Program}{w:World}{K:W.Frag}{mg:Str->Option Value}{base:Heap}{f:Addr}{fd:FuncData}(G:Fun K "refuse_step" "refuse_step" zh6 f fd){i:Addr}(z:mg "NoStep"=some (.ref i))(j:XC K "NoStep" i)(q_NoStep:W.excIn K i bmV "ValueError.__new__"=true):FnOk P w K mg base CX0 1 f fd ["step"] (spR K 1 J1):=
 G.okD (k:=0) (m:=b_Z17) yb3 fun cdv A outer s H E I=>(w5 (U0 (l5 zr7 K8 (z5 0 (pv 0)) y8 (o0 _)) (w5 K5) d6))
theorem xv6 {P:Program}{w:World}{K:W.Frag}{mg:Str->Option Value}{base:Heap}{f:Addr}{fd:FuncData}(G:Fun K "refuse_step" "refuse_step" zh6 f fd){i:Addr}(z:mg "NoStep"=some (.ref i))(j:XC K "NoStep" i)(q_NoStep:W.excIn K i bmV "ValueError.__new__"=true):FnOk P w K mg base (CXx P w) 1 f fd ["step"] (spX K 1 zu9):=
 G.okX (k:=0) (m:=yj7) yb3 fun cdv A outer s H E I=>(K0 (yr7 rfl (l5 zr7 K8 (z5 0 (pv 0)) y8 (o0 _)) (K0 (zy3 rfl ⟨rfl,rfl,rfl⟩ rfl rfl z j q_NoStep (z0 D4 z8) (y7 w4) (by decide))) K1))
noncomputable abbrev zv9:Stmt:=top 11
noncomputable abbrev yi1:List Str:=["row","step","above","below","place","number"]
theorem sc_Z15:FnScope yi1 ["row","step"] (z9 zv9):=⟨rfl,rfl,rfl,by decide +kernel,rfl,by decide +kernel,by decide +kernel⟩
theorem R9:List.Nodup (["later","step","number","row"]:List Str):=by decide +kernel
theorem R8:List.Nodup (["later","step","number","row"]:List Str):=by decide +kernel
theorem xm6 {P:Program}{w:World}{K:W.Frag}{mg:Str->Option Value}{base:Heap}{f:Addr}{fd:FuncData}(L:Fun K "later_steps" "later_steps" zv9 f fd)(G:mg "enumerate"=none)(z:mg "len"=none)(j:mg "range"=none):FnOk P w K mg base CX0 1 f fd ["row","step"] (spR K 2 ze5):=
 L.okD (k:=0) (m:=b_Z15) sc_Z15 fun cdv A outer s H E M=>(x6 (S5 (i:=2) sc_Z15.nd rfl (by first|exact Or.inl rfl|exact Or.inr rfl) (j4 z8)) (x6 (S5 (i:=3) sc_Z15.nd rfl (by first|exact Or.inl rfl|exact Or.inr rfl) (j4 z8)) (x6 (zy5 PassesOwn.never rfl (zb9 rfl G (z0 (z5 0 (pv 0)) z8)) (Z1 (is:=[4,5]) (W1 rfl (v5 (w6 (i:=4) sc_Z15.nd rfl (by first|exact Or.inl rfl|exact Or.inr rfl)) (v5 (w6 (i:=5) sc_Z15.nd rfl (by first|exact Or.inl rfl|exact Or.inr rfl)) Z0)))) (x6 (G9 (i:=2) (pv 2) (Y1 (S8 (W2 (N:=["later","step","number","row"]) (src:=[none,some 1,some 5,some 0]) (z9 zv9) yi1 rfl rfl (by decide +kernel)) rfl (T2 rfl j (z0 (c6 (z5 4 (pv 4)) y8) (z0 (m8 rfl z (v6 0 (pv 0))) z8))) (fun C fp I H0=>(g8 (i:=0) (w6 R9 rfl (by first|exact Or.inl rfl|exact Or.inr rfl)))) (fun C fp I H0=>(O6 (l5 yo1 zm5 (P0 (V7 (v6 3 (pv 3)) (z5 0 (pv 0))) (z5 2 (pv 2))) (z5 1 (pv 1)) (o0 _)))) (fun C fp I H0=>(z5 0 (pv 0))))) (fun t ha=>zg9 PySem.F.plainAttrs_list PySem.F.slot_list_append PySem.F.type_list_append X6 (pv 2) ha) (z0 (Y1 (S8 (W2 (N:=["later","step","number","row"]) (src:=[none,some 1,some 5,some 0]) (z9 zv9) yi1 rfl rfl (by decide +kernel)) rfl (T2 rfl j (z0 (c6 (z5 4 (pv 4)) y8) (z0 (m8 rfl z (v6 0 (pv 0))) z8))) (fun C fp I H0=>(g8 (i:=0) (w6 R9 rfl (by first|exact Or.inl rfl|exact Or.inr rfl)))) (fun C fp I H0=>(O6 (l5 yo1 zm5 (P0 (V7 (v6 3 (pv 3)) (z5 0 (pv 0))) (z5 2 (pv 2))) (z5 1 (pv 1)) (o0 _)))) (fun C fp I H0=>(z5 0 (pv 0))))) z8)) (w5 (G9 (i:=3) (pv 3) (Y1 (S8 (W2 (N:=["later","step","number","row"]) (src:=[none,some 1,some 5,some 0]) (z9 zv9) yi1 rfl rfl (by decide +kernel)) rfl (T2 rfl j (z0 (c6 (z5 4 (pv 4)) y8) (z0 (m8 rfl z (v6 0 (pv 0))) z8))) (fun C fp I H0=>(g8 (i:=0) (w6 R8 rfl (by first|exact Or.inl rfl|exact Or.inr rfl)))) (fun C fp I H0=>(O6 (l5 yo1 zm5 (P0 (z5 2 (pv 2)) (V7 (v6 3 (pv 3)) (z5 0 (pv 0)))) (z5 1 (pv 1)) (o0 _)))) (fun C fp I H0=>(z5 0 (pv 0))))) (fun t ha=>zg9 PySem.F.plainAttrs_list PySem.F.slot_list_append PySem.F.type_list_append X6 (pv 3) ha) (z0 (Y1 (S8 (W2 (N:=["later","step","number","row"]) (src:=[none,some 1,some 5,some 0]) (z9 zv9) yi1 rfl rfl (by decide +kernel)) rfl (T2 rfl j (z0 (c6 (z5 4 (pv 4)) y8) (z0 (m8 rfl z (v6 0 (pv 0))) z8))) (fun C fp I H0=>(g8 (i:=0) (w6 R8 rfl (by first|exact Or.inl rfl|exact Or.inr rfl)))) (fun C fp I H0=>(O6 (l5 yo1 zm5 (P0 (z5 2 (pv 2)) (V7 (v6 3 (pv 3)) (z5 0 (pv 0)))) (z5 1 (pv 1)) (o0 _)))) (fun C fp I H0=>(z5 0 (pv 0))))) z8))))) (Y7 3 (Y7 2 (w5 (X9 (g4 (z0 (z5 2 (pv 2)) (z0 (z5 3 (pv 3)) z8))))))))))
noncomputable abbrev s_Z5:Stmt:=top 13
noncomputable abbrev N_Z5:List Str:=["tails","known","most"]
theorem sc_Z5:FnScope N_Z5 ["tails"] (z9 s_Z5):=⟨rfl,rfl,rfl,by decide +kernel,rfl,by decide +kernel,by decide +kernel⟩
theorem V4:List.Nodup (["length","many"]:List Str):=by decide +kernel
theorem V3:List.Nodup (["length","many","most"]:List Str):=by decide +kernel
theorem xf5 {P:Program}{w:World}{K:W.Frag}{mg:Str->Option Value}{base:Heap}{f:Addr}{fd:FuncData}(I:Fun K "longest_joined" "longest_joined" s_Z5 f fd)(z:mg "max"=none)(j:mg "sum"=none):FnOk P w K mg base CX0 1 f fd ["tails"] (spR K 1 m_Z5):=
 I.okD (k:=0) (m:=b_Z5) sc_Z5 fun cdv A outer s H E L=>(x6 (l8 (i:=1) sc_Z5.nd rfl (by first|exact Or.inl rfl|exact Or.inr rfl) (Y1 (zy6 (M1 (j4 (z0 (g4 (z0 y8 (z0 y8 z8))) z8))) (v6 0 (pv 0))))) (x6 (l8 (i:=2) sc_Z5.nd rfl (by first|exact Or.inl rfl|exact Or.inr rfl) (xw6 rfl rfl z (M1 (S8 (W2 (N:=["length","many"]) (src:=[none,none]) (z9 s_Z5) N_Z5 rfl rfl (by decide +kernel)) rfl (Y8 (z5 1 (pv 1))) (fun C fp G H0=>(Z1 (is:=[0,1]) (W1 rfl (v5 (w6 (i:=0) V4 rfl (by first|exact Or.inl rfl|exact Or.inr rfl)) (v5 (w6 (i:=1) V4 rfl (by first|exact Or.inl rfl|exact Or.inr rfl)) Z0))))) (fun C fp G H0=>W4) (fun C fp G H0=>(z5 0 (pv 0))))))) (w5 (X9 (g4 (z0 (c6 (z5 2 (pv 2)) y8) (z0 (ya2 rfl rfl j (M1 (S8 (W2 (N:=["length","many","most"]) (src:=[none,none,some 2]) (z9 s_Z5) N_Z5 rfl rfl (by decide +kernel)) rfl (Y8 (z5 1 (pv 1))) (fun C fp G H0=>(Z1 (is:=[0,1]) (W1 rfl (v5 (w6 (i:=0) V3 rfl (by first|exact Or.inl rfl|exact Or.inr rfl)) (v5 (w6 (i:=1) V3 rfl (by first|exact Or.inl rfl|exact Or.inr rfl)) Z0))))) (fun C fp G H0=>(O6 (l5 M2 Z4 (z5 0 (pv 0)) (z5 2 (pv 2)) (o0 _)))) (fun C fp G H0=>(z5 1 (pv 1))))) PyProof.Rows.boot_sum) z8)))))))
noncomputable abbrev s_Z0:Stmt:=top 14
noncomputable abbrev N_Z0:List Str:=["row","step","above","below","ups","downs","place","most"]
theorem sc_Z0:FnScope N_Z0 ["row","step"] (z9 s_Z0):=⟨rfl,rfl,rfl,by decide +kernel,rfl,by decide +kernel,by decide +kernel⟩
theorem P2:List.Nodup (["later","downs"]:List Str):=by decide +kernel
theorem P1:List.Nodup (["later","ups"]:List Str):=by decide +kernel
theorem X5:List.Nodup (["length","many"]:List Str):=by decide +kernel
theorem X4:List.Nodup (["length","many","most"]:List Str):=by decide +kernel
theorem xe0 {P:Program}{w:World}{K:W.Frag}{mg:Str->Option Value}{base:Heap}{f:Addr}{fd:FuncData}{I:Addr}{U:FuncData}{O:Addr}{Y:FuncData}{G:Addr}{S:FuncData}(Fn:Fun K "how_many_longest" "how_many_longest" s_Z0 f fd)(a5:FnOk P w K mg base CX0 1 I U ["row","step"] (spR K 2 ze5))(b_Z15:Binds K U ["row","step"] [])(k_Z15:W.keepIn K (.ref I)=true)(a3:mg "later_steps"=some (.ref I))(a0:FnOk P w K mg base CX0 1 O Y ["tails"] (spR K 1 m_Z5))(b_Z5:Binds K Y ["tails"] [])(k_Z5:W.keepIn K (.ref O)=true)(Z:mg "longest_joined"=some (.ref O))(a4:FnOk P w K mg base CX0 1 G S ["step"] (spR K 1 J1))(b_Z17:Binds K S ["step"] [])(k_Z17:W.keepIn K (.ref G)=true)(a2:mg "refuse_step"=some (.ref G))(j:mg "len"=none)(M:mg "max"=none)(L:mg "range"=none)(z:mg "reversed"=none)(a1:mg "sum"=none):FnOk P w K mg base CX0 2 f fd ["row","step"] (spR K 2 m_Z0):=
 Fn.okD (k:=1) (m:=b_Z0) sc_Z0 fun cdv A outer s H E hr=>(x6 (S6 (i9 (fun t ha=>w8 (a4.mono (by decide)) hr rfl a2 k_Z17 b_Z17 .nil t6 ha) rfl (z0 (z5 1 (pv 1)) z8) (y7 w4))) (x6 (Q9 (U2 (i9 (fun t ha=>w8 (a5.mono (by decide)) hr rfl a3 k_Z15 b_Z15 .nil t6 ha) rfl (z0 (z5 0 (pv 0)) (z0 (z5 1 (pv 1)) z8)) (y7 (y7 w4))) (Z1 (is:=[2,3]) (W1 rfl (v5 (w6 (i:=2) sc_Z0.nd rfl (by first|exact Or.inl rfl|exact Or.inr rfl)) (v5 (w6 (i:=3) sc_Z0.nd rfl (by first|exact Or.inl rfl|exact Or.inr rfl)) Z0)))))) (x6 (S5 (i:=4) sc_Z0.nd rfl (by first|exact Or.inl rfl|exact Or.inr rfl) (zn9 (j4 (z0 (g4 (z0 y8 (z0 y8 z8))) z8)) (m8 rfl j (v6 0 (pv 0))))) (x6 (S5 (i:=5) sc_Z0.nd rfl (by first|exact Or.inl rfl|exact Or.inr rfl) (zn9 (j4 (z0 (g4 (z0 y8 (z0 y8 z8))) z8)) (m8 rfl j (v6 0 (pv 0))))) (x6 (zy5 PassesOwn.never rfl (zn8 rfl z rfl L (z0 (m8 rfl j (v6 0 (pv 0))) z8)) (g8 (i:=6) (w6 sc_Z0.nd rfl (by first|exact Or.inl rfl|exact Or.inr rfl))) (x6 (T1 (i:=4) (U2 (i9 (fun t ha=>w8 (a0.mono (by decide)) hr rfl Z k_Z5 b_Z5 .nil t6 ha) rfl (z0 (Y1 (A2 (B8 (by decide)) (W2 (N:=["later","downs"]) (src:=[none,some 5]) (z9 s_Z0) N_Z0 rfl rfl (by decide +kernel)) rfl (Y8 (V7 (v6 2 (pv 2)) (z5 6 (pv 6)))) (fun C fp R H0=>(g8 (i:=0) (w6 P2 rfl (by first|exact Or.inl rfl|exact Or.inr rfl)))) (fun C fp R H0=>W4) (fun C fp R H0=>(V7 (v6 1 (pv 1)) (z5 0 (pv 0)))))) z8) (y7 w4)) (zt6 (pv 4) (z5 6 (pv 6)) O4))) (w5 (T1 (i:=5) (U2 (i9 (fun t ha=>w8 (a0.mono (by decide)) hr rfl Z k_Z5 b_Z5 .nil t6 ha) rfl (z0 (Y1 (A2 (B8 (by decide)) (W2 (N:=["later","ups"]) (src:=[none,some 4]) (z9 s_Z0) N_Z0 rfl rfl (by decide +kernel)) rfl (Y8 (V7 (v6 3 (pv 3)) (z5 6 (pv 6)))) (fun C fp R H0=>(g8 (i:=0) (w6 P1 rfl (by first|exact Or.inl rfl|exact Or.inr rfl)))) (fun C fp R H0=>W4) (fun C fp R H0=>(V7 (v6 1 (pv 1)) (z5 0 (pv 0)))))) z8) (y7 w4)) (zt6 (pv 5) (z5 6 (pv 6)) O4)))))) (Y7 4 (Y7 5 (x6 (l8 (i:=7) sc_Z0.nd rfl (by first|exact Or.inl rfl|exact Or.inr rfl) (xw7 rfl hr.units rfl M (M1 (S8 (W2 (N:=["length","many"]) (src:=[none,none]) (z9 s_Z0) N_Z0 rfl rfl (by decide +kernel)) rfl (Y8 (c6 (z5 4 (pv 4)) (z5 5 (pv 5)))) (fun C fp R H0=>(Z1 (is:=[0,1]) (W1 rfl (v5 (w6 (i:=0) X5 rfl (by first|exact Or.inl rfl|exact Or.inr rfl)) (v5 (w6 (i:=1) X5 rfl (by first|exact Or.inl rfl|exact Or.inr rfl)) Z0))))) (fun C fp R H0=>W4) (fun C fp R H0=>(z5 0 (pv 0))))) y8)) (x6 (U0 (l5 zr7 K8 (z5 7 (pv 7)) y8 (o0 _)) (w5 (X9 (xw8 rfl rfl M (z0 y8 (z0 (m8 rfl j (v6 0 (pv 0))) z8))))) d6) (w5 (X9 (ya2 rfl rfl a1 (M1 (S8 (W2 (N:=["length","many","most"]) (src:=[none,none,some 7]) (z9 s_Z0) N_Z0 rfl rfl (by decide +kernel)) rfl (Y8 (c6 (z5 4 (pv 4)) (z5 5 (pv 5)))) (fun C fp R H0=>(Z1 (is:=[0,1]) (W1 rfl (v5 (w6 (i:=0) X4 rfl (by first|exact Or.inl rfl|exact Or.inr rfl)) (v5 (w6 (i:=1) X4 rfl (by first|exact Or.inl rfl|exact Or.inr rfl)) Z0))))) (fun C fp R H0=>(O6 (l5 M2 Z4 (z5 0 (pv 0)) (z5 2 (pv 2)) (o0 _)))) (fun C fp R H0=>(z5 1 (pv 1))))) PyProof.Rows.boot_sum))))))))))))
noncomputable abbrev s_Z7:Stmt:=top 16
noncomputable abbrev N_Z7:List Str:=["weight"]
theorem xp1:FnScope N_Z7 ["weight"] (z9 s_Z7):=⟨rfl,rfl,rfl,by decide +kernel,rfl,by decide +kernel,by decide +kernel⟩
theorem xf3 {P:Program}{w:World}{K:W.Frag}{mg:Str->Option Value}{base:Heap}{f:Addr}{fd:FuncData}(G:Fun K "refuse_weight" "refuse_weight" s_Z7 f fd){i:Addr}(z:mg "NoWeights"=some (.ref i))(j:XC K "NoWeights" i)(q_NoWeights:W.excIn K i bmV "ValueError.__new__"=true):FnOk P w K mg base CX0 1 f fd ["weight"] (spR K 1 m_Z7):=
 G.okD (k:=0) (m:=b_Z7) xp1 fun cdv A outer s H E I=>(w5 (U0 (l5 zr7 K8 (z5 0 (pv 0)) y8 (o0 _)) (w5 K5) d6))
theorem xn6 {P:Program}{w:World}{K:W.Frag}{mg:Str->Option Value}{base:Heap}{f:Addr}{fd:FuncData}(G:Fun K "refuse_weight" "refuse_weight" s_Z7 f fd){i:Addr}(z:mg "NoWeights"=some (.ref i))(j:XC K "NoWeights" i)(q_NoWeights:W.excIn K i bmV "ValueError.__new__"=true):FnOk P w K mg base (CXx P w) 1 f fd ["weight"] (spX K 1 yx8):=
 G.okX (k:=0) (m:=xs5) xp1 fun cdv A outer s H E I=>(K0 (yr7 rfl (l5 zr7 K8 (z5 0 (pv 0)) y8 (o0 _)) (K0 (zy3 rfl ⟨rfl,rfl,rfl⟩ rfl rfl z j q_NoWeights (z0 D4 z8) (y7 w4) (by decide))) K1))
noncomputable abbrev s_Z3:Stmt:=top 17
noncomputable abbrev N_Z3:List Str:=["row","weights","weight"]
theorem sc_Z3:FnScope N_Z3 ["row","weights"] (z9 s_Z3):=⟨rfl,rfl,rfl,by decide +kernel,rfl,by decide +kernel,by decide +kernel⟩
theorem xf7 {P:Program}{w:World}{K:W.Frag}{mg:Str->Option Value}{base:Heap}{f:Addr}{fd:FuncData}{z:Addr}{G:FuncData}(N:Fun K "refuse_weights" "refuse_weights" s_Z3 f fd)(L:FnOk P w K mg base CX0 1 z G ["weight"] (spR K 1 m_Z7))(b_Z7:Binds K G ["weight"] [])(k_Z7:W.keepIn K (.ref z)=true)(I:mg "refuse_weight"=some (.ref z))(j:mg "len"=none):FnOk P w K mg base CX0 2 f fd ["row","weights"] (spR K 2 m_Z3):=
 N.okD (k:=1) (m:=b_Z3) sc_Z3 fun cdv A outer s H E M=>(x6 (U0 (l5 xn4 yp7 (m8 rfl j (v6 1 (pv 1))) (m8 rfl j (v6 0 (pv 0))) (o0 _)) (w5 K5) d6) (w5 (zy5 PassesOwn.never rfl (Y8 (z5 1 (pv 1))) (g8 (i:=2) (w6 sc_Z3.nd rfl (by first|exact Or.inl rfl|exact Or.inr rfl))) (w5 (S6 (i9 (fun t ha=>w8 (L.mono (by decide)) M rfl I k_Z7 b_Z7 .nil t6 ha) rfl (z0 (z5 2 (pv 2)) z8) (y7 w4)))))))
noncomputable abbrev s_Z9:Stmt:=top 18
noncomputable abbrev N_Z9:List Str:=["heavy","weight","places"]
theorem sc_Z9:FnScope N_Z9 ["heavy"] (z9 s_Z9):=⟨rfl,rfl,rfl,by decide +kernel,rfl,by decide +kernel,by decide +kernel⟩
theorem xf1 {P:Program}{w:World}{K:W.Frag}{mg:Str->Option Value}{base:Heap}{f:Addr}{fd:FuncData}(z:Fun K "heavier_first" "heavier_first" s_Z9 f fd)(j:mg "len"=none):FnOk P w K mg base CX0 1 f fd ["heavy"] (spR K 1 m_Z9):=
 z.okD (k:=0) (m:=b_Z9) sc_Z9 fun cdv A outer s H E G=>(x6 (Q9 (U2 (z5 0 (pv 0)) (Z1 (is:=[1,2]) (W1 rfl (v5 (w6 (i:=1) sc_Z9.nd rfl (by first|exact Or.inl rfl|exact Or.inr rfl)) (v5 (w6 (i:=2) sc_Z9.nd rfl (by first|exact Or.inl rfl|exact Or.inr rfl)) Z0)))))) (w5 (X9 (g4 (z0 (T4 (z5 1 (pv 1))) (z0 (m8 rfl j (v6 2 (pv 2))) (z0 (z5 2 (pv 2)) z8)))))))
noncomputable abbrev s_Z6:Stmt:=top 19
noncomputable abbrev N_Z6:List Str:=["heavies"]
theorem xg0:FnScope N_Z6 ["heavies"] (z9 s_Z6):=⟨rfl,rfl,rfl,by decide +kernel,rfl,by decide +kernel,by decide +kernel⟩
theorem xf4 {P:Program}{w:World}{K:W.Frag}{mg:Str->Option Value}{base:Heap}{f:Addr}{fd:FuncData}{i:Addr}{j:FuncData}(M:Fun K "first_heaviest" "first_heaviest" s_Z6 f fd)(I:FnOk P w K mg base CX0 1 i j ["heavy"] (spR K 1 m_Z9))(b_Z9:Binds K j ["heavy"] [])(k_Z9:W.keepIn K (.ref i)=true)(G:mg "heavier_first"=some (.ref i))(z:mg "min"=none):FnOk P w K mg base CX0 3 f fd ["heavies"] (spR K 1 m_Z6):=
 M.okD (k:=2) (m:=b_Z6) xg0 fun cdv A outer s H E L=>(w5 (X9 (xw5 (yd4 (I.mono (by decide)) L.in1 b_Z9) rfl L.units rfl z rfl G (M1 (zy6 (M1 (j4 (z0 (g4 (z0 y8 (z0 (Y1 (j4 z8)) z8))) z8))) (v6 0 (pv 0)))))))
noncomputable abbrev zo9:Stmt:=top 20
noncomputable abbrev xr2:List Str:=["row","step","weights","above","below","ups","downs","place","weight","places"]
theorem sc_Z18:FnScope xr2 ["row","step","weights"] (z9 zo9):=⟨rfl,rfl,rfl,by decide +kernel,rfl,by decide +kernel,by decide +kernel⟩
theorem B6:List.Nodup (["later","downs"]:List Str):=by decide +kernel
theorem B5:List.Nodup (["later","ups"]:List Str):=by decide +kernel
theorem xm3 {P:Program}{w:World}{K:W.Frag}{mg:Str->Option Value}{base:Heap}{f:Addr}{fd:FuncData}{L:Addr}{O:FuncData}{G:Addr}{M:FuncData}(Fn:Fun K "heavy_tails" "heavy_tails" zo9 f fd)(S:FnOk P w K mg base CX0 3 L O ["heavies"] (spR K 1 m_Z6))(b_Z6:Binds K O ["heavies"] [])(k_Z6:W.keepIn K (.ref L)=true)(R:mg "first_heaviest"=some (.ref L))(Y:FnOk P w K mg base CX0 1 G M ["row","step"] (spR K 2 ze5))(b_Z15:Binds K M ["row","step"] [])(k_Z15:W.keepIn K (.ref G)=true)(U:mg "later_steps"=some (.ref G))(z:mg "len"=none)(I:mg "range"=none)(j:mg "reversed"=none):FnOk P w K mg base CX0 4 f fd ["row","step","weights"] (spR K 3 ye9):=
 Fn.okD (k:=3) (m:=b_Z18) sc_Z18 fun cdv A outer s H E hr=>(x6 (Q9 (U2 (i9 (fun t ha=>w8 (Y.mono (by decide)) hr rfl U k_Z15 b_Z15 .nil t6 ha) rfl (z0 (z5 0 (pv 0)) (z0 (z5 1 (pv 1)) z8)) (y7 (y7 w4))) (Z1 (is:=[3,4]) (W1 rfl (v5 (w6 (i:=3) sc_Z18.nd rfl (by first|exact Or.inl rfl|exact Or.inr rfl)) (v5 (w6 (i:=4) sc_Z18.nd rfl (by first|exact Or.inl rfl|exact Or.inr rfl)) Z0)))))) (x6 (S5 (i:=5) sc_Z18.nd rfl (by first|exact Or.inl rfl|exact Or.inr rfl) (zn9 (j4 (z0 (g4 (z0 y8 (z0 (Y1 (j4 z8)) z8))) z8)) (m8 rfl z (v6 0 (pv 0))))) (x6 (S5 (i:=6) sc_Z18.nd rfl (by first|exact Or.inl rfl|exact Or.inr rfl) (zn9 (j4 (z0 (g4 (z0 y8 (z0 (Y1 (j4 z8)) z8))) z8)) (m8 rfl z (v6 0 (pv 0))))) (x6 (zy5 PassesOwn.never rfl (zn8 rfl j rfl I (z0 (m8 rfl z (v6 0 (pv 0))) z8)) (g8 (i:=7) (w6 sc_Z18.nd rfl (by first|exact Or.inl rfl|exact Or.inr rfl))) (x6 (Q9 (U2 (i9 (fun t ha=>w8 (S.mono (by decide)) hr rfl R k_Z6 b_Z6 .nil t6 ha) rfl (z0 (Y1 (A2 (B8 (by decide)) (W2 (N:=["later","downs"]) (src:=[none,some 6]) (z9 zo9) xr2 rfl rfl (by decide +kernel)) rfl (Y8 (V7 (v6 3 (pv 3)) (z5 7 (pv 7)))) (fun C fp Z H0=>(g8 (i:=0) (w6 B6 rfl (by first|exact Or.inl rfl|exact Or.inr rfl)))) (fun C fp Z H0=>W4) (fun C fp Z H0=>(V7 (v6 1 (pv 1)) (z5 0 (pv 0)))))) z8) (y7 w4)) (Z1 (is:=[8,9]) (W1 rfl (v5 (w6 (i:=8) sc_Z18.nd rfl (by first|exact Or.inl rfl|exact Or.inr rfl)) (v5 (w6 (i:=9) sc_Z18.nd rfl (by first|exact Or.inl rfl|exact Or.inr rfl)) Z0)))))) (x6 (T1 (i:=5) (U2 (g4 (z0 (c6 (V7 (v6 2 (pv 2)) (z5 7 (pv 7))) (z5 8 (pv 8))) (z0 (Y1 (zy6 (M1 (j4 (z0 (z5 7 (pv 7)) z8))) (v6 9 (pv 9)))) z8))) (zt6 (pv 5) (z5 7 (pv 7)) O4))) (x6 (Q9 (U2 (i9 (fun t ha=>w8 (S.mono (by decide)) hr rfl R k_Z6 b_Z6 .nil t6 ha) rfl (z0 (Y1 (A2 (B8 (by decide)) (W2 (N:=["later","ups"]) (src:=[none,some 5]) (z9 zo9) xr2 rfl rfl (by decide +kernel)) rfl (Y8 (V7 (v6 4 (pv 4)) (z5 7 (pv 7)))) (fun C fp Z H0=>(g8 (i:=0) (w6 B5 rfl (by first|exact Or.inl rfl|exact Or.inr rfl)))) (fun C fp Z H0=>W4) (fun C fp Z H0=>(V7 (v6 1 (pv 1)) (z5 0 (pv 0)))))) z8) (y7 w4)) (Z1 (is:=[8,9]) (W1 rfl (v5 (w6 (i:=8) sc_Z18.nd rfl (by first|exact Or.inl rfl|exact Or.inr rfl)) (v5 (w6 (i:=9) sc_Z18.nd rfl (by first|exact Or.inl rfl|exact Or.inr rfl)) Z0)))))) (w5 (T1 (i:=6) (U2 (g4 (z0 (c6 (V7 (v6 2 (pv 2)) (z5 7 (pv 7))) (z5 8 (pv 8))) (z0 (Y1 (zy6 (M1 (j4 (z0 (z5 7 (pv 7)) z8))) (v6 9 (pv 9)))) z8))) (zt6 (pv 6) (z5 7 (pv 7)) O4)))))))) (Y7 5 (Y7 6 (w5 (X9 (g4 (z0 (z5 5 (pv 5)) (z0 (z5 6 (pv 6)) z8)))))))))))
noncomputable abbrev yw4:Stmt:=top 21
noncomputable abbrev xd6:List Str:=["row","step","weights","ups","downs"]
theorem sc_Z22:FnScope xd6 ["row","step","weights"] (z9 yw4):=⟨rfl,rfl,rfl,by decide +kernel,rfl,by decide +kernel,by decide +kernel⟩
theorem xn9 {P:Program}{w:World}{K:W.Frag}{mg:Str->Option Value}{base:Heap}{f:Addr}{fd:FuncData}{G:Addr}{N:FuncData}{j:Addr}{L:FuncData}{z:Addr}{M:FuncData}{I:Addr}{O:FuncData}(Fn:Fun K "heaviest" "heaviest" yw4 f fd)(a1:FnOk P w K mg base CX0 3 G N ["heavies"] (spR K 1 m_Z6))(b_Z6:Binds K N ["heavies"] [])(k_Z6:W.keepIn K (.ref G)=true)(Z:mg "first_heaviest"=some (.ref G))(U:FnOk P w K mg base CX0 4 j L ["row","step","weights"] (spR K 3 ye9))(b_Z18:Binds K L ["row","step","weights"] [])(k_Z18:W.keepIn K (.ref j)=true)(R:mg "heavy_tails"=some (.ref j))(Y:FnOk P w K mg base CX0 1 z M ["step"] (spR K 1 J1))(b_Z17:Binds K M ["step"] [])(k_Z17:W.keepIn K (.ref z)=true)(S:mg "refuse_step"=some (.ref z))(a2:FnOk P w K mg base CX0 2 I O ["row","weights"] (spR K 2 m_Z3))(b_Z3:Binds K O ["row","weights"] [])(k_Z3:W.keepIn K (.ref I)=true)(a0:mg "refuse_weights"=some (.ref I)):FnOk P w K mg base CX0 5 f fd ["row","step","weights"] (spR K 3 yu2):=
 Fn.okD (k:=4) (m:=b_Z22) sc_Z22 fun cdv A outer s H E hr=>(x6 (S6 (i9 (fun t ha=>w8 (Y.mono (by decide)) hr rfl S k_Z17 b_Z17 .nil t6 ha) rfl (z0 (z5 1 (pv 1)) z8) (y7 w4))) (x6 (S6 (i9 (fun t ha=>w8 (a2.mono (by decide)) hr rfl a0 k_Z3 b_Z3 .nil t6 ha) rfl (z0 (z5 0 (pv 0)) (z0 (z5 2 (pv 2)) z8)) (y7 (y7 w4)))) (x6 (Q9 (U2 (i9 (fun t ha=>w8 (U.mono (by decide)) hr rfl R k_Z18 b_Z18 .nil t6 ha) rfl (z0 (z5 0 (pv 0)) (z0 (z5 1 (pv 1)) (z0 (z5 2 (pv 2)) z8))) (y7 (y7 (y7 w4)))) (Z1 (is:=[3,4]) (W1 rfl (v5 (w6 (i:=3) sc_Z22.nd rfl (by first|exact Or.inl rfl|exact Or.inr rfl)) (v5 (w6 (i:=4) sc_Z22.nd rfl (by first|exact Or.inl rfl|exact Or.inr rfl)) Z0)))))) (w5 (X9 (i9 (fun t ha=>w8 (a1.mono (by decide)) hr rfl Z k_Z6 b_Z6 .nil t6 ha) rfl (z0 (c6 (z5 3 (pv 3)) (z5 4 (pv 4))) z8) (y7 w4)))))))
noncomputable abbrev yw8:Stmt:=top 24
noncomputable abbrev xc1:List Str:=["row","step","kind","start","edge","place","gain"]
theorem sc_Z16:FnScope xc1 ["row","step","kind","start"] (z9 yw8):=⟨rfl,rfl,rfl,by decide +kernel,rfl,by decide +kernel,by decide +kernel⟩
theorem xm5 {P:Program}{w:World}{K:W.Frag}{mg:Str->Option Value}{base:Heap}{f:Addr}{fd:FuncData}(G:Fun K "first_break" "first_break" yw8 f fd)(z:mg "len"=none)(j:mg "range"=none):FnOk P w K mg base CX0 1 f fd ["row","step","kind","start"] (spR K 4 zk5):=
 G.okD (k:=0) (m:=b_Z16) sc_Z16 fun cdv A outer s H E I=>(x6 (l8 (i:=4) sc_Z16.nd rfl (by first|exact Or.inl rfl|exact Or.inr rfl) (z5 3 (pv 3))) (x6 (zy5 PassesOwn.never rfl (T2 rfl j (z0 (z5 3 (pv 3)) (z0 (m8 rfl z (v6 0 (pv 0))) z8))) (g8 (i:=5) (w6 sc_Z16.nd rfl (by first|exact Or.inl rfl|exact Or.inr rfl))) (x6 (l8 (i:=6) sc_Z16.nd rfl (by first|exact Or.inl rfl|exact Or.inr rfl) (P0 (V7 (v6 0 (pv 0)) (z5 5 (pv 5))) (V7 (v6 0 (pv 0)) (z5 4 (pv 4))))) (x6 (U0 (l5 M2 Z4 (z5 2 (pv 2)) D4 (o0 _)) (w5 (l8 (i:=6) sc_Z16.nd rfl (by first|exact Or.inl rfl|exact Or.inr rfl) (T4 (z5 6 (pv 6))))) d6) (x6 (U0 (l5 xf0 xn1 (z5 6 (pv 6)) (T4 (z5 1 (pv 1))) (o0 _)) (w5 (zb8 5 (pv 5))) d6) (w5 (U0 (l5 xv4 yp9 (z5 6 (pv 6)) y8 (o0 _)) (w5 (l8 (i:=4) sc_Z16.nd rfl (by first|exact Or.inl rfl|exact Or.inr rfl) (z5 5 (pv 5)))) d6)))))) (w5 (X9 (m8 rfl z (v6 0 (pv 0)))))))
noncomputable abbrev yw5:Stmt:=top 25
noncomputable abbrev xd7:List Str:=["row","step","fall","rise","word","kind","cuts","cut"]
theorem sc_Z21:FnScope xd7 ["row","step"] (z9 yw5):=⟨rfl,rfl,rfl,by decide +kernel,rfl,by decide +kernel,by decide +kernel⟩
theorem xm0 {P:Program}{w:World}{K:W.Frag}{mg:Str->Option Value}{base:Heap}{f:Addr}{fd:FuncData}{L:Addr}{R:FuncData}{I:Addr}{O:FuncData}{j:Addr}(Fn:Fun K "pieces_of" "pieces_of" yw5 f fd)(N:FnOk P w K mg base CX0 1 L R ["row","step","kind","start"] (spR K 4 zk5))(b_Z16:Binds K R ["row","step","kind","start"] [])(k_Z16:W.keepIn K (.ref L)=true)(M:mg "first_break"=some (.ref L))(Z:FnOk P w K mg base CX0 1 I O ["step"] (spR K 1 J1))(b_Z17:Binds K O ["step"] [])(k_Z17:W.keepIn K (.ref I)=true)(Y:mg "refuse_step"=some (.ref I))(G:KTab w K j tab_OTHER_KIND)(z:mg "OTHER_KIND"=some (.ref j))(U:mg "len"=none)(S:mg "min"=none):FnOk P w K mg base CX0 2 f fd ["row","step"] (spR K 2 ze4):=
 Fn.okD (k:=1) (m:=b_Z21) sc_Z21 fun cdv A outer s H E hr=>(x6 (S6 (i9 (fun t ha=>w8 (Z.mono (by decide)) hr rfl Y k_Z17 b_Z17 .nil t6 ha) rfl (z0 (z5 1 (pv 1)) z8) (y7 w4))) (x6 (l8 (i:=2) sc_Z21.nd rfl (by first|exact Or.inl rfl|exact Or.inr rfl) (i9 (fun t ha=>w8 (N.mono (by decide)) hr rfl M k_Z16 b_Z16 .nil t6 ha) rfl (z0 (z5 0 (pv 0)) (z0 (z5 1 (pv 1)) (z0 D4 (z0 y8 z8)))) (y7 (y7 (y7 (y7 w4)))))) (x6 (l8 (i:=3) sc_Z21.nd rfl (by first|exact Or.inl rfl|exact Or.inr rfl) (i9 (fun t ha=>w8 (N.mono (by decide)) hr rfl M k_Z16 b_Z16 .nil t6 ha) rfl (z0 (z5 0 (pv 0)) (z0 (z5 1 (pv 1)) (z0 D4 (z0 y8 z8)))) (y7 (y7 (y7 (y7 w4)))))) (x6 (l8 (i:=4) sc_Z21.nd rfl (by first|exact Or.inl rfl|exact Or.inr rfl) (ya3 (l5 zr7 K8 (z5 2 (pv 2)) (z5 3 (pv 3)) (o0 _)) D4 D4)) (x6 (l8 (i:=5) sc_Z21.nd rfl (by first|exact Or.inl rfl|exact Or.inr rfl) (z5 4 (pv 4))) (x6 (S5 (i:=6) sc_Z21.nd rfl (by first|exact Or.inl rfl|exact Or.inr rfl) (j4 z8)) (x6 (l8 (i:=7) sc_Z21.nd rfl (by first|exact Or.inl rfl|exact Or.inr rfl) (zf1 rfl rfl S (z0 (z5 2 (pv 2)) (z0 (z5 3 (pv 3)) z8)))) (x6 (yq0 1000 PassesOwn.never (l5 zr7 K8 (z5 7 (pv 7)) (m8 rfl U (v6 0 (pv 0))) (o0 _)) (x6 (G9 (i:=6) (pv 6) (z5 7 (pv 7)) (fun t ha=>zg9 PySem.F.plainAttrs_list PySem.F.slot_list_append PySem.F.type_list_append X6 (pv 6) ha) (z0 (z5 7 (pv 7)) z8)) (x6 (l8 (i:=7) sc_Z21.nd rfl (by first|exact Or.inl rfl|exact Or.inr rfl) (i9 (fun t ha=>w8 (N.mono (by decide)) hr rfl M k_Z16 b_Z16 .nil t6 ha) rfl (z0 (z5 0 (pv 0)) (z0 (z5 1 (pv 1)) (z0 (z5 5 (pv 5)) (z0 (z5 7 (pv 7)) z8)))) (y7 (y7 (y7 (y7 w4)))))) (w5 (l8 (i:=5) sc_Z21.nd rfl (by first|exact Or.inl rfl|exact Or.inr rfl) (xo5 G rfl z (z5 5 (pv 5)))))))) (w5 (yg5 (i:=6) (z5 4 (pv 4)) (pv 6)))))))))))
noncomputable abbrev l6:Stmt:=zq8 27 0
noncomputable abbrev B7:List Str:=["self","step"]
theorem T0:FnScope B7 ["self","step"] (z9 l6):=⟨rfl,rfl,rfl,by decide +kernel,rfl,by decide +kernel,by decide +kernel⟩
theorem F9 {P:Program}{w:World}{K:W.Frag}{mg:Str->Option Value}{base:Heap}{f:Addr}{fd:FuncData}{I:Addr}{M:FuncData}(Z:Fun K "__init__" "Grown.__init__" l6 f fd){L:Addr}(R:W.nsIn K mainGlobals "Grown"=some (some (.ref L)))(S:Cls K L)(O:FnOk P w K mg base CX0 1 I M ["step"] (spR K 1 J1))(b_Z17:Binds K M ["step"] [])(k_Z17:W.keepIn K (.ref I)=true)(N:mg "refuse_step"=some (.ref I))(i:∀ C,W.nsIn K mainGlobals "Grown"=some (some (.ref C))->Cls K C/\NoAttr K C "least_step")(G:∀ C,W.nsIn K mainGlobals "Grown"=some (some (.ref C))->Cls K C/\NoAttr K C "lengths")(z:∀ C,W.nsIn K mainGlobals "Grown"=some (some (.ref C))->Cls K C/\NoAttr K C "numbers")(j:∀ C,W.nsIn K mainGlobals "Grown"=some (some (.ref C))->Cls K C/\NoAttr K C "weights")(U:FnOk P w K mg base (CXx P w) 1 I M ["step"] (spX K 1 zu9)):FnOk P w K mg base CX0 2 f fd ["self","step"] (spW K 2 w9):=
 Z.okW (k:=1) (m:=b_Grown___init__) T0 fun cdv A outer s H E Y=>(u9 (psw (S6 (i9 (fun t ha=>w8 (O.mono (by decide)) Y rfl N k_Z17 b_Z17 .nil t6 ha) rfl (z0 (z5 1 (pv 1)) z8) (y7 w4)))) (u9 (xx4 i (z5 0 (pv 0)) (pdw (z5 1 (pv 1)))) (u9 (L9 z (z5 0 (pv 0)) (pfw (j4 z8))) (u9 (L9 j (z5 0 (pv 0)) (pfw (j4 z8))) (j0 (L9 G (z5 0 (pv 0)) (pfw (j4 z8))))))))
theorem K9 {P:Program}{w:World}{K:W.Frag}{mg:Str->Option Value}{base:Heap}{f:Addr}{fd:FuncData}{i:Addr}{G:FuncData}(Z:Fun K "__init__" "Grown.__init__" l6 f fd){j:Addr}(R:W.nsIn K mainGlobals "Grown"=some (some (.ref j)))(S:Cls K j)(U:FnOk P w K mg base CX0 1 i G ["step"] (spR K 1 J1))(b_Z17:Binds K G ["step"] [])(k_Z17:W.keepIn K (.ref i)=true)(O:mg "refuse_step"=some (.ref i))(z:∀ C,W.nsIn K mainGlobals "Grown"=some (some (.ref C))->Cls K C/\NoAttr K C "least_step")(M:∀ C,W.nsIn K mainGlobals "Grown"=some (some (.ref C))->Cls K C/\NoAttr K C "lengths")(L:∀ C,W.nsIn K mainGlobals "Grown"=some (some (.ref C))->Cls K C/\NoAttr K C "numbers")(I:∀ C,W.nsIn K mainGlobals "Grown"=some (some (.ref C))->Cls K C/\NoAttr K C "weights")(N:FnOk P w K mg base (CXx P w) 1 i G ["step"] (spX K 1 zu9)):FnOk P w K mg base (CXx P w) 2 f fd ["self","step"] (spX K 2 j5):=
 Z.okX (k:=1) (m:=X0) T0 fun cdv A outer s H E Y=>(zy4 (zb6 (za2 rfl ⟨rfl,rfl,rfl⟩ (N.mono (by decide)) Y rfl O k_Z17 b_Z17 rfl (z0 (z5 1 (pv 1)) z8) (y7 w4))))
noncomputable abbrev yv0:Stmt:=zq8 27 4
noncomputable abbrev xc3:List Str:=["self"]
theorem xp3:FnScope xc3 ["self"] (z9 yv0):=⟨rfl,rfl,rfl,by decide +kernel,rfl,by decide +kernel,by decide +kernel⟩
theorem xm8 {P:Program}{w:World}{K:W.Frag}{mg:Str->Option Value}{base:Heap}{f:Addr}{fd:FuncData}{G:Addr}{I:FuncData}(U:Fun K "pieces" "Grown.pieces" yv0 f fd){z:Addr}(N:W.nsIn K mainGlobals "Grown"=some (some (.ref z)))(O:Cls K z)(M:FnOk P w K mg base CX0 2 G I ["row","step"] (spR K 2 ze4))(b_Z21:Binds K I ["row","step"] [])(k_Z21:W.keepIn K (.ref G)=true)(L:mg "pieces_of"=some (.ref G))(i:∀ C,W.nsIn K mainGlobals "Grown"=some (some (.ref C))->Cls K C/\NoAttr K C "least_step")(j:∀ C,W.nsIn K mainGlobals "Grown"=some (some (.ref C))->Cls K C/\NoAttr K C "numbers"):FnOk P w K mg base CX0 3 f fd ["self"] (spR K 1 zu3):=
 U.okD (k:=2) (m:=b_Z13) xp3 fun cdv A outer s H E R=>(w5 (yg4 (fun t ha=>by exact w8 (M.mono (by decide)) R rfl L k_Z21 b_Z21 .nil t6 ha) (fun te S=>U1 S) (z0 (V2 (z5 0 (pv 0)) j) (z0 (V2 (z5 0 (pv 0)) i) z8)) rfl (y7 (y7 w4))))
noncomputable abbrev yw9:Stmt:=zq8 27 3
noncomputable abbrev xc2:List Str:=["self","word","cuts"]
theorem sc_Z14:FnScope xc2 ["self"] (z9 yw9):=⟨rfl,rfl,rfl,by decide +kernel,rfl,by decide +kernel,by decide +kernel⟩
theorem xm7 {P:Program}{w:World}{K:W.Frag}{mg:Str->Option Value}{base:Heap}{f:Addr}{fd:FuncData}{L:Addr}{M:FuncData}(Y:Fun K "length" "Grown.length" yw9 f fd){z:Addr}(G:W.nsIn K mainGlobals "Grown"=some (some (.ref z)))(I:Cls K z)(R:FnOk P w K mg base CX0 3 L M ["self"] (spR K 1 zu3))(b_Z13:Binds K M ["self"] [])(O:Meth K z "pieces" L)(j:∀ C,W.nsIn K mainGlobals "Grown"=some (some (.ref C))->Cls K C/\NoAttr K C "numbers")(N:mg "len"=none):FnOk P w K mg base CX0 4 f fd ["self"] (spR K 1 Q7):=
 Y.okD (k:=3) (m:=b_Z14) sc_Z14 fun cdv A outer s H E S=>(x6 (Q9 (U2 (X3 G (z5 0 (pv 0)) (fun ta U=>Z9 U I O (R.mono (by decide)) S b_Z13 .nil t6)) (Z1 (is:=[1,2]) (W1 rfl (v5 (w6 (i:=1) sc_Z14.nd rfl (by first|exact Or.inl rfl|exact Or.inr rfl)) (v5 (w6 (i:=2) sc_Z14.nd rfl (by first|exact Or.inl rfl|exact Or.inr rfl)) Z0)))))) (w5 (X9 (ya3 (xo8 (V2 (z5 0 (pv 0)) j)) (c6 (m8 rfl N (v6 2 (pv 2))) y8) y8))))
noncomputable abbrev Z3:Stmt:=zq8 27 1
noncomputable abbrev zc4:List Str:=["self","number","weight"]
theorem D3:FnScope zc4 ["self","number","weight"] (z9 Z3):=⟨rfl,rfl,rfl,by decide +kernel,rfl,by decide +kernel,by decide +kernel⟩
theorem zm8 {P:Program}{w:World}{K:W.Frag}{mg:Str->Option Value}{base:Heap}{f:Addr}{fd:FuncData}{N:Addr}{R:FuncData}{I:Addr}{O:FuncData}(Fn:Fun K "put" "Grown.put" Z3 f fd){G:Addr}(L:W.nsIn K mainGlobals "Grown"=some (some (.ref G)))(M:Cls K G)(Y:FnOk P w K mg base CX0 4 N R ["self"] (spR K 1 Q7))(b_Z14:Binds K R ["self"] [])(U:Meth K G "length" N)(a0:FnOk P w K mg base CX0 1 I O ["weight"] (spR K 1 m_Z7))(b_Z7:Binds K O ["weight"] [])(k_Z7:W.keepIn K (.ref I)=true)(Z:mg "refuse_weight"=some (.ref I))(z:∀ C,W.nsIn K mainGlobals "Grown"=some (some (.ref C))->Cls K C/\NoAttr K C "lengths")(j:∀ C,W.nsIn K mainGlobals "Grown"=some (some (.ref C))->Cls K C/\NoAttr K C "numbers")(i:∀ C,W.nsIn K mainGlobals "Grown"=some (some (.ref C))->Cls K C/\NoAttr K C "weights")(a1:FnOk P w K mg base (CXx P w) 1 I O ["weight"] (spX K 1 yx8)):FnOk P w K mg base CX0 5 f fd ["self","number","weight"] (spW K 3 k6):=
 Fn.okW (k:=4) (m:=b_Grown_put) D3 fun cdv A outer s H E hr=>(u9 (psw (S6 (i9 (fun t ha=>w8 (a0.mono (by decide)) hr rfl Z k_Z7 b_Z7 .nil t6 ha) rfl (z0 (z5 2 (pv 2)) z8) (y7 w4)))) (u9 (A0 j (z5 0 (pv 0)) (pdw (z5 1 (pv 1))) rfl (fun to t S ha=>zg9 PySem.F.plainAttrs_list PySem.F.slot_list_append PySem.F.type_list_append X6 S ha)) (u9 (A0 i (z5 0 (pv 0)) (pdw (z5 2 (pv 2))) rfl (fun to t S ha=>zg9 PySem.F.plainAttrs_list PySem.F.slot_list_append PySem.F.type_list_append X6 S ha)) (j0 (A0 z (z5 0 (pv 0)) (O7 (X3 L (z5 0 (pv 0)) (fun ta S=>Z9 S M U (Y.mono (by decide)) hr b_Z14 .nil t6))) rfl (fun to t S ha=>zg9 PySem.F.plainAttrs_list PySem.F.slot_list_append PySem.F.type_list_append X6 S ha))))))
theorem zr8 {P:Program}{w:World}{K:W.Frag}{mg:Str->Option Value}{base:Heap}{f:Addr}{fd:FuncData}{L:Addr}{N:FuncData}{j:Addr}{M:FuncData}(Fn:Fun K "put" "Grown.put" Z3 f fd){i:Addr}(R:W.nsIn K mainGlobals "Grown"=some (some (.ref i)))(S:Cls K i)(Z:FnOk P w K mg base CX0 4 L N ["self"] (spR K 1 Q7))(b_Z14:Binds K N ["self"] [])(Y:Meth K i "length" L)(a0:FnOk P w K mg base CX0 1 j M ["weight"] (spR K 1 m_Z7))(b_Z7:Binds K M ["weight"] [])(k_Z7:W.keepIn K (.ref j)=true)(U:mg "refuse_weight"=some (.ref j))(I:∀ C,W.nsIn K mainGlobals "Grown"=some (some (.ref C))->Cls K C/\NoAttr K C "lengths")(G:∀ C,W.nsIn K mainGlobals "Grown"=some (some (.ref C))->Cls K C/\NoAttr K C "numbers")(z:∀ C,W.nsIn K mainGlobals "Grown"=some (some (.ref C))->Cls K C/\NoAttr K C "weights")(O:FnOk P w K mg base (CXx P w) 1 j M ["weight"] (spX K 1 yx8)):FnOk P w K mg base (CXx P w) 5 f fd ["self","number","weight"] (spX K 3 X2):=
 Fn.okX (k:=4) (m:=O3) D3 fun cdv A outer s H E hr=>(zy4 (zb6 (za2 rfl ⟨rfl,rfl,rfl⟩ (O.mono (by decide)) hr rfl U k_Z7 b_Z7 rfl (z0 (z5 2 (pv 2)) z8) (y7 w4))))
noncomputable abbrev d9:Stmt:=zq8 27 2
noncomputable abbrev zi8:List Str:=["self","many","left"]
theorem sc_Grown_take:FnScope zi8 ["self","many"] (z9 d9):=⟨rfl,rfl,rfl,by decide +kernel,rfl,by decide +kernel,by decide +kernel⟩
theorem zr9 {P:Program}{w:World}{K:W.Frag}{mg:Str->Option Value}{base:Heap}{f:Addr}{fd:FuncData}{R:Addr}{S:FuncData}(Fn:Fun K "take" "Grown.take" d9 f fd){L:Addr}(M:W.nsIn K mainGlobals "Grown"=some (some (.ref L)))(N:Cls K L)(a0:FnOk P w K mg base CX0 4 R S ["self"] (spR K 1 Q7))(b_Z14:Binds K S ["self"] [])(Z:Meth K L "length" R)(I:∀ C,W.nsIn K mainGlobals "Grown"=some (some (.ref C))->Cls K C/\NoAttr K C "lengths")(j:∀ C,W.nsIn K mainGlobals "Grown"=some (some (.ref C))->Cls K C/\NoAttr K C "numbers")(z:∀ C,W.nsIn K mainGlobals "Grown"=some (some (.ref C))->Cls K C/\NoAttr K C "weights"){G:Addr}(Y:mg "NoNumber"=some (.ref G))(U:XC K "NoNumber" G)(q_NoNumber:W.excIn K G bmV "ValueError.__new__"=true)(O:mg "len"=none):FnOk P w K mg base CX0 5 f fd ["self","many"] (spW K 2 i8):=
 Fn.okW (k:=4) (m:=b_Grown_take) sc_Grown_take fun cdv A outer s H E hr=>(u9 (zb7 (za5 (pc_w (yp6 (l5 zr7 K8 (z5 1 (pv 1)) y8 (o0 _)) (yr4 (l5 xv4 yp9 (z5 1 (pv 1)) (m8 rfl O (zr6 (V2 (z5 0 (pv 0)) j))) (o0 _)))))) (j0 (psw K5)) K2) (u9 (xx3 (i:=2) sc_Grown_take.nd rfl (by first|exact Or.inl rfl|exact Or.inr rfl) (O7 (P0 (m8 rfl O (zr6 (V2 (z5 0 (pv 0)) j))) (z5 1 (pv 1))))) (u9 (L9 j (z5 0 (pv 0)) (za0 (yp0 (zr6 (V2 (z5 0 (pv 0)) j)) K7 (K6 (z5 2 (pv 2)))))) (u9 (L9 z (z5 0 (pv 0)) (za0 (yp0 (zr6 (V2 (z5 0 (pv 0)) z)) K7 (K6 (z5 2 (pv 2)))))) (j0 (A0 I (z5 0 (pv 0)) (O7 (X3 M (z5 0 (pv 0)) (fun ta ho=>Z9 ho N Z (a0.mono (by decide)) hr b_Z14 .nil t6))) rfl (fun to t ho ha=>zg9 PySem.F.plainAttrs_list PySem.F.slot_list_append PySem.F.type_list_append X6 ho ha)))))))
theorem zu1 {P:Program}{w:World}{K:W.Frag}{mg:Str->Option Value}{base:Heap}{f:Addr}{fd:FuncData}{N:Addr}{O:FuncData}(Fn:Fun K "take" "Grown.take" d9 f fd){z:Addr}(S:W.nsIn K mainGlobals "Grown"=some (some (.ref z)))(U:Cls K z)(Z:FnOk P w K mg base CX0 4 N O ["self"] (spR K 1 Q7))(b_Z14:Binds K O ["self"] [])(Y:Meth K z "length" N)(M:∀ C,W.nsIn K mainGlobals "Grown"=some (some (.ref C))->Cls K C/\NoAttr K C "lengths")(j:∀ C,W.nsIn K mainGlobals "Grown"=some (some (.ref C))->Cls K C/\NoAttr K C "numbers")(L:∀ C,W.nsIn K mainGlobals "Grown"=some (some (.ref C))->Cls K C/\NoAttr K C "weights"){i:Addr}(I:mg "NoNumber"=some (.ref i))(G:XC K "NoNumber" i)(q_NoNumber:W.excIn K i bmV "ValueError.__new__"=true)(R:mg "len"=none):FnOk P w K mg base (CXx P w) 5 f fd ["self","many"] (spX K 2 Z8):=
 Fn.okX (k:=4) (m:=R3) sc_Grown_take fun cdv A outer s H E hr=>(zy4 (yr7 rfl (pc_w (yp6 (l5 zr7 K8 (z5 1 (pv 1)) y8 (o0 _)) (yr4 (l5 xv4 yp9 (z5 1 (pv 1)) (m8 rfl R (zr6 (V2 (z5 0 (pv 0)) j))) (o0 _))))) (K0 (zy3 rfl ⟨rfl,rfl,rfl⟩ rfl rfl I G q_NoNumber (z0 D4 z8) (y7 w4) (by decide))) K1))
noncomputable abbrev yv1:Stmt:=zq8 27 5
noncomputable abbrev xc4:List Str:=["self","weight","places"]
theorem sc_Z12:FnScope xc4 ["self"] (z9 yv1):=⟨rfl,rfl,rfl,by decide +kernel,rfl,by decide +kernel,by decide +kernel⟩
theorem xm9 {P:Program}{w:World}{K:W.Frag}{mg:Str->Option Value}{base:Heap}{f:Addr}{fd:FuncData}{L:Addr}{M:FuncData}(Y:Fun K "weight" "Grown.weight" yv1 f fd){I:Addr}(R:W.nsIn K mainGlobals "Grown"=some (some (.ref I)))(S:Cls K I)(O:FnOk P w K mg base CX0 5 L M ["row","step","weights"] (spR K 3 yu2))(b_Z22:Binds K M ["row","step","weights"] [])(k_Z22:W.keepIn K (.ref L)=true)(N:mg "heaviest"=some (.ref L))(j:∀ C,W.nsIn K mainGlobals "Grown"=some (some (.ref C))->Cls K C/\NoAttr K C "least_step")(G:∀ C,W.nsIn K mainGlobals "Grown"=some (some (.ref C))->Cls K C/\NoAttr K C "numbers")(z:∀ C,W.nsIn K mainGlobals "Grown"=some (some (.ref C))->Cls K C/\NoAttr K C "weights"):FnOk P w K mg base CX0 6 f fd ["self"] (spR K 1 yu3):=
 Y.okD (k:=5) (m:=b_Z12) sc_Z12 fun cdv A outer s H E U=>(x6 (Q9 (U2 (i9 (fun t ha=>w8 (O.mono (by decide)) U rfl N k_Z22 b_Z22 .nil t6 ha) rfl (z0 (V2 (z5 0 (pv 0)) G) (z0 (V2 (z5 0 (pv 0)) j) (z0 (V2 (z5 0 (pv 0)) z) z8))) (y7 (y7 (y7 w4)))) (Z1 (is:=[1,2]) (W1 rfl (v5 (w6 (i:=1) sc_Z12.nd rfl (by first|exact Or.inl rfl|exact Or.inr rfl)) (v5 (w6 (i:=2) sc_Z12.nd rfl (by first|exact Or.inl rfl|exact Or.inr rfl)) Z0)))))) (w5 (zb8 1 (pv 1))))
noncomputable abbrev s_Z4:Stmt:=zq8 27 6
noncomputable abbrev N_Z4:List Str:=["self"]
theorem xg1:FnScope N_Z4 ["self"] (z9 s_Z4):=⟨rfl,rfl,rfl,by decide +kernel,rfl,by decide +kernel,by decide +kernel⟩
theorem xf6 {P:Program}{w:World}{K:W.Frag}{mg:Str->Option Value}{base:Heap}{f:Addr}{fd:FuncData}{G:Addr}{I:FuncData}(S:Fun K "how_many" "Grown.how_many" s_Z4 f fd){z:Addr}(L:W.nsIn K mainGlobals "Grown"=some (some (.ref z)))(M:Cls K z)(O:FnOk P w K mg base CX0 2 G I ["row","step"] (spR K 2 m_Z0))(b_Z0:Binds K I ["row","step"] [])(k_Z0:W.keepIn K (.ref G)=true)(N:mg "how_many_longest"=some (.ref G))(i:∀ C,W.nsIn K mainGlobals "Grown"=some (some (.ref C))->Cls K C/\NoAttr K C "least_step")(j:∀ C,W.nsIn K mainGlobals "Grown"=some (some (.ref C))->Cls K C/\NoAttr K C "numbers"):FnOk P w K mg base CX0 3 f fd ["self"] (spR K 1 m_Z4):=
 S.okD (k:=2) (m:=b_Z4) xg1 fun cdv A outer s H E R=>(w5 (X9 (i9 (fun t ha=>w8 (O.mono (by decide)) R rfl N k_Z0 b_Z0 .nil t6 ha) rfl (z0 (V2 (z5 0 (pv 0)) j) (z0 (V2 (z5 0 (pv 0)) i) z8)) (y7 (y7 w4)))))
noncomputable abbrev yw6:Stmt:=zq8 27 7
noncomputable abbrev xd8:List Str:=["self"]
theorem xp2:FnScope xd8 ["self"] (z9 yw6):=⟨rfl,rfl,rfl,by decide +kernel,rfl,by decide +kernel,by decide +kernel⟩
theorem xm1 {P:Program}{w:World}{K:W.Frag}{mg:Str->Option Value}{base:Heap}{f:Addr}{fd:FuncData}(L:Fun K "row" "Grown.row" yw6 f fd){j:Addr}(G:W.nsIn K mainGlobals "Grown"=some (some (.ref j)))(I:Cls K j)(i:∀ C,W.nsIn K mainGlobals "Grown"=some (some (.ref C))->Cls K C/\NoAttr K C "numbers")(z:mg "list"=none):FnOk P w K mg base CX0 1 f fd ["self"] (spR K 1 zk4):=
 L.okD (k:=0) (m:=b_Z20) xp2 fun cdv A outer s H E M=>(w5 (zr5 (yp1 rfl z (zr6 (V2 (z5 0 (pv 0)) i)) PyProof.Rows.boot_list)))
noncomputable abbrev s_Z8:Stmt:=zq8 27 8
noncomputable abbrev N_Z8:List Str:=["self"]
theorem xh9:FnScope N_Z8 ["self"] (z9 s_Z8):=⟨rfl,rfl,rfl,by decide +kernel,rfl,by decide +kernel,by decide +kernel⟩
theorem xf2 {P:Program}{w:World}{K:W.Frag}{mg:Str->Option Value}{base:Heap}{f:Addr}{fd:FuncData}(L:Fun K "moments" "Grown.moments" s_Z8 f fd){j:Addr}(G:W.nsIn K mainGlobals "Grown"=some (some (.ref j)))(I:Cls K j)(i:∀ C,W.nsIn K mainGlobals "Grown"=some (some (.ref C))->Cls K C/\NoAttr K C "lengths")(z:mg "list"=none):FnOk P w K mg base CX0 1 f fd ["self"] (spR K 1 m_Z8):=
 L.okD (k:=0) (m:=b_Z8) xh9 fun cdv A outer s H E M=>(w5 (zr5 (yp1 rfl z (zr6 (V2 (z5 0 (pv 0)) i)) PyProof.Rows.boot_list)))
noncomputable abbrev yw3:Stmt:=top 29
noncomputable abbrev xd5:List Str:=["pot","many","cell","stir"]
theorem sc_Z23:FnScope xd5 ["pot","many"] (z9 yw3):=⟨rfl,rfl,rfl,by decide +kernel,rfl,by decide +kernel,by decide +kernel⟩
theorem xn8 {P:Program}{w:World}{K:W.Frag}{mg:Str->Option Value}{base:Heap}{f:Addr}{fd:FuncData}(j:Fun K "_law_next" "_law_next" yw3 f fd):FnOk P w K mg base CX0 1 f fd ["pot","many"] (spG K 2 Z6):=
 j.okGl (k:=0) (m:=b_Z23) sc_Z23 (by decide) fun cdv A outer s H E z=>(x6 (T1 (i:=0) (U2 (c6 (V7 (v6 0 (pv 0)) y8) y8) (zt6 (pv 0) y8 O4))) (x6 (l8 (i:=2) sc_Z23.nd rfl (by first|exact Or.inl rfl|exact Or.inr rfl) (V7 (v6 0 (pv 0)) y8)) (x6 (U0 (l5 yo1 zm5 (z5 2 (pv 2)) (zt7 y8 y8) (o0 _)) (x6 (T1 (i:=0) (U2 (yp4 (z5 2 (pv 2)) (z5 1 (pv 1))) (zt6 (pv 0) y8 O4))) (w5 (W5 0 (l0 (zt8 (z5 2 (pv 2)) (z5 1 (pv 1))))))) d6) (x6 (l8 (i:=3) sc_Z23.nd rfl (by first|exact Or.inl rfl|exact Or.inr rfl) (zt8 (c6 (c6 (zm4 (z5 2 (pv 2)) y8) (zm4 (V7 (v6 0 (pv 0)) y8) y8)) y8) y8)) (x6 (l8 (i:=3) sc_Z23.nd rfl (by first|exact Or.inl rfl|exact Or.inr rfl) (zt8 (zm4 (z5 3 (pv 3)) (z5 3 (pv 3))) y8)) (w5 (W5 0 (l0 (zt8 (yp4 (zt8 (c6 (zm4 (z5 3 (pv 3)) y8) (zm4 (V7 (v6 0 (pv 0)) y8) y8)) y8) y8) (z5 1 (pv 1)))))))))))
noncomputable abbrev Y6:Stmt:=top 30
noncomputable abbrev zs7:List Str:=["script"]
theorem zh5:FnScope zs7 ["script"] (z9 Y6):=⟨rfl,rfl,rfl,by decide +kernel,rfl,by decide +kernel,by decide +kernel⟩
theorem zq1:List.Nodup (["cell"]:List Str):=by decide +kernel
theorem zf5 {P:Program}{w:World}{K:W.Frag}{mg:Str->Option Value}{base:Heap}{f:Addr}{fd:FuncData}(I:Fun K "_law_pots" "_law_pots" Y6 f fd)(j:mg "len"=none):FnOk P w K mg base CX0 1 f fd ["script"] (spP K 1 T7):=
 I.okP (k:=0) zh5 rfl (fun cdv A outer s H E z=>(l5 M2 Z4 (m8 rfl j (v6 0 (pv 0))) y8 (o0 _))) (fun cdv A outer s H E z=>(xx5 (j4 (z0 y8 (z0 y8 z8))))) (fun cdv A outer s H E z=>(xx6 (W2 (N:=["cell"]) (src:=[none]) (z9 Y6) zs7 rfl rfl (by decide +kernel)) rfl (Y8 (Y1 (yp0 (v6 0 (pv 0)) K7 (K6 y8)))) (fun C fp G H0=>(g8 (i:=0) (w6 zq1 rfl (by first|exact Or.inl rfl|exact Or.inr rfl)))) (fun C fp G H0=>(j4 (z0 (z5 0 (pv 0)) (z0 y8 z8))))))
noncomputable abbrev s_Z2:Stmt:=top 31
noncomputable abbrev N_Z2:List Str:=["pot","kind"]
theorem xg2:FnScope N_Z2 ["pot","kind"] (z9 s_Z2):=⟨rfl,rfl,rfl,by decide +kernel,rfl,by decide +kernel,by decide +kernel⟩
theorem xf8 {P:Program}{w:World}{K:W.Frag}{mg:Str->Option Value}{base:Heap}{f:Addr}{fd:FuncData}{G:Addr}{I:FuncData}(M:Fun K "_law_some_number" "_law_some_number" s_Z2 f fd)(z:FnOk P w K mg base CX0 1 G I ["pot","many"] (spG K 2 Z6))(b_Z23:Binds K I ["pot","many"] [])(k_Z23:W.keepIn K (.ref G)=true)(j:mg "_law_next"=some (.ref G)):FnOk P w K mg base CX0 2 f fd ["pot","kind"] (spG K 2 m_Z2):=
 M.okGl (k:=1) (m:=b_Z2) xg2 (by decide) fun cdv A outer s H E L=>(x6 (U0 (l5 M2 Z4 (z5 1 (pv 1)) y8 (o0 _)) (w5 (W5 0 (t5 (i:=0) (fun t ha=>w8 (z.mono (by decide)) L rfl j k_Z23 b_Z23 .nil t6 ha) rfl (pv 0) (u6 (z0 y8 z8)) (j3 (y7 w4))))) d6) (x6 (U0 (l5 M2 Z4 (z5 1 (pv 1)) y8 (o0 _)) (w5 (W5 0 (zy7 yo0 zf3 (t5 (i:=0) (fun t ha=>w8 (z.mono (by decide)) L rfl j k_Z23 b_Z23 .nil t6 ha) rfl (pv 0) (u6 (z0 y8 z8)) (j3 (y7 w4))) (l0 y8)))) d6) (x6 (U0 (l5 M2 Z4 (z5 1 (pv 1)) y8 (o0 _)) (w5 (W5 0 (zy7 yo0 zf3 (t5 (i:=0) (fun t ha=>w8 (z.mono (by decide)) L rfl j k_Z23 b_Z23 .nil t6 ha) rfl (pv 0) (u6 (z0 y8 z8)) (j3 (y7 w4))) (l0 y8)))) d6) (w5 (W5 0 (zy7 ya4 yp8 (zm3 (l0 (Y1 (j4 (z0 (T4 y8) (z0 y8 z8))))) (t5 (i:=0) (fun t ha=>w8 (z.mono (by decide)) L rfl j k_Z23 b_Z23 .nil t6 ha) rfl (pv 0) (u6 (z0 y8 z8)) (j3 (y7 w4)))) (zy7 (OpR.or zm6 F8) zx0 (l0 (zt7 y8 y8)) (t5 (i:=0) (fun t ha=>w8 (z.mono (by decide)) L rfl j k_Z23 b_Z23 .nil t6 ha) rfl (pv 0) (u6 (z0 y8 z8)) (j3 (y7 w4))))))))))
noncomputable abbrev zn0:Stmt:=top 32
noncomputable abbrev xr3:List Str:=["pot","most","kind","many","found","shape"]
theorem sc_Z11:FnScope xr3 ["pot","most"] (z9 zn0):=⟨rfl,rfl,rfl,by decide +kernel,rfl,by decide +kernel,by decide +kernel⟩
theorem E2:List.Nodup (["k","pot","kind"]:List Str):=by decide +kernel
theorem T5:List.Nodup (["k","number"]:List Str):=by decide +kernel
theorem xk0 {P:Program}{w:World}{K:W.Frag}{mg:Str->Option Value}{base:Heap}{f:Addr}{fd:FuncData}{L:Addr}{U:FuncData}{S:Addr}{Y:FuncData}(Fn:Fun K "_law_some_row" "_law_some_row" zn0 f fd)(I:FnOk P w K mg base CX0 1 L U ["pot","many"] (spG K 2 Z6))(b_Z23:Binds K U ["pot","many"] [])(k_Z23:W.keepIn K (.ref L)=true)(G:mg "_law_next"=some (.ref L))(a1:FnOk P w K mg base CX0 2 S Y ["pot","kind"] (spG K 2 m_Z2))(b_Z2:Binds K Y ["pot","kind"] [])(k_Z2:W.keepIn K (.ref S)=true)(a0:mg "_law_some_number"=some (.ref S))(z:mg "enumerate"=none)(R:mg "min"=none)(O:mg "range"=none)(M:mg "sorted"=none):FnOk P w K mg base CX0 3 f fd ["pot","most"] (spG K 2 yn9):=
 Fn.okGl (k:=2) (m:=b_Z11) sc_Z11 (by decide) fun cdv A outer s H E hr=>(x6 (K4 (i:=2) sc_Z11.nd rfl (by first|exact Or.inl rfl|exact Or.inr rfl) (t5 (i:=0) (fun t ha=>w8 (I.mono (by decide)) hr rfl G k_Z23 b_Z23 .nil t6 ha) rfl (pv 0) (u6 (z0 y8 z8)) (j3 (y7 w4)))) (x6 (K4 (i:=3) sc_Z11.nd rfl (by first|exact Or.inl rfl|exact Or.inr rfl) (t5 (i:=0) (fun t ha=>w8 (I.mono (by decide)) hr rfl G k_Z23 b_Z23 .nil t6 ha) rfl (pv 0) (j8 (zm3 (l0 (Y1 (j4 (z0 (zf1 rfl rfl R (z0 y8 (z0 (c6 (z5 1 (pv 1)) y8) z8))) (z0 (zf1 rfl rfl R (z0 y8 (z0 (c6 (z5 1 (pv 1)) y8) z8))) (z0 (c6 (z5 1 (pv 1)) y8) z8)))))) (t5 (i:=0) (fun t ha=>w8 (I.mono (by decide)) hr rfl G k_Z23 b_Z23 .nil t6 ha) rfl (pv 0) (u6 (z0 y8 z8)) (j3 (y7 w4)))) (u6 z8)) (N6 (j3 w4)))) (x6 (yv3 (i:=0) (j:=1) rfl (by decide) (yq2 (i:=4) sc_Z11.nd rfl (by first|exact Or.inl rfl|exact Or.inr rfl) (W2 (N:=["k","pot","kind"]) (src:=[none,some 0,some 2]) (z9 zn0) xr3 rfl rfl (by decide +kernel)) rfl (zt5 rfl O (z0 (z5 3 (pv 3)) z8)) (fun C fp Z H0=>(w6 (i:=0) E2 rfl (by first|exact Or.inl rfl|exact Or.inr rfl))) (fun C fp Z H0=>yr5) (fun C fp Z H0=>(t5 (i:=1) (fun t ha=>w8 (a1.mono (by decide)) hr rfl a0 k_Z2 b_Z2 .nil t6 ha) rfl (pv 1) (u6 (z0 (z5 2 (pv 2)) z8)) (j3 (y7 w4)))))) (x6 (K4 (i:=5) sc_Z11.nd rfl (by first|exact Or.inl rfl|exact Or.inr rfl) (t5 (i:=0) (fun t ha=>w8 (I.mono (by decide)) hr rfl G k_Z23 b_Z23 .nil t6 ha) rfl (pv 0) (u6 (z0 y8 z8)) (j3 (y7 w4)))) (x6 (U0 (l5 M2 Z4 (z5 5 (pv 5)) y8 (o0 _)) (w5 (l8 (i:=4) sc_Z11.nd rfl (by first|exact Or.inl rfl|exact Or.inr rfl) (Y1 (yq9 rfl M (v6 4 (pv 4)) PyProof.Rows.boot_sorted)))) d6) (x6 (U0 (l5 M2 Z4 (z5 5 (pv 5)) y8 (o0 _)) (w5 (yq1 (yq2 (i:=4) sc_Z11.nd rfl (by first|exact Or.inl rfl|exact Or.inr rfl) (W2 (N:=["k","number"]) (src:=[none,none]) (z9 zn0) xr3 rfl rfl (by decide +kernel)) rfl (zb9 rfl z (z0 (z5 4 (pv 4)) z8)) (fun C fp Z H0=>(Z1 (is:=[0,1]) (W1 rfl (v5 (w6 (i:=0) T5 rfl (by first|exact Or.inl rfl|exact Or.inr rfl)) (v5 (w6 (i:=1) T5 rfl (by first|exact Or.inl rfl|exact Or.inr rfl)) Z0))))) (fun C fp Z H0=>W4) (fun C fp Z H0=>(c6 (z5 1 (pv 1)) (V7 (M1 (j4 (z0 y8 (z0 (T4 y8) z8)))) (zt8 (z5 0 (pv 0)) y8))))))) d6) (x6 (U0 (l5 M2 Z4 (z5 5 (pv 5)) y8 (o0 _)) (w5 (l8 (i:=4) sc_Z11.nd rfl (by first|exact Or.inl rfl|exact Or.inr rfl) (Y1 (zn9 (yp0 (v6 4 (pv 4)) K7 (K6 y8)) (z5 3 (pv 3)))))) d6) (w5 (W5 0 (l0 (z5 4 (pv 4))))))))))))
noncomputable abbrev yv2:Stmt:=top 33
noncomputable abbrev xc5:List Str:=["pot"]
theorem xp4:FnScope xc5 ["pot"] (z9 yv2):=⟨rfl,rfl,rfl,by decide +kernel,rfl,by decide +kernel,by decide +kernel⟩
theorem xk1 {P:Program}{w:World}{K:W.Frag}{mg:Str->Option Value}{base:Heap}{f:Addr}{fd:FuncData}{j:Addr}{I:FuncData}(M:Fun K "_law_some_step" "_law_some_step" yv2 f fd)(G:FnOk P w K mg base CX0 1 j I ["pot","many"] (spG K 2 Z6))(b_Z23:Binds K I ["pot","many"] [])(k_Z23:W.keepIn K (.ref j)=true)(z:mg "_law_next"=some (.ref j)):FnOk P w K mg base CX0 2 f fd ["pot"] (spG K 1 yu4):=
 M.okGl (k:=1) (m:=b_Z10) xp4 (by decide) fun cdv A outer s H E L=>(w5 (W5 0 (zm3 (zf0 (j8 (l0 y8) (j8 (l0 y8) (j8 (zy7 (OpR.or zm6 F8) zx0 (l0 y8) (t5 (i:=0) (fun t ha=>w8 (G.mono (by decide)) L rfl z k_Z23 b_Z23 .nil t6 ha) rfl (pv 0) (u6 (z0 y8 z8)) (j3 (y7 w4)))) (j8 (zy7 (OpR.or zm6 F8) zx0 (l0 y8) (t5 (i:=0) (fun t ha=>w8 (G.mono (by decide)) L rfl z k_Z23 b_Z23 .nil t6 ha) rfl (pv 0) (u6 (z0 y8 z8)) (j3 (y7 w4)))) (u6 (z0 (zt7 y8 y8) z8))))))) (t5 (i:=0) (fun t ha=>w8 (G.mono (by decide)) L rfl z k_Z23 b_Z23 .nil t6 ha) rfl (pv 0) (u6 (z0 y8 z8)) (j3 (y7 w4))))))
noncomputable abbrev yw7:Stmt:=top 34
noncomputable abbrev xd9:List Str:=["e","found"]
theorem sc_Z19:FnScope xd9 ["e"] (z9 yw7):=⟨rfl,rfl,rfl,by decide +kernel,rfl,by decide +kernel,by decide +kernel⟩
theorem xm2 {P:Program}{w:World}{K:W.Frag}{mg:Str->Option Value}{base:Heap}{f:Addr}{fd:FuncData}(Fn:Fun K "_law_flags" "_law_flags" yw7 f fd){U:Addr}(aa:mg "NoForm"=some (.ref U)){G:Addr}(a2:mg "NoNumber"=some (.ref G)){L:Addr}(a7:mg "NoPlace"=some (.ref L)){S:Addr}(a9:mg "NoStep"=some (.ref S)){R:Addr}(a8:mg "NoText"=some (.ref R)){z:Addr}(Z:mg "NoWeights"=some (.ref z)){I:Addr}(a6:mg "NoneYet"=some (.ref I))(a5:∀ c k,([("NoNumber",false),("NoStep",false),("NoWeights",false)]:List (Str×Bool)).lookup c=some k->∀ C,XC K c C->XCls K C/\W.kitOne K (.ref C) (.ref U)=some k)(Y:∀ c k,([("NoNumber",true),("NoStep",false),("NoWeights",false)]:List (Str×Bool)).lookup c=some k->∀ C,XC K c C->XCls K C/\W.kitOne K (.ref C) (.ref G)=some k)(a1:∀ c k,([("NoNumber",false),("NoStep",false),("NoWeights",false)]:List (Str×Bool)).lookup c=some k->∀ C,XC K c C->XCls K C/\W.kitOne K (.ref C) (.ref L)=some k)(a4:∀ c k,([("NoNumber",false),("NoStep",true),("NoWeights",false)]:List (Str×Bool)).lookup c=some k->∀ C,XC K c C->XCls K C/\W.kitOne K (.ref C) (.ref S)=some k)(a3:∀ c k,([("NoNumber",false),("NoStep",false),("NoWeights",false)]:List (Str×Bool)).lookup c=some k->∀ C,XC K c C->XCls K C/\W.kitOne K (.ref C) (.ref R)=some k)(O:∀ c k,([("NoNumber",false),("NoStep",false),("NoWeights",true)]:List (Str×Bool)).lookup c=some k->∀ C,XC K c C->XCls K C/\W.kitOne K (.ref C) (.ref z)=some k)(a0:∀ c k,([("NoNumber",false),("NoStep",false),("NoWeights",false)]:List (Str×Bool)).lookup c=some k->∀ C,XC K c C->XCls K C/\W.kitOne K (.ref C) (.ref I)=some k)(M:∀ c k,([("NoNumber",true),("NoStep",true),("NoWeights",true)]:List (Str×Bool)).lookup c=some k->∀ C,XC K c C->XCls K C/\W.kitOne K (.ref C) (.type "ValueError")=some k)(N:mg "ValueError"=none)(j:mg "isinstance"=none):FnOkN P w K mg base CX0 1 f fd ["e"] (spR K 1 yn8):=
 Fn.okN (k:=0) (m:=b_Z19) sc_Z19 fun cdv A outer s H E hr=>(x6 (l8 (i:=1) sc_Z19.nd rfl (by first|exact Or.inl rfl|exact Or.inr rfl) (Y1 (j4 (z0 (zy8 (tab:=[("NoNumber",false),("NoStep",true),("NoWeights",false)]) rfl j rfl a9 (z5 0 (pv 0)) a4) (z0 (zy8 (tab:=[("NoNumber",true),("NoStep",false),("NoWeights",false)]) rfl j rfl a2 (z5 0 (pv 0)) Y) (z0 (zy8 (tab:=[("NoNumber",false),("NoStep",false),("NoWeights",true)]) rfl j rfl Z (z5 0 (pv 0)) O) (z0 (zy8 (tab:=[("NoNumber",false),("NoStep",false),("NoWeights",false)]) rfl j rfl a7 (z5 0 (pv 0)) a1) z8))))))) (x6 (l8 (i:=1) sc_Z19.nd rfl (by first|exact Or.inl rfl|exact Or.inr rfl) (Y1 (zy6 (v6 1 (pv 1)) (M1 (j4 (z0 (zy8 (tab:=[("NoNumber",false),("NoStep",false),("NoWeights",false)]) rfl j rfl a8 (z5 0 (pv 0)) a3) (z0 (zy8 (tab:=[("NoNumber",false),("NoStep",false),("NoWeights",false)]) rfl j rfl aa (z5 0 (pv 0)) a5) (z0 (zy8 (tab:=[("NoNumber",false),("NoStep",false),("NoWeights",false)]) rfl j rfl a6 (z5 0 (pv 0)) a0) z8)))))))) (w5 (zr5 (zy6 (v6 1 (pv 1)) (M1 (j4 (z0 (xo6 (xw9 (T:="ValueError") (tab:=[("NoNumber",true),("NoStep",true),("NoWeights",true)]) rfl j rfl N (by rfl) (z5 0 (pv 0)) M)) z8))))))))
noncomputable abbrev s_Z1:Stmt:=top 35
noncomputable abbrev N_Z1:List Str:=["pot"]
theorem xg3:FnScope N_Z1 ["pot"] (z9 s_Z1):=⟨rfl,rfl,rfl,by decide +kernel,rfl,by decide +kernel,by decide +kernel⟩
theorem xf9 {P:Program}{w:World}{K:W.Frag}{mg:Str->Option Value}{base:Heap}{f:Addr}{fd:FuncData}{G:Addr}{I:FuncData}(M:Fun K "_law_some_weight" "_law_some_weight" s_Z1 f fd)(z:FnOk P w K mg base CX0 1 G I ["pot","many"] (spG K 2 Z6))(b_Z23:Binds K I ["pot","many"] [])(k_Z23:W.keepIn K (.ref G)=true)(j:mg "_law_next"=some (.ref G)):FnOk P w K mg base CX0 2 f fd ["pot"] (spG K 1 m_Z1):=
 M.okGl (k:=1) (m:=b_Z1) xg3 (by decide) fun cdv A outer s H E L=>(w5 (W5 0 (zm3 (zf0 (j8 (l0 y8) (j8 (l0 y8) (j8 (t5 (i:=0) (fun t ha=>w8 (z.mono (by decide)) L rfl j k_Z23 b_Z23 .nil t6 ha) rfl (pv 0) (u6 (z0 y8 z8)) (j3 (y7 w4))) (j8 (t5 (i:=0) (fun t ha=>w8 (z.mono (by decide)) L rfl j k_Z23 b_Z23 .nil t6 ha) rfl (pv 0) (u6 (z0 y8 z8)) (j3 (y7 w4))) (j8 (zy7 (OpR.or zm6 F8) zx0 (l0 (zt7 y8 y8)) (t5 (i:=0) (fun t ha=>w8 (z.mono (by decide)) L rfl j k_Z23 b_Z23 .nil t6 ha) rfl (pv 0) (u6 (z0 y8 z8)) (j3 (y7 w4)))) (u6 z8))))))) (t5 (i:=0) (fun t ha=>w8 (z.mono (by decide)) L rfl j k_Z23 b_Z23 .nil t6 ha) rfl (pv 0) (u6 (z0 y8 z8)) (j3 (y7 w4))))))
noncomputable abbrev c8:Stmt:=top 36
noncomputable abbrev zp6:List Str:=["door","grown","number","other","found","e"]
theorem sc_law_refused:FnScope zp6 ["door","grown","number","other"] (z9 c8):=⟨rfl,rfl,rfl,by decide +kernel,rfl,by decide +kernel,by decide +kernel⟩
theorem zu2 {P:Program}{w:World}{K:W.Frag}{mg:Str->Option Value}{base:Heap}{f:Addr}{fd:FuncData}{j:Addr}{z:FuncData}{N:Addr}{O:FuncData}{G:Addr}{I:FuncData}{a9:Addr}{aa:FuncData}(Fn:Fun K "_law_refused" "_law_refused" c8 f fd){L:Addr}(M:W.nsIn K mainGlobals "Grown"=some (some (.ref L)))(R:Cls K L)(a0:FnOk P w K mg base CX0 2 j z ["self","step"] (spW K 2 w9))(b_Grown___init__:Binds K z ["self","step"] [])(a7:FnOk P w K mg base CX0 5 N O ["self","number","weight"] (spW K 3 k6))(b_Grown_put:Binds K O ["self","number","weight"] [])(Z:Meth K L "put" N)(a3:FnOk P w K mg base CX0 5 G I ["self","many"] (spW K 2 i8))(b_Grown_take:Binds K I ["self","many"] [])(S:Meth K L "take" G)(ac:FnOkN P w K mg base CX0 1 a9 aa ["e"] (spR K 1 yn8))(b_Z19:Binds K aa ["e"] [])(k_Z19:W.keepIn K (.ref a9)=true)(ab:mg "_law_flags"=some (.ref a9))(a5:Mk K L j)(a8:mg "Grown"=some (.ref L))(U:FnOk P w K mg base (CXx P w) 2 j z ["self","step"] (spX K 2 j5))(a4:FnOk P w K mg base (CXx P w) 5 N O ["self","number","weight"] (spX K 3 X2))(a2:FnOk P w K mg base (CXx P w) 5 G I ["self","many"] (spX K 2 Z8)){Y:Addr}(a6:mg "WaveError"=some (.ref Y))(a1:∀ c∈(["NoNumber","NoStep","NoWeights"]:List Str),∀ C,XC K c C->W.exmOne K (.ref C) (.ref Y)=some true):FnOk P w K mg base CX0 6 f fd ["door","grown","number","other"] (spW K 4 u7):=
 Fn.okW (k:=5) (m:=b_law_refused) sc_law_refused fun cdv A outer s H E hr=>(u9 (psw (l8 (i:=4) sc_law_refused.nd rfl (by first|exact Or.inl rfl|exact Or.inr rfl) (Y1 (j4 z8)))) (u9 (xx2 (names:=["NoNumber","NoStep","NoWeights"]) (i:=5) rfl ⟨rfl,rfl,rfl⟩ rfl a6 a1 sc_law_refused.nd rfl rfl (j0 (zb7 (pcw (l5 M2 Z4 (z5 0 (pv 0)) y8 (o0 _))) (j0 (yg2 M (fun t ha=>by exact yp2 a5 (a0.mono (by decide)) hr rfl a8 b_Grown___init__ .nil t6 ha) (fun te he=>S7 he) rfl (z0 (z5 2 (pv 2)) z8) (y7 w4))) (j0 (zb7 (pcw (l5 M2 Z4 (z5 0 (pv 0)) y8 (o0 _))) (j0 (zn3 (S7 (za4 M (z5 1 (pv 1)) (fun ta t ho ha=>zg6 ho R Z (a7.mono (by decide)) hr b_Grown_put .nil t6 ha) rfl (z0 (z5 2 (pv 2)) (z0 (z5 3 (pv 3)) z8)) (y7 (y7 w4)))))) (j0 (zn3 (S7 (za4 M (z5 1 (pv 1)) (fun ta t ho ha=>zg6 ho R S (a3.mono (by decide)) hr b_Grown_take .nil t6 ha) rfl (z0 (z5 2 (pv 2)) z8) (y7 w4))))))))) (Q8 (yr6 rfl (l5 M2 Z4 (z5 0 (pv 0)) y8 (o0 _)) (Q8 (zy2 (yg8 rfl ⟨rfl,rfl,rfl⟩ a5 (U.mono (by decide)) hr rfl a8 b_Grown___init__ rfl (z0 (z5 2 (pv 2)) z8) (y7 w4)))) (Q8 (yr6 rfl (l5 M2 Z4 (z5 0 (pv 0)) y8 (o0 _)) (Q8 (zy2 (za1 rfl ⟨rfl,rfl,rfl⟩ M (z5 1 (pv 1)) R Z (a4.mono (by decide)) hr b_Grown_put rfl (z0 (z5 2 (pv 2)) (z0 (z5 3 (pv 3)) z8)) (y7 (y7 w4))))) (Q8 (zy2 (za1 rfl ⟨rfl,rfl,rfl⟩ M (z5 1 (pv 1)) R S (a2.mono (by decide)) hr b_Grown_take rfl (z0 (z5 2 (pv 2)) z8) (y7 w4)))))))) (fun a=>(w5 (l8 (i:=4) sc_law_refused.nd rfl (by first|exact Or.inl rfl|exact Or.inr rfl) (i9 (fun t ha=>yf2 (ac.mono (by decide)) (hr.mark _) rfl ab k_Z19 b_Z19 .nil t6 ha) rfl (z0 (z5 5 (pv 5)) z8) (y7 w4)))))) (j0 (G7 (U1 (pdw (z5 4 (pv 4))))))))
noncomputable abbrev Y5:Stmt:=top 37
noncomputable abbrev zc3:List Str:=["grown"]
theorem zo8:FnScope zc3 ["grown"] (z9 Y5):=⟨rfl,rfl,rfl,by decide +kernel,rfl,by decide +kernel,by decide +kernel⟩
theorem zm7 {P:Program}{w:World}{K:W.Frag}{mg:Str->Option Value}{base:Heap}{f:Addr}{fd:FuncData}{Z:Addr}{a1:FuncData}{I:Addr}{O:FuncData}{Y:Addr}{a0:FuncData}{L:Addr}{R:FuncData}{G:Addr}{N:FuncData}{M:Addr}{S:FuncData}(Fn:Fun K "_law_stood" "_law_stood" Y5 f fd){i:Addr}(j:W.nsIn K mainGlobals "Grown"=some (some (.ref i)))(z:Cls K i)(ad:FnOk P w K mg base CX0 3 Z a1 ["self"] (spR K 1 m_Z4))(b_Z4:Binds K a1 ["self"] [])(ab:Meth K i "how_many" Z)(a7:FnOk P w K mg base CX0 4 I O ["self"] (spR K 1 Q7))(b_Z14:Binds K O ["self"] [])(a3:Meth K i "length" I)(ac:FnOk P w K mg base CX0 1 Y a0 ["self"] (spR K 1 m_Z8))(b_Z8:Binds K a0 ["self"] [])(aa:Meth K i "moments" Y)(a8:FnOk P w K mg base CX0 3 L R ["self"] (spR K 1 zu3))(b_Z13:Binds K R ["self"] [])(a4:Meth K i "pieces" L)(a6:FnOk P w K mg base CX0 1 G N ["self"] (spR K 1 zk4))(b_Z20:Binds K N ["self"] [])(a2:Meth K i "row" G)(a9:FnOk P w K mg base CX0 6 M S ["self"] (spR K 1 yu3))(b_Z12:Binds K S ["self"] [])(a5:Meth K i "weight" M):FnOk P w K mg base CX0 7 f fd ["grown"] (spW K 1 c7):=
 Fn.okW (k:=6) (m:=b_law_stood) zo8 fun cdv A outer s H E hr=>(j0 (G7 (U1 (yf3 (O8 (zm2 (zm0 j (z5 0 (pv 0)) (fun ta U=>Z9 U z a2 (a6.mono (by decide)) hr b_Z20 .nil t6))) (O8 (zm2 (zm0 j (z5 0 (pv 0)) (fun ta U=>Z9 U z aa (ac.mono (by decide)) hr b_Z8 .nil t6))) (O8 (O7 (X3 j (z5 0 (pv 0)) (fun ta U=>Z9 U z a3 (a7.mono (by decide)) hr b_Z14 .nil t6))) (O8 (O7 (X3 j (z5 0 (pv 0)) (fun ta U=>Z9 U z a5 (a9.mono (by decide)) hr b_Z12 .nil t6))) (O8 (O7 (X3 j (z5 0 (pv 0)) (fun ta U=>Z9 U z ab (ad.mono (by decide)) hr b_Z4 .nil t6))) (O8 (yp3 j (Z9 (z5 0 (pv 0)) z a4 (a8.mono (by decide)) hr b_Z13 .nil t6)) xv0))))))))))
noncomputable abbrev zv8:Stmt:=top 38
noncomputable abbrev xh2:List Str:=["script","pot","grown","row","number","stood","far","doings","door","other"]
theorem sc_Z24:FnScope xh2 ["script"] (z9 zv8):=⟨rfl,rfl,rfl,by decide +kernel,rfl,by decide +kernel,by decide +kernel⟩
theorem yf7:List.Nodup (["k","door"]:List Str):=by decide +kernel
theorem xn7 {P:Program}{w:World}{K:W.Frag}{mg:Str->Option Value}{base:Heap}{f:Addr}{fd:FuncData}{G:Addr}{I:FuncData}{aq:Addr}{ar:FuncData}{Y:Addr}{a0:FuncData}{ah:Addr}{ak:FuncData}{ac:Addr}{aj:FuncData}{M:Addr}{a5:FuncData}{z:Addr}{O:FuncData}{ad:Addr}{al:FuncData}{ae:Addr}{am:FuncData}{ai:Addr}{as:FuncData}{L:Addr}{Z:FuncData}(Fn:Fun K "law" "law" zv8 f fd){j:Addr}(U:W.nsIn K mainGlobals "Grown"=some (some (.ref j)))(a4:Cls K j)(a3:FnOk P w K mg base CX0 2 G I ["self","step"] (spW K 2 w9))(b_Grown___init__:Binds K I ["self","step"] [])(b2:FnOk P w K mg base CX0 1 aq ar ["self"] (spR K 1 m_Z8))(b_Z8:Binds K ar ["self"] [])(b1:Meth K j "moments" aq)(a8:FnOk P w K mg base CX0 5 Y a0 ["self","number","weight"] (spW K 3 k6))(b_Grown_put:Binds K a0 ["self","number","weight"] [])(a7:Meth K j "put" Y)(ax:FnOk P w K mg base CX0 1 ah ak ["self"] (spR K 1 zk4))(b_Z20:Binds K ak ["self"] [])(aw:Meth K j "row" ah)(ap:FnOk P w K mg base CX0 1 ac aj ["pot","many"] (spG K 2 Z6))(b_Z23:Binds K aj ["pot","many"] [])(k_Z23:W.keepIn K (.ref ac)=true)(an:mg "_law_next"=some (.ref ac))(ab:FnOk P w K mg base CX0 1 M a5 ["script"] (spP K 1 T7))(a9:Binds K a5 ["script"] [])(k_law_pots:W.keepIn K (.ref M)=true)(aa:mg "_law_pots"=some (.ref M))(S:FnOk P w K mg base CX0 6 z O ["door","grown","number","other"] (spW K 4 u7))(b_law_refused:Binds K O ["door","grown","number","other"] [])(k_law_refused:W.keepIn K (.ref z)=true)(R:mg "_law_refused"=some (.ref z))(ay:FnOk P w K mg base CX0 3 ad al ["pot","most"] (spG K 2 yn9))(b_Z11:Binds K al ["pot","most"] [])(k_Z11:W.keepIn K (.ref ad)=true)(au:mg "_law_some_row"=some (.ref ad))(az:FnOk P w K mg base CX0 2 ae am ["pot"] (spG K 1 yu4))(b_Z10:Binds K am ["pot"] [])(k_Z10:W.keepIn K (.ref ae)=true)(av:mg "_law_some_step"=some (.ref ae))(b3:FnOk P w K mg base CX0 2 ai as ["pot"] (spG K 1 m_Z1))(b_Z1:Binds K as ["pot"] [])(k_Z1:W.keepIn K (.ref ai)=true)(b0:mg "_law_some_weight"=some (.ref ai))(a2:FnOk P w K mg base CX0 7 L Z ["grown"] (spW K 1 c7))(b_law_stood:Binds K Z ["grown"] [])(k_law_stood:W.keepIn K (.ref L)=true)(a1:mg "_law_stood"=some (.ref L))(af:Mk K j G)(ao:mg "Grown"=some (.ref j))(a6:mg "len"=none)(ag:mg "range"=none):FnOk P w K mg base CX0 8 f fd ["script"] (spR K 1 ze3):=
 Fn.okD (k:=7) (m:=yc8) sc_Z24 fun cdv A outer s H E hr=>(x6 (yg6 PassesOwn.never rfl (xx7 (fun t ha=>w8 (ab.mono (by decide)) hr rfl aa k_law_pots a9 .nil t6 ha) rfl (z0 (Y1 (yp0 (v6 0 (pv 0)) K7 (K6 y8))) z8) (y7 w4)) (w6 (i:=1) sc_Z24.nd rfl (by first|exact Or.inl rfl|exact Or.inr rfl)) (yg3 (yr9 U (fun t ha=>by exact yp2 af (a3.mono (by decide)) hr rfl ao b_Grown___init__ .nil t6 ha) (fun te he=>zt4 (i:=2) sc_Z24.nd rfl (by first|exact Or.inl rfl|exact Or.inr rfl) he) rfl (j8 (t5 (i:=1) (fun t ha=>by exact w8 (az.mono (by decide)) hr rfl av k_Z10 b_Z10 .nil t6 ha) rfl (pv 1) (u6 z8) (j3 w4)) (u6 z8)) (N6 (j3 w4)) (u9 (psw (K4 (i:=3) sc_Z24.nd rfl (by first|exact Or.inl rfl|exact Or.inr rfl) (t5 (i:=1) (fun t ha=>w8 (ay.mono (by decide)) hr rfl au k_Z11 b_Z11 .nil t6 ha) rfl (pv 1) (u6 (z0 y8 z8)) (j3 (y7 w4))))) (u9 (zg5 PassesOwn.never rfl (Y8 (z5 3 (pv 3))) (g8 (i:=4) (w6 sc_Z24.nd rfl (by first|exact Or.inl rfl|exact Or.inr rfl))) (j0 (yr8 U (z5 2 (pv 2)) (fun ta t ho ha=>zg6 ho a4 a7 (a8.mono (by decide)) hr b_Grown_put .nil t6 ha) (fun te he=>S7 he) rfl (j8 (l0 (z5 4 (pv 4))) (j8 (t5 (i:=1) (fun t ha=>w8 (b3.mono (by decide)) hr rfl b0 k_Z1 b_Z1 .nil t6 ha) rfl (pv 1) (u6 z8) (j3 w4)) (u6 z8))) (N6 (N6 (j3 w4)))))) (u9 (yg1 (i:=5) sc_Z24.nd rfl (by first|exact Or.inl rfl|exact Or.inr rfl) (A3 (fun t ha=>w8 (a2.mono (by decide)) hr rfl a1 k_law_stood b_law_stood .nil t6 ha) rfl (z0 (z5 2 (pv 2)) z8) (y7 w4))) (u9 (psw (K4 (i:=6) sc_Z24.nd rfl (by first|exact Or.inl rfl|exact Or.inr rfl) (zm3 (zf0 (j8 (l0 y8) (j8 (l0 y8) (j8 (l0 y8) (j8 (l0 (zt7 y8 y8)) (j8 (t5 (i:=1) (fun t ha=>w8 (ap.mono (by decide)) hr rfl an k_Z23 b_Z23 .nil t6 ha) rfl (pv 1) (u6 (z0 (zt7 y8 y8) z8)) (j3 (y7 w4))) (u6 z8))))))) (t5 (i:=1) (fun t ha=>w8 (ap.mono (by decide)) hr rfl an k_Z23 b_Z23 .nil t6 ha) rfl (pv 1) (u6 (z0 y8 z8)) (j3 (y7 w4)))))) (u9 (psw (l8 (i:=7) sc_Z24.nd rfl (by first|exact Or.inl rfl|exact Or.inr rfl) (Y1 (j4 (z0 (g4 (z0 y8 (z0 y8 (z0 y8 z8)))) (z0 (g4 (z0 y8 (z0 (T4 y8) (z0 y8 z8)))) (z0 (g4 (z0 y8 (z0 (P0 (T4 y8) (z5 6 (pv 6))) (z0 y8 z8)))) (z0 (g4 (z0 y8 (z0 y8 (z0 (T4 y8) z8)))) (z0 (g4 (z0 y8 (z0 (z5 6 (pv 6)) (z0 (P0 (T4 y8) (z5 6 (pv 6))) z8)))) (z0 (g4 (z0 y8 (z0 (P0 (T4 y8) (z5 6 (pv 6))) (z0 (T4 y8) z8)))) z8)))))))))) (u9 (psw (l8 (i:=7) sc_Z24.nd rfl (by first|exact Or.inl rfl|exact Or.inr rfl) (Y1 (zy6 (v6 7 (pv 7)) (M1 (j4 (z0 (g4 (z0 y8 (z0 (T4 y8) (z0 y8 z8)))) (z0 (g4 (z0 y8 (z0 (P0 (T4 y8) (z5 6 (pv 6))) (z0 y8 z8)))) (z0 (g4 (z0 y8 (z0 (c6 (m8 rfl a6 (v6 3 (pv 3))) y8) (z0 y8 z8)))) (z0 (g4 (z0 y8 (z0 (c6 (c6 (m8 rfl a6 (v6 3 (pv 3))) y8) (z5 6 (pv 6))) (z0 y8 z8)))) z8)))))))))) (u9 (zg5 PassesOwn.never rfl (Y8 (z5 7 (pv 7))) (Z1 (is:=[8,4,9]) (W1 rfl (v5 (w6 (i:=8) sc_Z24.nd rfl (by first|exact Or.inl rfl|exact Or.inr rfl)) (v5 (w6 (i:=4) sc_Z24.nd rfl (by first|exact Or.inl rfl|exact Or.inr rfl)) (v5 (w6 (i:=9) sc_Z24.nd rfl (by first|exact Or.inl rfl|exact Or.inr rfl)) Z0))))) (u9 (zg4 (zf2 (za8 hr.units) zf4 (A3 (fun t ha=>w8 (S.mono (by decide)) hr rfl R k_law_refused b_law_refused .nil t6 ha) rfl (z0 (z5 8 (pv 8)) (z0 (z5 2 (pv 2)) (z0 (z5 4 (pv 4)) (z0 (z5 9 (pv 9)) z8)))) (y7 (y7 (y7 (y7 w4))))) (Y1 (S8 (W2 (N:=["k","door"]) (src:=[none,some 8]) (z9 zv8) xh2 rfl rfl (by decide +kernel)) rfl (zt5 rfl ag (z0 y8 z8)) (fun C fp s0 H0=>(g8 (i:=0) (w6 yf7 rfl (by first|exact Or.inl rfl|exact Or.inr rfl)))) (fun C fp s0 H0=>W4) (fun C fp s0 H0=>(xo7 M2 Z4 (z5 0 (pv 0)) (V7 (M1 (j4 (z0 y8 (z0 y8 (z0 y8 z8))))) (z5 1 (pv 1))) (o0 _))))) (o0 _)) (j0 (G7 (U1 (pdw yp5)))) K2) (j0 (zg4 (zf2 (za8 hr.units) zf4 (A3 (fun t ha=>w8 (a2.mono (by decide)) hr rfl a1 k_law_stood b_law_stood .nil t6 ha) rfl (z0 (z5 2 (pv 2)) z8) (y7 w4)) (z5 5 (pv 5)) (o0 _)) (j0 (G7 (U1 (pdw yp5)))) K2)))) (u9 (zg5 PassesOwn.never rfl (Y8 (Y1 (j4 (z0 (g4 (z0 y8 (z0 y8 (z0 y8 z8)))) (z0 (g4 (z0 y8 (z0 (P0 y8 (z5 6 (pv 6))) (z0 y8 z8)))) (z0 (g4 (z0 y8 (z0 y8 (z0 y8 z8)))) (z0 (g4 (z0 y8 (z0 (m8 rfl a6 (v6 3 (pv 3))) (z0 y8 z8)))) (z0 (g4 (z0 y8 (z0 y8 (z0 y8 z8)))) z8)))))))) (Z1 (is:=[8,4,9]) (W1 rfl (v5 (w6 (i:=8) sc_Z24.nd rfl (by first|exact Or.inl rfl|exact Or.inr rfl)) (v5 (w6 (i:=4) sc_Z24.nd rfl (by first|exact Or.inl rfl|exact Or.inr rfl)) (v5 (w6 (i:=9) sc_Z24.nd rfl (by first|exact Or.inl rfl|exact Or.inr rfl)) Z0))))) (j0 (zg4 (zf2 (za8 hr.units) zf4 (A3 (fun t ha=>w8 (S.mono (by decide)) hr rfl R k_law_refused b_law_refused .nil t6 ha) rfl (z0 (z5 8 (pv 8)) (z0 (z5 2 (pv 2)) (z0 (z5 4 (pv 4)) (z0 (z5 9 (pv 9)) z8)))) (y7 (y7 (y7 (y7 w4))))) (Y1 (j4 z8)) (o0 _)) (j0 (G7 (U1 (pdw yp5)))) K2))) (j0 (zb7 (za5 (pc_w (yp6 (xo9 (za8 hr.units) (zr6 (X3 U (z5 2 (pv 2)) (fun ta ho=>Z9 ho a4 aw (ax.mono (by decide)) hr b_Z20 .nil t6))) (M1 (j4 z8)) (o0 _)) (yr4 (l5 xn4 yp7 (m8 rfl a6 (zr6 (X3 U (z5 2 (pv 2)) (fun ta ho=>Z9 ho a4 b1 (b2.mono (by decide)) hr b_Z8 .nil t6)))) (c6 (m8 rfl a6 (v6 3 (pv 3))) y8) (o0 _)))))) (j0 (G7 (U1 (pdw yp5)))) K2))))))))))))) (w5 (X9 yp5)))
theorem all_mk {l:W.OpenLaw}{w:World}{K:W.Frag}{h:Heap}{mg:Str->Option Value}{fa dw dz f7 fc f5 f8 f4 f6 dv dr dy dt Y bl bk a1 Z bm dg bj df dq aj f9 e0 e4 du fb aa af dp:Addr}(X:K.In h)(G:h.Ns mainGlobals mg)(nz:mg "law"=some (.ref fa)){j:Addr}
  (eC_Grown:W.nsIn K mainGlobals "Grown"=some (some (.ref j)))
  (c1_Grown:W.plainGet K j Str.empty=true)
  (c2_Grown:W.hasDictIn K j=true)
  (c3_Grown:W.plainOver K j=true)
  (c4_Grown:W.findIn K (.ref j) "__setattr__"=some (some (.builtin "object.__setattr__")))
  (n_Grown_least_step:W.findIn K (.ref j) "least_step"=some none)
  (n_Grown_lengths:W.findIn K (.ref j) "lengths"=some none)
  (n_Grown_numbers:W.findIn K (.ref j) "numbers"=some none)
  (n_Grown_weights:W.findIn K (.ref j) "weights"=some none)
  (m1_Grown:W.makesIn K j=true)
  (m2_Grown:W.keepIn K (.ref j)=true) {ig hz:Option Addr} {gl:Array (Option Value)} {hh iv ja gz en jo:Value} {ii i1:Option Addr} {gn:Array (Option Value)} {hm ix jc h3 ep jq:Value} {lm lc:Option Addr} {ke:Array (Option Value)} {kz ly m9 ko fi mp:Value} {lt lh:Option Addr} {kj:Array (Option Value)} {l4 m4 mi ku fn mu:Value} {lk l8:Option Addr} {kc:Array (Option Value)} {kx lw m7 km fg mm:Value} {lp le:Option Addr} {kg:Array (Option Value)} {l1 m0 md kq fk mr:Value} {li l5:Option Addr} {ka:Array (Option Value)} {kv lu m5 kk fe mj:Value} {ll l9:Option Addr} {kd:Array (Option Value)} {ky lx m8 kn fh mn:Value} {ie hy:Option Addr} {gk:Array (Option Value)} {hg iu j9 gy em jn:Value} {i9 hu:Option Addr} {gg:Array (Option Value)} {hb iq j4 gu ei jj:Value} {ih i0:Option Addr} {gm:Array (Option Value)} {hj iw jb h0 eo jp:Value} {ia hv:Option Addr} {gh:Array (Option Value)} {hd ir j5 gv ej jk:Value} {aw av:Option Addr} {ar:Array (Option Value)} {au ax ay as ab az:Value} {ik i3:Option Addr} {gp:Array (Option Value)} {ho iz je h5 et js:Value} {ij i2:Option Addr} {go:Array (Option Value)} {hn iy jd h4 er jr:Value} {cm ck:Option Addr} {ce:Array (Option Value)} {ci cp cs cg aq cu:Value} {br bq:Option Addr} {bn:Array (Option Value)} {bp bs bv bo al bw:Value} {il i4:Option Addr} {gq:Array (Option Value)} {hq j0 jf h6 eu jt:Value} {ln ld:Option Addr} {kf:Array (Option Value)} {l0 lz mc kp fj mq:Value} {ib hw:Option Addr} {gi:Array (Option Value)} {he is j6 gw ek jl:Value} {lj l7:Option Addr} {kb:Array (Option Value)} {kw lv m6 kl ff ml:Value} {i8 ht:Option Addr} {gf:Array (Option Value)} {ha ip j3 gt eh ji:Value} {d5 d4:Option Addr} {d1:Array (Option Value)} {d3 d6 d8 d2 b3 da:Value} {lq lf:Option Addr} {kh:Array (Option Value)} {l2 m2 me kr fl ms:Value} {im i5:Option Addr} {gr:Array (Option Value)} {hr j1 jg h7 ev ju:Value} {io i6:Option Addr} {gs:Array (Option Value)} {hs j2 jh h8 ew jv:Value} {ic hx:Option Addr} {gj:Array (Option Value)} {hf it j8 gx el jm:Value} {lr lg:Option Addr} {ki:Array (Option Value)} {l3 m3 mh kt fm mt:Value} {be bd:Option Addr} {ba:Array (Option Value)} {bc bf bg bb ai bh:Value} {cl cj:Option Addr} {cd:Array (Option Value)} {ch co cr cf ap ct:Value} {i7 ed:Option Addr} {ge:Array (Option Value)} {h9 ee ef ec db eg:Value}
  (e_Z17:W.nsIn K mainGlobals "refuse_step"=some (some (.ref dw))) (l_Z17:K.lookup dw=some ⟨hh,ig,.func (W.fnOf "refuse_step" "refuse_step" (u0 zh6) (v4 zh6) (z9 zh6) .none iv ja gz hz en jo),gl⟩) (c_Z17:W.codeIn K en "refuse_step"=true) (k_Z17:W.keepIn K (.ref dw)=true)
  (e_Z15:W.nsIn K mainGlobals "later_steps"=some (some (.ref dz))) (l_Z15:K.lookup dz=some ⟨hm,ii,.func (W.fnOf "later_steps" "later_steps" (u0 zv9) (v4 zv9) (z9 zv9) .none ix jc h3 i1 ep jq),gn⟩) (c_Z15:W.codeIn K ep "later_steps"=true) (k_Z15:W.keepIn K (.ref dz)=true)
  (e_Z5:W.nsIn K mainGlobals "longest_joined"=some (some (.ref f7))) (l_Z5:K.lookup f7=some ⟨kz,lm,.func (W.fnOf "longest_joined" "longest_joined" (u0 s_Z5) (v4 s_Z5) (z9 s_Z5) .none ly m9 ko lc fi mp),ke⟩) (c_Z5:W.codeIn K fi "longest_joined"=true) (k_Z5:W.keepIn K (.ref f7)=true)
  (e_Z0:W.nsIn K mainGlobals "how_many_longest"=some (some (.ref fc))) (l_Z0:K.lookup fc=some ⟨l4,lt,.func (W.fnOf "how_many_longest" "how_many_longest" (u0 s_Z0) (v4 s_Z0) (z9 s_Z0) .none m4 mi ku lh fn mu),kj⟩) (c_Z0:W.codeIn K fn "how_many_longest"=true) (k_Z0:W.keepIn K (.ref fc)=true)
  (e_Z7:W.nsIn K mainGlobals "refuse_weight"=some (some (.ref f5))) (l_Z7:K.lookup f5=some ⟨kx,lk,.func (W.fnOf "refuse_weight" "refuse_weight" (u0 s_Z7) (v4 s_Z7) (z9 s_Z7) .none lw m7 km l8 fg mm),kc⟩) (c_Z7:W.codeIn K fg "refuse_weight"=true) (k_Z7:W.keepIn K (.ref f5)=true)
  (e_Z3:W.nsIn K mainGlobals "refuse_weights"=some (some (.ref f8))) (l_Z3:K.lookup f8=some ⟨l1,lp,.func (W.fnOf "refuse_weights" "refuse_weights" (u0 s_Z3) (v4 s_Z3) (z9 s_Z3) .none m0 md kq le fk mr),kg⟩) (c_Z3:W.codeIn K fk "refuse_weights"=true) (k_Z3:W.keepIn K (.ref f8)=true)
  (e_Z9:W.nsIn K mainGlobals "heavier_first"=some (some (.ref f4))) (l_Z9:K.lookup f4=some ⟨kv,li,.func (W.fnOf "heavier_first" "heavier_first" (u0 s_Z9) (v4 s_Z9) (z9 s_Z9) .none lu m5 kk l5 fe mj),ka⟩) (c_Z9:W.codeIn K fe "heavier_first"=true) (k_Z9:W.keepIn K (.ref f4)=true)
  (e_Z6:W.nsIn K mainGlobals "first_heaviest"=some (some (.ref f6))) (l_Z6:K.lookup f6=some ⟨ky,ll,.func (W.fnOf "first_heaviest" "first_heaviest" (u0 s_Z6) (v4 s_Z6) (z9 s_Z6) .none lx m8 kn l9 fh mn),kd⟩) (c_Z6:W.codeIn K fh "first_heaviest"=true) (k_Z6:W.keepIn K (.ref f6)=true)
  (e_Z18:W.nsIn K mainGlobals "heavy_tails"=some (some (.ref dv))) (l_Z18:K.lookup dv=some ⟨hg,ie,.func (W.fnOf "heavy_tails" "heavy_tails" (u0 zo9) (v4 zo9) (z9 zo9) .none iu j9 gy hy em jn),gk⟩) (c_Z18:W.codeIn K em "heavy_tails"=true) (k_Z18:W.keepIn K (.ref dv)=true)
  (e_Z22:W.nsIn K mainGlobals "heaviest"=some (some (.ref dr))) (l_Z22:K.lookup dr=some ⟨hb,i9,.func (W.fnOf "heaviest" "heaviest" (u0 yw4) (v4 yw4) (z9 yw4) .none iq j4 gu hu ei jj),gg⟩) (c_Z22:W.codeIn K ei "heaviest"=true) (k_Z22:W.keepIn K (.ref dr)=true)
  (e_Z16:W.nsIn K mainGlobals "first_break"=some (some (.ref dy))) (l_Z16:K.lookup dy=some ⟨hj,ih,.func (W.fnOf "first_break" "first_break" (u0 yw8) (v4 yw8) (z9 yw8) .none iw jb h0 i0 eo jp),gm⟩) (c_Z16:W.codeIn K eo "first_break"=true) (k_Z16:W.keepIn K (.ref dy)=true)
  (e_Z21:W.nsIn K mainGlobals "pieces_of"=some (some (.ref dt))) (l_Z21:K.lookup dt=some ⟨hd,ia,.func (W.fnOf "pieces_of" "pieces_of" (u0 yw5) (v4 yw5) (z9 yw5) .none ir j5 gv hv ej jk),gh⟩) (c_Z21:W.codeIn K ej "pieces_of"=true) (k_Z21:W.keepIn K (.ref dt)=true)
  (e_Grown___init__:W.findIn K (.ref j) "__init__"=some (some (.ref Y))) (i_Grown___init__:W.isFn K (.ref Y)=true) (l_Grown___init__:K.lookup Y=some ⟨au,aw,.func (W.fnOf "__init__" "Grown.__init__" (u0 l6) (v4 l6) (z9 l6) .none ax ay as av ab az),ar⟩) (c_Grown___init__:W.codeIn K ab "Grown.__init__"=true) (k_Grown___init__:W.keepIn K (.ref Y)=true)
  (e_Z13:W.findIn K (.ref j) "pieces"=some (some (.ref bl))) (i_Z13:W.isFn K (.ref bl)=true) (l_Z13:K.lookup bl=some ⟨ho,ik,.func (W.fnOf "pieces" "Grown.pieces" (u0 yv0) (v4 yv0) (z9 yv0) .none iz je h5 i3 et js),gp⟩) (c_Z13:W.codeIn K et "Grown.pieces"=true) (k_Z13:W.keepIn K (.ref bl)=true)
  (e_Z14:W.findIn K (.ref j) "length"=some (some (.ref bk))) (i_Z14:W.isFn K (.ref bk)=true) (l_Z14:K.lookup bk=some ⟨hn,ij,.func (W.fnOf "length" "Grown.length" (u0 yw9) (v4 yw9) (z9 yw9) .none iy jd h4 i2 er jr),go⟩) (c_Z14:W.codeIn K er "Grown.length"=true) (k_Z14:W.keepIn K (.ref bk)=true)
  (e_Grown_put:W.findIn K (.ref j) "put"=some (some (.ref a1))) (i_Grown_put:W.isFn K (.ref a1)=true) (l_Grown_put:K.lookup a1=some ⟨ci,cm,.func (W.fnOf "put" "Grown.put" (u0 Z3) (v4 Z3) (z9 Z3) .none cp cs cg ck aq cu),ce⟩) (c_Grown_put:W.codeIn K aq "Grown.put"=true) (k_Grown_put:W.keepIn K (.ref a1)=true)
  (e_Grown_take:W.findIn K (.ref j) "take"=some (some (.ref Z))) (i_Grown_take:W.isFn K (.ref Z)=true) (l_Grown_take:K.lookup Z=some ⟨bp,br,.func (W.fnOf "take" "Grown.take" (u0 d9) (v4 d9) (z9 d9) .none bs bv bo bq al bw),bn⟩) (c_Grown_take:W.codeIn K al "Grown.take"=true) (k_Grown_take:W.keepIn K (.ref Z)=true)
  (e_Z12:W.findIn K (.ref j) "weight"=some (some (.ref bm))) (i_Z12:W.isFn K (.ref bm)=true) (l_Z12:K.lookup bm=some ⟨hq,il,.func (W.fnOf "weight" "Grown.weight" (u0 yv1) (v4 yv1) (z9 yv1) .none j0 jf h6 i4 eu jt),gq⟩) (c_Z12:W.codeIn K eu "Grown.weight"=true) (k_Z12:W.keepIn K (.ref bm)=true)
  (e_Z4:W.findIn K (.ref j) "how_many"=some (some (.ref dg))) (i_Z4:W.isFn K (.ref dg)=true) (l_Z4:K.lookup dg=some ⟨l0,ln,.func (W.fnOf "how_many" "Grown.how_many" (u0 s_Z4) (v4 s_Z4) (z9 s_Z4) .none lz mc kp ld fj mq),kf⟩) (c_Z4:W.codeIn K fj "Grown.how_many"=true) (k_Z4:W.keepIn K (.ref dg)=true)
  (e_Z20:W.findIn K (.ref j) "row"=some (some (.ref bj))) (i_Z20:W.isFn K (.ref bj)=true) (l_Z20:K.lookup bj=some ⟨he,ib,.func (W.fnOf "row" "Grown.row" (u0 yw6) (v4 yw6) (z9 yw6) .none is j6 gw hw ek jl),gi⟩) (c_Z20:W.codeIn K ek "Grown.row"=true) (k_Z20:W.keepIn K (.ref bj)=true)
  (e_Z8:W.findIn K (.ref j) "moments"=some (some (.ref df))) (i_Z8:W.isFn K (.ref df)=true) (l_Z8:K.lookup df=some ⟨kw,lj,.func (W.fnOf "moments" "Grown.moments" (u0 s_Z8) (v4 s_Z8) (z9 s_Z8) .none lv m6 kl l7 ff ml),kb⟩) (c_Z8:W.codeIn K ff "Grown.moments"=true) (k_Z8:W.keepIn K (.ref df)=true)
  (e_Z23:W.nsIn K mainGlobals "_law_next"=some (some (.ref dq))) (l_Z23:K.lookup dq=some ⟨ha,i8,.func (W.fnOf "_law_next" "_law_next" (u0 yw3) (v4 yw3) (z9 yw3) .none ip j3 gt ht eh ji),gf⟩) (c_Z23:W.codeIn K eh "_law_next"=true) (k_Z23:W.keepIn K (.ref dq)=true)
  (e_law_pots:W.nsIn K mainGlobals "_law_pots"=some (some (.ref aj))) (l_law_pots:K.lookup aj=some ⟨d3,d5,.func (W.fnOf "_law_pots" "_law_pots" (u0 Y6) (v4 Y6) (z9 Y6) .none d6 d8 d2 d4 b3 da),d1⟩) (c_law_pots:W.codeIn K b3 "_law_pots"=true) (k_law_pots:W.keepIn K (.ref aj)=true)
  (e_Z2:W.nsIn K mainGlobals "_law_some_number"=some (some (.ref f9))) (l_Z2:K.lookup f9=some ⟨l2,lq,.func (W.fnOf "_law_some_number" "_law_some_number" (u0 s_Z2) (v4 s_Z2) (z9 s_Z2) .none m2 me kr lf fl ms),kh⟩) (c_Z2:W.codeIn K fl "_law_some_number"=true) (k_Z2:W.keepIn K (.ref f9)=true)
  (e_Z11:W.nsIn K mainGlobals "_law_some_row"=some (some (.ref e0))) (l_Z11:K.lookup e0=some ⟨hr,im,.func (W.fnOf "_law_some_row" "_law_some_row" (u0 zn0) (v4 zn0) (z9 zn0) .none j1 jg h7 i5 ev ju),gr⟩) (c_Z11:W.codeIn K ev "_law_some_row"=true) (k_Z11:W.keepIn K (.ref e0)=true)
  (e_Z10:W.nsIn K mainGlobals "_law_some_step"=some (some (.ref e4))) (l_Z10:K.lookup e4=some ⟨hs,io,.func (W.fnOf "_law_some_step" "_law_some_step" (u0 yv2) (v4 yv2) (z9 yv2) .none j2 jh h8 i6 ew jv),gs⟩) (c_Z10:W.codeIn K ew "_law_some_step"=true) (k_Z10:W.keepIn K (.ref e4)=true)
  (e_Z19:W.nsIn K mainGlobals "_law_flags"=some (some (.ref du))) (l_Z19:K.lookup du=some ⟨hf,ic,.func (W.fnOf "_law_flags" "_law_flags" (u0 yw7) (v4 yw7) (z9 yw7) .none it j8 gx hx el jm),gj⟩) (c_Z19:W.codeIn K el "_law_flags"=true) (k_Z19:W.keepIn K (.ref du)=true)
  (e_Z1:W.nsIn K mainGlobals "_law_some_weight"=some (some (.ref fb))) (l_Z1:K.lookup fb=some ⟨l3,lr,.func (W.fnOf "_law_some_weight" "_law_some_weight" (u0 s_Z1) (v4 s_Z1) (z9 s_Z1) .none m3 mh kt lg fm mt),ki⟩) (c_Z1:W.codeIn K fm "_law_some_weight"=true) (k_Z1:W.keepIn K (.ref fb)=true)
  (e_law_refused:W.nsIn K mainGlobals "_law_refused"=some (some (.ref aa))) (l_law_refused:K.lookup aa=some ⟨bc,be,.func (W.fnOf "_law_refused" "_law_refused" (u0 c8) (v4 c8) (z9 c8) .none bf bg bb bd ai bh),ba⟩) (c_law_refused:W.codeIn K ai "_law_refused"=true) (k_law_refused:W.keepIn K (.ref aa)=true)
  (e_law_stood:W.nsIn K mainGlobals "_law_stood"=some (some (.ref af))) (l_law_stood:K.lookup af=some ⟨ch,cl,.func (W.fnOf "_law_stood" "_law_stood" (u0 Y5) (v4 Y5) (z9 Y5) .none co cr cf cj ap ct),cd⟩) (c_law_stood:W.codeIn K ap "_law_stood"=true) (k_law_stood:W.keepIn K (.ref af)=true)
  (e_Z24:W.nsIn K mainGlobals "law"=some (some (.ref dp))) (l_Z24:K.lookup dp=some ⟨h9,i7,.func (W.fnOf "law" "law" (u0 zv8) (v4 zv8) (z9 zv8) .none ee ef ec ed db eg),ge⟩) (c_Z24:W.codeIn K db "law"=true) (k_Z24:W.keepIn K (.ref dp)=true)
  {a6:Addr} {a2:Array DictEntry} {ak} (e_OTHER_KIND:W.nsIn K mainGlobals "OTHER_KIND"=some (some (.ref a6))) (l_OTHER_KIND:K.lookup a6=some ⟨.type "dict",none,.dict a2 ak,#[]⟩) (n_OTHER_KIND:(a6==sysModules)=false) (v_OTHER_KIND:ys2 tab_OTHER_KIND a2.toList) (h_OTHER_KIND:∀ e∈a2.toList,∀ k t,e.key= .str k t->e.hash=hashStr w k) {a9:Addr} {I:Addr} {a5:Addr} {M:Addr} {a8:Addr} {i:Addr} {a4:Addr} {a0:Addr}
  (e_NoForm:W.nsIn K mainGlobals "NoForm"=some (some (.ref a9)))
  (e_NoNumber:W.nsIn K mainGlobals "NoNumber"=some (some (.ref I)))
  (e_NoPlace:W.nsIn K mainGlobals "NoPlace"=some (some (.ref a5)))
  (e_NoStep:W.nsIn K mainGlobals "NoStep"=some (some (.ref M)))
  (e_NoText:W.nsIn K mainGlobals "NoText"=some (some (.ref a8)))
  (e_NoWeights:W.nsIn K mainGlobals "NoWeights"=some (some (.ref i)))
  (e_NoneYet:W.nsIn K mainGlobals "NoneYet"=some (some (.ref a4)))
  (e_WaveError:W.nsIn K mainGlobals "WaveError"=some (some (.ref a0)))
  (n_NoNumber:yt7 K I=some "NoNumber")
  (q_NoNumber:W.excIn K I bmV "ValueError.__new__"=true)
  (w_NoNumber:yt6 K I=true)
  (n_NoStep:yt7 K M=some "NoStep")
  (q_NoStep:W.excIn K M bmV "ValueError.__new__"=true)
  (w_NoStep:yt6 K M=true)
  (n_NoWeights:yt7 K i=some "NoWeights")
  (q_NoWeights:W.excIn K i bmV "ValueError.__new__"=true)
  (w_NoWeights:yt6 K i=true)
  (m_NoNumber_WaveError:W.exmOne K (.ref I) (.ref a0)=some true)
  (m_NoStep_WaveError:W.exmOne K (.ref M) (.ref a0)=some true)
  (m_NoWeights_WaveError:W.exmOne K (.ref i) (.ref a0)=some true)
  (i_NoNumber_NoForm:W.kitOne K (.ref I) (.ref a9)=some false)
  (i_NoStep_NoForm:W.kitOne K (.ref M) (.ref a9)=some false)
  (i_NoWeights_NoForm:W.kitOne K (.ref i) (.ref a9)=some false)
  (i_NoNumber_NoNumber:W.kitOne K (.ref I) (.ref I)=some true)
  (i_NoStep_NoNumber:W.kitOne K (.ref M) (.ref I)=some false)
  (i_NoWeights_NoNumber:W.kitOne K (.ref i) (.ref I)=some false)
  (i_NoNumber_NoPlace:W.kitOne K (.ref I) (.ref a5)=some false)
  (i_NoStep_NoPlace:W.kitOne K (.ref M) (.ref a5)=some false)
  (i_NoWeights_NoPlace:W.kitOne K (.ref i) (.ref a5)=some false)
  (i_NoNumber_NoStep:W.kitOne K (.ref I) (.ref M)=some false)
  (i_NoStep_NoStep:W.kitOne K (.ref M) (.ref M)=some true)
  (i_NoWeights_NoStep:W.kitOne K (.ref i) (.ref M)=some false)
  (i_NoNumber_NoText:W.kitOne K (.ref I) (.ref a8)=some false)
  (i_NoStep_NoText:W.kitOne K (.ref M) (.ref a8)=some false)
  (i_NoWeights_NoText:W.kitOne K (.ref i) (.ref a8)=some false)
  (i_NoNumber_NoWeights:W.kitOne K (.ref I) (.ref i)=some false)
  (i_NoStep_NoWeights:W.kitOne K (.ref M) (.ref i)=some false)
  (i_NoWeights_NoWeights:W.kitOne K (.ref i) (.ref i)=some true)
  (i_NoNumber_NoneYet:W.kitOne K (.ref I) (.ref a4)=some false)
  (i_NoStep_NoneYet:W.kitOne K (.ref M) (.ref a4)=some false)
  (i_NoWeights_NoneYet:W.kitOne K (.ref i) (.ref a4)=some false)
  (j_NoNumber_ValueError:W.kitOne K (.ref I) (.type "ValueError")=some true)
  (j_NoStep_ValueError:W.kitOne K (.ref M) (.type "ValueError")=some true)
  (j_NoWeights_ValueError:W.kitOne K (.ref i) (.type "ValueError")=some true)
  (y_ValueError:W.nsIn K mainGlobals "ValueError"=some none)
  (y_enumerate:W.nsIn K mainGlobals "enumerate"=some none)
  (y_isinstance:W.nsIn K mainGlobals "isinstance"=some none)
  (y_len:W.nsIn K mainGlobals "len"=some none)
  (y_list:W.nsIn K mainGlobals "list"=some none)
  (y_max:W.nsIn K mainGlobals "max"=some none)
  (y_min:W.nsIn K mainGlobals "min"=some none)
  (y_range:W.nsIn K mainGlobals "range"=some none)
  (y_reversed:W.nsIn K mainGlobals "reversed"=some none)
  (y_sorted:W.nsIn K mainGlobals "sorted"=some none)
  (y_sum:W.nsIn K mainGlobals "sum"=some none):
  ∃ fd:FuncData,(∀(s:Shared)(v:Value),BindsTo s fd ⟨[v],[]⟩ [("script",v)])/\∀ base:Heap,K.In base->base.Ns mainGlobals mg->FnOk l.prog w K mg base CX0 8 fa fd ["script"] (spR K 1 ze3):=by
 have e:=nz.symm.trans (W.mg_of X G e_Z24)
 cases e
 have ea:=j7 (st:=zh6) l_Z17 c_Z17 k_Z17
 have b_Z17:=ea.binds (ps:=["step"]) fun _ _ _ _ _ _ us hl=>by refine us1 (P:=fun vs=>bindArgs _ { pos:=vs }=pure (List.zip _ vs)) ?_ us hl;intros;rfl
 have c0:=W.mg_of X G e_Z17
 have g8:=j7 (st:=zv9) l_Z15 c_Z15 k_Z15
 have b_Z15:=g8.binds (ps:=["row","step"]) fun _ _ _ _ _ _ us hl=>by refine us2 (P:=fun vs=>bindArgs _ { pos:=vs }=pure (List.zip _ vs)) ?_ us hl;intros;rfl
 have fq:=W.mg_of X G e_Z15
 have k3:=j7 (st:=s_Z5) l_Z5 c_Z5 k_Z5
 have b_Z5:=k3.binds (ps:=["tails"]) fun _ _ _ _ _ _ us hl=>by refine us1 (P:=fun vs=>bindArgs _ { pos:=vs }=pure (List.zip _ vs)) ?_ us hl;intros;rfl
 have ni:=W.mg_of X G e_Z5
 have k9:=j7 (st:=s_Z0) l_Z0 c_Z0 k_Z0
 have b_Z0:=k9.binds (ps:=["row","step"]) fun _ _ _ _ _ _ us hl=>by refine us2 (P:=fun vs=>bindArgs _ { pos:=vs }=pure (List.zip _ vs)) ?_ us hl;intros;rfl
 have nn:=W.mg_of X G e_Z0
 have fz:=j7 (st:=s_Z7) l_Z7 c_Z7 k_Z7
 have b_Z7:=fz.binds (ps:=["weight"]) fun _ _ _ _ _ _ us hl=>by refine us1 (P:=fun vs=>bindArgs _ { pos:=vs }=pure (List.zip _ vs)) ?_ us hl;intros;rfl
 have fo:=W.mg_of X G e_Z7
 have k5:=j7 (st:=s_Z3) l_Z3 c_Z3 k_Z3
 have b_Z3:=k5.binds (ps:=["row","weights"]) fun _ _ _ _ _ _ us hl=>by refine us2 (P:=fun vs=>bindArgs _ { pos:=vs }=pure (List.zip _ vs)) ?_ us hl;intros;rfl
 have nj:=W.mg_of X G e_Z3
 have k0:=j7 (st:=s_Z9) l_Z9 c_Z9 k_Z9
 have b_Z9:=k0.binds (ps:=["heavy"]) fun _ _ _ _ _ _ us hl=>by refine us1 (P:=fun vs=>bindArgs _ { pos:=vs }=pure (List.zip _ vs)) ?_ us hl;intros;rfl
 have nh:=W.mg_of X G e_Z9
 have k2:=j7 (st:=s_Z6) l_Z6 c_Z6 k_Z6
 have b_Z6:=k2.binds (ps:=["heavies"]) fun _ _ _ _ _ _ us hl=>by refine us1 (P:=fun vs=>bindArgs _ { pos:=vs }=pure (List.zip _ vs)) ?_ us hl;intros;rfl
 have jw:=W.mg_of X G e_Z6
 have g6:=j7 (st:=zo9) l_Z18 c_Z18 k_Z18
 have b_Z18:=g6.binds (ps:=["row","step","weights"]) fun _ _ _ _ _ _ us hl=>by refine us3 (P:=fun vs=>bindArgs _ { pos:=vs }=pure (List.zip _ vs)) ?_ us hl;intros;rfl
 have n1:=W.mg_of X G e_Z18
 have g2:=j7 (st:=yw4) l_Z22 c_Z22 k_Z22
 have b_Z22:=g2.binds (ps:=["row","step","weights"]) fun _ _ _ _ _ _ us hl=>by refine us3 (P:=fun vs=>bindArgs _ { pos:=vs }=pure (List.zip _ vs)) ?_ us hl;intros;rfl
 have mw:=W.mg_of X G e_Z22
 have g7:=j7 (st:=yw8) l_Z16 c_Z16 k_Z16
 have b_Z16:=g7.binds (ps:=["row","step","kind","start"]) fun _ _ _ _ _ _ us hl=>by refine us4 (P:=fun vs=>bindArgs _ { pos:=vs }=pure (List.zip _ vs)) ?_ us hl;intros;rfl
 have n2:=W.mg_of X G e_Z16
 have g3:=j7 (st:=yw5) l_Z21 c_Z21 k_Z21
 have b_Z21:=g3.binds (ps:=["row","step"]) fun _ _ _ _ _ _ us hl=>by refine us2 (P:=fun vs=>bindArgs _ { pos:=vs }=pure (List.zip _ vs)) ?_ us hl;intros;rfl
 have my:=W.mg_of X G e_Z21
 have a3:=j7 (st:=l6) l_Grown___init__ c_Grown___init__ k_Grown___init__
 have b_Grown___init__:=a3.binds (ps:=["self","step"]) fun _ _ _ _ _ _ us hl=>by refine us2 (P:=fun vs=>bindArgs _ { pos:=vs }=pure (List.zip _ vs)) ?_ us hl;intros;rfl
 have ga:=j7 (st:=yv0) l_Z13 c_Z13 k_Z13
 have b_Z13:=ga.binds (ps:=["self"]) fun _ _ _ _ _ _ us hl=>by refine us1 (P:=fun vs=>bindArgs _ { pos:=vs }=pure (List.zip _ vs)) ?_ us hl;intros;rfl
 have ft:Meth K j "pieces" bl:=⟨e_Z13,i_Z13,k_Z13⟩
 have g9:=j7 (st:=yw9) l_Z14 c_Z14 k_Z14
 have b_Z14:=g9.binds (ps:=["self"]) fun _ _ _ _ _ _ us hl=>by refine us1 (P:=fun vs=>bindArgs _ { pos:=vs }=pure (List.zip _ vs)) ?_ us hl;intros;rfl
 have c1:Meth K j "length" bk:=⟨e_Z14,i_Z14,k_Z14⟩
 have ah:=j7 (st:=Z3) l_Grown_put c_Grown_put k_Grown_put
 have b_Grown_put:=ah.binds (ps:=["self","number","weight"]) fun _ _ _ _ _ _ us hl=>by refine us3 (P:=fun vs=>bindArgs _ { pos:=vs }=pure (List.zip _ vs)) ?_ us hl;intros;rfl
 have b4:Meth K j "put" a1:=⟨e_Grown_put,i_Grown_put,k_Grown_put⟩
 have ad:=j7 (st:=d9) l_Grown_take c_Grown_take k_Grown_take
 have b_Grown_take:=ad.binds (ps:=["self","many"]) fun _ _ _ _ _ _ us hl=>by refine us2 (P:=fun vs=>bindArgs _ { pos:=vs }=pure (List.zip _ vs)) ?_ us hl;intros;rfl
 have cx:Meth K j "take" Z:=⟨e_Grown_take,i_Grown_take,k_Grown_take⟩
 have gb:=j7 (st:=yv1) l_Z12 c_Z12 k_Z12
 have b_Z12:=gb.binds (ps:=["self"]) fun _ _ _ _ _ _ us hl=>by refine us1 (P:=fun vs=>bindArgs _ { pos:=vs }=pure (List.zip _ vs)) ?_ us hl;intros;rfl
 have n5:Meth K j "weight" bm:=⟨e_Z12,i_Z12,k_Z12⟩
 have k4:=j7 (st:=s_Z4) l_Z4 c_Z4 k_Z4
 have b_Z4:=k4.binds (ps:=["self"]) fun _ _ _ _ _ _ us hl=>by refine us1 (P:=fun vs=>bindArgs _ { pos:=vs }=pure (List.zip _ vs)) ?_ us hl;intros;rfl
 have no:Meth K j "how_many" dg:=⟨e_Z4,i_Z4,k_Z4⟩
 have g4:=j7 (st:=yw6) l_Z20 c_Z20 k_Z20
 have b_Z20:=g4.binds (ps:=["self"]) fun _ _ _ _ _ _ us hl=>by refine us1 (P:=fun vs=>bindArgs _ { pos:=vs }=pure (List.zip _ vs)) ?_ us hl;intros;rfl
 have fr:Meth K j "row" bj:=⟨e_Z20,i_Z20,k_Z20⟩
 have k1:=j7 (st:=s_Z8) l_Z8 c_Z8 k_Z8
 have b_Z8:=k1.binds (ps:=["self"]) fun _ _ _ _ _ _ us hl=>by refine us1 (P:=fun vs=>bindArgs _ { pos:=vs }=pure (List.zip _ vs)) ?_ us hl;intros;rfl
 have jx:Meth K j "moments" df:=⟨e_Z8,i_Z8,k_Z8⟩
 have g1:=j7 (st:=yw3) l_Z23 c_Z23 k_Z23
 have b_Z23:=g1.binds (ps:=["pot","many"]) fun _ _ _ _ _ _ us hl=>by refine us2 (P:=fun vs=>bindArgs _ { pos:=vs }=pure (List.zip _ vs)) ?_ us hl;intros;rfl
 have bz:=W.mg_of X G e_Z23
 have b9:=j7 (st:=Y6) l_law_pots c_law_pots k_law_pots
 have dj:=b9.binds (ps:=["script"]) fun _ _ _ _ _ _ us hl=>by refine us1 (P:=fun vs=>bindArgs _ { pos:=vs }=pure (List.zip _ vs)) ?_ us hl;intros;rfl
 have dk:=W.mg_of X G e_law_pots
 have k6:=j7 (st:=s_Z2) l_Z2 c_Z2 k_Z2
 have b_Z2:=k6.binds (ps:=["pot","kind"]) fun _ _ _ _ _ _ us hl=>by refine us2 (P:=fun vs=>bindArgs _ { pos:=vs }=pure (List.zip _ vs)) ?_ us hl;intros;rfl
 have nk:=W.mg_of X G e_Z2
 have gc:=j7 (st:=zn0) l_Z11 c_Z11 k_Z11
 have b_Z11:=gc.binds (ps:=["pot","most"]) fun _ _ _ _ _ _ us hl=>by refine us2 (P:=fun vs=>bindArgs _ { pos:=vs }=pure (List.zip _ vs)) ?_ us hl;intros;rfl
 have n3:=W.mg_of X G e_Z11
 have gd:=j7 (st:=yv2) l_Z10 c_Z10 k_Z10
 have b_Z10:=gd.binds (ps:=["pot"]) fun _ _ _ _ _ _ us hl=>by refine us1 (P:=fun vs=>bindArgs _ { pos:=vs }=pure (List.zip _ vs)) ?_ us hl;intros;rfl
 have n4:=W.mg_of X G e_Z10
 have g5:=j7 (st:=yw7) l_Z19 c_Z19 k_Z19
 have b_Z19:=g5.binds (ps:=["e"]) fun _ _ _ _ _ _ us hl=>by refine us1 (P:=fun vs=>bindArgs _ { pos:=vs }=pure (List.zip _ vs)) ?_ us hl;intros;rfl
 have n0:=W.mg_of X G e_Z19
 have k7:=j7 (st:=s_Z1) l_Z1 c_Z1 k_Z1
 have b_Z1:=k7.binds (ps:=["pot"]) fun _ _ _ _ _ _ us hl=>by refine us1 (P:=fun vs=>bindArgs _ { pos:=vs }=pure (List.zip _ vs)) ?_ us hl;intros;rfl
 have nl:=W.mg_of X G e_Z1
 have an:=j7 (st:=c8) l_law_refused c_law_refused k_law_refused
 have b_law_refused:=an.binds (ps:=["door","grown","number","other"]) fun _ _ _ _ _ _ us hl=>by refine us4 (P:=fun vs=>bindArgs _ { pos:=vs }=pure (List.zip _ vs)) ?_ us hl;intros;rfl
 have bx:=W.mg_of X G e_law_refused
 have b6:=j7 (st:=Y5) l_law_stood c_law_stood k_law_stood
 have b_law_stood:=b6.binds (ps:=["grown"]) fun _ _ _ _ _ _ us hl=>by refine us1 (P:=fun vs=>bindArgs _ { pos:=vs }=pure (List.zip _ vs)) ?_ us hl;intros;rfl
 have dc:=W.mg_of X G e_law_stood
 have g0:=j7 (st:=zv8) l_Z24 c_Z24 k_Z24
 have yc8:=g0.binds (ps:=["script"]) fun _ _ _ _ _ _ us hl=>by refine us1 (P:=fun vs=>bindArgs _ { pos:=vs }=pure (List.zip _ vs)) ?_ us hl;intros;rfl
 have o0:=W.mg_of X G e_Z24
 have N:Cls K j:=⟨c1_Grown,c2_Grown,c3_Grown,c4_Grown⟩
 have S:=eC_Grown
 have dl:=W.mg_of X G eC_Grown
 have U:∀ C,W.nsIn K mainGlobals "Grown"=some (some (.ref C))->Cls K C/\NoAttr K C "least_step":=fun C z=>by
  rw[eC_Grown]at z;cases z;exact⟨N,n_Grown_least_step⟩
 have R:∀ C,W.nsIn K mainGlobals "Grown"=some (some (.ref C))->Cls K C/\NoAttr K C "lengths":=fun C z=>by
  rw[eC_Grown]at z;cases z;exact⟨N,n_Grown_lengths⟩
 have L:∀ C,W.nsIn K mainGlobals "Grown"=some (some (.ref C))->Cls K C/\NoAttr K C "numbers":=fun C z=>by
  rw[eC_Grown]at z;cases z;exact⟨N,n_Grown_numbers⟩
 have O:∀ C,W.nsIn K mainGlobals "Grown"=some (some (.ref C))->Cls K C/\NoAttr K C "weights":=fun C z=>by
  rw[eC_Grown]at z;cases z;exact⟨N,n_Grown_weights⟩
 have d0:Mk K j Y:=⟨m1_Grown,e_Grown___init__,i_Grown___init__,m2_Grown⟩
 have cw:KTab w K a6 tab_OTHER_KIND:=⟨n_OTHER_KIND,by decide,a2,ak,l_OTHER_KIND,v_OTHER_KIND,h_OTHER_KIND⟩
 have cv:=W.mg_of X G e_OTHER_KIND
 have c9:=W.mg_none_of X G y_ValueError
 have b1:=W.mg_none_of X G y_enumerate
 have c7:=W.mg_none_of X G y_isinstance
 have a7:=W.mg_none_of X G y_len
 have eb:=W.mg_none_of X G y_list
 have f3:=W.mg_none_of X G y_max
 have dn:=W.mg_none_of X G y_min
 have ae:=W.mg_none_of X G y_range
 have b8:=W.mg_none_of X G y_reversed
 have ez:=W.mg_none_of X G y_sorted
 have f2:=W.mg_none_of X G y_sum
 have f1:=W.mg_of X G e_NoForm
 have am:=W.mg_of X G e_NoNumber
 have e9:=W.mg_of X G e_NoPlace
 have b7:=W.mg_of X G e_NoStep
 have f0:=W.mg_of X G e_NoText
 have ag:=W.mg_of X G e_NoWeights
 have e8:=W.mg_of X G e_NoneYet
 have dd:=W.mg_of X G e_WaveError
 have b2:XC K "NoNumber" I:=⟨e_NoNumber,n_NoNumber⟩
 have bi:XC K "NoStep" M:=⟨e_NoStep,n_NoStep⟩
 have ao:XC K "NoWeights" i:=⟨e_NoWeights,n_NoWeights⟩
 have bt:∀ c∈(["NoNumber","NoStep","NoWeights"]:List Str),∀ C,XC K c C->W.exmOne K (.ref C) (.ref a0)=some true:=by
  intro c hc C h
  simp only[mem_cons,not_mem_nil,or_false]at hc
  rcases hc with rfl|rfl|rfl
  .rw[h.eq e_NoNumber];exact m_NoNumber_WaveError
  .rw[h.eq e_NoStep];exact m_NoStep_WaveError
  .rw[h.eq e_NoWeights];exact m_NoWeights_WaveError
 have e7:∀ c k,([("NoNumber",false),("NoStep",false),("NoWeights",false)]:List (Str×Bool)).lookup c=some k->∀ C,XC K c C->XCls K C/\W.kitOne K (.ref C) (.ref a9)=some k:=Z7 (P:=fun c k=>∀ C,XC K c C->XCls K C/\W.kitOne K (.ref C) (.ref a9)=some k) (by
  intro p hp
  simp only[mem_cons,not_mem_nil,or_false]at hp
  rcases hp with rfl|rfl|rfl
  .intro C h;rw[h.eq e_NoNumber];exact⟨k8 w_NoNumber,i_NoNumber_NoForm⟩
  .intro C h;rw[h.eq e_NoStep];exact⟨k8 w_NoStep,i_NoStep_NoForm⟩
  .intro C h;rw[h.eq e_NoWeights];exact⟨k8 w_NoWeights,i_NoWeights_NoForm⟩
  )
 have d7:∀ c k,([("NoNumber",true),("NoStep",false),("NoWeights",false)]:List (Str×Bool)).lookup c=some k->∀ C,XC K c C->XCls K C/\W.kitOne K (.ref C) (.ref I)=some k:=Z7 (P:=fun c k=>∀ C,XC K c C->XCls K C/\W.kitOne K (.ref C) (.ref I)=some k) (by
  intro p hp
  simp only[mem_cons,not_mem_nil,or_false]at hp
  rcases hp with rfl|rfl|rfl
  .intro C h;rw[h.eq e_NoNumber];exact⟨k8 w_NoNumber,i_NoNumber_NoNumber⟩
  .intro C h;rw[h.eq e_NoStep];exact⟨k8 w_NoStep,i_NoStep_NoNumber⟩
  .intro C h;rw[h.eq e_NoWeights];exact⟨k8 w_NoWeights,i_NoWeights_NoNumber⟩
  )
 have di:∀ c k,([("NoNumber",false),("NoStep",false),("NoWeights",false)]:List (Str×Bool)).lookup c=some k->∀ C,XC K c C->XCls K C/\W.kitOne K (.ref C) (.ref a5)=some k:=Z7 (P:=fun c k=>∀ C,XC K c C->XCls K C/\W.kitOne K (.ref C) (.ref a5)=some k) (by
  intro p hp
  simp only[mem_cons,not_mem_nil,or_false]at hp
  rcases hp with rfl|rfl|rfl
  .intro C h;rw[h.eq e_NoNumber];exact⟨k8 w_NoNumber,i_NoNumber_NoPlace⟩
  .intro C h;rw[h.eq e_NoStep];exact⟨k8 w_NoStep,i_NoStep_NoPlace⟩
  .intro C h;rw[h.eq e_NoWeights];exact⟨k8 w_NoWeights,i_NoWeights_NoPlace⟩
  )
 have e6:∀ c k,([("NoNumber",false),("NoStep",true),("NoWeights",false)]:List (Str×Bool)).lookup c=some k->∀ C,XC K c C->XCls K C/\W.kitOne K (.ref C) (.ref M)=some k:=Z7 (P:=fun c k=>∀ C,XC K c C->XCls K C/\W.kitOne K (.ref C) (.ref M)=some k) (by
  intro p hp
  simp only[mem_cons,not_mem_nil,or_false]at hp
  rcases hp with rfl|rfl|rfl
  .intro C h;rw[h.eq e_NoNumber];exact⟨k8 w_NoNumber,i_NoNumber_NoStep⟩
  .intro C h;rw[h.eq e_NoStep];exact⟨k8 w_NoStep,i_NoStep_NoStep⟩
  .intro C h;rw[h.eq e_NoWeights];exact⟨k8 w_NoWeights,i_NoWeights_NoStep⟩
  )
 have e5:∀ c k,([("NoNumber",false),("NoStep",false),("NoWeights",false)]:List (Str×Bool)).lookup c=some k->∀ C,XC K c C->XCls K C/\W.kitOne K (.ref C) (.ref a8)=some k:=Z7 (P:=fun c k=>∀ C,XC K c C->XCls K C/\W.kitOne K (.ref C) (.ref a8)=some k) (by
  intro p hp
  simp only[mem_cons,not_mem_nil,or_false]at hp
  rcases hp with rfl|rfl|rfl
  .intro C h;rw[h.eq e_NoNumber];exact⟨k8 w_NoNumber,i_NoNumber_NoText⟩
  .intro C h;rw[h.eq e_NoStep];exact⟨k8 w_NoStep,i_NoStep_NoText⟩
  .intro C h;rw[h.eq e_NoWeights];exact⟨k8 w_NoWeights,i_NoWeights_NoText⟩
  )
 have cq:∀ c k,([("NoNumber",false),("NoStep",false),("NoWeights",true)]:List (Str×Bool)).lookup c=some k->∀ C,XC K c C->XCls K C/\W.kitOne K (.ref C) (.ref i)=some k:=Z7 (P:=fun c k=>∀ C,XC K c C->XCls K C/\W.kitOne K (.ref C) (.ref i)=some k) (by
  intro p hp
  simp only[mem_cons,not_mem_nil,or_false]at hp
  rcases hp with rfl|rfl|rfl
  .intro C h;rw[h.eq e_NoNumber];exact⟨k8 w_NoNumber,i_NoNumber_NoWeights⟩
  .intro C h;rw[h.eq e_NoStep];exact⟨k8 w_NoStep,i_NoStep_NoWeights⟩
  .intro C h;rw[h.eq e_NoWeights];exact⟨k8 w_NoWeights,i_NoWeights_NoWeights⟩
  )
 have dh:∀ c k,([("NoNumber",false),("NoStep",false),("NoWeights",false)]:List (Str×Bool)).lookup c=some k->∀ C,XC K c C->XCls K C/\W.kitOne K (.ref C) (.ref a4)=some k:=Z7 (P:=fun c k=>∀ C,XC K c C->XCls K C/\W.kitOne K (.ref C) (.ref a4)=some k) (by
  intro p hp
  simp only[mem_cons,not_mem_nil,or_false]at hp
  rcases hp with rfl|rfl|rfl
  .intro C h;rw[h.eq e_NoNumber];exact⟨k8 w_NoNumber,i_NoNumber_NoneYet⟩
  .intro C h;rw[h.eq e_NoStep];exact⟨k8 w_NoStep,i_NoStep_NoneYet⟩
  .intro C h;rw[h.eq e_NoWeights];exact⟨k8 w_NoWeights,i_NoWeights_NoneYet⟩
  )
 have bu:∀ c k,([("NoNumber",true),("NoStep",true),("NoWeights",true)]:List (Str×Bool)).lookup c=some k->∀ C,XC K c C->XCls K C/\W.kitOne K (.ref C) (.type "ValueError")=some k:=Z7 (P:=fun c k=>∀ C,XC K c C->XCls K C/\W.kitOne K (.ref C) (.type "ValueError")=some k) (by
  intro p hp
  simp only[mem_cons,not_mem_nil,or_false]at hp
  rcases hp with rfl|rfl|rfl
  .intro C h;rw[h.eq e_NoNumber];exact⟨k8 w_NoNumber,j_NoNumber_ValueError⟩
  .intro C h;rw[h.eq e_NoStep];exact⟨k8 w_NoStep,j_NoStep_ValueError⟩
  .intro C h;rw[h.eq e_NoWeights];exact⟨k8 w_NoWeights,j_NoWeights_ValueError⟩
  )
 refine⟨W.fnOf "law" "law" (u0 zv8) (v4 zv8) (z9 zv8) .none ee ef ec ed db eg,fun s v=>.of_eq rfl,fun base _ _=>?_⟩
 have c4:=xm4 (P:=l.prog) (w:=w) (mg:=mg) (base:=base) ea      b7 bi q_NoStep
 have ey:=xv6 (P:=l.prog) (w:=w) (mg:=mg) (base:=base) ea      b7 bi q_NoStep
 have fw:=xm6 (P:=l.prog) (w:=w) (mg:=mg) (base:=base) g8         b1 a7 ae
 have nr:=xf5 (P:=l.prog) (w:=w) (mg:=mg) (base:=base) k3         f3 f2
 have ny:=xe0 (P:=l.prog) (w:=w) (mg:=mg) (base:=base) k9  fw b_Z15 k_Z15 fq nr b_Z5 k_Z5 ni c4 b_Z17 k_Z17 c0       a7 f3 ae b8 f2
 have fu:=xf3 (P:=l.prog) (w:=w) (mg:=mg) (base:=base) fz      ag ao q_NoWeights
 have fy:=xn6 (P:=l.prog) (w:=w) (mg:=mg) (base:=base) fz      ag ao q_NoWeights
 have nu:=xf7 (P:=l.prog) (w:=w) (mg:=mg) (base:=base) k5  fu b_Z7 k_Z7 fo       a7
 have nq:=xf1 (P:=l.prog) (w:=w) (mg:=mg) (base:=base) k0         a7
 have jz:=xf4 (P:=l.prog) (w:=w) (mg:=mg) (base:=base) k2  nq b_Z9 k_Z9 nh       dn
 have nc:=xm3 (P:=l.prog) (w:=w) (mg:=mg) (base:=base) g6  jz b_Z6 k_Z6 jw fw b_Z15 k_Z15 fq       a7 ae b8
 have n7:=xn9 (P:=l.prog) (w:=w) (mg:=mg) (base:=base) g2  jz b_Z6 k_Z6 jw nc b_Z18 k_Z18 n1 c4 b_Z17 k_Z17 c0 nu b_Z3 k_Z3 nj
 have nd:=xm5 (P:=l.prog) (w:=w) (mg:=mg) (base:=base) g7         a7 ae
 have n8:=xm0 (P:=l.prog) (w:=w) (mg:=mg) (base:=base) g3  nd b_Z16 k_Z16 n2 c4 b_Z17 k_Z17 c0     cw cv  a7 dn
 have ac:=F9 (P:=l.prog) (w:=w) (mg:=mg) (base:=base) a3 S N c4 b_Z17 k_Z17 c0 U R L O  ey
 have b0:=K9 (P:=l.prog) (w:=w) (mg:=mg) (base:=base) a3 S N c4 b_Z17 k_Z17 c0 U R L O  ey
 have fx:=xm8 (P:=l.prog) (w:=w) (mg:=mg) (base:=base) ga S N n8 b_Z21 k_Z21 my U L
 have c5:=xm7 (P:=l.prog) (w:=w) (mg:=mg) (base:=base) g9 S N fx b_Z13 ft L      a7
 have b5:=zm8 (P:=l.prog) (w:=w) (mg:=mg) (base:=base) ah S N c5 b_Z14 c1 fu b_Z7 k_Z7 fo R L O  fy
 have cz:=zr8 (P:=l.prog) (w:=w) (mg:=mg) (base:=base) ah S N c5 b_Z14 c1 fu b_Z7 k_Z7 fo R L O  fy
 have cy:=zr9 (P:=l.prog) (w:=w) (mg:=mg) (base:=base) ad S N c5 b_Z14 c1 R L O   am b2 q_NoNumber   a7
 have c6:=zu1 (P:=l.prog) (w:=w) (mg:=mg) (base:=base) ad S N c5 b_Z14 c1 R L O   am b2 q_NoNumber   a7
 have ne:=xm9 (P:=l.prog) (w:=w) (mg:=mg) (base:=base) gb S N n7 b_Z22 k_Z22 mw U L O
 have nt:=xf6 (P:=l.prog) (w:=w) (mg:=mg) (base:=base) k4 S N ny b_Z0 k_Z0 nn U L
 have fv:=xm1 (P:=l.prog) (w:=w) (mg:=mg) (base:=base) g4 S N  L      eb
 have jy:=xf2 (P:=l.prog) (w:=w) (mg:=mg) (base:=base) k1 S N  R      eb
 have c3:=xn8 (P:=l.prog) (w:=w) (mg:=mg) (base:=base) g1
 have dm:=zf5 (P:=l.prog) (w:=w) (mg:=mg) (base:=base) b9         a7
 have nv:=xf8 (P:=l.prog) (w:=w) (mg:=mg) (base:=base) k6  c3 b_Z23 k_Z23 bz
 have nf:=xk0 (P:=l.prog) (w:=w) (mg:=mg) (base:=base) gc  c3 b_Z23 k_Z23 bz nv b_Z2 k_Z2 nk       b1 dn ae ez
 have ng:=xk1 (P:=l.prog) (w:=w) (mg:=mg) (base:=base) gd  c3 b_Z23 k_Z23 bz
 have n9:=xm2 (P:=l.prog) (w:=w) (mg:=mg) (base:=base) g5      f1 am e9 b7 f0 ag e8 e7 d7 di e6 e5 cq dh bu   c9 c7
 have nw:=xf9 (P:=l.prog) (w:=w) (mg:=mg) (base:=base) k7  c3 b_Z23 k_Z23 bz
 have c2:=zu2 (P:=l.prog) (w:=w) (mg:=mg) (base:=base) an S N ac b_Grown___init__  b5 b_Grown_put b4 cy b_Grown_take cx n9 b_Z19 k_Z19 n0  d0 dl b0 cz c6 dd bt
 have de:=zm7 (P:=l.prog) (w:=w) (mg:=mg) (base:=base) b6 S N nt b_Z4 no c5 b_Z14 c1 jy b_Z8 jx fx b_Z13 ft fv b_Z20 fr ne b_Z12 n5
 have n6:=xn7 (P:=l.prog) (w:=w) (mg:=mg) (base:=base) g0 S N ac b_Grown___init__  jy b_Z8 jx b5 b_Grown_put b4 fv b_Z20 fr c3 b_Z23 k_Z23 bz dm dj k_law_pots dk c2 b_law_refused k_law_refused bx nf b_Z11 k_Z11 n3 ng b_Z10 k_Z10 n4 nw b_Z1 k_Z1 nl de b_law_stood k_law_stood dc  d0 dl     a7 ae
 exact n6
theorem walk {l:W.OpenLaw}{q:Program}{i:List Str}{R:(Str->Option Value)->Heap->Prop}{L:World->Heap->Prop}{d:DefRec}{K:Params->W.Frag}(hn:l.most=some 63)(G:d.params.defaults=[])
  (j:∀ ns:List Int,ns.length<=63->ze3 [.lst (ns.map .int)]=some (.sh (.bl true)))
  (N:∀(w:World)(h:Heap),L w h->(K w.params).In h)
  (F:∀(w:World)(mg:Str->Option Value)(I:Addr)(h:Heap),(K w.params).In h->h.Ns mainGlobals mg->mg d.name=some (.ref I)->
   ∃ fd:FuncData,(∀(s:Shared)(u:Value),BindsTo s fd ⟨[u],[]⟩ [("script",u)])/\∀ base:Heap,(K w.params).In base->base.Ns mainGlobals mg->FnOk l.prog w (K w.params) mg base CX0 8 I fd ["script"] (spR (K w.params) 1 ze3)):
  W.WalkO q i R L l.row.toRowW d [] (fun f vs=>PySem.call f vs):=
 L2.walk_of (n:=63) (k:=8) (x:="script") (CX:=fun _=>CX0) (sp:=fun w=>spR (K w.params) 1 ze3) hn (by decide) G ⟨rfl,by decide,by decide⟩ N F (fun w H a ns M _ O=>xp0 j H a ns M O _) fun _ _ _ _ _ z=>z
end
end Lw
open PySem PySem.W PyProof.Rows
set_option maxRecDepth 100000 in
set_option maxHeartbeats 0 in
theorem PySem.Challenge.cw_wavyrow_k33_grown_refused_holds : PySem.Challenge.rw_wavyrow_k33_grown_refused.Holds := by
 w_on;o_law;k_head;(case hw=>w_witness2)
 k_fill
 refine Lw.walk (l:=PySem.Challenge.rw_wavyrow_k33_grown_refused) rfl rfl Lw.law_true (fun w h Y=>PySem.W.kIn_of Y) ?F
 case F=>
  intro w mg fa h KX G hmg
  refine' Lw.all_mk KX G hmg ?eC_Grown ?c1_Grown ?c2_Grown ?c3_Grown ?c4_Grown ?n_Grown_least_step ?n_Grown_lengths ?n_Grown_numbers ?n_Grown_weights ?m1_Grown ?m2_Grown ?e_Z17 ?l_Z17 ?c_Z17 ?k_Z17 ?e_Z15 ?l_Z15 ?c_Z15 ?k_Z15 ?e_Z5 ?l_Z5 ?c_Z5 ?k_Z5 ?e_Z0 ?l_Z0 ?c_Z0 ?k_Z0 ?e_Z7 ?l_Z7 ?c_Z7 ?k_Z7 ?e_Z3 ?l_Z3 ?c_Z3 ?k_Z3 ?e_Z9 ?l_Z9 ?c_Z9 ?k_Z9 ?e_Z6 ?l_Z6 ?c_Z6 ?k_Z6 ?e_Z18 ?l_Z18 ?c_Z18 ?k_Z18 ?e_Z22 ?l_Z22 ?c_Z22 ?k_Z22 ?e_Z16 ?l_Z16 ?c_Z16 ?k_Z16 ?e_Z21 ?l_Z21 ?c_Z21 ?k_Z21 ?e_Grown___init__ ?i_Grown___init__ ?l_Grown___init__ ?c_Grown___init__ ?k_Grown___init__ ?e_Z13 ?i_Z13 ?l_Z13 ?c_Z13 ?k_Z13 ?e_Z14 ?i_Z14 ?l_Z14 ?c_Z14 ?k_Z14 ?e_Grown_put ?i_Grown_put ?l_Grown_put ?c_Grown_put ?k_Grown_put ?e_Grown_take ?i_Grown_take ?l_Grown_take ?c_Grown_take ?k_Grown_take ?e_Z12 ?i_Z12 ?l_Z12 ?c_Z12 ?k_Z12 ?e_Z4 ?i_Z4 ?l_Z4 ?c_Z4 ?k_Z4 ?e_Z20 ?i_Z20 ?l_Z20 ?c_Z20 ?k_Z20 ?e_Z8 ?i_Z8 ?l_Z8 ?c_Z8 ?k_Z8 ?e_Z23 ?l_Z23 ?c_Z23 ?k_Z23 ?e_law_pots ?l_law_pots ?c_law_pots ?k_law_pots ?e_Z2 ?l_Z2 ?c_Z2 ?k_Z2 ?e_Z11 ?l_Z11 ?c_Z11 ?k_Z11 ?e_Z10 ?l_Z10 ?c_Z10 ?k_Z10 ?e_Z19 ?l_Z19 ?c_Z19 ?k_Z19 ?e_Z1 ?l_Z1 ?c_Z1 ?k_Z1 ?e_law_refused ?l_law_refused ?c_law_refused ?k_law_refused ?e_law_stood ?l_law_stood ?c_law_stood ?k_law_stood ?e_Z24 ?l_Z24 ?c_Z24 ?k_Z24 ?e_OTHER_KIND ?l_OTHER_KIND ?n_OTHER_KIND ?v_OTHER_KIND ?h_OTHER_KIND  ?e_NoForm ?e_NoNumber ?e_NoPlace ?e_NoStep ?e_NoText ?e_NoWeights ?e_NoneYet ?e_WaveError ?n_NoNumber ?q_NoNumber ?w_NoNumber ?n_NoStep ?q_NoStep ?w_NoStep ?n_NoWeights ?q_NoWeights ?w_NoWeights ?m_NoNumber_WaveError ?m_NoStep_WaveError ?m_NoWeights_WaveError ?i_NoNumber_NoForm ?i_NoStep_NoForm ?i_NoWeights_NoForm ?i_NoNumber_NoNumber ?i_NoStep_NoNumber ?i_NoWeights_NoNumber ?i_NoNumber_NoPlace ?i_NoStep_NoPlace ?i_NoWeights_NoPlace ?i_NoNumber_NoStep ?i_NoStep_NoStep ?i_NoWeights_NoStep ?i_NoNumber_NoText ?i_NoStep_NoText ?i_NoWeights_NoText ?i_NoNumber_NoWeights ?i_NoStep_NoWeights ?i_NoWeights_NoWeights ?i_NoNumber_NoneYet ?i_NoStep_NoneYet ?i_NoWeights_NoneYet ?j_NoNumber_ValueError ?j_NoStep_ValueError ?j_NoWeights_ValueError ?y_ValueError ?y_enumerate ?y_isinstance ?y_len ?y_list ?y_max ?y_min ?y_range ?y_reversed ?y_sorted ?y_sum
  (case eC_Grown=>k_is)
  (case c1_Grown=>k_is)
  (case c2_Grown=>k_is)
  (case c3_Grown=>k_is)
  (case c4_Grown=>k_is)
  (case n_Grown_least_step=>k_is)
  (case n_Grown_lengths=>k_is)
  (case n_Grown_numbers=>k_is)
  (case n_Grown_weights=>k_is)
  (case m1_Grown=>k_is)
  (case m2_Grown=>k_is)
  (case e_Z17=>k_is);(case l_Z17=>k_is);(case c_Z17=>k_is);(case k_Z17=>k_is)
  (case e_Z15=>k_is);(case l_Z15=>k_is);(case c_Z15=>k_is);(case k_Z15=>k_is)
  (case e_Z5=>k_is);(case l_Z5=>k_is);(case c_Z5=>k_is);(case k_Z5=>k_is)
  (case e_Z0=>k_is);(case l_Z0=>k_is);(case c_Z0=>k_is);(case k_Z0=>k_is)
  (case e_Z7=>k_is);(case l_Z7=>k_is);(case c_Z7=>k_is);(case k_Z7=>k_is)
  (case e_Z3=>k_is);(case l_Z3=>k_is);(case c_Z3=>k_is);(case k_Z3=>k_is)
  (case e_Z9=>k_is);(case l_Z9=>k_is);(case c_Z9=>k_is);(case k_Z9=>k_is)
  (case e_Z6=>k_is);(case l_Z6=>k_is);(case c_Z6=>k_is);(case k_Z6=>k_is)
  (case e_Z18=>k_is);(case l_Z18=>k_is);(case c_Z18=>k_is);(case k_Z18=>k_is)
  (case e_Z22=>k_is);(case l_Z22=>k_is);(case c_Z22=>k_is);(case k_Z22=>k_is)
  (case e_Z16=>k_is);(case l_Z16=>k_is);(case c_Z16=>k_is);(case k_Z16=>k_is)
  (case e_Z21=>k_is);(case l_Z21=>k_is);(case c_Z21=>k_is);(case k_Z21=>k_is)
  (case e_Grown___init__=>k_is);(case i_Grown___init__=>k_is);(case l_Grown___init__=>k_is);(case c_Grown___init__=>k_is);(case k_Grown___init__=>k_is)
  (case e_Z13=>k_is);(case i_Z13=>k_is);(case l_Z13=>k_is);(case c_Z13=>k_is);(case k_Z13=>k_is)
  (case e_Z14=>k_is);(case i_Z14=>k_is);(case l_Z14=>k_is);(case c_Z14=>k_is);(case k_Z14=>k_is)
  (case e_Grown_put=>k_is);(case i_Grown_put=>k_is);(case l_Grown_put=>k_is);(case c_Grown_put=>k_is);(case k_Grown_put=>k_is)
  (case e_Grown_take=>k_is);(case i_Grown_take=>k_is);(case l_Grown_take=>k_is);(case c_Grown_take=>k_is);(case k_Grown_take=>k_is)
  (case e_Z12=>k_is);(case i_Z12=>k_is);(case l_Z12=>k_is);(case c_Z12=>k_is);(case k_Z12=>k_is)
  (case e_Z4=>k_is);(case i_Z4=>k_is);(case l_Z4=>k_is);(case c_Z4=>k_is);(case k_Z4=>k_is)
  (case e_Z20=>k_is);(case i_Z20=>k_is);(case l_Z20=>k_is);(case c_Z20=>k_is);(case k_Z20=>k_is)
  (case e_Z8=>k_is);(case i_Z8=>k_is);(case l_Z8=>k_is);(case c_Z8=>k_is);(case k_Z8=>k_is)
  (case e_Z23=>k_is);(case l_Z23=>k_is);(case c_Z23=>k_is);(case k_Z23=>k_is)
  (case e_law_pots=>k_is);(case l_law_pots=>k_is);(case c_law_pots=>k_is);(case k_law_pots=>k_is)
  (case e_Z2=>k_is);(case l_Z2=>k_is);(case c_Z2=>k_is);(case k_Z2=>k_is)
  (case e_Z11=>k_is);(case l_Z11=>k_is);(case c_Z11=>k_is);(case k_Z11=>k_is)
  (case e_Z10=>k_is);(case l_Z10=>k_is);(case c_Z10=>k_is);(case k_Z10=>k_is)
  (case e_Z19=>k_is);(case l_Z19=>k_is);(case c_Z19=>k_is);(case k_Z19=>k_is)
  (case e_Z1=>k_is);(case l_Z1=>k_is);(case c_Z1=>k_is);(case k_Z1=>k_is)
  (case e_law_refused=>k_is);(case l_law_refused=>k_is);(case c_law_refused=>k_is);(case k_law_refused=>k_is)
  (case e_law_stood=>k_is);(case l_law_stood=>k_is);(case c_law_stood=>k_is);(case k_law_stood=>k_is)
  (case e_Z24=>k_is);(case l_Z24=>k_is);(case c_Z24=>k_is);(case k_Z24=>k_is)
  (case e_OTHER_KIND=>k_is);(case l_OTHER_KIND=>k_is);(case n_OTHER_KIND=>first|rfl|decide|k_is)
  (case v_OTHER_KIND=>exact⟨⟨_,rfl⟩,⟨_,rfl⟩,⟨_,rfl⟩,⟨_,rfl⟩,True.intro⟩)
  (case h_OTHER_KIND=>intro e he k t hk;simp only[List.mem_cons,List.not_mem_nil,or_false]at he;rcases he with rfl|rfl <;> cases hk <;> rfl)
  (case e_NoForm=>first|k_is|rfl|k_exc| (unfold L2.bmV;k_exc))
  (case e_NoNumber=>first|k_is|rfl|k_exc| (unfold L2.bmV;k_exc))
  (case e_NoPlace=>first|k_is|rfl|k_exc| (unfold L2.bmV;k_exc))
  (case e_NoStep=>first|k_is|rfl|k_exc| (unfold L2.bmV;k_exc))
  (case e_NoText=>first|k_is|rfl|k_exc| (unfold L2.bmV;k_exc))
  (case e_NoWeights=>first|k_is|rfl|k_exc| (unfold L2.bmV;k_exc))
  (case e_NoneYet=>first|k_is|rfl|k_exc| (unfold L2.bmV;k_exc))
  (case e_WaveError=>first|k_is|rfl|k_exc| (unfold L2.bmV;k_exc))
  (case n_NoNumber=>first|k_is|rfl|k_exc| (unfold L2.bmV;k_exc))
  (case q_NoNumber=>first|k_is|rfl|k_exc| (unfold L2.bmV;k_exc))
  (case w_NoNumber=>first|k_is|rfl|k_exc| (unfold L2.bmV;k_exc))
  (case n_NoStep=>first|k_is|rfl|k_exc| (unfold L2.bmV;k_exc))
  (case q_NoStep=>first|k_is|rfl|k_exc| (unfold L2.bmV;k_exc))
  (case w_NoStep=>first|k_is|rfl|k_exc| (unfold L2.bmV;k_exc))
  (case n_NoWeights=>first|k_is|rfl|k_exc| (unfold L2.bmV;k_exc))
  (case q_NoWeights=>first|k_is|rfl|k_exc| (unfold L2.bmV;k_exc))
  (case w_NoWeights=>first|k_is|rfl|k_exc| (unfold L2.bmV;k_exc))
  (case m_NoNumber_WaveError=>first|k_is|rfl|k_exc| (unfold L2.bmV;k_exc))
  (case m_NoStep_WaveError=>first|k_is|rfl|k_exc| (unfold L2.bmV;k_exc))
  (case m_NoWeights_WaveError=>first|k_is|rfl|k_exc| (unfold L2.bmV;k_exc))
  (case i_NoNumber_NoForm=>first|k_is|rfl|k_exc| (unfold L2.bmV;k_exc))
  (case i_NoStep_NoForm=>first|k_is|rfl|k_exc| (unfold L2.bmV;k_exc))
  (case i_NoWeights_NoForm=>first|k_is|rfl|k_exc| (unfold L2.bmV;k_exc))
  (case i_NoNumber_NoNumber=>first|k_is|rfl|k_exc| (unfold L2.bmV;k_exc))
  (case i_NoStep_NoNumber=>first|k_is|rfl|k_exc| (unfold L2.bmV;k_exc))
  (case i_NoWeights_NoNumber=>first|k_is|rfl|k_exc| (unfold L2.bmV;k_exc))
  (case i_NoNumber_NoPlace=>first|k_is|rfl|k_exc| (unfold L2.bmV;k_exc))
  (case i_NoStep_NoPlace=>first|k_is|rfl|k_exc| (unfold L2.bmV;k_exc))
  (case i_NoWeights_NoPlace=>first|k_is|rfl|k_exc| (unfold L2.bmV;k_exc))
  (case i_NoNumber_NoStep=>first|k_is|rfl|k_exc| (unfold L2.bmV;k_exc))
  (case i_NoStep_NoStep=>first|k_is|rfl|k_exc| (unfold L2.bmV;k_exc))
  (case i_NoWeights_NoStep=>first|k_is|rfl|k_exc| (unfold L2.bmV;k_exc))
  (case i_NoNumber_NoText=>first|k_is|rfl|k_exc| (unfold L2.bmV;k_exc))
  (case i_NoStep_NoText=>first|k_is|rfl|k_exc| (unfold L2.bmV;k_exc))
  (case i_NoWeights_NoText=>first|k_is|rfl|k_exc| (unfold L2.bmV;k_exc))
  (case i_NoNumber_NoWeights=>first|k_is|rfl|k_exc| (unfold L2.bmV;k_exc))
  (case i_NoStep_NoWeights=>first|k_is|rfl|k_exc| (unfold L2.bmV;k_exc))
  (case i_NoWeights_NoWeights=>first|k_is|rfl|k_exc| (unfold L2.bmV;k_exc))
  (case i_NoNumber_NoneYet=>first|k_is|rfl|k_exc| (unfold L2.bmV;k_exc))
  (case i_NoStep_NoneYet=>first|k_is|rfl|k_exc| (unfold L2.bmV;k_exc))
  (case i_NoWeights_NoneYet=>first|k_is|rfl|k_exc| (unfold L2.bmV;k_exc))
  (case j_NoNumber_ValueError=>first|k_is|rfl|k_exc| (unfold L2.bmV;k_exc))
  (case j_NoStep_ValueError=>first|k_is|rfl|k_exc| (unfold L2.bmV;k_exc))
  (case j_NoWeights_ValueError=>first|k_is|rfl|k_exc| (unfold L2.bmV;k_exc))
  (case y_ValueError=>k_is)
  (case y_enumerate=>k_is)
  (case y_isinstance=>k_is)
  (case y_len=>k_is)
  (case y_list=>k_is)
  (case y_max=>k_is)
  (case y_min=>k_is)
  (case y_range=>k_is)
  (case y_reversed=>k_is)
  (case y_sorted=>k_is)
  (case y_sum=>k_is)
