import PyProof.Rows.All
import Wide.All
import OpenK.AllK
import Wide.FinOn
import Lean
import PyProof.EqAt
import PyProof.EqKinds
import PyProof.TupleCall
import PyProof.NeKinds
import KE.IntBitsLaws
import PyProof.FitsBits
import PySem.Challenge.RW_wavyrow_k45_whole_grown_rows
namespace PySem.W.Fast
theorem te17208266621571638379:True:=True.intro
noncomputable def tw8105499240107396559:=PySem.Challenge.pw_wavyrow_k45_whole_grown_rows
theorem te8105499240107396559:PySem.Challenge.pw_wavyrow_k45_whole_grown_rows=tw8105499240107396559:=rfl
def tw12462314408332798689:=0
def tw7051299540046126402:=0
def tw8817891349526335462:=0
def tw8397849488715456232:=0
def tw3706507922887928907:=0
def tw12450064723098597356:=0
def tw3254584060762789683:=0
def tw13806249592517663098:=0
def tw10821336664614504858:=0
def tw15667262910397243483:=0
def tw8770042808479514428:=0
end PySem.W.Fast
set_option Elab.async false
set_option linter.all false
set_option maxRecDepth 100000
namespace L2
open List
open PySem PySem.Spec PyProof.Rows
section
noncomputable abbrev Key:=Sum Int Str
noncomputable def ya5:Key->Value->Bool
 | .inl k,v=>Value.isInt k v
 | .inr x,v=>Value.isStrOf x v
noncomputable def keyH (w:World):Key->Int
 | .inl k=>hashInt k
 | .inr x=>hashStr w x
theorem i8:∀{k:Key}{v:Value},ya5 k v=true->(∃ i t,k=Sum.inl i/\v=Value.int i t)\/(∃ x t,k=Sum.inr x/\v=Value.str x t)
 | .inl i,v,h=>by
  obtain⟨t,e⟩:=Value.isInt_shape (k:=i) (v:=v) h
  exact .inl ⟨i,t,rfl,e⟩
 | .inr x,v,h=>by
  obtain⟨t,e⟩:=Value.isStrOf_shape (x:=x) (v:=v) h
  exact .inr ⟨x,t,rfl,e⟩
theorem zz8 (x:Str)(t:Tok):ya5 (.inr x) (.str x t)=true:=by simp[ya5,Value.isStrOf]
theorem xf3 (a b:Int):decide ((Sum.inl a:Key)=Sum.inl b)=(a==b):=by
 by_cases e:a=b
 .subst e;simp
 .have h:¬ (Sum.inl a:Key)=Sum.inl b:=fun q=>e (Sum.inl.inj q)
  rw[decide_eq_false h]
  exact(beq_eq_false_iff_ne.mpr e).symm
theorem xf0 (a b:Str):decide ((Sum.inr a:Key)=Sum.inr b)=decide (a=b):=by
 by_cases e:a=b
 .subst e;simp
 .have h:¬ (Sum.inr a:Key)=Sum.inr b:=fun q=>e (Sum.inr.inj q)
  rw[decide_eq_false h,decide_eq_false e]
theorem xf2 (a:Int)(b:Str):decide ((Sum.inl a:Key)=Sum.inr b)=false:=decide_eq_false (fun q=>nomatch q)
theorem xf1 (a:Str)(b:Int):decide ((Sum.inr a:Key)=Sum.inl b)=false:=decide_eq_false (fun q=>nomatch q)
noncomputable def zz2 (prog:Program)(w:World):PySem.KeyKind prog w Key where
 is:=ya5
 hash:=keyH w
 inj:=fun v a b ha hb=>by
  rcases i8 ha with⟨i,t,rfl,rfl⟩|⟨x,t,rfl,rfl⟩
  .rcases i8 hb with⟨j,u,rfl,e⟩|⟨y,u,rfl,e⟩
   .injection e with e1 _;rw[e1]
   .exact nomatch e
  .rcases i8 hb with⟨j,u,rfl,e⟩|⟨y,u,rfl,e⟩
   .exact nomatch e
   .injection e with e1 _;rw[e1]
 byValue:=fun k v h=>by
  rcases i8 h with⟨i,t,rfl,rfl⟩|⟨x,t,rfl,rfl⟩ <;> rfl
 pyHash:=fun hv h=>by
  rcases i8 hv with⟨i,t,rfl,rfl⟩|⟨x,t,rfl,rfl⟩
  .exact wpAny_pyHash_int h
  .exact wpAny_pyHash_str h
 eqBool:=fun hu hv h=>by
  rcases i8 hu with⟨i,t,rfl,rfl⟩|⟨x,t,rfl,rfl⟩
  .rcases i8 hv with⟨j,u,rfl,rfl⟩|⟨y,u,rfl,rfl⟩
   .rw[xf3]at h;exact wpAny_eqBool_int h
   .rw[xf2]at h;exact SeqAt.EqAt.int_str i t y u _ _ _ _ h
  .rcases i8 hv with⟨j,u,rfl,rfl⟩|⟨y,u,rfl,rfl⟩
   .rw[xf1]at h;exact SeqAt.EqAt.str_int x t j u _ _ _ _ h
   .rw[xf0]at h;exact wpAny_eqBool_str h
 «strs»:=fun k x t v h=>by
  rcases i8 h with⟨i,u,rfl,e⟩|⟨y,u,rfl,e⟩
  .exact nomatch e
  .injection e with e1 _
   subst e1
   cases v <;> rfl
end
section
inductive V where
 |non|bl (b:Bool)|int (i:Int)|str (x:Str)|byt (b:Array UInt8)|flt (b:UInt64)|ref (a:Addr)|ty (n:String)
 deriving DecidableEq
noncomputable def RelV:V->Value->Prop
 | .non,u=>u=Value.none
 | .bl b,u=>u=Value.bool b
 | .int i,u=>∃ t,u=Value.int i t
 | .str x,u=>∃ t,u=Value.str x t
 | .byt b,u=>∃ t,u=Value.bytes b t
 | .flt b,u=>∃ t,u=Value.float b t
 | .ref a,u=>u=Value.ref a
 | .ty n,u=>u=Value.type n
abbrev Vals:List V->List Value->Prop:=Paired RelV
theorem Vals.length {xs:List V}{us:List Value}(r:Vals xs us):xs.length=us.length:=Paired.length r
theorem Vals.get:∀{xs:List V}{us:List Value}{i:Nat}{x:V},Vals xs us->xs[i]? =some x->∃ u,us[i]? =some u/\RelV x u
 |_,_,_,_,.nil,e=>by simp at e
 |_,_,0,_,.cons r _,e=>by simp at e;subst e;exact⟨_,rfl,r⟩
 |_,_,i+1,x,.cons _ t,e=>by
  obtain⟨u,h1,h2⟩:=Vals.get (i:=i) (x:=x) t (by simpa using e)
  exact⟨u,by simpa using h1,h2⟩
theorem Vals.set {x:V}{u:Value}(r:RelV x u):∀{xs:List V}{us:List Value}(i:Nat),Vals xs us->Vals (xs.set i x) (us.set i u)
 |_,_,_,.nil=>.nil
 |_,_,0,.cons _ t=>.cons r t
 |_,_,i+1,.cons q t=>.cons q (Vals.set r i t)
theorem Vals.append:∀{xs ys:List V}{us ws:List Value},Vals xs us->Vals ys ws->Vals (xs++ys) (us++ws)
 |_,_,_,_,.nil,s=>s
 |_,_,_,_,.cons r t,s=>.cons r (Vals.append t s)
theorem Vals.take:∀{xs:List V}{us:List Value}(n:Nat),Vals xs us->Vals (xs.take n) (us.take n)
 |_,_,0,_=>.nil
 |_,_,_+1,.nil=>.nil
 |_,_,n+1,.cons r t=>.cons r (Vals.take n t)
theorem Vals.drop:∀{xs:List V}{us:List Value}(n:Nat),Vals xs us->Vals (xs.drop n) (us.drop n)
 |_,_,0,r=>r
 |_,_,_+1,.nil=>.nil
 |_,_,n+1,.cons _ t=>Vals.drop n t
noncomputable def RelO:Option V->Option Value->Prop
 |some v,some u=>RelV v u
 |none,none=>True
 |_,_=>False
def KV {κ:Type}:List (κ×V)->List (κ×Value)->Prop:=Paired fun(p:κ×V)(q:κ×Value)=>p.1=q.1/\RelV p.2 q.2
noncomputable def kV:Key->V
 | .inl i=>.int i
 | .inr x=>.str x
inductive HO where
 |lst (xs:List V)
 |tup (xs:List V)
 |dK (kvs:List (Key×V))|dT (kvs:List (List Key×V))
 |set (S:Int->Bool) (n:Nat)
 |ins (C dx:Addr) (fs:List (Str×V))
 |own (x:Addr)
 |xd (fs:List (Str×V))
 |met (f x:Addr)
 |rng (lo hi:Int)
 |frz (o:Obj) (u:HO)
 |tbl (ps:Array Value)
 |ext (φ:Heap->Prop)
noncomputable abbrev Hp:=Addr->Option HO
noncomputable def upd (H:Hp)(a:Addr)(o:HO):Hp:=fun b=>if b=a then some o else H b
theorem x9 {H:Hp}{a:Addr}{o:HO}:upd H a o a=some o:=by unfold upd;rw[if_pos rfl]
theorem x8 {H:Hp}{a b:Addr}{o:HO}(h:b≠a):upd H a o b=H b:=by unfold upd;rw[if_neg h]
theorem p8 {H:Hp}{a b:Addr}{o:HO}(h:H a=some o)(h':H b=none):a≠b:=by
 intro e;subst e;rw[h]at h';cases h'
section
variable (P:Program)(w:World)
noncomputable def ObjOk (H:Hp)(h:Heap)(a:Addr):HO->Prop
 | .lst xs=>xs.length<=sizeLine/\∃(its:List Value)(n:Nat),Vals xs its/\h.get? a=some { cls:=.type "list",data:=.seq its.toArray n }
 | .tup xs=>xs.length<=sizeLine/\∃ its:List Value,Vals xs its/\IsTup h a its.toArray
 | .dK kvs=>kvs.length<=sizeLine/\(a==sysModules)=false/\∃ vs,KV kvs vs/\h.DictOf (zz2 P w) a vs
 | .dT kvs=>kvs.length<=sizeLine/\(a==sysModules)=false/\∃ xs:List (List Key×Addr×Value),
   Paired (fun(p:List Key×V)(q:List Key×Addr×Value)=>p.1=q.1/\H q.2.1=some (.tup (p.1.map kV))/\RelV p.2 q.2.2) kvs xs/\
   ∃ o es ep,h.get? a=some o/\o.ExactDict/\o.data= .dict es ep/\es.toList=xs.map (entryOfKey (tupleKind (zz2 P w)))/\(xs.map (·.1)).Nodup
 | .set S n=>h.SetOf (intKind P w) a S n
 | .ins C dx fs=>H dx=some (.own a)/\fs.length<=1000/\dx≠a/\h.get? a=some (W.instObj C dx)/\
   ∃ mA,h.Ns1 dx mA/\(∀ f,RelO (fs.lookup f) (mA f))/\PySem.Within mA (fs.map (·.1))
 | .own _=>∃ o,h.get? a=some o
 | .xd fs=>∃ mA,h.Ns1 a mA/\∀ f,RelO (fs.lookup f) (mA f)
 | .rng lo hi=>∃ t u v,h.get? a=some { cls:=.type "range",data:=.fields #[.int lo t,.int hi u,.int 1 v] }
 | .frz o u=>h.get? a=some o/\ObjOk H h a u
 | .tbl ps=>h.get? a=some { cls:=.none,data:=.fields ps }
 | .met f x=>h.get? a=some (W.methodObj (.ref f) (.ref x))
 | .ext φ=>φ h/\(∃ o,h.get? a=some o)/\∀ h1 h2:Heap,φ h1->(∀ o,h1.get? a=some o->h2.get? a=some o)->φ h2
def HOk (H:Hp)(h:Heap):Prop:=∀ a o,H a=some o->ObjOk P w H h a o
end
section
variable {P:Program}{w:World}{H H':Hp}{h h':Heap}{a:Addr}{o:HO}
theorem ObjOk.lt (x:ObjOk P w H h a o):a<h.objs.size:=by
 cases o with
 |lst xs=>obtain⟨_,_,_,_,e⟩:=x;exact Heap.lt_size e
 |tup xs=>obtain⟨_,_,_,p⟩:=x;exact p.lt
 |dK kvs=>obtain⟨_,_,_,_,o,_,_,e,_⟩:=x;exact Heap.lt_size e
 |dT kvs=>obtain⟨_,_,_,_,o,_,_,e,_⟩:=x;exact Heap.lt_size e
 |set S n=>obtain⟨o,_,_,_,e,_⟩:=x;exact Heap.lt_size e
 |ins C dx fs=>obtain⟨_,_,_,e,_⟩:=x;exact Heap.lt_size e
 |own y=>obtain⟨_,e⟩:=x;exact Heap.lt_size e
 |xd fs=>obtain⟨_,⟨_,_,_,e,_⟩,_⟩:=x;exact Heap.lt_size e
 |rng lo hi=>obtain⟨_,_,_,e⟩:=x;exact Heap.lt_size e
 |frz ob u=>obtain⟨e,_⟩:=x;exact Heap.lt_size e
 |tbl ps=>exact Heap.lt_size (show h.get? a=some _ from x)
 |met f y=>exact Heap.lt_size (show h.get? a=some _ from x)
 |ext φ=>obtain⟨_,⟨_,e⟩,_⟩:=x;exact Heap.lt_size e
theorem Paired.mapP {z β:Type}{F G:z->β->Prop}:∀{j:List z}{i:List β},Paired F j i->(∀ a b,F a b->G a b)->Paired G j i
 |_,_,.nil,_=>.nil
 |_,_,.cons r t,f=>.cons (f _ _ r) (Paired.mapP t f)
theorem ObjOk.stay (x:ObjOk P w H h a o)(k:∀ b u,(b=a\/H b=some (.own a))->h.get? b=some u->h'.get? b=some u)
  (G:∀ b,H b=some (.own a)->H' b=some (.own a)) (j:∀ b xs,H b=some (.tup xs)->H' b=some (.tup xs)):ObjOk P w H' h' a o:=by
 induction o with
 |lst xs=>obtain⟨z,its,n,r,e⟩:=x;exact⟨z,its,n,r,k _ _ (.inl rfl) e⟩
 |tup xs=>obtain⟨z,its,r,ob,e,c⟩:=x;exact⟨z,its,r,ob,k _ _ (.inl rfl) e,c⟩
 |dK kvs=>obtain⟨z,y,vs,r,ob,es,ep,e,c⟩:=x;exact⟨z,y,vs,r,ob,es,ep,k _ _ (.inl rfl) e,c⟩
 |dT kvs=>
  obtain⟨z,y,xs,r,ob,es,ep,e,c⟩:=x
  exact⟨z,y,xs,Paired.mapP r fun p q z=>⟨z.1,j _ _ z.2.1,z.2.2⟩,ob,es,ep,k _ _ (.inl rfl) e,c⟩
 |set S n=>obtain⟨ob,es,ep,t,e,c⟩:=x;exact⟨ob,es,ep,t,k _ _ (.inl rfl) e,c⟩
 |ins C dx fs=>
  obtain⟨d,z,ne,e,mA,⟨od,es,ep,e2,c⟩,r⟩:=x
  exact⟨G _ d,z,ne,k _ _ (.inl rfl) e,mA,⟨od,es,ep,k _ _ (.inr d) e2,c⟩,r⟩
 |own y=>obtain⟨ob,e⟩:=x;exact⟨ob,k _ _ (.inl rfl) e⟩
 |xd fs=>obtain⟨mA,⟨od,es,ep,e,c⟩,r⟩:=x;exact⟨mA,⟨od,es,ep,k _ _ (.inl rfl) e,c⟩,r⟩
 |rng lo hi=>obtain⟨t,u,v,e⟩:=x;exact⟨t,u,v,k _ _ (.inl rfl) e⟩
 |frz ob u i=>obtain⟨e,q⟩:=x;exact⟨k _ _ (.inl rfl) e,i q⟩
 |tbl ps=>
  have e:h.get? a=some { cls:=.none,data:=.fields ps }:=x
  show h'.get? a=some { cls:=.none,data:=.fields ps }
  exact k a _ (.inl rfl) e
 |met f y=>
  have e:h.get? a=some (W.methodObj (.ref f) (.ref y)):=x
  show h'.get? a=some (W.methodObj (.ref f) (.ref y))
  exact k a _ (.inl rfl) e
 |ext φ=>obtain⟨p,⟨o,e⟩,st⟩:=x;exact⟨st _ _ p fun o q=>k _ _ (.inl rfl) q,⟨o,k _ _ (.inl rfl) e⟩,st⟩
theorem HOk.lt (x:HOk P w H h)(e:H a=some o):a<h.objs.size:=(x a o e).lt
theorem HOk.fresh (x:HOk P w H h)(e:h.objs.size<=a):H a=none:=by
 cases q:H a with
 |none=>rfl
 |some u=>exact absurd (Nat.lt_of_lt_of_le (x.lt q) e) (Nat.lt_irrefl _)
theorem HOk.kept (x:HOk P w H h)(k:∀ b u,h.get? b=some u->h'.get? b=some u):HOk P w H h':=fun a o e=>
 (x a o e).stay (fun b u _ q=>k b u q) (fun _ q=>q) fun _ _ q=>q
theorem HOk.laid (x:HOk P w H h)(k:∀ b u,h.get? b=some u->h'.get? b=some u)(hp:h.objs.size<=a)(new:ObjOk P w (upd H a o) h' a o):HOk P w (upd H a o) h':=fun b u e=>by
 have hn:=x.fresh hp
 by_cases i:b=a
 .subst i;rw[x9]at e;cases e;exact new
 .rw[x8 i]at e
  exact(x b u e).stay (fun c v _ q=>k c v q) (fun c q=>by rw[x8 (p8 q hn)];exact q) fun c xs q=>by rw[x8 (p8 q hn)];exact q
end
def Rd (H:Hp)(a:Addr)(u:HO):Prop:=H a=some u\/∃ o,H a=some (.frz o u)
theorem Rd.ok {P:Program}{w:World}{H:Hp}{h:Heap}{a:Addr}{u:HO}(r:Rd H a u)(x:HOk P w H h):ObjOk P w H h a u:=by
 rcases r with r|⟨o,r⟩
 .exact x a u r
 .obtain⟨_,q⟩:=x a _ r
  exact q
noncomputable def Mut:Option HO->Prop
 |some (.lst _)=>True
 |some (.dK _)=>True
 |some (.dT _)=>True
 |some (.set _ _)=>True
 |some (.ins _ _ _)=>True
 |some (.ext _)=>True
 |_=>False
section
variable {P:Program}{w:World}{H:Hp}{h h':Heap}{x e:Addr}{o':HO}
theorem HOk.write (ok:HOk P w H h)(I:Mut (H x))(S:e=x\/H e=some (.own x))(k:∀ b u,b≠e->h.get? b=some u->h'.get? b=some u)(R:∃ u,h'.get? e=some u)
  (new:ObjOk P w (upd H x o') h' x o'):HOk P w (upd H x o') h':=fun b u q=>by
 have j:∀ c y,H c=some (.own y)->c≠x:=fun c y r z=>by subst z;rw[r]at I;exact I
 have G:∀ c xs,H c=some (.tup xs)->c≠x:=fun c xs r z=>by subst z;rw[r]at I;exact I
 by_cases O:b=x
 .subst O;rw[x9]at q;cases q;exact new
 .rw[x8 O]at q
  by_cases i:b=e
  .have q':H b=some (.own x):=by
    rcases S with z|z
    .exact absurd (i.trans z) O
    .rw[i];exact z
   rw[q]at q';cases q'
   obtain⟨v,U⟩:=R
   exact⟨v,by rw[i];exact U⟩
  .refine(ok b u q).stay (fun c v N r=>k c v ?_ r) (fun c r=>by rw[x8 (j c b r)];exact r) fun c xs r=>by rw[x8 (G c xs r)];exact r
   rcases N with rfl|N
   .exact i
   .rintro rfl
    rcases S with z|z
    .exact j c b N z
    .rw[N]at z;cases z;exact O rfl
end
structure Un (fs ex:List Addr)(H H':Hp)(h h':Heap):Prop where
 keep:∀ b o,h.get? b=some o->H b=none->b∉fs->b∉ex->h'.get? b=some o
 slot:∀ b o,h.get? b=some o->H b=none->b∈fs->b∉ex->∃ sl,h'.get? b=some { o with slots:=sl }
 free:∀ b o,h.get? b=some o->H b=none->b∉ex->H' b=none
 there:∀ b o,h.get? b=some o->b∉ex->∃ o',h'.get? b=some o'
 tups:∀ b xs,H b=some (.tup xs)->H' b=some (.tup xs)
 frzs:∀ b o u,H b=some (.frz o u)->H' b=some (.frz o u)
 tbls:∀ b ps,H b=some (.tbl ps)->∃ more,H' b=some (.tbl (ps++more))
section
variable {fs fs' ex ex':List Addr}{H H1 H2:Hp}{h h1 h2 h':Heap}{a x e:Addr}{o:HO}
theorem Un.any (u:Un fs ex H H1 h h1){b:Addr}{ob:Obj}(q:h.get? b=some ob)(n:H b=none)(i:b∉ex):∃ sl,h1.get? b=some { ob with slots:=sl }:=by
 by_cases j:b∈fs
 .exact u.slot b ob q n j i
 .exact⟨ob.slots,u.keep b ob q n j i⟩
theorem Un.kept (k:∀ b u,h.get? b=some u->h'.get? b=some u):Un fs ex H H h h':=
 ⟨fun b ob q _ _ _=>k b ob q,fun b ob q _ _ _=>⟨ob.slots,k b ob q⟩,fun _ _ _ n _=>n,fun b ob q _=>⟨ob,k b ob q⟩,fun _ _ q=>q,fun _ _ _ q=>q,fun _ ps q=>⟨#[],by rw[q];simp⟩⟩
theorem Un.refl:Un fs ex H H h h:=Un.kept fun _ _ q=>q
theorem Un.laid (k:∀ b u,h.get? b=some u->h'.get? b=some u)(hp:h.objs.size<=a)(hn:H a=none):Un fs ex H (upd H a o) h h' where
 keep:=fun b u q _ _ _=>k b u q
 slot:=fun b u q _ _ _=>⟨u.slots,k b u q⟩
 free:=fun b u q n _=>by rw[x8 (Nat.ne_of_lt (Nat.lt_of_lt_of_le (Heap.lt_size q) hp))];exact n
 there:=fun b u q _=>⟨u,k b u q⟩
 tups:=fun b xs q=>by rw[x8 (p8 q hn)];exact q
 frzs:=fun b u xs q=>by rw[x8 (p8 q hn)];exact q
 tbls:=fun b ps q=>⟨#[],by rw[x8 (p8 q hn),q];simp⟩
theorem Un.write (j:Mut (H x))(O:e=x\/H e=some (.own x))(k:∀ b u,b≠e->h.get? b=some u->h'.get? b=some u)(G:∃ u,h'.get? e=some u):Un fs ex H (upd H x o) h h':=by
 have I:∀ b,H b=none->b≠x:=fun b n z=>by subst z;rw[n]at j;exact j
 have N:∀ b,H b=none->b≠e:=fun b n z=>by
  subst z
  rcases O with r|r
  .exact I b n r
  .rw[n]at r;cases r
 have hm:∀ b u,H b=some u->¬ Mut (some u)->b≠x:=fun b u q nm z=>by subst z;rw[q]at j;exact nm j
 refine⟨fun b u q n _ _=>k b u (N b n) q,fun b u q n _ _=>⟨u.slots,k b u (N b n) q⟩,fun b u q n _=>by rw[x8 (I b n)];exact n,fun b u q _=>?_,
  fun b xs q=>by rw[x8 (hm b _ q fun z=>z)];exact q,fun b u xs q=>by rw[x8 (hm b _ q fun z=>z)];exact q,fun b ps q=>⟨#[],by rw[x8 (hm b _ q fun z=>z),q];simp⟩⟩
 by_cases i:b=e
 .subst i;exact G
 .exact⟨u,k b u i q⟩
end
noncomputable def trk (h:Heap)(H:Hp):List Addr:=(List.range h.objs.size).filter fun a=>(H a).isSome
noncomputable def hidT (h:Heap)(H:Hp):Heap:=W.hideAll h (trk h H)
theorem yj7 (h:Heap)(H:Hp):(hidT h H).objs.size=h.objs.size:=W.hideAll_size _ _
theorem xz1 {h:Heap}{H:Hp}{b:Addr}{o:Obj}(e:h.get? b=some o)(n:H b=none):(hidT h H).get? b=some o:=
 W.hideAll_get _ e fun hm=>by
  have q:(H b).isSome=true:=(List.mem_filter.mp hm).2
  rw[n]at q;simp at q
theorem xq7 {h:Heap}{H:Hp}{b:Addr}{o:Obj}(e:(hidT h H).get? b=some o):h.get? b=some o/\H b=none:=by
 have i:h.get? b=some o:=W.of_hideAll (trk h H) e
 refine⟨i,?_⟩
 cases q:H b with
 |none=>rfl
 |some x=>
  have hm:b∈trk h H:=List.mem_filter.mpr ⟨List.mem_range.mpr (Heap.lt_size i),by simp[q]⟩
  have z:(hidT h H).get? b=none:=W.hideAll_none (trk h H) hm
  rw[z]at e;cases e
noncomputable def xn3 (g h:Heap)(L:Addr):List (Addr×Obj):=(List.range h.objs.size).filterMap fun a=>if a=L\/(g.get? a).isSome=true then none else (h.get? a).map fun o=>(a,o)
noncomputable def rest (g h:Heap)(L d:Addr):List (Addr×Obj):=(xn3 g h L).filter fun p=>decide (p.1≠d)
end
section
structure Mod (K:W.Frag)(mg:Str->Option Value)(base:Heap):Prop where
 kin:K.In base
 glob:base.Ns mainGlobals mg
 blt:∃ mb,base.Ns builtinsNs mb/\∀ x:Str,x≠"__name__"->mb x=bootBuiltins x
 nolimit:base.NoLimit
structure Cx where
 prog:Program
 w:World
 K:W.Frag
 mg:Str->Option Value
 base:Heap
 A:Around
 N:List Str
 s₀:Shared
 H₀:Hp
 env:Env
 outer:List Env
 stack:List Env
 ex:List Addr
 fn:Str->Bool
 calm:Bool
 pn:List (Addr×Obj)
 xe:Value->Shared->Prop
noncomputable def frs (l:List Env):List Addr:=l.filterMap (·.frame)
noncomputable abbrev Cx.fs (X:Cx):List Addr:=frs X.outer
def Vis (sc:Scope)(x:Str):Prop:=sc.names.lookup x=some .local\/sc.names.lookup x=some .cell\/sc.names.lookup x=some .free
def Loc (sc:Scope)(x:Str):Prop:=sc.names.lookup x=some .local\/sc.names.lookup x=some .cell
def Look (env:Env)(h:Heap)(m:Str->Option Value)(x:Str)(u:Value):Prop:=
 (env.kindOf x=some .local/\m x=some u)\/((env.kindOf x=some .cell\/env.kindOf x=some .free)/\∃ c,env.cells.lookup x=some c/\h.IsCell c (some u))
structure Cx.Ok (X:Cx):Prop where
 mod:Mod X.K X.mg X.base
 kind:X.env.scope.kind= .function
 glob:X.env.globals=mainGlobals
 blt:X.env.builtins=builtinsNs
 above:X.s₀.heap.objs.size<=X.env.locals
 inj:∀ x y c,X.env.cells.lookup x=some c->X.env.cells.lookup y=some c->x=y
 has:∀ x,(X.env.kindOf x=some .cell\/X.env.kindOf x=some .free)->∃ c,X.env.cells.lookup x=some c
 cab:∀ x c,X.fn x=true->X.env.cells.lookup x=some c->X.s₀.heap.objs.size<=c
 hd:X.calm=true->X.A.handled=none
 frames:X.A.frames=some X.stack
 stk:X.stack=X.outer\/(X.stack=X.env::X.outer/\X.env.frame=some X.env.locals)
 exf:∀ b∈X.ex,b≠X.env.locals/\∀ x c,X.env.cells.lookup x=some c->c≠b
 bs:∀ b o,X.base.get? b=some o->X.s₀.heap.get? b=some o/\X.H₀ b=none
 bsz:X.base.objs.size<=X.s₀.heap.objs.size
 noex:∀ b o,X.base.get? b=some o->b∉X.ex
 exfs:∀ b∈X.ex,b∉X.fs
 funs:X.s₀.heap.FunFrames X.base X.outer
 frf:∀ b∈X.fs,X.H₀ b=none
structure Inv (X:Cx)(pins:List (Addr×Obj))(σ:List (Option V))(H:Hp)(s:Shared):Prop where
 ok:X.Ok
 os:s.os=X.s₀.os
 bare:AllBare s.gens
 base:Un X.fs X.ex X.H₀ H X.s₀.heap s.heap
 loc:∃ m,s.heap.Ns X.env.locals m/\∀(i:Nat)(x:Str)(v:V),X.N[i]? =some x->σ[i]? =some (some v)->Vis X.env.scope x->∃ u,RelV v u/\Look X.env s.heap m x u
 cell:∀ x c,X.env.cells.lookup x=some c->∃ v,s.heap.IsCell c v
 free:H X.env.locals=none
 freeC:∀ x c,X.env.cells.lookup x=some c->H c=none
 pin:∀ p∈X.pn++pins,s.heap.get? p.1=some p.2/\H p.1=none/\p.1≠X.env.locals/\p.1∉X.fs/\∀ v,p.2.data≠ .cell v
 hok:HOk X.prog X.w H s.heap
 len:σ.length=X.N.length
section
variable {X:Cx}{pins:List (Addr×Obj)}{σ:List (Option V)}{H H':Hp}{s:Shared}{h':Heap}
theorem Cx.Ok.nofr (ok:X.Ok){b:Addr}{o:Obj}(e:X.base.get? b=some o):b∉X.fs:=fun i=>by
 have:=(ok.funs.mem i).1
 rw[e]at this;cases this
theorem Inv.bs (I:Inv X pins σ H s):∀ b o,X.base.get? b=some o->s.heap.get? b=some o/\H b=none:=fun b o e=>
 ⟨I.base.keep b o (I.ok.bs b o e).1 (I.ok.bs b o e).2 (I.ok.nofr e) (I.ok.noex b o e),I.base.free b o (I.ok.bs b o e).1 (I.ok.bs b o e).2 (I.ok.noex b o e)⟩
theorem Inv.bk (I:Inv X pins σ H s):∀ b o,X.base.get? b=some o->s.heap.get? b=some o:=fun b o e=>(I.bs b o e).1
theorem Inv.mod (I:Inv X pins σ H s):Mod X.K X.mg X.base:=I.ok.mod
theorem Inv.kIn (I:Inv X pins σ H s):X.K.In s.heap:=I.ok.mod.kin.keeps I.bk
theorem Inv.lt (I:Inv X pins σ H s):X.env.locals<s.heap.objs.size:=let ⟨_,hn,_⟩:=I.loc;hn.lt
theorem Inv.sz (I:Inv X pins σ H s):X.s₀.heap.objs.size<=s.heap.objs.size:=Nat.le_trans I.ok.above (Nat.le_of_lt I.lt)
theorem Inv.nofs (I:Inv X pins σ H s){a:Addr}(h:s.heap.objs.size<=a):a∉X.fs:=fun j=>by
 obtain⟨_,o,i,_⟩:=I.ok.funs.mem j
 exact absurd (Nat.lt_of_lt_of_le (Heap.lt_size i) (Nat.le_trans I.sz h)) (Nat.lt_irrefl _)
theorem Inv.cne (I:Inv X pins σ H s):∀ x c,X.env.cells.lookup x=some c->c≠X.env.locals:=fun x c e z=>by
 obtain⟨v,o,G,hd⟩:=I.cell x c e
 obtain⟨m,⟨o',es,ep,i,j,_⟩,_⟩:=I.loc
 rw[z,i]at G;cases G;rw[j]at hd;cases hd
theorem Inv.funs (I:Inv X pins σ H s):s.heap.FunFrames X.base X.outer:=by
 have all:∀(l:List Env),(∀ b∈frs l,b∈X.fs)->X.s₀.heap.FunFrames X.base l->s.heap.FunFrames X.base l:=by
  intro l
  induction l with
  |nil=>intro _ _;trivial
  |cons env r N=>
   intro hs S
   obtain⟨hk,⟨L,o,i,hn,R,hd⟩,O⟩:=S
   have G:L∈X.fs:=hs L (by unfold frs;rw[filterMap_cons,i];exact mem_cons_self)
   obtain⟨sl,e⟩:=I.base.slot L o R (I.ok.frf L G) G fun z=>I.ok.exfs L z G
   exact⟨hk,⟨L,_,i,hn,e,hd⟩,N (fun b j=>hs b (by unfold frs;rw[filterMap_cons,i];exact mem_cons_of_mem _ j)) O⟩
 exact all X.outer (fun _ j=>j) I.ok.funs
theorem Inv.stack (I:Inv X pins σ H s):s.heap.FunFrames X.base X.stack:=by
 rcases I.ok.stk with e|⟨e,i⟩
 .rw[e];exact I.funs
 .rw[e]
  obtain⟨m,hn,_⟩:=I.loc
  refine .cons (by rw[I.ok.kind];decide) i hn ?_ I.funs
  exact Heap.get?_none_of_le (Nat.le_trans I.ok.bsz I.ok.above)
theorem Inv.stkSub (I:Inv X pins σ H s):∀ b∈frs X.stack,b∈X.env.locals::X.fs:=fun b i=>by
 rcases I.ok.stk with e|⟨e,j⟩
 .rw[e]at i;exact mem_cons_of_mem _ i
 .rw[e]at i
  unfold frs at i
  rw[filterMap_cons,j]at i
  exact i
theorem Inv.stkFree (I:Inv X pins σ H s):∀ b∈frs X.stack,H b=none:=fun b i=>by
 rcases List.mem_cons.mp (I.stkSub b i)with e|i
 .rw[e];exact I.free
 .obtain⟨_,o,ho,_⟩:=I.ok.funs.mem i
  exact I.base.free b o ho (I.ok.frf b i) fun z=>I.ok.exfs b z i
theorem Inv.step {g':Array GenState}{t':Nat}{d':Drawn}{ch:List Addr}(I:Inv X pins σ H s)
  (N:∀ b∈ch,(b∈X.ex\/X.s₀.heap.objs.size<=b)/\b≠X.env.locals/\(∀ x c,X.env.cells.lookup x=some c->c≠b)/\∀ p∈X.pn++pins,p.1≠b)
  (keep:∀ b o,b≠X.env.locals->b∉X.fs->b∉ch->s.heap.get? b=some o->H b=none->h'.get? b=some o)
  (slot:∀ b o,b≠X.env.locals->b∈X.fs->b∉ch->s.heap.get? b=some o->H b=none->∃ sl,h'.get? b=some { o with slots:=sl }) (free:∀ b o,b∉ch->s.heap.get? b=some o->H b=none->H' b=none)
  (there:∀ b o,b∉ch->s.heap.get? b=some o->∃ o',h'.get? b=some o')
  (tups:∀ b xs,H b=some (.tup xs)->H' b=some (.tup xs)) (frzs:∀ b o u,H b=some (.frz o u)->H' b=some (.frz o u)) (tbls:∀ b ps,H b=some (.tbl ps)->∃ more,H' b=some (.tbl (ps++more)))
  (ns:∀ m,s.heap.Ns X.env.locals m->h'.Ns X.env.locals m) (hok:HOk X.prog X.w H' h') (hg:AllBare g'):
  Inv X pins σ H' { s with heap:=h',gens:=g',drawn:=d',toks:=t' }:=by
 have Y:∀ b o,X.s₀.heap.get? b=some o->b≠X.env.locals:=fun b o e=>Nat.ne_of_lt (Nat.lt_of_lt_of_le (Heap.lt_size e) I.ok.above)
 have R:∀ b o,X.s₀.heap.get? b=some o->b∉X.ex->b∉ch:=fun b o e j S=>by
  rcases (N b S).1 with z|z
  .exact j z
  .exact absurd (Nat.lt_of_lt_of_le (Heap.lt_size e) z) (Nat.lt_irrefl _)
 have O:∀ x c,X.env.cells.lookup x=some c->∀ v,s.heap.IsCell c v->h'.IsCell c v:=fun x c e v Z=>by
  obtain⟨o,U,hd⟩:=Z
  have G:c∉ch:=fun z=>(N c z).2.2.1 x c e rfl
  by_cases hc:c∈X.fs
  .obtain⟨sl,q⟩:=slot c o (I.cne x c e) hc G U (I.freeC x c e)
   exact⟨_,q,hd⟩
  .exact⟨o,keep c o (I.cne x c e) hc G U (I.freeC x c e),hd⟩
 refine⟨I.ok,I.os,hg,⟨fun b o e n S j=>?_,fun b o e n S j=>?_,fun b o e n j=>?_,fun b o e j=>?_,fun b xs e=>tups b xs (I.base.tups b xs e),fun b o xs e=>frzs b o xs (I.base.frzs b o xs e),fun b ps e=>?_⟩,?_,fun x c e=>?_,?_,fun x c e=>?_,fun p hp=>?_,hok,I.len⟩
 .exact keep b o (Y b o e) S (R b o e j) (I.base.keep b o e n S j) (I.base.free b o e n j)
 .obtain⟨sl,e1⟩:=I.base.slot b o e n S j
  obtain⟨a1,e2⟩:=slot b _ (Y b o e) S (R b o e j) e1 (I.base.free b o e n j)
  exact⟨a1,e2⟩
 .obtain⟨o',e1⟩:=I.base.there b o e j
  exact free b o' (R b o e j) e1 (I.base.free b o e n j)
 .obtain⟨o',e1⟩:=I.base.there b o e j
  exact there b o' (R b o e j) e1
 .obtain⟨m1,e1⟩:=I.base.tbls b ps e
  obtain⟨m2,e2⟩:=tbls b _ e1
  exact⟨m1++m2,by rw[e2,Array.append_assoc]⟩
 .obtain⟨m,hn,hl⟩:=I.loc
  refine⟨m,ns m hn,fun i x v e1 e2 e3=>?_⟩
  obtain⟨u,r,l⟩:=hl i x v e1 e2 e3
  refine⟨u,r,?_⟩
  rcases l with l|⟨k,c,e,z⟩
  .exact .inl l
  .exact .inr ⟨k,c,e,O x c e _ z⟩
 .obtain⟨v,z⟩:=I.cell x c e
  exact⟨v,O x c e v z⟩
 .obtain⟨m,⟨o,_,_,U,_⟩,_⟩:=I.loc
  exact free _ o (fun z=>(N _ z).2.1 rfl) U I.free
 .obtain⟨v,o,U,hd⟩:=I.cell x c e
  exact free c o (fun z=>(N c z).2.2.1 x c e rfl) U (I.freeC x c e)
 .obtain⟨e,n,ne,nf,d⟩:=I.pin p hp
  have G:p.1∉ch:=fun z=>(N p.1 z).2.2.2 p hp rfl
  exact⟨keep p.1 p.2 ne nf G e n,free p.1 p.2 G e n,ne,nf,d⟩
theorem Inv.un {t':Nat}(I:Inv X pins σ H s)(u:Un X.fs [] H H' s.heap h')(hok:HOk X.prog X.w H' h'):Inv X pins σ H' { s with heap:=h',toks:=t' }:=by
 obtain⟨m,⟨o,es,ep,O,r⟩,_⟩:=id I.loc
 obtain⟨sl,S⟩:=u.any O I.free (by simp)
 exact I.step (g':=s.gens) (d':=s.drawn) (ch:=[]) (fun _ z=>nomatch z) (fun b o _ j _ e n=>u.keep b o e n j (by simp)) (fun b o _ j _ e n=>u.slot b o e n j (by simp)) (fun b o _ e n=>u.free b o e n (by simp)) (fun b o _ e=>u.there b o e (by simp)) u.tups u.frzs u.tbls (fun U hm=>by
  obtain⟨o',G,N,i,R⟩:=hm
  rw[O]at i;cases i
  exact⟨_,G,N,S,R⟩) hok I.bare
theorem Inv.call {g':Array GenState}{t':Nat}{d':Drawn}{ch:List Addr}(I:Inv X pins σ H s)(u:Un (frs X.stack) ch H H' s.heap h')(hok:HOk X.prog X.w H' h')(Y:AllBare g')
  (G:∀ b∈ch,(b∈X.ex\/X.s₀.heap.objs.size<=b)/\b≠X.env.locals/\(∀ x c,X.env.cells.lookup x=some c->c≠b)/\∀ p∈X.pn++pins,p.1≠b):
  Inv X pins σ H' { s with heap:=h',gens:=g',drawn:=d',toks:=t' }:=by
 obtain⟨m,⟨o,es,ep,S,r⟩,_⟩:=id I.loc
 obtain⟨sl,N⟩:=u.any S I.free fun z=>(G _ z).2.1 rfl
 exact I.step (ch:=ch) G (fun b o N Z i e n=>u.keep b o e n (fun z=>(List.mem_cons.mp (I.stkSub b z)).elim N Z) i) (fun b o _ _ i e n=>u.any e n i) (fun b o i e n=>u.free b o e n i) (fun b o i e=>u.there b o e i) u.tups u.frzs u.tbls (fun m' hm=>by
  obtain⟨o',O,R,j,U⟩:=hm
  rw[S]at j;cases j
  exact⟨_,O,R,N,U⟩) hok Y
theorem Inv.turned {t':Nat}{it:Addr}(I:Inv X pins σ H s)(k:∀ b o,b≠it->s.heap.get? b=some o->h'.get? b=some o)(hn:H it=none)(G:it≠X.env.locals)
  (h1:it∈X.ex\/X.s₀.heap.objs.size<=it) (h2:∀ x c,X.env.cells.lookup x=some c->c≠it) (O:∀ p∈X.pn++pins,p.1≠it):Inv X pins σ H { s with heap:=h',toks:=t' }:=by
 have j:∀ b u,H b=some u->b≠it:=fun b u e z=>by rw[z,hn]at e;cases e
 refine I.step (g':=s.gens) (d':=s.drawn) (ch:=[it]) (fun b N=>?_) (fun b o _ _ i e _=>k b o (fun z=>i (by simp[z])) e) (fun b o _ _ i e _=>⟨o.slots,k b o (fun z=>i (by simp[z])) e⟩) (fun _ _ _ _ n=>n)
  (fun b o i e=>⟨o,k b o (fun z=>i (by simp[z])) e⟩) (fun _ _ e=>e) (fun _ _ _ e=>e) (fun b ps e=>⟨#[],by rw[e];simp⟩) (fun m hm=>?_) (fun b u e=>?_) I.bare
 .have e:b=it:=by simpa using N
  subst e
  exact⟨h1,G,h2,O⟩
 .obtain⟨o,es,ep,ho,r⟩:=hm
  exact⟨o,es,ep,k _ o (Ne.symm G) ho,r⟩
 .refine(I.hok b u e).stay (fun c v i q=>k c v ?_ q) (fun _ q=>q) fun _ _ q=>q
  rcases i with z|z
  .rw[z];exact j b u e
  .exact j c _ z
theorem Inv.tok (I:Inv X pins σ H s)(t:Nat):Inv X pins σ H { s with toks:=t }:=I.un (h':=s.heap) (t':=t) Un.refl I.hok
theorem Inv.kept {t':Nat}(I:Inv X pins σ H s)(k:∀ b u,s.heap.get? b=some u->h'.get? b=some u):Inv X pins σ H { s with heap:=h',toks:=t' }:=I.un (Un.kept k) (I.hok.kept k)
theorem Inv.laid {a:Addr}{o:HO}{t':Nat}(I:Inv X pins σ H s)(k:∀ b u,s.heap.get? b=some u->h'.get? b=some u)(hp:s.heap.objs.size<=a)(new:ObjOk X.prog X.w (upd H a o) h' a o):
  Inv X pins σ (upd H a o) { s with heap:=h',toks:=t' }:=I.un (Un.laid k hp (I.hok.fresh hp)) (I.hok.laid k hp new)
theorem Inv.write {x e:Addr}{o:HO}{t':Nat}(I:Inv X pins σ H s)(j:Mut (H x))(z:e=x\/H e=some (.own x))(k:∀ b u,b≠e->s.heap.get? b=some u->h'.get? b=some u)(i:∃ u,h'.get? e=some u)
  (new:ObjOk X.prog X.w (upd H x o) h' x o):Inv X pins σ (upd H x o) { s with heap:=h',toks:=t' }:=I.un (Un.write j z k i) (I.hok.write j z k i new)
theorem Inv.pins_of {pins':List (Addr×Obj)}(I:Inv X pins σ H s)(h:∀ p∈pins',s.heap.get? p.1=some p.2/\H p.1=none/\p.1≠X.env.locals/\p.1∉X.fs/\∀ v,p.2.data≠ .cell v):Inv X pins' σ H s:=
 ⟨I.ok,I.os,I.bare,I.base,I.loc,I.cell,I.free,I.freeC,fun p hp=>(List.mem_append.mp hp).elim (fun z=>I.pin p (mem_append_left _ z)) (h p),I.hok,I.len⟩
theorem zr4 {N:List Str}(z:N.Nodup){i j:Nat}{x:Str}(a:N[i]? =some x)(b:N[j]? =some x):i=j:=by
 obtain⟨h1,e1⟩:=List.getElem?_eq_some_iff.mp a
 obtain⟨h2,e2⟩:=List.getElem?_eq_some_iff.mp b
 exact(getElem_inj z).mp (e1.trans e2.symm)
theorem zp8 {M:Model}{A:Around}{E:Value->Shared->Prop}{i:Nat}{x:Str}{v:V}{u:Value}{Q:Unit->Shared->Prop}(I:Inv X pins σ H s)(hN:X.N.Nodup)(hi:X.N[i]? =some x)(R:Loc X.env.scope x)(r:RelV v u)
  (h:∀ s',Inv X pins (σ.set i (some v)) H s'->(∃ a,Heap.SameBut a s.heap s'.heap/\(a=X.env.locals\/X.env.cells.lookup x=some a))->Q () s') (hf:X.fn x=true\/X.env.scope.names.lookup x=some .local:=by first|exact .inl rfl|exact .inr rfl|assumption):wpAny M A (storeName X.env x u) Q E s:=by
 obtain⟨m,hn,hl⟩:=id I.loc
 have a2:(X.env.scope.kind== .class || (X.env.scope.kind== .module&&X.env.locals != X.env.globals))=false:=by rw[I.ok.kind];rfl
 have U:i<σ.length:=by rw[I.len];exact(List.getElem?_eq_some_iff.mp hi).1
 have cne:=I.cne
 have G:∀{a:Addr}{h':Heap},(∃ o,s.heap.get? a=some o/\H a=none)->Heap.SameBut a s.heap h'->HOk X.prog X.w H h':=fun{a h'} ha hs b ob e=>by
  obtain⟨_,_,S⟩:=ha
  refine(I.hok b ob e).stay (fun c w' O q=>(hs.2 c ?_).trans q) (fun _ q=>q) fun _ _ q=>q
  rintro rfl
  rcases O with rfl|O
  .rw[S]at e;cases e
  .rw[S]at O;cases O
 rcases R with hk|hk
 .refine wpAny_storeName_local hk hn (fun h' a5 hs=>?_) a2
  obtain⟨oL,_,_,a4,_⟩:=id hn
  refine h _ ⟨I.ok,I.os,I.bare,⟨fun b o e n Y R=>?_,fun b o e n Y R=>?_,I.base.free,fun b o e R=>?_,I.base.tups,I.base.frzs,I.base.tbls⟩,⟨_,a5,fun j y v' e1 e2 e3=>?_⟩,fun y c e=>?_,I.free,I.freeC,fun p hp=>?_,G ⟨oL,a4,I.free⟩ hs,by simpa using I.len⟩ ⟨_,hs,.inl rfl⟩
  .exact(hs.2 b (Nat.ne_of_lt (Nat.lt_of_lt_of_le (Heap.lt_size e) I.ok.above))).trans (I.base.keep b o e n Y R)
  .obtain⟨sl,e1⟩:=I.base.slot b o e n Y R
   exact⟨sl,(hs.2 b (Nat.ne_of_lt (Nat.lt_of_lt_of_le (Heap.lt_size e) I.ok.above))).trans e1⟩
  .obtain⟨o',e1⟩:=I.base.there b o e R
   exact⟨o',(hs.2 b (Nat.ne_of_lt (Nat.lt_of_lt_of_le (Heap.lt_size e) I.ok.above))).trans e1⟩
  .by_cases hj:j=i
   .subst hj
    rw[hi]at e1;cases e1
    rw[getElem?_set_self U]at e2
    cases e2
    exact⟨u,r,.inl ⟨hk,by simp⟩⟩
   .rw[getElem?_set_ne (Ne.symm hj)]at e2
    obtain⟨u',r',q⟩:=hl j y v' e1 e2 e3
    refine⟨u',r',?_⟩
    rcases q with⟨k,e⟩|⟨k,c,e,z⟩
    .refine .inl ⟨k,?_⟩
     have:y≠x:=fun e=>hj (zr4 hN e1 (e ▸ hi))
     simp[this,e]
    .exact .inr ⟨k,c,e,z.sameBut hs (cne y c e)⟩
  .obtain⟨w',z⟩:=I.cell y c e
   exact⟨w',z.sameBut hs (cne y c e)⟩
  .obtain⟨e,n,ne,nf,d⟩:=I.pin p hp
   exact⟨(hs.2 p.1 ne).trans e,n,ne,nf,d⟩
 .have hfn:X.fn x=true:=by
   rcases hf with z|z
   .exact z
   .rw[z]at hk;cases hk
  obtain⟨c,O⟩:=I.ok.has x (.inl hk)
  obtain⟨w',z⟩:=I.cell x c O
  refine wpAny_storeName_cell I.ok.kind hk O z (fun h' a3 hs=>?_)
  obtain⟨oc,a1,Z⟩:=id z
  refine h { s with heap:=h' } ⟨I.ok,I.os,I.bare,⟨fun b o e n Y R=>?_,fun b o e n Y R=>?_,I.base.free,fun b o e R=>?_,I.base.tups,I.base.frzs,I.base.tbls⟩,⟨m,hn.sameBut hs (Ne.symm (cne x c O)),fun j y v' e1 e2 e3=>?_⟩,fun y c' e=>?_,I.free,I.freeC,fun p hp=>?_,G ⟨oc,a1,I.freeC x c O⟩ hs,by simpa using I.len⟩ ⟨c,hs,.inr O⟩
  .exact(hs.2 b (Nat.ne_of_lt (Nat.lt_of_lt_of_le (Heap.lt_size e) (I.ok.cab x c hfn O)))).trans (I.base.keep b o e n Y R)
  .obtain⟨sl,e1⟩:=I.base.slot b o e n Y R
   exact⟨sl,(hs.2 b (Nat.ne_of_lt (Nat.lt_of_lt_of_le (Heap.lt_size e) (I.ok.cab x c hfn O)))).trans e1⟩
  .obtain⟨o',e1⟩:=I.base.there b o e R
   exact⟨o',(hs.2 b (Nat.ne_of_lt (Nat.lt_of_lt_of_le (Heap.lt_size e) (I.ok.cab x c hfn O)))).trans e1⟩
  .by_cases hj:j=i
   .subst hj
    rw[hi]at e1;cases e1
    rw[getElem?_set_self U]at e2
    cases e2
    exact⟨u,r,.inr ⟨.inl hk,c,O,a3⟩⟩
   .rw[getElem?_set_ne (Ne.symm hj)]at e2
    obtain⟨u',r',q⟩:=hl j y v' e1 e2 e3
    refine⟨u',r',?_⟩
    rcases q with q|⟨k,c',e,z'⟩
    .exact .inl q
    .refine .inr ⟨k,c',e,z'.sameBut hs ?_⟩
     rintro rfl
     exact hj (zr4 hN e1 (I.ok.inj _ _ _ e O ▸ hi))
  .by_cases hcc:c'=c
   .subst hcc;exact⟨_,a3⟩
   .obtain⟨w2,z2⟩:=I.cell y c' e
    exact⟨w2,z2.sameBut hs hcc⟩
  .obtain⟨e,n,ne,nf,d⟩:=I.pin p hp
   refine⟨(hs.2 p.1 ?_).trans e,n,ne,nf,d⟩
   intro q
   rw[q,a1]at e
   have q':oc=p.2:=Option.some.inj e
   exact d w' (by rw[<-q'];exact Z)
theorem zt2 {M:Model}{A:Around}{E:Value->Shared->Prop}{i:Nat}{x:Str}{v:V}{u:Value}{Q:Unit->Shared->Prop}(I:Inv X pins σ H s)(G:X.N.Nodup)(hi:X.N[i]? =some x)(j:Loc X.env.scope x)(r:RelV v u)
  (h:∀ s',Inv X pins (σ.set i (some v)) H s'->Q () s') (z:X.fn x=true\/X.env.scope.names.lookup x=some .local:=by first|exact .inl rfl|exact .inr rfl|assumption):wpAny M A (storeName X.env x u) Q E s:=
 zp8 I G hi j r (fun s' O _=>h s' O) z
theorem Inv.call' {s':Shared}{ch:List Addr}(I:Inv X pins σ H s)(j:s'.os=s.os)(u:Un (frs X.stack) ch H H' s.heap s'.heap)(hok:HOk X.prog X.w H' s'.heap)(z:AllBare s'.gens)
  (i:∀ b∈ch,(b∈X.ex\/X.s₀.heap.objs.size<=b)/\b≠X.env.locals/\(∀ x c,X.env.cells.lookup x=some c->c≠b)/\∀ p∈X.pn++pins,p.1≠b):Inv X pins σ H' s':=by
 obtain⟨h',g',d',t',o'⟩:=s'
 have e:o'=s.os:=j
 subst e
 exact I.call (g':=g') (t':=t') (d':=d') u hok z i
end
noncomputable abbrev XK:=Value->Option Addr->Hp->Prop
noncomputable abbrev St:=List (Option V)
noncomputable abbrev VK:=V->Hp->Prop
noncomputable abbrev TE:=St->Hp->VK->Prop
noncomputable abbrev TT:=St->Hp->(Bool->Hp->Prop)->Prop
noncomputable abbrev TA:=St->Hp->(List V->Hp->Prop)->Prop
structure Ends where
 nx:St->Hp->Prop
 rt:VK
 bk:St->Hp->Prop:=fun _ _=>False
 ct:St->Hp->Prop:=fun _ _=>False
noncomputable abbrev TS:=Ends->St->Hp->Prop
def EP (X:Cx)(pins:List (Addr×Obj))(σ:St)(Q:VK)(u:Value)(s':Shared):Prop:=∃ v H',Inv X pins σ H' s'/\RelV v u/\Q v H'
def TP (X:Cx)(pins:List (Addr×Obj))(σ:St)(Q:Bool->Hp->Prop)(b:Bool)(s':Shared):Prop:=∃ H',Inv X pins σ H' s'/\Q b H'
def AP (X:Cx)(pins:List (Addr×Obj))(σ:St)(Q:List V->Hp->Prop)(us:List Value)(s':Shared):Prop:=∃ vs H',Inv X pins σ H' s'/\Vals vs us/\Q vs H'
def SP (X:Cx)(pins:List (Addr×Obj))(D:Ends)(f:Flow)(s':Shared):Prop:=
 match f with
 | .next=>∃ σ' H',Inv X pins σ' H' s'/\D.nx σ' H'
 | .brk=>∃ σ' H',Inv X pins σ' H' s'/\D.bk σ' H'
 | .cont=>∃ σ' H',Inv X pins σ' H' s'/\D.ct σ' H'
 | .ret u=>∃ v σ' H',Inv X pins σ' H' s'/\RelV v u/\D.rt v H'
def PE (X:Cx)(e:Expr)(t:TE):Prop:=
 ∀(pins:List (Addr×Obj))(s:Shared)(σ:St)(H:Hp)(Q:VK),Inv X pins σ H s->t σ H Q->wpAny (model X.prog X.w) X.A (eval e X.env) (EP X pins σ Q) X.xe s
def PT (X:Cx)(e:Expr)(t:TT):Prop:=
 ∀(pins:List (Addr×Obj))(s:Shared)(σ:St)(H:Hp)(Q:Bool->Hp->Prop),Inv X pins σ H s->t σ H Q->wpAny (model X.prog X.w) X.A (isTrue e X.env (eval e X.env)) (TP X pins σ Q) X.xe s
def PW (X:Cx)(e:Expr)(t:TT):Prop:=
 ∀(whole:Sem Value)(pins:List (Addr×Obj))(s:Shared)(σ:St)(H:Hp)(Q:Bool->Hp->Prop),Inv X pins σ H s->t σ H Q->wpAny (model X.prog X.w) X.A (isTrue e X.env whole) (TP X pins σ Q) X.xe s
theorem PW.pt {X:Cx}{e:Expr}{t:TT}(h:PW X e t):PT X e t:=h _
def PA (X:Cx)(es:List Expr)(t:TA):Prop:=
 ∀(pos:Pos)(pins:List (Addr×Obj))(s:Shared)(σ:St)(H:Hp)(Q:List V->Hp->Prop),Inv X pins σ H s->t σ H Q->wpAny (model X.prog X.w) X.A (spliced (backTo pos (starEach es X.env))) (AP X pins σ Q) X.xe s
def PS (X:Cx)(st:Stmt)(t:TS):Prop:=
 ∀(pins:List (Addr×Obj))(s:Shared)(σ:St)(H:Hp)(D:Ends),Inv X pins σ H s->t D σ H->wpAny (model X.prog X.w) X.A (exec st X.env) (SP X pins D) X.xe s
def PSs (X:Cx)(st:List Stmt)(t:TS):Prop:=
 ∀(pins:List (Addr×Obj))(s:Shared)(σ:St)(H:Hp)(D:Ends),Inv X pins σ H s->t D σ H->wpAny (model X.prog X.w) X.A (execs st X.env) (SP X pins D) X.xe s
theorem thn {i:Type}{t:Sem i}{Q j:i->Shared->Prop}{M:Model}{A:Around}{E:Value->Shared->Prop}{s:Shared}(h:wpAny M A t Q E s)(z:∀ a s,Q a s->j a s):wpAny M A t j E s:=wpAny_mono h z fun _ _ x=>x
end
section
section
variable {X:Cx}
def tVar (i:Nat):TE:=fun σ H Q=>∃ v,σ[i]? =some (some v)/\Q v H
def tC (v:V):TE:=fun _ H Q=>Q v H
theorem xj7 {i:Nat}{x:Str}{pos:Pos}(S:X.N[i]? =some x)(O:Vis X.env.scope x)(hd:(x==("__debug__":Str))=false:=by decide)(z:(x==("__classdict__":Str))=false:=by decide):PE X (.Name x pos) (tVar i):=by
 intro pins s σ H Q I h
 obtain⟨v,e,h⟩:=h
 obtain⟨m,hn,R⟩:=I.loc
 obtain⟨u,r,l⟩:=R i x v S e O
 have fin:EP X pins σ Q u s:=⟨v,H,I,r,h⟩
 rcases l with⟨hk,hm⟩|⟨hk,c,G,j⟩
 .exact wpAny_Name (wpAny_loadName_local I.ok.kind hk hn hm fin) hd
 .rcases hk with hk|hk
  .exact wpAny_Name (wpAny_loadName_cell I.ok.kind hk G j fin) hd
  .exact wpAny_Name (wpAny_loadName_free I.ok.kind hk G j fin z) hd
theorem pe_int {i j pos}:PE X (.Constant (.int i) j pos) (tC (.int i)):=fun _ _ _ H _ I h=>wpAny_Constant_int ⟨.int i,H,I.tok _,⟨_,rfl⟩,h⟩
theorem pe_bl {b j pos}:PE X (.Constant (.bool b) j pos) (tC (.bl b)):=fun _ _ _ H _ I h=>Constant_bool ⟨.bl b,H,I,rfl,h⟩
theorem pe_non {j pos}:PE X (.Constant .none j pos) (tC .non):=fun _ _ _ H _ I h=>Constant_none ⟨.non,H,I,rfl,h⟩
theorem pe_str {x j pos}:PE X (.Constant (.str x) j pos) (tC (.str x)):=fun _ _ _ H _ I h=>Calls.Constant_str ⟨.str x,H,I.tok _,⟨_,rfl⟩,h⟩
def Gl (X:Cx)(x:Str):Prop:=X.env.kindOf x=some .globalImplicit
theorem N0 {E:Value->Shared->Prop}{pins:List (Addr×Obj)}{s:Shared}{σ:St}{H:Hp}{x:Str}{u:Value}{pos:Pos}{Q:Value->Shared->Prop}(I:Inv X pins σ H s)(i:Gl X x)(hm:X.mg x=some u)(h:Q u s)
  (hd:(x==("__debug__":Str))=false:=by decide):wpAny (model X.prog X.w) X.A (eval (.Name x pos) X.env) Q E s:=
 Calls.Name_function_global I.ok.kind i (Calls.loadGlobal_global (by rw[I.ok.glob];exact I.mod.glob.keeps I.bk) hm h) hd
theorem O3 {E:Value->Shared->Prop}{pins:List (Addr×Obj)}{s:Shared}{σ:St}{H:Hp}{x:Str}{u:Value}{pos:Pos}{Q:Value->Shared->Prop}(I:Inv X pins σ H s)(j:Gl X x)(hm:X.mg x=none)(i:bootBuiltins x=some u)(h:Q u s)
  (hn:x≠"__name__":=by decide) (hd:(x==("__debug__":Str))=false:=by decide):wpAny (model X.prog X.w) X.A (eval (.Name x pos) X.env) Q E s:=by
 obtain⟨mb,h1,h2⟩:=I.mod.blt
 exact Calls.Name_function_global I.ok.kind j (Calls.loadGlobal_builtin (by rw[I.ok.glob];exact I.mod.glob.keeps I.bk) hm (by rw[I.ok.blt];exact h1.keeps I.bk) ((h2 x hn).trans i) h) hd
theorem zs7 {x:Str}{v:V}{u:Value}{pos:Pos}(i:Gl X x)(hm:X.mg x=some u)(r:RelV v u)(hd:(x==("__debug__":Str))=false:=by decide):PE X (.Name x pos) (tC v):=
 fun _ _ _ H _ I h=>N0 I i hm ⟨v,H,I,r,h⟩ hd
variable {a b:Expr}{ta tb:TE}{pos:Pos}
def tB (t:TE):TT:=fun σ H Q=>t σ H fun x H1=>∃ c,x= .bl c/\Q c H1
variable {tA tB':TT}{rest:List Expr}
def tAnd (t u:TT):TT:=fun σ H Q=>t σ H fun c H1=>if c=true then u σ H1 Q else Q false H1
def tOr (t u:TT):TT:=fun σ H Q=>t σ H fun c H1=>if c=true then Q true H1 else u σ H1 Q
def tNot (t:TT):TT:=fun σ H Q=>t σ H fun c H1=>Q (!c) H1
theorem xt6 (ha:PT X a tA):PW X (.BoolOp .And [a] pos) tA:=by
 intro i pins s σ H Q I h
 refine isTrue_and (thn (ha pins s σ H Q I h) fun c s1 e=>?_)
 cases c with
 |true=>exact isTrue_and_nil e
 |false=>exact e
theorem xj0 (ha:PT X a tA):PW X (.BoolOp .Or [a] pos) tA:=by
 intro i pins s σ H Q I h
 refine isTrue_or (thn (ha pins s σ H Q I h) fun c s1 e=>?_)
 cases c with
 |false=>exact isTrue_or_nil e
 |true=>exact e
theorem xj1 (ha:PT X a tA)(N:PW X (.BoolOp .And (b::rest) pos) tB'):PW X (.BoolOp .And (a::b::rest) pos) (tAnd tA tB'):=by
 intro G pins s σ H Q I h
 refine isTrue_and (thn (ha pins s σ H _ I h) fun c s1 i=>?_)
 obtain⟨H1,z,j⟩:=i
 cases c with
 |true=>exact N G pins s1 σ H1 Q z j
 |false=>exact⟨H1,z,j⟩
theorem xb8 (ha:PT X a tA)(N:PW X (.BoolOp .Or (b::rest) pos) tB'):PW X (.BoolOp .Or (a::b::rest) pos) (tOr tA tB'):=by
 intro G pins s σ H Q I h
 refine isTrue_or (thn (ha pins s σ H _ I h) fun c s1 i=>?_)
 obtain⟨H1,z,j⟩:=i
 cases c with
 |true=>exact⟨H1,z,j⟩
 |false=>exact N G pins s1 σ H1 Q z j
theorem xx5 (ha:PT X a tA):PT X (.UnaryOp .Not a pos) (tNot tA):=by
 intro pins s σ H Q I h
 exact isTrue_not (ha pins s σ H (fun c H1=>Q (!c) H1) I h)
def xb0 (ta tb:TE):TE:=fun σ H Q=>ta σ H fun x H1=>∃ c,x= .bl c/\if c=true then tb σ H1 Q else Q (.bl false) H1
def xc7 (ta:TE):TE:=fun σ H Q=>ta σ H fun x H1=>∃ c,x= .bl c/\Q (.bl (!c)) H1
theorem xj8 {op}{t:TE}(h:PE X a t):PE X (.BoolOp op [a] pos) t:=fun pins s σ H Q I hw=>BoolOp_one (h pins s σ H Q I hw)
theorem xi0 (ha:PE X a ta)(N:PE X (.BoolOp .And (b::rest) pos) tb):PE X (.BoolOp .And (a::b::rest) pos) (xb0 ta tb):=by
 intro pins s σ H Q I h
 refine BoolOp_and (thn (ha pins s σ H _ I h) fun v s1 i=>?_)
 obtain⟨x,H1,z,G,j⟩:=i
 obtain⟨c,rfl,j⟩:=j
 cases G
 refine wpAny_truthy_bool ?_
 cases c with
 |true=>exact N pins s1 σ H1 Q z j
 |false=>exact⟨.bl false,H1,z,rfl,j⟩
theorem xj9 (ha:PE X a ta):PE X (.UnaryOp .Not a pos) (xc7 ta):=by
 intro pins s σ H Q I h
 refine UnaryOp_ (thn (ha pins s σ H _ I h) fun v s1 i=>?_)
 obtain⟨x,H1,G,z,j⟩:=i
 obtain⟨c,rfl,j⟩:=j
 cases z
 exact not_of (wpAny_truthy_bool ⟨.bl (!c),H1,G,rfl,j⟩)
def tIf (t:TT)(ta tb:TE):TE:=fun σ H Q=>t σ H fun c H1=>if c=true then ta σ H1 Q else tb σ H1 Q
theorem yc0 {c:Expr}(G:PT X c tA)(ha:PE X a ta)(N:PE X b tb):PE X (.IfExp c a b pos) (tIf tA ta tb):=by
 intro pins s σ H Q I h
 refine wpAny_IfExp (thn (G pins s σ H _ I h) fun d s1 i=>?_)
 obtain⟨H1,z,j⟩:=i
 cases d with
 |true=>exact ha pins s1 σ H1 Q z j
 |false=>exact N pins s1 σ H1 Q z j
end
end
section
def SqL (K:W.Frag)(H:Hp)(a:Addr)(xs:List V):Prop:=
 Rd H a (.lst xs)\/
  ∃(o:Obj)(its:Array Value)(n:Nat),K.lookup a=some o/\o.cls= .type "list"/\o.dict=none/\o.data= .seq its n/\its.size<=sizeLine/\Vals xs its.toList
def SqT (K:W.Frag)(H:Hp)(a:Addr)(xs:List V):Prop:=
 Rd H a (.tup xs)\/
  ∃(o:Obj)(its:Array Value)(n:Nat),K.lookup a=some o/\o.cls= .type "tuple"/\o.data= .seq its n/\its.size<=sizeLine/\Vals xs its.toList
noncomputable def absV:Value->Option V
 | .none=>some .non
 | .bool b=>some (.bl b)
 | .int i _=>some (.int i)
 | .str x _=>some (.str x)
 | .bytes b _=>some (.byt b)
 | .float b _=>some (.flt b)
 | .ref a=>some (.ref a)
 | .type n=>some (.ty n)
 |_=>none
theorem RelV.abs {x:V}{u:Value}(r:RelV x u):absV u=some x:=by
 cases x with
 |non=>cases r;rfl
 |bl _=>cases r;rfl
 |int _=>obtain⟨t,rfl⟩:=r;rfl
 |str _=>obtain⟨t,rfl⟩:=r;rfl
 |byt _=>obtain⟨t,rfl⟩:=r;rfl
 |flt _=>obtain⟨t,rfl⟩:=r;rfl
 |ref _=>cases r;rfl
 |ty _=>cases r;rfl
theorem RelV.inj {x y:V}{u:Value}(r:RelV x u)(q:RelV y u):x=y:=Option.some.inj (r.abs.symm.trans q.abs)
theorem Vals.inj:∀{xs ys:List V}{us:List Value},Vals xs us->Vals ys us->xs=ys
 |_,_,_,.nil,.nil=>rfl
 |_,_,_,.cons r t,.cons r' t'=>by rw[r.inj r',Vals.inj t t']
section
variable {X:Cx}{pins:List (Addr×Obj)}{σ:St}{H:Hp}{s:Shared}{a:Addr}{xs ys:List V}
theorem SqL.of {K:W.Frag}(h:H a=some (.lst xs)):SqL K H a xs:=.inl (.inl h)
theorem SqT.of {K:W.Frag}(h:H a=some (.tup xs)):SqT K H a xs:=.inl (.inl h)
theorem Inv.list (I:Inv X pins σ H s)(h:SqL X.K H a xs):∃ its:List Value,Vals xs its/\PlainL s.heap a its.toArray/\xs.length<=sizeLine:=by
 rcases h with h|⟨o,its,n,hk,i,hd,hs,j,r⟩
 .obtain⟨z,its,n,r,e⟩:=h.ok I.hok
  exact⟨its,r,⟨_,n,e,rfl,rfl,rfl⟩,z⟩
 .refine⟨its.toList,r,⟨o,n,I.kIn a o hk,i,hd,by simpa using hs⟩,?_⟩
  have e:=r.length
  simp only[Array.length_toList]at e
  omega
theorem Inv.tuple (I:Inv X pins σ H s)(h:SqT X.K H a xs):∃ its:List Value,Vals xs its/\IsTup s.heap a its.toArray/\xs.length<=sizeLine:=by
 rcases h with h|⟨o,its,n,hk,i,hs,j,r⟩
 .obtain⟨z,its,r,p⟩:=h.ok I.hok
  exact⟨its,r,p,z⟩
 .refine⟨its.toList,r,⟨o,I.kIn a o hk,i,n,by simpa using hs⟩,?_⟩
  have e:=r.length
  simp only[Array.length_toList]at e
  omega
theorem Inv.list_inj (I:Inv X pins σ H s)(h:SqL X.K H a xs)(h':SqL X.K H a ys):xs=ys:=by
 obtain⟨its,r,⟨o,n,e,_,_,d⟩,_⟩:=I.list h
 obtain⟨its',j,⟨o',n',i,_,_,d'⟩,_⟩:=I.list h'
 rw[e]at i;cases i
 rw[d]at d'
 injection d' with z _
 have:its=its':=by simpa using congrArg Array.toList z
 subst this
 exact r.inj j
theorem Inv.tuple_inj (I:Inv X pins σ H s)(h:SqT X.K H a xs)(h':SqT X.K H a ys):xs=ys:=by
 obtain⟨its,r,⟨o,e,_,n,d⟩,_⟩:=I.tuple h
 obtain⟨its',j,⟨o',i,_,n',d'⟩,_⟩:=I.tuple h'
 rw[e]at i;cases i
 rw[d]at d'
 injection d' with z _
 have:its=its':=by simpa using congrArg Array.toList z
 subst this
 exact r.inj j
end
noncomputable abbrev Cx.wish (X:Cx)(E:Value->Shared->Prop):Cx:={ X with xe:=E }
noncomputable abbrev Cx.nox (X:Cx):Cx:=X.wish fun _ _=>False
theorem Cx.Ok.wish {X:Cx}(ok:X.Ok)(E:Value->Shared->Prop):(X.wish E).Ok:=
 ⟨ok.mod,ok.kind,ok.glob,ok.blt,ok.above,ok.inj,ok.has,ok.cab,ok.hd,ok.frames,ok.stk,ok.exf,ok.bs,ok.bsz,ok.noex,ok.exfs,ok.funs,ok.frf⟩
theorem Cx.Ok.unwish {X:Cx}{E:Value->Shared->Prop}(ok:(X.wish E).Ok):X.Ok:=
 ⟨ok.mod,ok.kind,ok.glob,ok.blt,ok.above,ok.inj,ok.has,ok.cab,ok.hd,ok.frames,ok.stk,ok.exf,ok.bs,ok.bsz,ok.noex,ok.exfs,ok.funs,ok.frf⟩
section
variable {X:Cx}{pins:List (Addr×Obj)}{σ:St}{H:Hp}{s:Shared}{E:Value->Shared->Prop}
theorem Inv.wish (I:Inv X pins σ H s)(E:Value->Shared->Prop):Inv (X.wish E) pins σ H s:=⟨I.ok.wish E,I.os,I.bare,I.base,I.loc,I.cell,I.free,I.freeC,I.pin,I.hok,I.len⟩
theorem Inv.unwish (I:Inv (X.wish E) pins σ H s):Inv X pins σ H s:=⟨I.ok.unwish,I.os,I.bare,I.base,I.loc,I.cell,I.free,I.freeC,I.pin,I.hok,I.len⟩
theorem SP.unwish {D:Ends}{f:Flow}{s':Shared}(h:SP (X.wish E) pins D f s'):SP X pins D f s':=by
 cases f with
 |next=>obtain⟨i,H',I,q⟩:=h;exact⟨i,H',I.unwish,q⟩
 |brk=>obtain⟨i,H',I,q⟩:=h;exact⟨i,H',I.unwish,q⟩
 |cont=>obtain⟨i,H',I,q⟩:=h;exact⟨i,H',I.unwish,q⟩
 |ret u=>obtain⟨v,i,H',I,r,q⟩:=h;exact⟨v,i,H',I.unwish,r,q⟩
theorem PSs.nox {st:List Stmt}{t:TS}(h:PSs X.nox st t):PSs X st t:=fun pins s σ H D I hw=>
 wpAny_mono (h pins s σ H D (I.wish _) hw) (fun _ _ q=>q.unwish) fun _ _ z=>False.elim z
end
section
variable {X:Cx}{st:Stmt}{rest:List Stmt}{t u:TS}{e:Expr}{te:TE}{pos:Pos}
def xc8:TS:=fun D σ H=>D.nx σ H
def tSeq (t u:TS):TS:=fun D σ H=>t { D with nx:=u D } σ H
theorem pss_nil:PSs X [] xc8:=fun _ _ σ H _ I h=>wpAny_execs_nil ⟨σ,H,I,h⟩
theorem M6 (h1:PS X st t)(h2:PSs X rest u):PSs X (st::rest) (tSeq t u):=by
 intro pins s σ H D I h
 refine wpAny_execs_cons (thn (h1 pins s σ H { D with nx:=u D } I h) fun f s1 q=>?_)
 cases f with
 |next=>
  obtain⟨i,H',j,q⟩:=q
  exact h2 pins s1 i H' D j q
 |ret v=>exact q
 |brk=>exact q
 |cont=>exact q
theorem zs2 (h1:PS X st t):PSs X [st] t:=by
 intro pins s σ H D I h
 refine wpAny_execs_cons (thn (h1 pins s σ H D I h) fun f s1 q=>?_)
 cases f with
 |next=>exact wpAny_execs_nil q
 |ret v=>exact q
 |brk=>exact q
 |cont=>exact q
theorem Inv.quiet {pins:List (Addr×Obj)}{σ:St}{H:Hp}{s:Shared}(I:Inv X pins σ H s):interactive X.env=false:=by simp[interactive,I.ok.kind]
def xm8 (te:TE):TS:=fun D σ H=>te σ H fun _ H1=>D.nx σ H1
theorem Y8 (j:PE X e te)(hs:swapsWith e none pos.line X.env=pure false:=by rfl):PS X (.Expr e pos) (xm8 te):=by
 intro pins s σ H D I h
 exact wpAny_Expr_any (thn (j pins s σ H _ I h) fun v s1 ⟨x,H1,z,G,i⟩=>⟨σ,H1,z,i⟩) I.quiet hs
def tRet (te:TE):TS:=fun D σ H=>te σ H D.rt
theorem U9 (z:PE X e te):PS X (.Return (some e) pos) (tRet te):=by
 intro pins s σ H D I h
 exact wpAny_Return_some (thn (z pins s σ H _ I h) fun v s1 ⟨x,H1,G,i,j⟩=>⟨x,σ,H1,G,i,j⟩)
def tIfS (c:TT)(t u:TS):TS:=fun D σ H=>c σ H fun b H1=>if b=true then t D σ H1 else u D σ H1
theorem yq7 {c:Expr}{a b:List Stmt}{tc:TT}(G:PT X c tc)(ha:PSs X a t)(N:PSs X b u):PS X (.If c a b pos) (tIfS tc t u):=by
 intro pins s σ H D I h
 refine wpAny_If (thn (G pins s σ H _ I h) fun d s1 i=>?_)
 obtain⟨H1,z,j⟩:=i
 cases d with
 |true=>exact ha pins s1 σ H1 D z j
 |false=>exact N pins s1 σ H1 D z j
def xm5:TS:=fun _ _ _=>False
theorem ps_never:PS X st xm5:=fun _ _ _ _ _ _ h=>h.elim
end
noncomputable abbrev TG:=V->St->Hp->(St->Hp->Prop)->Prop
noncomputable abbrev TGs:=List V->St->Hp->(St->Hp->Prop)->Prop
def PG (X:Cx)(target:Expr)(t:TG):Prop:=
 ∀(pins:List (Addr×Obj))(s:Shared)(σ:St)(H:Hp)(v:V)(u:Value)(Q:St->Hp->Prop),Inv X pins σ H s->RelV v u->t v σ H Q->
  wpAny (model X.prog X.w) X.A (assign target X.env u) (fun _ s'=>∃ σ' H',Inv X pins σ' H' s'/\Q σ' H') X.xe s
def PGs (X:Cx)(ts:List Expr)(t:TGs):Prop:=
 ∀(pins:List (Addr×Obj))(s:Shared)(σ:St)(H:Hp)(vs:List V)(us:List Value)(Q:St->Hp->Prop),Inv X pins σ H s->Vals vs us->t vs σ H Q->
  wpAny (model X.prog X.w) X.A (assignInOrder ((assignEach ts X.env).map (·.2)) us) (fun _ s'=>∃ σ' H',Inv X pins σ' H' s'/\Q σ' H') X.xe s
noncomputable abbrev TSet:=V->V->V->Hp->(Hp->Prop)->Prop
def PSet (X:Cx)(t:TSet):Prop:=
 ∀(pins:List (Addr×Obj))(s:Shared)(σ:St)(H:Hp)(o i v:V)(ov iv u:Value)(Q:Hp->Prop),Inv X pins σ H s->RelV o ov->RelV i iv->RelV v u->t o i v H Q->
  wpAny (model X.prog X.w) X.A (setItem ov iv u) (fun _ s'=>∃ H',Inv X pins σ H' s'/\Q H') X.xe s
section
variable {X:Cx}{pos:Pos}
def zy2 (i:Nat):TG:=fun v σ H Q=>Q (σ.set i (some v)) H
theorem w8 {i:Nat}{x:Str}(G:X.N.Nodup)(hi:X.N[i]? =some x)(j:Loc X.env.scope x)(z:X.fn x=true\/X.env.scope.names.lookup x=some .local:=by first|exact .inl rfl|exact .inr rfl|assumption):PG X (.Name x pos) (zy2 i):=by
 intro pins s σ H v u Q I r h
 exact wpAny_assign_Name (zt2 I G hi j r (fun s' O=>⟨_,H,O,h⟩) z)
def gNil:TGs:=fun vs σ H Q=>vs=[]/\Q σ H
def xf8 (t:TG)(u:TGs):TGs:=fun vs σ H Q=>∃ v r,vs=v::r/\t v σ H fun σ' H'=>u r σ' H' Q
theorem f8:PGs X [] gNil:=by
 intro pins s σ H vs us Q I r h
 obtain⟨e,h⟩:=h
 subst e
 cases r
 exact assignInOrder_nil ⟨σ,H,I,h⟩
theorem v7 {e:Expr}{es:List Expr}{t:TG}{u:TGs}(h1:PG X e t)(h2:PGs X es u)
  (hs:(assignEach (e::es) X.env).map (·.2)=assign e X.env::(assignEach es X.env).map (·.2):=by rfl):PGs X (e::es) (xf8 t u):=by
 intro pins s σ H vs us Q I r h
 obtain⟨v,O,e1,h⟩:=h
 subst e1
 cases r with
 |cons r z=>
  rw[hs]
  refine assignInOrder_cons (thn (h1 pins s σ H _ _ _ I r h) fun _ s1 i=>?_)
  obtain⟨j,H1,N,G⟩:=i
  exact h2 pins s1 j H1 _ _ Q N z G
def gTup (K:W.Frag)(n:Nat)(t:TGs):TG:=fun v σ H Q=>∃ a xs,v= .ref a/\SqT K H a xs/\xs.length=n/\t xs σ H Q
theorem Y4 {es:List Expr}{k:Nat}{t:TGs}{n:Nat}(R:X.calm=true)(h:PGs X es t)
  (hn:(assignEach es X.env).length=n:=by rfl) (i:(assignEach es X.env).findIdx? (·.1)=none:=by rfl):PG X (.Tuple es k pos) (gTup X.K n t):=by
 intro pins s σ H v u Q I r hw
 obtain⟨a,xs,e1,N,O,hw⟩:=hw
 subst e1
 cases r
 obtain⟨its,j,G,U⟩:=I.tuple N
 refine assign_Tuple_tuple (I.ok.hd R) G (by simp[hn,<-O,j.length]) i fun h' z=>?_
 have S:Inv X pins σ H { s with heap:=h' }:=I.kept (t':=s.toks) fun b o e=>z b o (Nat.ne_of_lt (Heap.lt_size e)) e
 exact h pins _ σ H xs _ Q S (by simpa using j) hw
def gSub (to ti:TE)(t:TSet):TG:=fun v σ H Q=>to σ H fun o H1=>ti σ H1 fun i H2=>t o i v H2 fun H3=>Q σ H3
theorem zv7 {o i:Expr}{to N:TE}{t:TSet}(Z:PE X o to)(hi:PE X i N)(hs:PSet X t)
  (ha:∀ v,assign (.Subscript o i pos) X.env v=(do
   let z ← holding [v] (eval o X.env)
   let G ← holding [v,z] (eval i X.env)
   standAt pos
   holding [v,z,G] (setItem z G v)
   release [v,z,G] []):=by intro _;rfl):PG X (.Subscript o i pos) (gSub to N t):=by
 intro pins s σ H v u Q I r h
 rw[ha]
 refine wpAny_bind (wpAny_holding (thn (Z pins s σ H _ I h) fun z s1 j=>?_))
 obtain⟨x,H1,I1,R,Y⟩:=j
 refine wpAny_bind (wpAny_holding (thn (hi pins s1 σ H1 _ I1 Y) fun G s2 j=>?_))
 obtain⟨y,H2,I2,O,U⟩:=j
 refine wpAny_bind (wpAny_standAt (wpAny_bind (wpAny_holding (thn (hs pins s2 σ H2 x y v z G u _ I2 R O r U) fun _ s3 j=>?_))))
 obtain⟨H3,I3,S⟩:=j
 exact wpAny_release ⟨σ,H3,I3,S⟩
def tAsg (te:TE)(g:TG):TS:=fun D σ H=>te σ H fun x H1=>g x σ H1 D.nx
theorem Y3 {tg e:Expr}{te:TE}{g:TG}(N:PE X e te)(G:PG X tg g)(hs:swapsWithSole [tg] e pos.line X.env=pure false:=by rfl)(hw:swappedStores [tg] e X.env=pure none:=by rfl)
  (h1:(assignEach [tg] X.env).map (·.2)=[assign tg X.env]:=by rfl):PS X (.Assign [tg] e pos) (tAsg te g):=by
 intro pins s σ H D I h
 refine wpAny_Assign_stores (thn (N pins s σ H _ I h) fun v s1 i=>?_) hs hw
 obtain⟨x,H1,O,j,z⟩:=i
 rw[h1]
 exact thn (G pins s1 σ H1 x v _ O j z) fun _ s2 q=>q
theorem zv5 {i:Nat}{x:Str}{e:Expr}{te:TE}{pos':Pos}(U:X.N.Nodup)(hi:X.N[i]? =some x)(O:Loc X.env.scope x)(S:PE X e te)(hs:swapsWith e (some (.Name x pos')) pos.line X.env=pure false:=by rfl)(R:X.fn x=true\/X.env.scope.names.lookup x=some .local:=by first|exact .inl rfl|exact .inr rfl|assumption):
  PS X (.Assign [.Name x pos'] e pos) (tAsg te (zy2 i)):=by
 intro pins s σ H D I h
 refine wpAny_Assign_Name (thn (S pins s σ H _ I h) fun v s1 j=>?_) hs
 obtain⟨y,H1,Z,z,G⟩:=j
 exact zt2 Z U hi O z (fun s2 Y=>⟨_,H1,Y,G⟩) R
end
section
variable {X:Cx}{pos:Pos}
def xm4 (c:TT)(tb:TS):TS:=fun D σ H=>∃ W:Nat->St->Hp->Prop,(∃ m,W m σ H)/\∀ m σ H,W m σ H->
 c σ H fun b H1=>if b=true then ∃ N:St->Hp->Prop,(∀ σ' H',N σ' H'->∃ m',m'<m/\W m' σ' H')/\tb { D with nx:=N,ct:=N,bk:=D.nx } σ H1 else D.nx σ H1
theorem yd4 {c:Expr}{body:List Stmt}{tc:TT}{tb:TS}(hp:PassesOwn (model X.prog X.w) X.A X.env X.xe)(hc:PT X c tc)(hb:PSs X body tb):PS X (.While c body [] pos) (xm4 tc tb):=by
 intro pins s σ H D I h
 obtain⟨W,⟨m0,w0⟩,turn⟩:=h
 refine wpAny_While (codeAny_whileLoop (fun n s'=>∃ z H',Inv X pins z H' s'/\W n z H') ?_ m0 ⟨σ,H,I,w0⟩)
 rintro n s1 ⟨j,H1,I1,w1⟩
 refine wpAny_passesOwn hp (thn (hc pins s1 j H1 _ I1 (turn n j H1 w1)) fun b s2 G=>?_)
 obtain⟨H2,I2,S⟩:=G
 cases b with
 |true=>
  obtain⟨N,hN,S⟩:=S
  rw[if_pos rfl]
  refine wpAny_passesOwn hp (thn (hb pins s2 j H2 _ I2 S) fun f s3 R=>?_)
  cases f with
  |next=>
   obtain⟨i,O,Z,n3⟩:=R
   obtain⟨Y,hm,U⟩:=hN i O n3
   exact⟨Y,hm,i,O,Z,U⟩
  |cont=>
   obtain⟨i,O,Z,n3⟩:=R
   obtain⟨Y,hm,U⟩:=hN i O n3
   exact⟨Y,hm,i,O,Z,U⟩
  |brk=>exact R
  |ret v=>exact R
 |false=>
  rw[if_neg Bool.false_ne_true]
  exact wpAny_execs_nil ⟨j,H2,I2,S⟩
end
structure It where
 go:Nat->Hp->Prop
 yld:Nat->Hp->V->Hp->Prop
 stop:Nat->Hp->Prop
def FpOk (X:Cx)(pins:List (Addr×Obj))(H:Hp)(b:Addr):Prop:=
 H b=none/\b≠X.env.locals/\b∉X.fs/\(b∈X.ex\/X.s₀.heap.objs.size<=b)/\(∀ x c,X.env.cells.lookup x=some c->c≠b)/\∀ p∈X.pn++pins,p.1≠b
theorem Inv.fpOk {X:Cx}{pins:List (Addr×Obj)}{σ:St}{H H':Hp}{s:Shared}{b:Addr}(I:Inv X pins σ H s)(i:s.heap.objs.size<=b)(hn:H' b=none):FpOk X pins H' b:=by
 refine⟨hn,Nat.ne_of_gt (Nat.lt_of_lt_of_le I.lt i),I.nofs i,.inr (Nat.le_trans I.sz i),fun x c e z=>?_,fun p hp z=>?_⟩
 .obtain⟨v,q⟩:=I.cell x c e
  exact absurd (Nat.lt_of_lt_of_le q.lt (by rw[z];exact i)) (Nat.lt_irrefl _)
 .exact absurd (Nat.lt_of_lt_of_le (Heap.lt_size (I.pin p hp).1) (by rw[z];exact i)) (Nat.lt_irrefl _)
structure TurnC (cx:Cx->Prop)(P:Program)(w:World)(K:W.Frag)(tg:Expr)(J:It)(fp:List Addr)(it:Addr)(tn:Nat->Heap->Prop):Prop where
 mem:it∈fp
 obj:∀ i h,tn i h->∀ b∈fp,∃ o,h.get? b=some o/\∀ v,o.data≠ .cell v
 keep:∀ i h h',tn i h->(∀ b∈fp,∀ o,h.get? b=some o->h'.get? b=some o)->tn i h'
 item:∀(X:Cx),X.prog=P->X.w=w->X.K=K->cx X->∀(i:Nat)(pins:List (Addr×Obj))(s:Shared)(σ:St)(H:Hp)(E:Value->Shared->Prop),Inv X pins σ H s->(∀ b∈fp,FpOk X pins H b)->tn i s.heap->J.go i H->
  wpAny (model P w) X.A (pyNext (.ref it)) (fun r s1=>∃ u,r=some u/\
   wpAny (model P w) X.A (letOwnedTupleGo tg (.ref it) u) (fun _ s2=>∃ x H',Inv X pins σ H' s2/\RelV x u/\J.yld i H x H'/\tn (i+1) s2.heap/\∀ b∈fp,H' b=none) E s1) E s
 done:∀(X:Cx),X.prog=P->X.w=w->X.K=K->cx X->∀(i:Nat)(pins:List (Addr×Obj))(s:Shared)(σ:St)(H:Hp)(E:Value->Shared->Prop),Inv X pins σ H s->(∀ b∈fp,FpOk X pins H b)->tn i s.heap->J.stop i H->
  wpAny (model P w) X.A (pyNext (.ref it)) (fun r s1=>r=none/\Inv X pins σ H s1) E s
 self:∀(A:Around)(i:Nat)(s:Shared)(Q:Value->Shared->Prop)(E:Value->Shared->Prop),tn i s.heap->Q (.ref it) s->wpAny (model P w) A (pyIter (.ref it)) Q E s
abbrev Turn (P:Program)(w:World)(K:W.Frag)(tg:Expr)(J:It)(fp:List Addr)(it:Addr)(tn:Nat->Heap->Prop):Prop:=TurnC (fun X=>X.calm=true) P w K tg J fp it tn
noncomputable abbrev TI:=St->Hp->(It->Hp->Prop)->Prop
def PIE (X:Cx)(pins:List (Addr×Obj))(σ:St)(tg:Expr)(R:It->Hp->Prop)(itv:Value)(s2:Shared):Prop:=
 ∃(it:Addr)(fp:List Addr)(tn:Nat->Heap->Prop)(J:It)(H':Hp),itv= .ref it/\Inv X pins σ H' s2/\Turn X.prog X.w X.K tg J fp it tn/\tn 0 s2.heap/\(∀ b∈fp,FpOk X pins H' b)/\R J H'
def PI (X:Cx)(tg iter:Expr)(wi:TI):Prop:=
 ∀(pins:List (Addr×Obj))(s:Shared)(σ:St)(H:Hp)(R:It->Hp->Prop),Inv X pins σ H s->wi σ H R->
  wpAny (model X.prog X.w) X.A (eval iter X.env) (fun v s1=>wpAny (model X.prog X.w) X.A (pyIter v) (PIE X pins σ tg R) X.xe s1) X.xe s
theorem xp9 {M:Model}{A:Around}{E:Value->Shared->Prop}{s:Shared}{tg:Expr}{it:Addr}{u:Value}{o:Obj}{n:String}{vs:Array Value}{Q:Unit->Shared->Prop}(j:s.heap.get? it=some o)(z:o.cls= .type n)(hd:o.data= .fields vs)
  (hn:["enumerate","zip","dict_itemiterator","dict_reverseitemiterator","odict_iterator","itertools.zip_longest","itertools.pairwise"].contains n=false) (i:Q () s):wpAny M A (letOwnedTupleGo tg (.ref it) u) Q E s:=by
 unfold letOwnedTupleGo
 cases tg <;> first
  |exact wpAny_pure i
  | (cases u <;> first
    |exact wpAny_pure i
    | (refine wpAny_bind (wpAny_load j ?_)
       rw[z,hd]
       show wpAny M A (if (["enumerate","zip","dict_itemiterator","dict_reverseitemiterator","odict_iterator","itertools.zip_longest","itertools.pairwise"].contains n&&vs[0]? ==some (rawInt _))=true then _ else _) Q E s
       rw[if_neg (by intro h;rw[hn,Bool.false_and]at h;cases h)]
       exact wpAny_pure i))
noncomputable def Itl (K:W.Frag)(a:Addr):It:=
 ⟨fun i H=>∃ xs x,SqL K H a xs/\xs[i]? =some x,fun i H x H'=>H'=H/\∀ xs,SqL K H a xs->xs[i]? =some x,fun i H=>∃ xs,SqL K H a xs/\xs.length<=i⟩
noncomputable def Itr (lo:Int)(n:Nat):It:=⟨fun i _=>i<n,fun i H x H'=>H'=H/\x= .int (lo+i),fun i _=>n<=i⟩
theorem yt8 {P:Program}{w:World}{K:W.Frag}{tg:Expr}(a it:Addr):Turn P w K tg (Itl K a) [it] it (fun i h=>h.IsListIter it a i) where
 mem:=by simp
 obj:=fun i h st b j=>by
  have e:b=it:=by simpa using j
  subst e
  obtain⟨o,e,c,d⟩:=st
  exact⟨o,e,fun v z=>by rw[d]at z;cases z⟩
 keep:=fun i h h' st k=>st.at fun o e=>k it (by simp) o e
 item:=by
  intro X Y hw Z hc i pins s σ H E I O st U
  subst Y hw Z
  obtain⟨xs,x,N,S⟩:=U
  obtain⟨its,R,p,hz⟩:=I.list N
  obtain⟨u,hu,ru⟩:=R.get S
  obtain⟨f0,f1,f2,f3,f4,f5⟩:=O it (by simp)
  refine wpAny_pyNext_list_item st p.isList (x:=u) (by simpa using hu) fun h' G sb=>?_
  have I1:Inv X pins σ H { s with heap:=h' }:=I.turned (t':=s.toks) (fun b o j e=>(sb.2 b j).trans e) f0 f1 f3 f4 f5
  obtain⟨o,e,c,d⟩:=id G
  exact⟨u,rfl,xp9 (s:={ s with heap:=h' }) e c d (by decide) ⟨x,H,I1,ru,⟨rfl,fun ys hy=>by rw[I.list_inj hy N];exact S⟩,G,fun b j=>(O b j).1⟩⟩
 done:=by
  intro X Y hw Z hc i pins s σ H E I O st U
  subst Y hw Z
  obtain⟨xs,N,S⟩:=U
  obtain⟨its,R,p,hz⟩:=I.list N
  obtain⟨f0,f1,f2,f3,f4,f5⟩:=O it (by simp)
  have hl:=R.length
  exact wpAny_pyNext_list_end (I.ok.hd hc) st p.isList (by simp;omega) fun h' eb=>⟨rfl,I.turned (t':=s.toks) (fun b o j e=>eb b o j e) f0 f1 f3 f4 f5⟩
 self:=fun _ _ _ _ _ st h=>wpAny_pyIter_listiter st h
theorem yy6 {P:Program}{w:World}{K:PySem.W.Frag}{tg:Expr}(it:Addr)(lo:Int)(n:Nat):Turn P w K tg (Itr lo n) [it] it (fun i h=>IsRangeIter h it (lo+(i:Nat)*1) ((n:Int)-(i:Nat)) 1) where
 mem:=by simp
 obj:=fun i h st b j=>by
  have e:b=it:=by simpa using j
  subst e
  exact⟨_,st,fun v z=>by
   have z':Data.fields _=Data.cell v:=z
   cases z'⟩
 keep:=fun i h h' st k=>k it (by simp) _ st
 item:=by
  intro X S hw U R i pins s σ H E I N st O
  subst S hw U
  obtain⟨f0,f1,f2,f3,Z,Y⟩:=N it (by simp)
  have W:=Walks.range (prog:=X.prog) (w:=X.w) (I.ok.hd R) it lo 1 n
  refine W.item i s _ _ O st fun v h' tk hv G kk=>?_
  obtain⟨t,rfl⟩:=hv
  have I1:Inv X pins σ H { s with heap:=h',toks:=tk }:=I.turned (fun b o j e=>kk b o (by simpa using j) e) f0 f1 f3 Z Y
  refine⟨_,rfl,xp9 (s:={ s with heap:=h',toks:=tk }) (n:="range_iterator") G rfl rfl (by decide) ⟨.int (lo+i),H,I1,⟨t,?_⟩,⟨rfl,rfl⟩,G,fun b j=>(N b j).1⟩⟩
  rw[Int.mul_one]
 done:=by
  intro X S hw U R i pins s σ H E I N st O
  subst S hw U
  obtain⟨f0,f1,f2,f3,Z,Y⟩:=N it (by simp)
  exact wpAny_pyNext_range_end (I.ok.hd R) st (by have:n<=i:=O;omega) fun h' eb=>⟨rfl,I.turned (t':=s.toks) (fun b o j e=>eb b o j e) f0 f1 f3 Z Y⟩
 self:=fun _ _ _ _ _ st h=>wpAny_pyIter_rangeiter st h
end
section
section
variable {X:Cx}{tg:Expr}
def wz7 (K:W.Frag)(tl:TE):TI:=fun σ H R=>tl σ H fun x H1=>∃ a,x= .ref a/\(∃ xs,SqL K H1 a xs)/\R (Itl K a) H1
theorem xs8 {l:Expr}{tl:TE}(O:PE X l tl):PI X tg l (wz7 X.K tl):=by
 intro pins s σ H R I h
 refine thn (O pins s σ H _ I h) fun v s1 i=>?_
 obtain⟨x,H1,j,z,G⟩:=i
 obtain⟨a,e,⟨xs,N⟩,q⟩:=G
 subst e
 cases z
 obtain⟨its,U,p,Y⟩:=j.list N
 refine wpAny_pyIter_list p.isList ?_
 refine⟨s1.heap.objs.size,[s1.heap.objs.size],_,_,H1,rfl,j.kept (t':=s1.toks) fun b o e=>Heap.get?_push_of_some _ e,yt8 a _,⟨_,Heap.get?_push_size _ rfl,rfl,rfl⟩,fun b S=>?_,q⟩
 have e:b=s1.heap.objs.size:=by simpa using S
 subst e
 exact j.fpOk (Nat.le_refl _) (j.hok.fresh (Nat.le_refl _))
theorem zd8 {pins:List (Addr×Obj)}{σ:St}{H:Hp}{s:Shared}{R:It->Hp->Prop}{E:Value->Shared->Prop}{lo hi:Int}{t u v:Tok}{tk:Nat}(I:Inv X pins σ H s)(h1:-(2^62)<=lo)(h2:lo<2^62)(G:-(2^62)<=hi)(z:hi<2^62)
  (q:R (Itr lo (hi-lo).toNat) H):wpAny (model X.prog X.w) X.A (pyIter (.ref s.heap.objs.size)) (PIE X pins σ tg R) E { s with heap:=s.heap.push { cls:=.type "range",data:=.fields #[.int lo t,.int hi u,.int 1 v] },toks:=tk }:=by
 refine wpAny_pyIter_range (IsRange.new ..) (small_one h1 h2 G z) ?_
 have i:Inv X pins σ H { s with heap:=s.heap.push { cls:=.type "range",data:=.fields #[.int lo t,.int hi u,.int 1 v] },toks:=tk }:=I.kept fun b o e=>Heap.get?_push_of_some _ e
 refine⟨(s.heap.push { cls:=.type "range",data:=.fields #[.int lo t,.int hi u,.int 1 v] }).objs.size,[(s.heap.push { cls:=.type "range",data:=.fields #[.int lo t,.int hi u,.int 1 v] }).objs.size],_,_,H,rfl,
  i.kept (t':=tk) fun b o e=>Heap.get?_push_of_some _ e,yy6 _ lo (hi-lo).toNat,?_,fun b j=>?_,q⟩
 .have e1:lo+((0:Nat):Int)*1=lo:=by simp
  have e2:(((hi-lo).toNat:Nat):Int)-((0:Nat):Int)=Builtin.Range.rangeSize lo hi 1:=by rw[rangeSize_one];split <;> omega
  show IsRangeIter _ _ (lo+((0:Nat):Int)*1) ((((hi-lo).toNat:Nat):Int)-((0:Nat):Int)) 1
  rw[e1,e2]
  exact Heap.get?_push_size _ rfl
 .have e:b=(s.heap.push { cls:=.type "range",data:=.fields #[.int lo t,.int hi u,.int 1 v] }).objs.size:=by simpa using j
  subst e
  exact i.fpOk (Nat.le_refl _) (i.hok.fresh (Nat.le_refl _))
def wz6 (ta:TA):TI:=fun σ H R=>ta σ H fun vs H1=>∃ j:Int,vs=[.int j]/\ -(2^62)<=j/\j<2^62/\R (Itr 0 j.toNat) H1
def wz5 (ta:TA):TI:=fun σ H R=>ta σ H fun vs H1=>∃ i j:Int,vs=[.int i,.int j]/\(-(2^62)<=i/\i<2^62/\ -(2^62)<=j/\j<2^62)/\R (Itr i (j-i).toNat) H1
theorem yp4 {a:Expr}{ta:TA}{p pos:Pos}(S:Gl X "range")(hm:X.mg "range"=none)(ha:PA X [a] ta)(hs:starEach [a] X.env=[(false,eval a X.env)]:=by rfl):PI X tg (.Call (.Name "range" p) [a] [] pos) (wz6 ta):=by
 intro pins s σ H R I h
 refine Call_ (O3 I S hm boot_range (PyProof.Rows.callWith_type1 (thn (ha pos pins s σ H _ I h) fun us s1 i=>?_) hs rfl))
 obtain⟨vs,H1,U,N,z⟩:=i
 obtain⟨j,e,z,O,q⟩:=z
 subst e
 cases N with
 |cons r G=>
  cases G
  obtain⟨t,rfl⟩:=r
  exact call_range_1 (zd8 U (by omega) (by omega) z O (by simpa using q))
theorem yp3 {a b:Expr}{ta:TA}{p pos:Pos}(hg:Gl X "range")(hm:X.mg "range"=none)(ha:PA X [a,b] ta)(hs:starEach [a,b] X.env=[(false,eval a X.env),(false,eval b X.env)]:=by rfl)(z:starEach [b] X.env=[(false,eval b X.env)]:=by rfl):
  PI X tg (.Call (.Name "range" p) [a,b] [] pos) (wz5 ta):=by
 intro pins s σ H R I h
 refine Call_ (O3 I hg hm boot_range (PyProof.Rows.callWith_type1 (thn (ha pos pins s σ H _ I h) fun us s1 G=>?_) (by rw[hs,z]) (by rw[z];rfl)))
 obtain⟨vs,H1,I1,S,O⟩:=G
 obtain⟨i,j,e,⟨O,q2,Z,Y⟩,q⟩:=O
 subst e
 cases S with
 |cons r N=>
  cases N with
  |cons U N=>
   cases N
   obtain⟨t,rfl⟩:=r
   obtain⟨t',rfl⟩:=U
   exact call_range_2 (zd8 I1 O q2 Z Y q)
def tFor (wi:TI)(g:TG)(tb:TS):TS:=fun D σ H=>wi σ H fun J H1=>∃ W:Nat->Nat->St->Hp->Prop,(∃ m,W 0 m σ H1)/\∀ i m σ H,W i m σ H->
 (J.stop i H/\D.nx σ H)\/(J.go i H/\∃ N:St->Hp->Prop,(∀ σ' H',N σ' H'->∃ m',m'<m/\W (i+1) m' σ' H')/\∀ x H',J.yld i H x H'->g x σ H' fun σ2 H2=>tb { D with nx:=N,ct:=N,bk:=D.nx } σ2 H2)
noncomputable def zn1 (fp:List Addr)(h:Heap):List (Addr×Obj):=fp.filterMap fun b=>(h.get? b).map fun o=>(b,o)
theorem P5 {fp:List Addr}{h:Heap}{b:Addr}{o:Obj}(i:b∈fp)(e:h.get? b=some o):(b,o)∈zn1 fp h:=List.mem_filterMap.mpr ⟨b,i,by rw[e];rfl⟩
theorem yn7 {fp:List Addr}{h:Heap}{p:Addr×Obj}(hp:p∈zn1 fp h):p.1∈fp/\h.get? p.1=some p.2:=by
 obtain⟨b,i,e⟩:=List.mem_filterMap.mp hp
 cases q:h.get? b with
 |none=>rw[q]at e;cases e
 |some o=>
  rw[q]at e
  have j:(b,o)=p:=Option.some.inj e
  subst j
  exact⟨i,q⟩
theorem Inv.pinned {pins:List (Addr×Obj)}{σ:St}{H:Hp}{s:Shared}{fp:List Addr}(I:Inv X pins σ H s)(N:∀ b∈fp,FpOk X pins H b)(G:∀ b∈fp,∃ o,s.heap.get? b=some o/\∀ v,o.data≠ .cell v):Inv X (pins++zn1 fp s.heap) σ H s:=
 I.pins_of fun p hp=>(List.mem_append.mp hp).elim (fun z=>I.pin p (mem_append_right _ z)) fun z=>by
  obtain⟨i,e⟩:=yn7 z
  obtain⟨S,R,O,_⟩:=N p.1 i
  obtain⟨o,j,d⟩:=G p.1 i
  rw[e]at j;cases j
  exact⟨e,S,R,O,d⟩
theorem Inv.unpinned {pins pl:List (Addr×Obj)}{σ:St}{H:Hp}{s:Shared}(I:Inv X (pins++pl) σ H s):Inv X pins σ H s:=I.pins_of fun p hp=>I.pin p (mem_append_right _ (mem_append_left _ hp))
theorem xx7 {iter:Expr}{body:List Stmt}{wi:TI}{g:TG}{tb:TS}{pos:Pos}(hp:PassesOwn (model X.prog X.w) X.A X.env X.xe)(hc:X.calm=true)(hi:PI X tg iter wi)(hg:PG X tg g)(S:PSs X body tb)
  (hs:∀ x,foldedSetIterable iter X.env x=pure x:=by intro _;rfl):PS X (.For tg iter body [] pos) (tFor wi g tb):=by
 intro pins s σ H D I h
 refine wpAny_For (thn (hi pins s σ H _ I h) fun v s1 h1=>thn h1 fun a8 s2 h2=>?_) hs
 obtain⟨it,fp,tn,J,H2,e,I2,T,a5,f2,W,⟨m0,w0⟩,turn⟩:=h2
 subst e
 have O:∀{H':Hp},(∀ b∈fp,H' b=none)->∀ b∈fp,FpOk X pins H' b:=fun hn b S=>⟨hn b S,(f2 b S).2⟩
 refine codeAny_forLoop_any (fun n s'=>∃ i G H',Inv X pins G H' s'/\tn i s'.heap/\(∀ b∈fp,H' b=none)/\W i n G H') ?_ m0 ⟨0,σ,H2,I2,a5,fun b S=>(f2 b S).1,w0⟩
 rintro n s3 ⟨i,z,H3,I3,a2,a3,w3⟩
 rcases turn i n z H3 w3 with⟨stop,qn⟩|⟨go,N,hN,step⟩
 .refine wpAny_passesOwn hp (thn (T.done X rfl rfl rfl hc i pins s3 z H3 X.xe I3 (O a3) a2 stop) fun r s4 ⟨hr,I4⟩=>?_)
  subst hr
  exact wpAny_execs_nil ⟨z,H3,I4,qn⟩
 .refine wpAny_passesOwn hp (thn (T.item X rfl rfl rfl hc i pins s3 z H3 X.xe I3 (O a3) a2 go) fun r s4 ⟨u,hr,h4⟩=>?_)
  subst hr
  refine wpAny_passesOwn hp (thn h4 fun _ s5 R=>?_)
  obtain⟨x,H5,I5,r5,y5,a1,a6⟩:=R
  have a7:=I5.pinned (O a6) (T.obj _ _ a1)
  refine wpAny_passesOwn hp (thn (hg _ s5 z H5 x u _ a7 r5 (step x H5 y5)) fun _ s6 R=>?_)
  obtain⟨a4,H6,I6,q6⟩:=R
  refine wpAny_passesOwn hp (thn (S _ s6 a4 H6 _ I6 q6) fun f s7 Z=>?_)
  have again:∀{j:St}{Y:Hp},Inv X (pins++zn1 fp s5.heap) j Y s7->N j Y->∃ m,m<n/\∃ i G H',Inv X pins G H' s7/\tn i s7.heap/\(∀ b∈fp,H' b=none)/\W i m G H':=fun{j Y} U n7=>by
   obtain⟨m',hm,w7⟩:=hN j Y n7
   refine⟨m',hm,i+1,j,Y,U.unpinned,T.keep _ _ _ a1 fun b S o e=>(U.pin (b,o) (mem_append_right _ (mem_append_right _ (P5 S e)))).1,fun b S=>?_,w7⟩
   obtain⟨o,e,d⟩:=T.obj _ _ a1 b S
   exact(U.pin (b,o) (mem_append_right _ (mem_append_right _ (P5 S e)))).2.1
  cases f with
  |next=>obtain⟨j,Y,U,n7⟩:=Z;exact again U n7
  |cont=>obtain⟨j,Y,U,n7⟩:=Z;exact again U n7
  |brk=>obtain⟨j,Y,U,Z⟩:=Z;exact⟨j,Y,U.unpinned,Z⟩
  |ret v=>obtain⟨x7,j,Y,U,r7,Z⟩:=Z;exact⟨x7,j,Y,U.unpinned,r7,Z⟩
end
end
section
noncomputable abbrev R2:=V->V->Hp->VK->Prop
def OpR (X:Cx)(f:Value->Value->Sem Value)(r:R2):Prop:=
 ∀(pins:List (Addr×Obj))(s:Shared)(σ:St)(H:Hp)(x y:V)(v u:Value)(Q:VK),Inv X pins σ H s->RelV x v->RelV y u->r x y H Q->
  wpAny (model X.prog X.w) X.A (f v u) (EP X pins σ Q) X.xe s
def UnR (X:Cx)(f:Value->Sem Value)(r:V->Hp->VK->Prop):Prop:=
 ∀(pins:List (Addr×Obj))(s:Shared)(σ:St)(H:Hp)(x:V)(v:Value)(Q:VK),Inv X pins σ H s->RelV x v->r x H Q->
  wpAny (model X.prog X.w) X.A (f v) (EP X pins σ Q) X.xe s
def D6 (X:Cx)(f:Value)(r:List V->Hp->VK->Prop):Prop:=
 ∀(pins:List (Addr×Obj))(s:Shared)(σ:St)(H:Hp)(xs:List V)(us:List Value)(Q:VK),Inv X pins σ H s->Vals xs us->r xs H Q->
  wpAny (model X.prog X.w) X.A (call f us) (EP X pins σ Q) X.xe s
def TruR (X:Cx)(r:V->Hp->(Bool->Hp->Prop)->Prop):Prop:=
 ∀(pins:List (Addr×Obj))(s:Shared)(σ:St)(H:Hp)(x:V)(v:Value)(Q:Bool->Hp->Prop),Inv X pins σ H s->RelV x v->r x H Q->
  wpAny (model X.prog X.w) X.A (truthy v) (TP X pins σ Q) X.xe s
def tOp (r:R2)(ta tb:TE):TE:=fun σ H Q=>ta σ H fun x H1=>tb σ H1 fun y H2=>r x y H2 Q
def tUn (r:V->Hp->VK->Prop)(ta:TE):TE:=fun σ H Q=>ta σ H fun x H1=>r x H1 Q
def rI (C:Int->Int->Prop)(g:Int->Int->V):R2:=fun x y H Q=>∃ i j,x= .int i/\y= .int j/\C i j/\Q (g i j) H
def rI0 (g:Int->Int->V):R2:=fun x y H Q=>∃ i j,x= .int i/\y= .int j/\Q (g i j) H
def rU (g:Int->V):V->Hp->VK->Prop:=fun x H Q=>∃ i,x= .int i/\Q (g i) H
section
variable {X:Cx}{a b c:Expr}{ta tb tc:TE}{pos:Pos}
theorem binT (ha:PE X a ta)(Y:PE X b tb){pins:List (Addr×Obj)}{s:Shared}{σ:St}{H:Hp}{R:V->V->Hp->Prop}(I:Inv X pins σ H s)
  (h:ta σ H fun x H1=>tb σ H1 fun y H2=>R x y H2) {Q:Value->Shared->Prop} {f:Value->Value->Sem Value}
  (U:∀ v u s2 x y H2,Inv X pins σ H2 s2->RelV x v->RelV y u->R x y H2->wpAny (model X.prog X.w) X.A (f v u) Q X.xe s2):
  wpAny (model X.prog X.w) X.A (eval a X.env) (fun v z=>wpAny (model X.prog X.w) X.A (eval b X.env) (fun u j=>wpAny (model X.prog X.w) X.A (f v u) Q X.xe j) X.xe z) X.xe s:=by
 refine thn (ha pins s σ H _ I h) fun v s1 i=>?_
 obtain⟨x,H1,I1,N,S⟩:=i
 refine thn (Y pins s1 σ H1 _ I1 S) fun u s2 i=>?_
 obtain⟨y,H2,Z,G,O⟩:=i
 exact U v u s2 x y H2 Z N G O
theorem xr0 {op:Operator}{r:R2}(j:OpR X (binaryOp op) r)(ha:PE X a ta)(z:PE X b tb):PE X (.BinOp a op b pos) (tOp r ta tb):=by
 intro pins s σ H Q I h
 exact wpAny_BinOp (binT ha z I h fun v u s2 x y H2 G rx i q=>j pins s2 σ H2 x y v u Q G rx i q)
theorem xb9 {op:UnaryOp}{r:V->Hp->VK->Prop}(z:UnR X (unaryOp op) r)(ha:PE X a ta):PE X (.UnaryOp op a pos) (tUn r ta):=by
 intro pins s σ H Q I h
 exact UnaryOp_ (thn (ha pins s σ H _ I h) fun v s1 ⟨x,H1,G,i,j⟩=>z pins s1 σ H1 x v Q G i j)
theorem opI {f:Value->Value->Sem Value}{C:Int->Int->Prop}{g:Int->Int->Int}
  (rule:∀(i j:Int)(t u:Tok)(s:Shared)(Q:Value->Shared->Prop)(E:Value->Shared->Prop),C i j->Q (.int (g i j) s.toks) { s with toks:=s.toks+1 }->wpAny (model X.prog X.w) X.A (f (.int i t) (.int j u)) Q E s):
  OpR X f (rI C fun i j=>.int (g i j)):=by
 intro pins s σ H x y v u Q I rx z h
 obtain⟨i,j,rfl,rfl,G,q⟩:=h
 obtain⟨t,rfl⟩:=rx
 obtain⟨t',rfl⟩:=z
 exact rule i j t t' s _ _ G ⟨.int (g i j),H,I.tok _,⟨_,rfl⟩,q⟩
theorem opI0 {f:Value->Value->Sem Value}{g:Int->Int->Int}
  (rule:∀(i j:Int)(t u:Tok)(s:Shared)(Q:Value->Shared->Prop)(E:Value->Shared->Prop),Q (.int (g i j) s.toks) { s with toks:=s.toks+1 }->wpAny (model X.prog X.w) X.A (f (.int i t) (.int j u)) Q E s):
  OpR X f (rI0 fun i j=>.int (g i j)):=by
 intro pins s σ H x y v u Q I rx z h
 obtain⟨i,j,rfl,rfl,q⟩:=h
 obtain⟨t,rfl⟩:=rx
 obtain⟨t',rfl⟩:=z
 exact rule i j t t' s _ _ ⟨.int (g i j),H,I.tok _,⟨_,rfl⟩,q⟩
theorem opB0 {f:Value->Value->Sem Value}{g:Int->Int->Bool}
  (rule:∀(i j:Int)(t u:Tok)(s:Shared)(Q:Value->Shared->Prop)(E:Value->Shared->Prop),Q (.bool (g i j)) s->wpAny (model X.prog X.w) X.A (f (.int i t) (.int j u)) Q E s):
  OpR X f (rI0 fun i j=>.bl (g i j)):=by
 intro pins s σ H x y v u Q I rx z h
 obtain⟨i,j,rfl,rfl,q⟩:=h
 obtain⟨t,rfl⟩:=rx
 obtain⟨t',rfl⟩:=z
 exact rule i j t t' s _ _ ⟨.bl (g i j),H,I,rfl,q⟩
def CDiv (i j:Int):Prop:=0<j/\j<1073741824
def CPow (i j:Int):Prop:=0<=j/\j<=1000000/\i.natAbs<2^64
def CMul (i j:Int):Prop:=(-(2^64)<i/\i<2^64)\/(-(2^64)<j/\j<2^64)
theorem CMul.ok {i j:Int}(h:CMul i j):IntMulOk i j:=by
 rcases h with⟨h1,h2⟩|⟨h1,h2⟩
 .exact .of_left (intBits_le_64 h1 h2)
 .exact .of_right (intBits_le_64 h1 h2)
theorem xi9:OpR X (binaryOp .Add) (rI0 fun i j=>.int (i+j)):=opI0 fun _ _ _ _ _ _ _ q=>add_int q
theorem xi4:OpR X (binaryOp .Sub) (rI0 fun i j=>.int (i-j)):=opI0 fun _ _ _ _ _ _ _ q=>sub_int q
theorem xi7:OpR X (binaryOp .Mult) (rI CMul fun i j=>.int (i*j)):=opI fun _ _ _ _ _ _ _ z q=>mul_int q z.ok
theorem xq6:OpR X (binaryOp .FloorDiv) (rI CDiv fun i j=>.int (i / j)):=opI fun i j _ _ _ _ _ z q=>by
 have h1:(0:Int)<j:=z.1
 have h2:j<1073741824:=z.2
 exact floordiv_int (by omega) (by rw[Int.fdiv_eq_ediv_of_nonneg i (by omega)];exact q) (.inl (PyProof.noPylong_small (by omega)))
theorem xi8:OpR X (binaryOp .Mod) (rI (fun _ j=>0<j) fun i j=>.int (i % j)):=opI fun i j _ _ _ _ _ z q=>by
 have h1:(0:Int)<j:=z
 exact mod_int' (by omega) (by rw[Int.fmod_eq_emod_of_nonneg i (by omega)];exact q)
theorem xi6:OpR X (binaryOp .Pow) (rI CPow fun i j=>.int (i^j.toNat)):=opI fun _ _ _ _ _ _ _ z q=>pow_int_small z.1 z.2.1 z.2.2 q
theorem unI {f:Value->Sem Value}{g:Int->Int}
  (rule:∀(i:Int)(t:Tok)(s:Shared)(Q:Value->Shared->Prop)(E:Value->Shared->Prop),Q (.int (g i) s.toks) { s with toks:=s.toks+1 }->wpAny (model X.prog X.w) X.A (f (.int i t)) Q E s):
  UnR X f (rU fun i=>.int (g i)):=by
 intro pins s σ H x v Q I rx h
 obtain⟨i,rfl,q⟩:=h
 obtain⟨t,rfl⟩:=rx
 exact rule i t s _ _ ⟨.int (g i),H,I.tok _,⟨_,rfl⟩,q⟩
theorem xn8:UnR X (unaryOp .USub) (rU fun i=>.int (-i)):=unI fun _ _ _ _ _ q=>neg_int q
end
noncomputable def scal:V->V->Bool
 | .non,.non=>true| .non,.int _=>true| .int _,.non=>true| .non,.bl _=>true| .bl _,.non=>true| .non,.str _=>true| .str _,.non=>true
 | .int _,.int _=>true| .bl _,.bl _=>true| .str _,.str _=>true| .byt _,.byt _=>true
 | .int _,.str _=>true| .str _,.int _=>true| .bl _,.str _=>true| .str _,.bl _=>true
 |_,_=>false
def rEq:R2:=fun x y H Q=>scal x y=true/\Q (.bl (decide (x=y))) H
def rNe:R2:=fun x y H Q=>scal x y=true/\Q (.bl (!decide (x=y))) H
theorem ze2 {i j:Int}:decide (V.int i=V.int j)=(i==j):=by
 rw[Bool.eq_iff_iff]
 simp
theorem yi8 {i j:Bool}:decide (V.bl i=V.bl j)=(i==j):=by
 rw[Bool.eq_iff_iff]
 simp
theorem ze1 {i j:Str}:decide (V.str i=V.str j)=(i==j):=by
 rw[Bool.eq_iff_iff]
 simp
theorem yi7 {i j:Array UInt8}:decide (V.byt i=V.byt j)=(i.toList==j.toList):=by
 rw[Bool.eq_iff_iff]
 cases i
 cases j
 simp
section
variable {X:Cx}{a b c:Expr}{ta tb tc:TE}{pos:Pos}
theorem k6 {pins:List (Addr×Obj)}{σ:St}{H:Hp}{s:Shared}{Q:VK}{k i:Bool}(I:Inv X pins σ H s)(q:Q (.bl k) H)(e:k=i):EP X pins σ Q (.bool i) s:=by
 subst e
 exact⟨.bl k,H,I,rfl,q⟩
theorem zh9:OpR X (compareOp .Eq) rEq:=by
 intro pins s σ H x y v u Q I rx z h
 obtain⟨hs,q⟩:=h
 cases x with
 |non=>
  cases rx
  cases y with
  |non=>cases z;exact PySem.EqNone.eq_none_none (k6 I q (by simp))
  |bl j=>cases z;exact PySem.EqNone.eq_none_bool (k6 I q (by simp))
  |int j=>obtain⟨t',rfl⟩:=z;exact PySem.EqNone.eq_none_int (k6 I q (by simp))
  |str j=>obtain⟨t',rfl⟩:=z;exact PySem.EqNone.eq_none_str (k6 I q (by simp))
  |_=>exact absurd (show false=true from hs) Bool.false_ne_true
 |bl i=>
  cases rx
  cases y with
  |non=>cases z;exact PySem.EqNone.eq_bool_none (k6 I q (by simp))
  |bl j=>cases z;exact eq_bool (k6 I q yi8)
  |str j=>obtain⟨t',rfl⟩:=z;exact PySem.EqMixed.eq_bool_str (k6 I q (by simp))
  |_=>exact absurd (show false=true from hs) Bool.false_ne_true
 |int i=>
  obtain⟨t,rfl⟩:=rx
  cases y with
  |non=>cases z;exact PySem.EqNone.eq_int_none (k6 I q (by simp))
  |int j=>obtain⟨t',rfl⟩:=z;exact eq_int (k6 I q ze2)
  |str j=>obtain⟨t',rfl⟩:=z;exact PySem.EqMixed.eq_int_str (k6 I q (by simp))
  |_=>exact absurd (show false=true from hs) Bool.false_ne_true
 |str i=>
  obtain⟨t,rfl⟩:=rx
  cases y with
  |non=>cases z;exact PySem.EqNone.eq_str_none (k6 I q (by simp))
  |bl j=>cases z;exact PySem.EqMixed.eq_str_bool (k6 I q (by simp))
  |int j=>obtain⟨t',rfl⟩:=z;exact PySem.EqMixed.eq_str_int (k6 I q (by simp))
  |str j=>obtain⟨t',rfl⟩:=z;exact eq_str (k6 I q ze1)
  |_=>exact absurd (show false=true from hs) Bool.false_ne_true
 |byt i=>
  obtain⟨t,rfl⟩:=rx
  cases y with
  |byt j=>obtain⟨t',rfl⟩:=z;exact W.eq_bytes (k6 I q yi7)
  |_=>exact absurd (show false=true from hs) Bool.false_ne_true
 |_=>cases y <;> exact absurd (show false=true from hs) Bool.false_ne_true
theorem xa0:OpR X (compareOp .NotEq) rNe:=by
 intro pins s σ H x y v u Q I rx z h
 obtain⟨hs,q⟩:=h
 cases x with
 |non=>
  cases rx
  cases y with
  |non=>cases z;exact PySem.EqNone.ne_none_none (k6 I q (by simp))
  |bl j=>cases z;exact PySem.EqNone.ne_none_bool (k6 I q (by simp))
  |int j=>obtain⟨t',rfl⟩:=z;exact PySem.EqNone.ne_none_int (k6 I q (by simp))
  |str j=>obtain⟨t',rfl⟩:=z;exact PySem.EqNone.ne_none_str (k6 I q (by simp))
  |_=>exact absurd (show false=true from hs) Bool.false_ne_true
 |bl i=>
  cases rx
  cases y with
  |non=>cases z;exact PySem.EqNone.ne_bool_none (k6 I q (by simp))
  |bl j=>cases z;exact ne_bool (k6 I q (congrArg not yi8))
  |str j=>obtain⟨t',rfl⟩:=z;exact PySem.EqMixed.ne_bool_str (k6 I q (by simp))
  |_=>exact absurd (show false=true from hs) Bool.false_ne_true
 |int i=>
  obtain⟨t,rfl⟩:=rx
  cases y with
  |non=>cases z;exact PySem.EqNone.ne_int_none (k6 I q (by simp))
  |int j=>obtain⟨t',rfl⟩:=z;exact ne_int (k6 I q (congrArg not ze2))
  |str j=>obtain⟨t',rfl⟩:=z;exact PySem.EqMixed.ne_int_str (k6 I q (by simp))
  |_=>exact absurd (show false=true from hs) Bool.false_ne_true
 |str i=>
  obtain⟨t,rfl⟩:=rx
  cases y with
  |non=>cases z;exact PySem.EqNone.ne_str_none (k6 I q (by simp))
  |bl j=>cases z;exact PySem.EqMixed.ne_str_bool (k6 I q (by simp))
  |int j=>obtain⟨t',rfl⟩:=z;exact PySem.EqMixed.ne_str_int (k6 I q (by simp))
  |str j=>obtain⟨t',rfl⟩:=z;exact ne_str (k6 I q (congrArg not ze1))
  |_=>exact absurd (show false=true from hs) Bool.false_ne_true
 |byt i=>
  obtain⟨t,rfl⟩:=rx
  cases y with
  |byt j=>obtain⟨t',rfl⟩:=z;exact W.ne_bytes (k6 I q (congrArg not yi7))
  |_=>exact absurd (show false=true from hs) Bool.false_ne_true
 |_=>cases y <;> exact absurd (show false=true from hs) Bool.false_ne_true
theorem zs9:OpR X (compareOp .Lt) (rI0 fun i j=>.bl (decide (i<j))):=opB0 fun _ _ _ _ _ _ _ q=>lt_int q
theorem xa1:OpR X (compareOp .LtE) (rI0 fun i j=>.bl (decide (i<=j))):=opB0 fun _ _ _ _ _ _ _ q=>le_int q
theorem xq5:OpR X (compareOp .Gt) (rI0 fun i j=>.bl (decide (j<i))):=opB0 fun _ _ _ _ _ _ _ q=>gt_int q
theorem zr0:OpR X (compareOp .GtE) (rI0 fun i j=>.bl (decide (j<=i))):=opB0 fun _ _ _ _ _ _ _ q=>ge_int q
theorem yn2:OpR X (compareOp .Is) (fun x y H Q=>y= .non/\Q (.bl (decide (x= .non))) H):=by
 intro pins s σ H x y v u Q I rx i h
 obtain⟨rfl,q⟩:=h
 cases i
 refine is_none_gen (k6 I q ?_)
 cases x <;> first
  | (cases rx;rfl)
  | (obtain⟨t,rfl⟩:=rx;rfl)
theorem OpR.or {f:Value->Value->Sem Value}{r j:R2}(h:OpR X f r)(h':OpR X f j):OpR X f (fun x y H Q=>r x y H Q\/j x y H Q):=by
 intro pins s σ H x y v u Q I rx i q
 rcases q with q|q
 .exact h pins s σ H x y v u Q I rx i q
 .exact h' pins s σ H x y v u Q I rx i q
theorem t9 (b:Expr){op:CmpOp}(h:op≠ .In:=by decide)(h2:op≠ .NotIn:=by decide):behindInMarks op b=false:=by
 have e1:(op==CmpOp.In)=false:=by cases op <;> first|rfl|exact absurd rfl h
 have e2:(op==CmpOp.NotIn)=false:=by cases op <;> first|rfl|exact absurd rfl h2
 cases b <;> simp[behindInMarks,e1,e2]
theorem yp9 {op:CmpOp}{r:R2}(j:OpR X (compareOp op) r)(ha:PE X a ta)(z:PE X b tb)(hm:behindInMarks op b=false):PE X (.Compare a [op] [b] pos) (tOp r ta tb):=by
 intro pins s σ H Q I h
 exact wpAny_Compare1 (binT ha z I h fun v u s2 x y H2 G rx i q=>j pins s2 σ H2 x y v u Q G rx i q) hm
def xc5 (t:TE):TT:=fun σ H Q=>t σ H fun x H'=>∃ k,x= .bl k/\Q k H'
theorem yq3 {op:CmpOp}{r:R2}(S:OpR X (compareOp op) r)(ha:PE X a ta)(U:PE X b tb)(hm:behindInMarks op b=false):PT X (.Compare a [op] [b] pos) (xc5 (tOp r ta tb)):=by
 intro pins s σ H Q I h
 refine wpAny_isTrue_Compare1 (thn (ha pins s σ H _ I h) fun v s1 ⟨x,H1,I1,G,R⟩=>thn (U pins s1 σ H1 _ I1 R) fun u s2 ⟨y,H2,Z,j,O⟩=>
  thn (S pins s2 σ H2 x y v u _ Z G j O) fun c s3 ⟨z,H3,Y,i,k,e,N⟩=>?_) hm
 subst e
 cases i
 exact wpAny_truthy_bool ⟨H3,Y,N⟩
def TruV (K:W.Frag)(x:V)(H:Hp)(k:Bool):Prop:=
 match x with
 | .non=>k=false
 | .bl b=>k=b
 | .int i=>k=(i != 0)
 | .str y=>y.length<=sizeLine/\k=((y.length:Int) != 0)
 | .byt y=>y.size<=sizeLine/\k=((y.size:Int) != 0)
 | .ref p=>(∃ xs,SqL K H p xs/\k= !xs.isEmpty)\/(∃ xs,SqT K H p xs/\k= !xs.isEmpty)\/∃ kvs,H p=some (.dK kvs)/\k= !kvs.isEmpty
 |_=>False
theorem yv7 {i:Type}{kvs:List (i×V)}{vs:List (i×Value)}(r:KV kvs vs):(!vs.isEmpty)= !kvs.isEmpty:=by
 cases r <;> rfl
theorem zu4 {xs:List V}{its:List Value}(r:Vals xs its):(!its.toArray.isEmpty)= !xs.isEmpty:=by
 cases r <;> simp
theorem zm9:(sizeLine:Nat)<2^63:=by rw[sizeLine_eq];decide
theorem xm0:TruR X (fun x H Q=>∃ k,TruV X.K x H k/\Q k H):=by
 intro pins s σ H x v Q I rx h
 obtain⟨k,e,q⟩:=h
 have S:=zm9
 have hs:sizeLine=16777216:=sizeLine_eq
 cases x with
 |non=>
  cases rx
  have j:k=false:=e
  subst j
  exact truthy_none ⟨H,I,q⟩
 |bl b=>
  cases rx
  have j:k=b:=e
  subst j
  exact wpAny_truthy_bool ⟨H,I,q⟩
 |int i=>
  obtain⟨t,rfl⟩:=rx
  have j:k=(i != 0):=e
  subst j
  exact PySem.P.truthy_int ⟨H,I,q⟩
 |str y=>
  obtain⟨t,rfl⟩:=rx
  obtain⟨O,j⟩:y.length<=sizeLine/\k=((y.length:Int) != 0):=e
  subst j
  exact PySem.P.truthy_str (by omega) ⟨H,I.tok _,q⟩
 |byt y=>
  obtain⟨t,rfl⟩:=rx
  obtain⟨O,j⟩:y.size<=sizeLine/\k=((y.size:Int) != 0):=e
  subst j
  exact W.truthy_bytes (by omega) ⟨H,I.tok _,q⟩
 |ref p=>
  cases rx
  have j:(∃ xs,SqL X.K H p xs/\k= !xs.isEmpty)\/(∃ xs,SqT X.K H p xs/\k= !xs.isEmpty)\/∃ kvs,H p=some (.dK kvs)/\k= !kvs.isEmpty:=e
  rcases j with⟨xs,G,j⟩|⟨xs,G,j⟩|⟨kvs,G,j⟩
  .subst j
   obtain⟨its,r,pl,N⟩:=I.list G
   have z:=r.length
   exact wpAny_truthy_list pl.isList (by simp only[size_toArray];omega) ⟨H,I.tok _,by rw[zu4 r];exact q⟩
  .subst j
   obtain⟨its,r,pl,N⟩:=I.tuple G
   have z:=r.length
   exact truthy_tuple pl (by simp only[size_toArray];omega) ⟨H,I.tok _,by rw[zu4 r];exact q⟩
  .subst j
   obtain⟨N,R,vs,r,m⟩:kvs.length<=sizeLine/\(p==sysModules)=false/\∃ vs,KV kvs vs/\s.heap.DictOf (zz2 X.prog X.w) p vs:=I.hok p _ G
   have z:kvs.length=vs.length:=Paired.length r
   exact wpAny_truthy_dict R m (by omega) ⟨H,I.tok _,by rw[yv7 r];exact q⟩
 |_=>exact(show False from e).elim
theorem zd9 (ha:PE X a ta)(G:∀ i,isTrue a X.env i=(do let v ← i;standAt a.pos;holding [v] (truthy v))):
  PT X a (fun σ H Q=>ta σ H fun x H'=>∃ k,TruV X.K x H' k/\Q k H'):=by
 intro pins s σ H Q I h
 exact isTrue_plain (thn (ha pins s σ H _ I h) fun v s1 ⟨x,H1,N,j,z⟩=>xm0 pins s1 σ H1 x v Q N j z) (G _)
theorem N9 {x:V}{us:List Value}(r:Vals [x] us):∃ u,us=[u]/\RelV x u:=by
 cases r with
 |cons j i=>cases i;exact⟨_,rfl,j⟩
theorem yf6 {x y:V}{us:List Value}(r:Vals [x,y] us):∃ u i,us=[u,i]/\RelV x u/\RelV y i:=by
 cases r with
 |cons I G=>
  cases G with
  |cons z j=>cases j;exact⟨_,_,rfl,I,z⟩
theorem xy0:D6 X (.builtin "abs") (fun xs H Q=>∃ i,xs=[.int i]/\Q (.int (if i<0 then -i else i)) H):=by
 intro pins s σ H xs us Q I r h
 obtain⟨i,rfl,q⟩:=h
 obtain⟨u,rfl,t,rfl⟩:=N9 r
 exact call_abs_int fun u tk=>⟨.int (if i<0 then -i else i),H,I.tok _,⟨_,rfl⟩,q⟩
theorem yh6 (G:X.calm=true):D6 X (.builtin "max") (fun xs H Q=>∃ i j,xs=[.int i,.int j]/\Q (.int (if j>i then j else i)) H):=by
 intro pins s σ H xs us Q I r h
 obtain⟨i,j,rfl,q⟩:=h
 obtain⟨u,N,rfl,⟨t,rfl⟩,⟨t',rfl⟩⟩:=yf6 r
 refine max_two_ints (I.ok.hd G) fun h' tk k=>⟨_,H,I.kept k,?_,q⟩
 by_cases z:j>i
 .rw[if_pos z,if_pos z];exact⟨_,rfl⟩
 .rw[if_neg z,if_neg z];exact⟨_,rfl⟩
theorem yh4 (G:X.calm=true):D6 X (.builtin "min") (fun xs H Q=>∃ i j,xs=[.int i,.int j]/\Q (.int (if j<i then j else i)) H):=by
 intro pins s σ H xs us Q I r h
 obtain⟨i,j,rfl,q⟩:=h
 obtain⟨u,N,rfl,⟨t,rfl⟩,⟨t',rfl⟩⟩:=yf6 r
 refine min_two_ints (I.ok.hd G) fun h' tk k=>⟨_,H,I.kept k,?_,q⟩
 by_cases z:j<i
 .rw[if_pos z,if_pos z];exact⟨_,rfl⟩
 .rw[if_neg z,if_neg z];exact⟨_,rfl⟩
theorem yh7:D6 X (.type "int") (fun xs H Q=>(∃ i,xs=[.int i]/\Q (.int i) H)\/∃ k,xs=[.bl k]/\Q (.int (if k then 1 else 0)) H):=by
 intro pins s σ H xs us Q I r h
 rcases h with⟨i,rfl,q⟩|⟨k,rfl,q⟩
 .obtain⟨u,rfl,t,rfl⟩:=N9 r
  exact call_int_int ⟨.int i,H,I,⟨_,rfl⟩,q⟩
 .obtain⟨u,rfl,r1⟩:=N9 r
  cases r1
  exact call_int_bool ⟨.int (if k then 1 else 0),H,I.tok _,⟨_,rfl⟩,q⟩
end
end
section
structure ObjM (h:Heap)(x dx C:Addr)(mA:Str->Option Value):Prop where
 obj:h.get? x=some (W.instObj C dx)
 ns:h.Ns1 dx mA
 ne:dx≠x
theorem yk9 {h:Heap}{dx:Addr}{mA:Str->Option Value}(n:h.Ns1 dx mA):∃ od,h.get? dx=some od/\∀ name,W.lookIn name od=some (mA name):=by
 obtain⟨o,es,ep,G,hd,hk,_,hm⟩:=n
 refine⟨o,G,fun name=>?_⟩
 have e:=hm name
 unfold nsFind findBy at e
 rw[<-Array.find?_toList]at e
 unfold W.lookIn
 rw[hd]
 dsimp only
 split
 .rename_i y q
  rw[q]at e
  exact congrArg some e
 .rename_i q
  rw[q]at e
  have a:es.toList.any (·.refKey)=false:=by
   rw[any_eq_false]
   intro y j
   obtain⟨z,t,i⟩:=hk y (Array.mem_toList_iff.mp j)
   simp[DictEntry.refKey,i]
  have I:¬ es.toList.any (·.refKey)=true:=by rw[a];exact Bool.false_ne_true
  rw[if_neg I]
  exact congrArg some e
theorem ObjM.look {h:Heap}{x dx C:Addr}{mA:Str->Option Value}(I:ObjM h x dx C mA):∃ od,W.InstAt h x (W.instObj C dx) C (some od)/\∀ name,W.lookIn name od=some (mA name):=
 let ⟨od,i,j⟩:=yk9 I.ns
 ⟨od,⟨I.obj,rfl,rfl,i⟩,j⟩
section
variable {prog:Program}{w:World}{A:Around}{E:Value->Shared->Prop}{s:Shared}{K:W.Frag}{x dx C f:Addr}{mA:Str->Option Value}{name:Str}{v:Value}
theorem xo1 {i:Bool}{Q:Value->Shared->Prop}(X:K.In s.heap)(I:ObjM s.heap x dx C mA)(N:W.plainGet K C name=true)(hh:W.hasDictIn K C=true)
  (ha:W.findIn K (.ref C) name=some none) (z:mA name=some v) (j:W.handedIn v=true) (h:Q v { s with toks:=s.toks+1 }):
  wpAny (model prog w) A (getAttr (.ref x) name i) Q E s:=by
 obtain⟨od,J,G⟩:=I.look
 exact W.get_value X J (W.plainGet_of N).1 (W.findObj_own hh ha rfl (by rw[G,z])) j h
theorem xz2 {pl:Sem Bool}{Q:Value×List Value->Shared->Prop}(X:K.In s.heap)(I:ObjM s.heap x dx C mA)(i:W.plainGet K C name=true)
  (N:W.findIn K (.ref C) name=some (some (.ref f))) (z:W.isFn K (.ref f)=true) (j:mA name=none) (h:Q (.ref f,[.ref x]) s):
  wpAny (model prog w) A (getMethod (.ref x) name pl) Q E s:=by
 obtain⟨od,J,G⟩:=I.look
 exact W.method_fn X J (W.plainGet_of i).1 (W.plainGet_of i).2 N (beq_iff_eq.mp z) (by show (W.lookIn name od).map (·.isSome)=some false;rw[G,j];rfl) h
theorem xt0 {ns:List Str}{Q:Unit->Shared->Prop}(X:K.In s.heap)(I:ObjM s.heap x dx C mA)
  (hs:W.findIn K (.ref C) "__setattr__"=some (some (.builtin "object.__setattr__"))) (hp:W.plainOver K C=true) (S:W.takerIn K C name=some none) (hh:W.hasDictIn K C=true)
  (hw:PySem.Within mA ns) (U:ns.length<=sizeLine)
  (h:∀ h',ObjM h' x dx C (fun y=>if y=name then some v else mA y)->Heap.SameBut dx s.heap h'->Q () { s with heap:=h',toks:=s.toks+2 }):
  wpAny (model prog w) A (setAttr (.ref x) name v) Q E s:=by
 obtain⟨od,J,hl⟩:=I.look
 refine W.set_plain X J hs (W.osa_open (s:={ s with toks:=s.toks+1 }) (r:=none) X J hp S fun b=>?_)
 obtain⟨cd,Y,N⟩:=W.any_some hh
 have R:s.heap.get? x=some ⟨.ref C,some dx,.plain,#[]⟩:=I.obj
 refine wpAny_bind (wpAny_pure (wpAny_bind (wpAny_bind (wpAny_loadPart R (wpAny_bind (W.Looks.here (s:={ s with toks:=s.toks+1 }) (W.looks_clsIn X Y) ?_))))))
 rw[N]
 refine wpAny_pure (a:=some dx) (wpAny_bind (wpAny_pure (wpAny_bind ?_)))
 refine wpAny_nsSet1 (s:={ s with toks:=s.toks+1 }) I.ns fun h' j i=>?_
 obtain⟨oD,Z,a1,z,G,O⟩:=j.count (PySem.Within.cons name v hw)
 refine wpAny_bind (wpAny_lookBehind z (by rw[G];exact pastItsLine_dict (Nat.le_trans O (by rw[length_cons];omega))) ?_)
 exact wpAny_pure (h _ ⟨(i.2 _ (Ne.symm I.ne)).trans I.obj,j,I.ne⟩ i)
theorem yb9 {R:Result->Shared->Prop}{vs:List Value}{i:List (Str×Value)}(X:K.In s.heap)(hm:W.makesIn K C=true)
  (hi:W.findIn K (.ref C) "__init__"=some (some (.ref f))) (j:W.typeIn K (.ref f)=some (.type "function"))
  (h:codeAny (model prog w) (A.under (.builtin "type.__call__" ⟨.ref C::vs,i⟩)) (.call (.ref f) ⟨.ref (s.heap.objs.size+1)::vs,i⟩) (W.InitBack (s.heap.objs.size+1) R)
   { s with heap:=(s.heap.push W.emptyDict).push (W.instObj C s.heap.objs.size) }):
  codeAny (model prog w) A (.call (.ref C) ⟨vs,i⟩) R s:=by
 obtain⟨hh,g,d,t,os⟩:=s
 exact W.make_core (W.makes_of X hm) (W.looks_findIn X hi) (fun self=>W.bind_fn X self j) (.inl rfl) h
end
noncomputable def putF (f:Str)(v:V):List (Str×V)->List (Str×V)
 |[]=>[(f,v)]
 | (g,x)::r=>if g=f then (g,v)::r else (g,x)::putF f v r
theorem zz5 (f g:Str)(v:V):∀ fs:List (Str×V),(putF f v fs).lookup g=if g=f then some v else fs.lookup g
 |[]=>by
  show List.lookup g [(f,v)]=_
  by_cases h:g=f
  .have hb:(g==f)=true:=beq_iff_eq.mpr h
   simp only[List.lookup,hb,if_pos h]
  .have hb:(g==f)=false:=beq_eq_false_iff_ne.mpr h
   simp only[List.lookup,hb,if_neg h]
 | (k,x)::r=>by
  have i:=zz5 f g v r
  rw[show putF f v ((k,x)::r)=(if k=f then (k,v)::r else (k,x)::putF f v r)from rfl]
  by_cases hk:k=f
  .rw[if_pos hk]
   by_cases h:g=k
   .have hb:(g==k)=true:=beq_iff_eq.mpr h
    simp only[List.lookup,hb,if_pos (h.trans hk)]
   .have hb:(g==k)=false:=beq_eq_false_iff_ne.mpr h
    simp only[List.lookup,hb,if_neg (fun e:g=f=>h (e.trans hk.symm))]
  .rw[if_neg hk]
   by_cases h:g=k
   .have hb:(g==k)=true:=beq_iff_eq.mpr h
    simp only[List.lookup,hb,if_neg (fun e:g=f=>hk (h.symm.trans e))]
   .have hb:(g==k)=false:=beq_eq_false_iff_ne.mpr h
    simp only[List.lookup,hb]
    exact i
theorem zz7 (f:Str)(v:V):∀ fs:List (Str×V),f∈(putF f v fs).map (·.1)/\∀ g,g∈fs.map (·.1)->g∈(putF f v fs).map (·.1)
 |[]=>⟨by simp[putF],fun g h=>by simp at h⟩
 | (k,x)::r=>by
  obtain⟨i1,i2⟩:=zz7 f v r
  rw[show putF f v ((k,x)::r)=(if k=f then (k,v)::r else (k,x)::putF f v r)from rfl]
  by_cases hk:k=f
  .rw[if_pos hk]
   subst hk
   exact⟨by simp,fun g h=>by simpa using h⟩
  .rw[if_neg hk]
   refine⟨?_,fun g h=>?_⟩
   .rw[map_cons]
    exact mem_cons_of_mem _ i1
   .rw[map_cons]at h ⊢
    rcases List.mem_cons.mp h with e|e
    .exact List.mem_cons.mpr (.inl e)
    .exact mem_cons_of_mem _ (i2 g e)
theorem zz6 (f:Str)(v:V):∀ fs:List (Str×V),(putF f v fs).length<=fs.length+1
 |[]=>by simp[putF]
 | (k,x)::r=>by
  have i:=zz6 f v r
  rw[show putF f v ((k,x)::r)=(if k=f then (k,v)::r else (k,x)::putF f v r)from rfl]
  by_cases hk:k=f
  .rw[if_pos hk,length_cons,length_cons];omega
  .rw[if_neg hk,length_cons,length_cons];omega
theorem RelO.some_of {v:V}{o:Option Value}(r:RelO (some v) o):∃ u,o=some u/\RelV v u:=by
 cases o with
 |none=>exact(show False from r).elim
 |some u=>exact⟨u,rfl,r⟩
theorem RelO.none_of {o:Option Value}(r:RelO none o):o=none:=by
 cases o with
 |none=>rfl
 |some u=>exact(show False from r).elim
theorem yj8 {v:V}{u:Value}(r:RelV v u):W.handedIn u=true:=by
 cases v with
 |non=>cases (show u=Value.none from r);rfl
 |bl b=>cases (show u=Value.bool b from r);rfl
 |int i=>obtain⟨t,e⟩:=(show ∃ t,u=Value.int i t from r);cases e;rfl
 |str x=>obtain⟨t,e⟩:=(show ∃ t,u=Value.str x t from r);cases e;rfl
 |byt b=>obtain⟨t,e⟩:=(show ∃ t,u=Value.bytes b t from r);cases e;rfl
 |flt b=>obtain⟨t,e⟩:=(show ∃ t,u=Value.float b t from r);cases e;rfl
 |ref a=>cases (show u=Value.ref a from r);rfl
 |ty n=>cases (show u=Value.type n from r);rfl
section
variable {P:Program}{w:World}{H H':Hp}{h h':Heap}{a C dx:Addr}{fs fs':List (Str×V)}
theorem zf2 (hok:HOk P w H h)(e:H a=some (.ins C dx fs)):∃ mA,ObjM h a dx C mA/\(∀ f,RelO (fs.lookup f) (mA f))/\PySem.Within mA (fs.map (·.1))/\fs.length<=1000/\H dx=some (.own a):=by
 obtain⟨d,z,ne,ob,mA,n,r,q⟩:=(show ObjOk P w H h a (.ins C dx fs)from hok a _ e)
 exact⟨mA,⟨ob,n,ne⟩,r,q,z,d⟩
end
structure Cls (K:W.Frag)(C:Addr):Prop where
 pg:W.plainGet K C Str.empty=true
 hd:W.hasDictIn K C=true
 po:W.plainOver K C=true
 sa:W.findIn K (.ref C) "__setattr__"=some (some (.builtin "object.__setattr__"))
theorem Cls.get {K:W.Frag}{C:Addr}(c:Cls K C)(f:Str):W.plainGet K C f=true:=c.pg
def NoAttr (K:W.Frag)(C:Addr)(f:Str):Prop:=W.findIn K (.ref C) f=some none
theorem NoAttr.taker {K:W.Frag}{C:Addr}{f:Str}(n:NoAttr K C f):W.takerIn K C f=some none:=by
 unfold W.takerIn
 rw[show W.findIn K (.ref C) f=some none from n]
 rfl
structure Con (K:W.Frag)(C:Addr)(f:Str)(v:V)(u:Value):Prop where
 at_:W.findIn K (.ref C) f=some (some u)
 rel:RelV v u
 get:W.specialIn K u "__get__"=some none
 cp:W.copiedNames.contains f=false
structure Meth (K:W.Frag)(C:Addr)(m:Str)(f:Addr):Prop where
 at_:W.findIn K (.ref C) m=some (some (.ref f))
 fn:W.isFn K (.ref f)=true
 kp:W.keepIn K (.ref f)=true
section
variable {X:Cx}{pins:List (Addr×Obj)}{σ:St}{H:Hp}{s:Shared}{a C dx:Addr}{fs:List (Str×V)}{f:Str}{v:V}{A:Around}{E:Value->Shared->Prop}
theorem yu0 {b:Bool}{Q:Value->Shared->Prop}(I:Inv X pins σ H s)(e:H a=some (.ins C dx fs))(c:Cls X.K C)(n:NoAttr X.K C f)(l:fs.lookup f=some v)
  (h:∀ u s',Inv X pins σ H s'->RelV v u->Q u s'):wpAny (model X.prog X.w) A (getAttr (.ref a) f b) Q E s:=by
 obtain⟨mA,O,r,_,_,_⟩:=zf2 I.hok e
 obtain⟨u,j,i⟩:=RelO.some_of (v:=v) (o:=mA f) (by rw[<-l];exact r f)
 exact xo1 I.kIn O (c.get f) c.hd n j (yj8 i) (h u _ (I.tok _) i)
theorem G1 {m:Str}{g:Addr}{pl:Sem Bool}{Q:Value×List Value->Shared->Prop}(I:Inv X pins σ H s)(e:H a=some (.ins C dx fs))(c:Cls X.K C)(k:Meth X.K C m g)(l:fs.lookup m=none)
  (h:Q (.ref g,[.ref a]) s):wpAny (model X.prog X.w) A (getMethod (.ref a) m pl) Q E s:=by
 obtain⟨mA,O,r,_,_,_⟩:=zf2 I.hok e
 have hn:mA m=none:=RelO.none_of (by rw[<-l];exact r m)
 exact xz2 I.kIn O (c.get m) k.at_ k.fn hn h
theorem yy9 {y:V}{u:Value}{Q:Unit->Shared->Prop}(I:Inv X pins σ H s)(e:H a=some (.ins C dx fs))(c:Cls X.K C)(n:NoAttr X.K C f)(hl:fs.length<1000)(R:RelV y u)
  (h:∀ s',Inv X pins σ (upd H a (.ins C dx (putF f y fs))) s'->Q () s'):wpAny (model X.prog X.w) A (setAttr (.ref a) f u) Q E s:=by
 obtain⟨mA,O,r,j,_,G⟩:=zf2 I.hok e
 have S:(fs.map (·.1)).length<=sizeLine:=by rw[length_map,sizeLine_eq];omega
 refine xt0 I.kIn O c.sa c.po n.taker c.hd j S fun h' i N=>h _ ?_
 have hd:∃ o,h'.get? dx=some o:=let ⟨o,_,_,Z,_⟩:=i.ns;⟨o,Z⟩
 refine I.write (x:=a) (e:=dx) (by rw[e];exact True.intro) (.inr G) (fun b q Y z=>(N.2 b Y).trans z) hd ?_
 refine⟨by rw[x8 O.ne];exact G,?_,O.ne,i.obj,_,i.ns,fun g=>?_,fun g U=>?_⟩
 .have:=zz6 f y fs;omega
 .show RelO ((putF f y fs).lookup g) (if g=f then some u else mA g)
  rw[zz5]
  by_cases q:g=f
  .rw[if_pos q,if_pos q];exact R
  .rw[if_neg q,if_neg q];exact r g
 .by_cases q:g=f
  .rw[q];exact(zz7 f y fs).1
  .refine(zz7 f y fs).2 g (j g fun z=>U ?_)
   show (if g=f then some u else mA g)=none
   rw[if_neg q];exact z
theorem Inv.made (I:Inv X pins σ H s):Inv X pins σ (upd (upd H s.heap.objs.size (.own (s.heap.objs.size+1))) (s.heap.objs.size+1) (.ins C s.heap.objs.size []))
  { s with heap:=(s.heap.push W.emptyDict).push (W.instObj C s.heap.objs.size) }:=by
 have e1:(s.heap.push W.emptyDict).get? s.heap.objs.size=some W.emptyDict:=Heap.get?_push_size s.heap rfl
 have e2:((s.heap.push W.emptyDict).push (W.instObj C s.heap.objs.size)).get? (s.heap.objs.size+1)=some (W.instObj C s.heap.objs.size):=by
  have:=Heap.get?_push_size (s.heap.push W.emptyDict) (o:=W.instObj C s.heap.objs.size) rfl
  rwa [Heap.size_push]at this
 have e3:(s.heap.push W.emptyDict).Ns s.heap.objs.size (fun _=>none):=⟨W.emptyDict,#[],_,e1,rfl,(fun e j=>absurd j (by simp)),fun _=>rfl⟩
 have z:=I.laid (a:=s.heap.objs.size) (o:=.own (s.heap.objs.size+1)) (h':=s.heap.push W.emptyDict) (t':=s.toks) (fun b u q=>Heap.get?_push_of_some _ q) (Nat.le_refl _) ⟨_,e1⟩
 refine z.laid (a:=s.heap.objs.size+1) (o:=.ins C s.heap.objs.size []) (t':=s.toks) (fun b u q=>Heap.get?_push_of_some _ q) (Nat.le_of_eq (Heap.size_push _ _)) ?_
 have ne:s.heap.objs.size≠s.heap.objs.size+1:=Nat.ne_of_lt (Nat.lt_succ_self _)
 refine⟨by rw[x8 ne,x9],Nat.zero_le _,ne,e2,fun _=>none,(Heap.Ns1.of_empty e3).at fun o q=>Heap.get?_push_of_some _ q,fun _=>True.intro,fun y i=>absurd rfl i⟩
theorem xn2 {prog:Program}{w:World}{env:Env}{e:Expr}{f:Str}{pos:Pos}{s:Shared}{Q:Value->Shared->Prop}(j:attributeBase e f env (eval e env)=eval e env)
  (h:wpAny (model prog w) A (eval e env) (fun o i=>wpAny (model prog w) A (getAttr o f true) Q E i) E s):wpAny (model prog w) A (eval (.Attribute e f pos) env) Q E s:=
 Attribute_any_ h (by rw[arm_eval_Attribute,j])
end
def tFld (K:W.Frag)(ta:TE)(f:Str):TE:=fun σ H Q=>ta σ H fun x H1=>∃ a C dx fs v,x= .ref a/\H1 a=some (.ins C dx fs)/\Cls K C/\NoAttr K C f/\fs.lookup f=some v/\Q v H1
def sFld (K:W.Frag)(ta tv:TE)(f:Str):TS:=fun D σ H=>tv σ H fun y H1=>ta σ H1 fun x H2=>∃ a C dx fs,x= .ref a/\H2 a=some (.ins C dx fs)/\Cls K C/\NoAttr K C f/\fs.length<1000/\
 D.nx σ (upd H2 a (.ins C dx (putF f y fs)))
section
variable {X:Cx}{o e value:Expr}{f:Str}{pos pos' tpos:Pos}{ta tv:TE}
theorem xw0 (z:PE X e ta)(G:attributeBase e f X.env (eval e X.env)=eval e X.env):PE X (.Attribute e f pos) (tFld X.K ta f):=by
 intro pins s σ H Q I h
 refine xn2 G (thn (z pins s σ H _ I h) fun u s1 i=>?_)
 obtain⟨x,H1,R,rx,a,C,dx,fs,v,ex,N,c,n,l,q⟩:=i
 subst ex
 obtain rfl:u=Value.ref a:=rx
 exact yu0 R N c n l fun S s2 O j=>⟨v,H1,O,j,q⟩
theorem xx8 (ha:PE X o ta)(N:PE X value tv)(hs:swapsWith value (some (.Attribute o f pos')) pos.line X.env=pure false):PS X (.Assign [.Attribute o f pos'] value pos) (sFld X.K ta tv f):=by
 intro pins s σ H D I h
 refine plainObj_wpAny_Assign_Attribute (thn (N pins s σ H _ I h) fun u s1 ⟨y,H1,U,j,q⟩=>thn (ha pins s1 σ H1 _ U q) fun G s2 i=>?_) hs
 obtain⟨x,H2,S,rx,a,C,dx,fs,ex,O,c,n,l,z⟩:=i
 subst ex
 obtain rfl:G=Value.ref a:=rx
 exact yy9 S O c n l j fun Y R=>⟨σ,_,R,z⟩
end
section
variable {X:Cx}{pins:List (Addr×Obj)}{σ:St}{H:Hp}{s:Shared}{A:Around}{E:Value->Shared->Prop}{Q:Value->Shared->Prop}{c:Value}{b:Bool}
inductive TyOf (K:W.Frag)(H:Hp):V->Value->Prop where
 |non:TyOf K H .non (.type "NoneType")
 |bl (x:Bool):TyOf K H (.bl x) (.type "bool")
 |int (i:Int):TyOf K H (.int i) (.type "int")
 |str (x:Str):TyOf K H (.str x) (.type "str")
 |flt (x:UInt64):TyOf K H (.flt x) (.type "float")
 |lst {a:Addr} {xs:List V} (e:H a=some (.lst xs)):TyOf K H (.ref a) (.type "list")
 |frz {a:Addr} {o:Obj} {xs:List V} (e:H a=some (.frz o (.lst xs))):TyOf K H (.ref a) (.type "list")
 |tup {a:Addr} {xs:List V} (e:H a=some (.tup xs)):TyOf K H (.ref a) (.type "tuple")
 |dK {a:Addr} {kvs:List (Key×V)} (e:H a=some (.dK kvs)):TyOf K H (.ref a) (.type "dict")
 |dT {a:Addr} {kvs:List (List Key×V)} (e:H a=some (.dT kvs)):TyOf K H (.ref a) (.type "dict")
 |ins {a C dx:Addr} {fs:List (Str×V)} (e:H a=some (.ins C dx fs)) (cl:Cls K C) (ha:W.findIn K (.ref C) "__class__"=some (some (.builtin "object.__class__")))
   (hn:W.specialIn K (.builtin "object.__class__") "__get__"=some (some (.builtin "getset_descriptor.__get__"))) (htk:W.takesIn K (.builtin "object.__class__")=some true)
   (hm:W.mroIn K C (.type "object")=some true):TyOf K H (.ref a) (.ref C)
end
end
section
structure Room (k:Nat)(A:Around):Prop where
 hd:A.handled=none
 dp:A.depth+3*k+5<recursionLimit
 un:A.units+16*k+200<cLine
theorem Room.mono {j k:Nat}{A:Around}(r:Room k A)(h:j<=k):Room j A:=⟨r.hd,by have:=r.dp;omega,by have:=r.un;omega⟩
theorem Room.deeper {k:Nat}{A:Around}(r:Room (k+1) A)(env:Env):Room k (A.deeper env):=
 ⟨r.hd,by have:=r.dp;show A.depth+1+3*k+5<_;omega,by have:=r.un;show A.units+3+16*k+200<_;omega⟩
theorem Room.in1 {k:Nat}{A:Around}(r:Room (k+1) A):Room k A.in1:=
 ⟨r.hd,by have:=r.dp;show A.depth+3*k+5<_;omega,by have:=r.un;show A.units+1+16*k+200<_;omega⟩
theorem yv3 {A:Around}{C:Addr}{us:List Value}{i:List (Str×Value)}:(A.under (.builtin "type.__call__" ⟨.ref C::us,i⟩)).depth=A.depth+1:=by
 first|rfl|simp[Around.under,Code.weight,Code.isCreation,Code.isGuard,Code.isCaller,Code.frames,Code.isFrame,guardIds]
theorem yv2 {A:Around}{C:Addr}{us:List Value}{i:List (Str×Value)}:(A.under (.builtin "type.__call__" ⟨.ref C::us,i⟩)).units=A.units+1:=by
 first|rfl|simp[Around.under,Code.cUnits,Code.frames,Code.isFrame]
theorem Room.make {k:Nat}{A:Around}(r:Room (k+1) A)(C:Addr)(us:List Value)(i:List (Str×Value)):Room k (A.under (.builtin "type.__call__" ⟨.ref C::us,i⟩)):=
 ⟨r.hd,by have:=r.dp;rw[yv3];omega,by have:=r.un;rw[yv2];omega⟩
theorem Room.depth {k:Nat}{A:Around}(r:Room k A):A.depth<recursionLimit:=by have:=r.dp;omega
theorem Room.units {k:Nat}{A:Around}(r:Room k A):A.units+64<cLine:=by have:=r.un;omega
def tNil:TA:=fun _ H Q=>Q [] H
def zp7 (ta:TE)(tr:TA):TA:=fun σ H Q=>ta σ H fun x H1=>tr σ H1 fun xs H2=>Q (x::xs) H2
section
variable {X:Cx}{e:Expr}{es:List Expr}{te:TE}{t:TA}{pos:Pos}
theorem pa_nil:PA X [] tNil:=fun _ _ _ _ H Q I h=>Calls.spliced_nil ⟨[],H,I,.nil,h⟩
theorem j7 (ha:PE X e te)(O:PA X es t)(hs:starEach (e::es) X.env=(false,eval e X.env)::starEach es X.env:=by rfl):PA X (e::es) (zp7 te t):=by
 intro pos pins s σ H Q I h
 rw[hs]
 show wpAny _ _ (spliced ((false,eval e X.env)::backTo pos (starEach es X.env))) _ _ s
 refine Calls.spliced_cons (thn (ha pins s σ H _ I h) fun u s1 i=>?_)
 obtain⟨x,H1,S,z,N⟩:=i
 exact thn (O pos pins s1 σ H1 _ S N) fun us s2 ⟨xs,H2,R,j,G⟩=>⟨x::xs,H2,R,.cons z j,G⟩
def tTup (t:TA):TE:=fun σ H Q=>t σ H fun xs H1=>xs.length<=sizeLine/\∀ p,H1 p=none->Q (.ref p) (upd H1 p (.tup xs))
def tLst (t:TA):TE:=fun σ H Q=>t σ H fun xs H1=>xs.length<=sizeLine/\∀ p,H1 p=none->Q (.ref p) (upd H1 p (.lst xs))
theorem yp6 {j}(h:PA X es t):PE X (.Tuple es j pos) (tTup t):=by
 intro pins s σ H Q I G
 refine wpAny_Tuple_spliced (thn (h pos pins s σ H _ I G) fun us s1 ⟨xs,H1,i,r,z,q⟩=>⟨by rw[<-r.length];exact z,?_⟩)
 have N:H1 s1.heap.objs.size=none:=i.hok.fresh (Nat.le_refl _)
 refine⟨.ref s1.heap.objs.size,upd H1 s1.heap.objs.size (.tup xs),i.laid (t':=s1.toks) (fun b u e=>Heap.get?_push_of_some _ e) (Nat.le_refl _) ?_,rfl,q _ N⟩
 exact⟨z,us,r,⟨_,Heap.get?_push_size _ rfl,rfl,_,rfl⟩⟩
theorem xx9 (h:PA X es t):PE X (.List es pos) (tLst t):=by
 intro pins s σ H Q I j
 refine wpAny_List_spliced (thn (h pos pins s σ H _ I j) fun us s1 ⟨xs,H1,i,r,z,q⟩=>⟨by rw[<-r.length];exact z,?_⟩)
 have G:H1 s1.heap.objs.size=none:=i.hok.fresh (Nat.le_refl _)
 refine⟨.ref s1.heap.objs.size,upd H1 s1.heap.objs.size (.lst xs),i.laid (t':=s1.toks) (fun b u e=>Heap.get?_push_of_some _ e) (Nat.le_refl _) ?_,rfl,q _ G⟩
 exact⟨z,us,0,r,Heap.get?_push_size _ rfl⟩
end
noncomputable abbrev Sp:=List V->Hp->VK->XK->Prop
noncomputable abbrev CXT:=List Env->Hp->Shared->XK->Value->Shared->Prop
structure Env0 (P:Program)(w:World)(K:W.Frag)(mg:Str->Option Value)(base:Heap)(A:Around)(outer:List Env)(s:Shared)(H:Hp):Prop where
 frames:A.frames=some outer
 mod:Mod K mg base
 bs:∀ b o,base.get? b=some o->s.heap.get? b=some o/\H b=none
 bsz:base.objs.size<=s.heap.objs.size
 funs:s.heap.FunFrames base outer
 frf:∀ b∈frs outer,H b=none
 hok:HOk P w H s.heap
 bare:AllBare s.gens
def CE (outer:List Env)(P:Program)(w:World)(H:Hp)(s:Shared)(Q:VK)(u:Value)(s':Shared):Prop:=
 ∃ v H',s'.os=s.os/\AllBare s'.gens/\Un (frs outer) [] H H' s.heap s'.heap/\HOk P w H' s'.heap/\RelV v u/\Q v H'
def CR (CX:CXT)(outer:List Env)(P:Program)(w:World)(H:Hp)(s:Shared)(Q:VK)(E:XK)(r:Result)(s':Shared):Prop:=
 match r with
 | .ok (.ret u)=>CE outer P w H s Q u s'
 | .ok _=>False
 | .error e=>CX outer H s E e s'
structure FnOk (P:Program)(w:World)(K:W.Frag)(mg:Str->Option Value)(base:Heap)(CX:CXT)(k:Nat)(f:Addr)(fd:FuncData)(ps:List Str)(sp:Sp):Prop where
 len:∀ vs H Q E,sp vs H Q E->vs.length=ps.length
 run:∀(A:Around)(outer:List Env)(s:Shared)(H:Hp)(args:Args)(us:List Value)(vs:List V)(Q:VK)(E:XK),Room k A->Env0 P w K mg base A outer s H->BindsTo s fd args (ps.zip us)->Vals vs us->sp vs H Q E->
  codeAny (model P w) A (.call (.ref f) args) (CR CX outer P w H s Q E) s
theorem FnOk.mono {P:Program}{w:World}{K:W.Frag}{mg:Str->Option Value}{base:Heap}{CX:CXT}{j k:Nat}{f:Addr}{fd:FuncData}{ps:List Str}{sp:Sp}(F:FnOk P w K mg base CX j f fd ps sp)(h:j<=k):
  FnOk P w K mg base CX k f fd ps sp:=⟨F.len,fun A outer s H args us vs Q E i=>F.run A outer s H args us vs Q E (i.mono h)⟩
theorem FnOk.imp {P:Program}{w:World}{K:W.Frag}{mg:Str->Option Value}{base:Heap}{CX:CXT}{k:Nat}{f:Addr}{fd:FuncData}{ps:List Str}{sp i:Sp}(F:FnOk P w K mg base CX k f fd ps sp)
  (h:∀ vs H Q E,i vs H Q E->sp vs H Q E):FnOk P w K mg base CX k f fd ps i:=
 ⟨fun vs H Q E q=>F.len vs H Q E (h _ _ _ _ q),fun A outer s H args us vs Q E z G I j hs=>F.run A outer s H args us vs Q E z G I j (h _ _ _ _ hs)⟩
theorem Env0.make {P:Program}{w:World}{K:W.Frag}{mg:Str->Option Value}{base:Heap}{A:Around}{outer:List Env}{s:Shared}{H:Hp}(e:Env0 P w K mg base A outer s H)(C:Addr)(us:List Value)(i:List (Str×Value)):
  Env0 P w K mg base (A.under (.builtin "type.__call__" ⟨.ref C::us,i⟩)) outer s H:=⟨by first|exact e.frames| (simpa[Around.under,Code.envs,Code.isFrame,pushEnvs]using e.frames),e.mod,e.bs,e.bsz,e.funs,e.frf,e.hok,e.bare⟩
section
variable {X:Cx}{pins:List (Addr×Obj)}{σ:St}{H:Hp}{s s':Shared}
theorem Inv.env0 (I:Inv X pins σ H s):Env0 X.prog X.w X.K X.mg X.base X.A X.stack s H:=
 ⟨I.ok.frames,I.ok.mod,I.bs,Nat.le_trans I.ok.bsz I.sz,I.stack,I.stkFree,I.hok,I.bare⟩
theorem Inv.after {Q:VK}{u:Value}(I:Inv X pins σ H s)(h:CE X.stack X.prog X.w H s Q u s'):EP X pins σ Q u s':=by
 obtain⟨v,H',os,bare,un,hok,r,q⟩:=h
 obtain⟨hh,g,d,t,i⟩:=s'
 obtain rfl:i=s.os:=os
 exact⟨v,H',I.call (h':=hh) (g':=g) (d':=d) (t':=t) (ch:=[]) un hok bare (fun b z=>absurd z (by simp)),r,q⟩
end
def ys3 (sp:Sp)(dvs:List V)(E:XK)(t:TA):TE:=fun σ H Q=>t σ H fun vs H1=>sp (vs++dvs) H1 Q E
def zx5 (C:Addr)(m:Str)(sp:Sp)(dvs:List V)(E:XK)(ta:TE)(t:TA):TE:=fun σ H Q=>ta σ H fun x H1=>∃ a dx fs,x= .ref a/\H1 a=some (.ins C dx fs)/\fs.lookup m=none/\
 t σ H1 fun vs H2=>sp (x::(vs++dvs)) H2 Q E
def xm7 (C:Addr)(sp:Sp)(dvs:List V)(E:XK)(t:TA):TE:=fun σ H Q=>t σ H fun vs H1=>∀ x dx,H1 x=none->H1 dx=none->dx≠x->
 sp (.ref x::(vs++dvs)) (upd (upd H1 dx (.own x)) x (.ins C dx [])) (fun v H2=>v= .non/\Q (.ref x) H2) E
def Binds (K:W.Frag)(fd:FuncData)(ps:List Str)(ds:List Value):Prop:=
 ∀(s:Shared)(us:List Value),K.In s.heap->(us++ds).length=ps.length->BindsTo s fd ⟨us,[]⟩ (ps.zip (us++ds))
theorem Binds.all {K:W.Frag}{fd:FuncData}{ps:List Str}(h:∀ us:List Value,us.length=ps.length->bindArgs fd ⟨us,[]⟩=pure (ps.zip us)):Binds K fd ps []:=fun s us _ i=>by
 rw[append_nil]at i ⊢
 exact .of_eq (h us i)
def zx2 (CX:CXT)(X:Cx)(E:XK):Prop:=∀(pins:List (Addr×Obj))(σ:St)(H:Hp)(s:Shared)(e:Value)(s':Shared),Inv X pins σ H s->CX X.stack H s E e s'->X.xe e s'
section
variable {X:Cx}{CX:CXT}{k:Nat}{f C:Addr}{fd:FuncData}{ps:List Str}{sp:Sp}{dvs:List V}{ds:List Value}{E:XK}{x m:Str}{p pos apos:Pos}{e o:Expr}{es:List Expr}{ta:TE}{t:TA}
theorem yr6 {pins:List (Addr×Obj)}{σ:St}{H:Hp}{s:Shared}{Q:VK}{us:List Value}{vs:List V}(F:FnOk X.prog X.w X.K X.mg X.base CX k f fd ps sp)(G:Room k X.A)(O:Binds X.K fd ps ds)(hd:Vals dvs ds)(z:zx2 CX X E)
  (I:Inv X pins σ H s) (r:Vals vs us) (h:sp (vs++dvs) H Q E):wpAny (model X.prog X.w) X.A (call (.ref f) us) (EP X pins σ Q) X.xe s:=by
 have j:Vals (vs++dvs) (us++ds):=r.append hd
 have N:(us++ds).length=ps.length:=by rw[<-j.length];exact F.len _ _ _ _ h
 refine wpAny_call (codeAny_mono (F.run X.A X.stack s H ⟨us,[]⟩ (us++ds) (vs++dvs) Q E G I.env0 (O s us I.kIn N) j h) fun r s' i=>?_)
 cases r with
 |error e=>exact z pins σ H s e s' I i
 |ok fl=>
  cases fl with
  |ret u=>exact I.after i
  |next=>exact False.elim i
  |brk=>exact False.elim i
  |cont=>exact False.elim i
theorem t5 (F:FnOk X.prog X.w X.K X.mg X.base CX k f fd ps sp)(N:Room k X.A)(O:Gl X x)(hm:X.mg x=some (.ref f))(hk:W.keepIn X.K (.ref f)=true)(S:Binds X.K fd ps ds)(hd:Vals dvs ds)(G:zx2 CX X E)
  (ha:PA X (e::es) t) (j:(x==("__debug__":Str))=false:=by decide) (R:starEach (e::es) X.env=(false,eval e X.env)::starEach es X.env:=by rfl) (i:(backTo pos (starEach es X.env)).any (·.1)=false:=by rfl):
  PE X (.Call (.Name x p) (e::es) [] pos) (ys3 sp dvs E t):=by
 intro pins s σ H Q I h
 refine wpAny_Call_Name_kw (N0 I O hm ?_ j)
 refine W.callWith_K (h₀:=X.base) I.ok.mod.kin hk (thn (ha pos pins s σ H _ I h) fun us s1 ⟨vs,H1,z,r,q⟩=>⟨z.kIn,?_⟩) R i
 exact yr6 F N S hd G z r q
theorem A4 {pl:Sem Bool}(Z:PE X o ta)(c:Cls X.K C)(hm:Meth X.K C m f)(F:FnOk X.prog X.w X.K X.mg X.base CX k f fd ps sp)(Y:Room k X.A)(hb:Binds X.K fd ps ds)(hd:Vals dvs ds)(S:zx2 CX X E)(ha:PA X (e::es) t)
  (j:starEach (e::es) X.env=(false,eval e X.env)::starEach es X.env:=by rfl) (z:(backTo pos (starEach es X.env)).any (·.1)=false:=by rfl)
  (U:eval (.Call (.Attribute o m apos) (e::es) [] pos) X.env=(do
   let G ← eval o X.env
   standAt apos.atName
   let (f,first) ← holding [G] (getMethod G m pl)
   callWith pos f first (backTo pos (starEach (e::es) X.env)) (backToKw pos (keywordEach [] X.env))):=by rfl):
  PE X (.Call (.Attribute o m apos) (e::es) [] pos) (zx5 C m sp dvs E ta t):=by
 intro pins s σ H Q I h
 refine W.methodCall_KW (pl:=pl) (thn (Z pins s σ H _ I h) fun u s1 i=>?_) U
 obtain⟨x,H1,O,rx,a,dx,fs,ex,ea,l,q⟩:=i
 subst ex
 obtain rfl:u=Value.ref a:=rx
 refine G1 O ea c hm l ?_
 refine W.callWith_K (first:=[.ref a]) (h₀:=X.base) I.ok.mod.kin hm.kp (thn (ha pos pins s1 σ H1 _ O q) fun us s2 ⟨vs,H2,N,r,R⟩=>⟨N.kIn,?_⟩) j z
 exact yr6 (us:=.ref a::us) (vs:=.ref a::vs) F Y hb hd S N (.cons rfl r) R
theorem t8 {pl:Sem Bool}(R:PE X o ta)(c:Cls X.K C)(hm:Meth X.K C m f)(F:FnOk X.prog X.w X.K X.mg X.base CX k f fd ps sp)(O:Room k X.A)(S:Binds X.K fd ps ds)(hd:Vals dvs ds)(G:zx2 CX X E)
  (N:eval (.Call (.Attribute o m apos) [] [] pos) X.env=(do
   let z ← eval o X.env
   standAt apos.atName
   let (f,first) ← holding [z] (getMethod z m pl)
   callWith pos f first (backTo pos (starEach [] X.env)) (backToKw pos (keywordEach [] X.env))):=by rfl):
  PE X (.Call (.Attribute o m apos) [] [] pos) (zx5 C m sp dvs E ta tNil):=by
 intro pins s σ H Q I h
 refine W.methodCall_KW (pl:=pl) (thn (R pins s σ H _ I h) fun u s1 i=>?_) N
 obtain⟨x,H1,j,rx,a,dx,fs,ex,U,l,q⟩:=i
 subst ex
 obtain rfl:u=Value.ref a:=rx
 refine G1 j U c hm l ?_
 exact W.callWith_K0 (first:=[.ref a]) j.kIn hm.kp (yr6 (us:=[.ref a]) (vs:=[.ref a]) F O S hd G j (.cons rfl .nil) q)
structure Mk (K:W.Frag)(C f:Addr):Prop where
 makes:W.makesIn K C=true
 init:W.findIn K (.ref C) "__init__"=some (some (.ref f))
 fn:W.isFn K (.ref f)=true
 kp:W.keepIn K (.ref C)=true
theorem ye6 {pins:List (Addr×Obj)}{σ:St}{H:Hp}{s:Shared}{Q:VK}{us:List Value}{vs:List V}(M:Mk X.K C f)(F:FnOk X.prog X.w X.K X.mg X.base CX k f fd ps sp)(S:Room (k+1) X.A)(Y:Binds X.K fd ps ds)(hd:Vals dvs ds)
  (R:zx2 CX X E) (I:Inv X pins σ H s) (r:Vals vs us)
  (h:∀ x dx,H x=none->H dx=none->dx≠x->sp (.ref x::(vs++dvs)) (upd (upd H dx (.own x)) x (.ins C dx [])) (fun v H2=>v= .non/\Q (.ref x) H2) E):
  wpAny (model X.prog X.w) X.A (call (.ref C) us) (EP X pins σ Q) X.xe s:=by
 have G:=h (s.heap.objs.size+1) s.heap.objs.size (I.hok.fresh (Nat.le_succ _)) (I.hok.fresh (Nat.le_refl _)) (Nat.ne_of_lt (Nat.lt_succ_self _))
 have j:=Inv.made (C:=C) I
 have z:Vals (V.ref (s.heap.objs.size+1)::(vs++dvs)) (Value.ref (s.heap.objs.size+1)::(us++ds)):=.cons rfl (r.append hd)
 have U:(Value.ref (s.heap.objs.size+1)::us++ds).length=ps.length:=by
  have e:=z.length
  rw[F.len _ _ _ _ G]at e
  exact e.symm
 refine wpAny_call (yb9 (f:=f) I.kIn M.makes M.init (beq_iff_eq.mp M.fn) (codeAny_mono (F.run _ X.stack _ _ ⟨Value.ref (s.heap.objs.size+1)::us,[]⟩ (Value.ref (s.heap.objs.size+1)::(us++ds)) _ _ E (S.make C us [])
  (j.env0.make C us []) (Y _ (Value.ref (s.heap.objs.size+1)::us) j.kIn U) z G) fun r s' i=>?_))
 cases r with
 |error e=>exact R pins σ _ _ e s' j i
 |ok fl=>
  cases fl with
  |ret u=>
   obtain⟨v,H',I3,N,Z,O⟩:=j.after i
   subst Z
   exact⟨N,⟨V.ref (s.heap.objs.size+1),H',I3,rfl,O⟩⟩
  |next=>exact False.elim i
  |brk=>exact False.elim i
  |cont=>exact False.elim i
theorem yp7 (M:Mk X.K C f)(F:FnOk X.prog X.w X.K X.mg X.base CX k f fd ps sp)(N:Room (k+1) X.A)(O:Gl X x)(hm:X.mg x=some (.ref C))(S:Binds X.K fd ps ds)(hd:Vals dvs ds)(G:zx2 CX X E)
  (ha:PA X (e::es) t) (j:(x==("__debug__":Str))=false:=by decide) (R:starEach (e::es) X.env=(false,eval e X.env)::starEach es X.env:=by rfl) (i:(backTo pos (starEach es X.env)).any (·.1)=false:=by rfl):
  PE X (.Call (.Name x p) (e::es) [] pos) (xm7 C sp dvs E t):=by
 intro pins s σ H Q I h
 refine wpAny_Call_Name_kw (N0 I O hm ?_ j)
 refine W.callWith_K (h₀:=X.base) I.ok.mod.kin M.kp (thn (ha pos pins s σ H _ I h) fun us s1 ⟨vs,H1,z,r,q⟩=>⟨z.kIn,?_⟩) R i
 exact ye6 M F N S hd G z r q
end
def PK (X:Cx)(kws:List Keyword)(t:TA):Prop:=
 ∀(pos:Pos)(pins:List (Addr×Obj))(s:Shared)(σ:St)(H:Hp)(Q:List V->Hp->Prop),Inv X pins σ H s->t σ H Q->wpAny (model X.prog X.w) X.A (evalAll ((backToKw pos (keywordEach kws X.env)).map (·.2))) (AP X pins σ Q) X.xe s
section
variable {X:Cx}{CX:CXT}{k:Nat}{f C:Addr}{fd:FuncData}{ps ks:List Str}{sp:Sp}{E:XK}{x m:Str}{p pos apos kpos:Pos}{e o:Expr}{es:List Expr}{kws:List Keyword}{te ta:TE}{t tk:TA}{nm:Option Str}
theorem yp2:PK X [] tNil:=fun _ _ _ _ H Q I h=>wpAny_evalAll_nil ⟨[],H,I,.nil,h⟩
theorem zs6 (ha:PE X e te)(N:PK X kws t):PK X (⟨nm,e,kpos⟩::kws) (zp7 te t):=by
 intro pos pins s σ H Q I h
 show wpAny _ _ (evalAll ((do let v ← eval e X.env;standAt pos;pure v)::(backToKw pos (keywordEach kws X.env)).map (·.2))) _ _ s
 refine wpAny_evalAll_cons (wpAny_bind (thn (ha pins s σ H _ I h) fun u s1 ⟨x,H1,R,j,G⟩=>wpAny_bind (wpAny_standAt (wpAny_pure ?_))))
 exact thn (N pos pins s1 σ H1 _ R G) fun us s2 ⟨xs,H2,O,i,z⟩=>⟨x::xs,H2,O,.cons j i,z⟩
structure KBinds (K:W.Frag)(fd:FuncData)(ps ks:List Str)(g:List Value->List Value->List Value)(gV:List V->List V->List V):Prop where
 to:∀(s:Shared)(us ws:List Value),K.In s.heap->(g us ws).length=ps.length->BindsTo s fd ⟨us,ks.zip ws⟩ (ps.zip (g us ws))
 rel:∀{vs:List V}{us:List Value}{zs:List V}{ws:List Value},Vals vs us->Vals zs ws->Vals (gV vs zs) (g us ws)
variable {g:List Value->List Value->List Value}{gV:List V->List V->List V}
end
structure FnScope (N P:List Str)(sc:Scope):Prop where
 kind:sc.kind= .function
 co:sc.isCoroutine=false
 gen:sc.isGenerator=false
 nd:N.Nodup
 pre:N.take P.length=P
 par:∀ x∈P,sc.names.lookup x=some .local\/sc.names.lookup x=some .cell
 nofree:∀ y∈sc.names,y.2≠ .free
theorem zj7 {kindOf:Str->Option NameKind}{x:Str}:∀{binds:List (Str×Value)}{m:Str->Option Value},(∀ v,(x,v)∉binds)->bindL kindOf binds m x=m x
 |[],_,_=>rfl
 | (n,v)::r,m,h=>by
  unfold bindL
  rw[zj7 fun w hw=>h w (mem_cons_of_mem _ hw)]
  split
  .have:x≠n:=by rintro rfl;exact h v mem_cons_self
   simp[this]
  .rfl
theorem zj9 {kindOf:Str->Option NameKind}{x:Str}:∀{binds:List (Str×Value)}{m:Str->Option Value},(∀ v,(x,v)∉binds)->bindC kindOf binds m x=m x
 |[],_,_=>rfl
 | (n,v)::r,m,h=>by
  unfold bindC
  rw[zj9 fun w hw=>h w (mem_cons_of_mem _ hw)]
  split
  .rfl
  .have:x≠n:=by rintro rfl;exact h v mem_cons_self
   simp[this]
theorem zj8 {kindOf:Str->Option NameKind}{x:Str}{v:Value}:∀{P:List Str}{vs:List Value}{i:Nat}{m:Str->Option Value},P.Nodup->P[i]? =some x->vs[i]? =some v->kindOf x=some .local->
  bindL kindOf (P.zip vs) m x=some v
 |[],_,_,_,_,h,_,_=>by simp at h
 |_::_,[],_,_,_,_,h,_=>by simp at h
 |p::P,w::vs,0,m,nd,h1,h2,hk=>by
  simp at h1 h2;subst h1;subst h2
  show bindL kindOf ((p,w)::P.zip vs) m p=_
  unfold bindL
  rw[zj7 fun v j=>(List.nodup_cons.mp nd).1 (of_mem_zip j).1,if_pos hk]
  simp
 |p::P,w::vs,i+1,m,nd,h1,h2,hk=>by
  show bindL kindOf ((p,w)::P.zip vs) m x=_
  unfold bindL
  exact zj8 (i:=i) (List.nodup_cons.mp nd).2 (by simpa using h1) (by simpa using h2) hk
theorem zi0 {kindOf:Str->Option NameKind}{x:Str}{v:Value}:∀{P:List Str}{vs:List Value}{i:Nat}{m:Str->Option Value},P.Nodup->P[i]? =some x->vs[i]? =some v->kindOf x≠some .local->
  bindC kindOf (P.zip vs) m x=some v
 |[],_,_,_,_,h,_,_=>by simp at h
 |_::_,[],_,_,_,_,h,_=>by simp at h
 |p::P,w::vs,0,m,nd,h1,h2,hk=>by
  simp at h1 h2;subst h1;subst h2
  show bindC kindOf ((p,w)::P.zip vs) m p=_
  unfold bindC
  rw[zj9 fun v j=>(List.nodup_cons.mp nd).1 (of_mem_zip j).1,if_neg hk]
  simp
 |p::P,w::vs,i+1,m,nd,h1,h2,hk=>by
  show bindC kindOf ((p,w)::P.zip vs) m x=_
  unfold bindC
  exact zi0 (i:=i) (List.nodup_cons.mp nd).2 (by simpa using h1) (by simpa using h2) hk
noncomputable def start (N:List Str)(vs:List V):St:=vs.map some++List.replicate (N.length-vs.length) none
noncomputable def cxOf (CX:CXT)(P:Program)(w:World)(K:W.Frag)(mg:Str->Option Value)(base:Heap)(N:List Str)(qual:Str)(scope:Scope)(f:Addr)(cd:Value)(A:Around)(outer:List Env)(s:Shared)(H:Hp)(E:XK):Cx where
 prog:=P
 w:=w
 K:=K
 mg:=mg
 base:=base
 A:=A.deeper (envOfC qual scope s.heap.objs.size f cd)
 N:=N
 s₀:=s
 H₀:=H
 env:=envOfC qual scope s.heap.objs.size f cd
 outer:=outer
 stack:=envOfC qual scope s.heap.objs.size f cd::outer
 ex:=[]
 calm:=true
 fn:=fun _=>true
 pn:=[]
 xe:=fun e s'=>wpAny (model P w) (A.deeper (envOfC qual scope s.heap.objs.size f cd)) (leaving (envOfC qual scope s.heap.objs.size f cd) e) (fun _ s''=>CX outer H s E e s'') (fun e' s''=>CX outer H s E e' s'') s'
theorem yz0 {sc:Scope}{n:Nat}{x:Str}(h:sc.names.lookup x=some .cell):∃ c,(cellsFrom n sc.names []).lookup x=some c:=by
 have q:=W.cellsFrom_some sc.names n [] (.inl h)
 exact Option.isSome_iff_exists.mp q
theorem yj4 {CX:CXT}{P:Program}{w:World}{K:W.Frag}{mg:Str->Option Value}{base:Heap}{N ps:List Str}{qual:Str}{scope:Scope}{f:Addr}{R:Value}{A:Around}{outer:List Env}{s s1:Shared}{H:Hp}{E:XK}{us:List Value}{vs:List V}
  (S:FnScope N ps scope) (hd:A.handled=none) (j:Env0 P w K mg base A outer s H) (hl:vs.length=ps.length) (r:Vals vs us)
  (x:InCallC s s.heap.objs.size (bindL (envOfC qual scope s.heap.objs.size f R).kindOf (ps.zip us) fun _=>none) (cellsFrom (s.heap.objs.size+1) scope.names []) (bindC (envOfC qual scope s.heap.objs.size f R).kindOf (ps.zip us) fun _=>none) s1):
  Inv (cxOf CX P w K mg base N qual scope f R A outer s H E) [] (start N vs) H s1:=by
 have Z:ps.length<=N.length:=by have:=congrArg List.length S.pre;rw[length_take]at this;omega
 obtain⟨h1,tk,rfl,hk⟩:=x.done
 have G:∀ b:Addr,b∉(cxOf CX P w K mg base N qual scope f R A outer s H E).ex:=fun b z=>absurd (show b∈([]:List Addr)from z) (by simp)
 refine⟨⟨j.mod,S.kind,rfl,rfl,Nat.le_refl _,fun y z c h1 h2=>?_,fun y I=>?_,fun y c _ h=>?_,fun _=>hd,Around.frames_deeper j.frames,.inr ⟨rfl,rfl⟩,fun b z=>absurd z (G b),j.bs,j.bsz,fun b _ _=>G b,fun b z=>absurd z (G b),j.funs,j.frf⟩,
  rfl,j.bare,Un.kept hk,⟨_,x.toInCall.ns,fun i y v h1 h2 h3=>?_⟩,fun y c h=>⟨_,x.cell y c h⟩,j.hok.fresh (Nat.le_refl _),fun y c h=>?_,fun p hp=>absurd (show p∈([]:List (Addr×Obj))from hp) (by simp),j.hok.kept hk,?_⟩
 .exact name_of_addr x.apart (PySem.mem_of_lookup h1) (PySem.mem_of_lookup h2)
 .have I:scope.names.lookup y=some .cell\/scope.names.lookup y=some .free:=I
  rcases I with I|I
  .exact yz0 I
  .exact absurd rfl (S.nofree _ (PySem.mem_of_lookup I))
 .exact Nat.le_of_lt (x.above y c (PySem.mem_of_lookup h))
 .have hi:i<vs.length:=by
   unfold start at h2
   by_cases hi:i<vs.length
   .exact hi
   .rw[getElem?_append_right (by simpa using hi)]at h2
    rw[getElem?_replicate]at h2
    split at h2 <;> cases h2
  have ha:vs[i]? =some v:=by
   unfold start at h2
   rw[getElem?_append_left (by simpa using hi),getElem?_map]at h2
   cases e:vs[i]? with
   |none=>rw[e]at h2;cases h2
   |some a=>rw[e]at h2;cases h2;rfl
  obtain⟨u,U,Y⟩:=r.get ha
  have hp:ps[i]? =some y:=by
   rw[<-S.pre,getElem?_take_of_lt (by omega)];exact h1
  have O:ps.Nodup:=by rw[<-S.pre];exact S.nd.sublist (take_sublist _ _)
  refine⟨u,Y,?_⟩
  rcases S.par y (mem_of_getElem? hp)with k|k
  .exact .inl ⟨k,zj8 O hp U k⟩
  .obtain⟨c,e⟩:=yz0 (n:=s.heap.objs.size+1) k
   refine .inr ⟨.inl k,c,e,?_⟩
   have q:=x.cell y c e
   rw[zi0 O hp U (by show scope.names.lookup y≠_;rw[k];decide)]at q
   exact q
 .exact j.hok.fresh (Nat.le_of_lt (x.above y c (PySem.mem_of_lookup h)))
 .unfold start
  show _=N.length
  rw[length_append,length_map,length_replicate]
  omega
theorem xf9 {CX:CXT}{P:Program}{w:World}{K:W.Frag}{mg:Str->Option Value}{base:Heap}{k:Nat}{f:Addr}{name qual:Str}{params:Arguments}{body:List Stmt}{scope:Scope}{dV kV doc pm cdv ct oc:Value}{an od:Option Addr}
  {osl:Array (Option Value)} {N ps:List Str} {sp:Sp} (lk:K.lookup f=some ⟨oc,od,.func (W.fnOf name qual params body scope dV kV doc pm an cdv ct),osl⟩) (Z:W.codeIn K cdv qual=true) (S:FnScope N ps scope)
  (len:∀ vs H Q E,sp vs H Q E->vs.length=ps.length)
  (z:∀(A:Around)(outer:List Env)(s:Shared)(H:Hp)(vs:List V)(Q:VK)(E:XK),Room k (A.deeper (envOfC qual scope s.heap.objs.size f cdv))->sp vs H Q E->
   ∃ t,PSs (cxOf CX P w K mg base N qual scope f cdv A outer s H E) body t/\t { nx:=fun _ H'=>Q .non H',rt:=Q } (start N vs) H):
  FnOk P w K mg base CX (k+1) f (W.fnOf name qual params body scope dV kV doc pm an cdv ct) ps sp:=by
 refine⟨len,fun A outer s H args us vs Q E Y O hb r G=>?_⟩
 have hl:=len _ _ _ _ G
 have KX:K.In s.heap:=O.mod.kin.keeps fun b o e=>(O.bs b o e).1
 have U:s.heap.NoLimit:=O.mod.nolimit.keeps fun b o e=>(O.bs b o e).1
 have j:∀ y∈ps.zip us,scope.names.lookup y.1=some .local\/(scope.names.lookup y.1=some .cell/\((cellsFrom (s.heap.objs.size+1) scope.names []).lookup y.1).isSome=true):=fun⟨n,v⟩ hy=>by
  rcases S.par n (of_mem_zip hy).1 with q|q
  .exact .inl q
  .exact .inr ⟨q,W.cellsFrom_some _ _ _ (.inl q)⟩
 refine codeAny_call_function Y.depth (KX _ _ lk) rfl S.co S.gen rfl (W.codeRec_of KX Z) (hb _ _ _ _ ?_)
 refine wpAny_newFunctionEnv_cells S.kind j fun env he s1 x=>?_
 subst he
 refine⟨U.keeps x.toInCall.keep,codeAny_func ?_⟩
 obtain⟨t,ht,hq⟩:=z A outer s H vs Q E (Y.deeper _) G
 have I:Inv (cxOf CX P w K mg base N qual scope f cdv A outer s H E) [] (start N vs) H s1:=yj4 S Y.hd O hl r x
 refine wpAny_mono (ht [] s1 (start N vs) H _ I hq) (fun fl s' hs=>?_) fun e s' hs=>hs
 have fin:∀{i:St}{H':Hp}{v:V}{u:Value},Inv (cxOf CX P w K mg base N qual scope f cdv A outer s H E) [] i H' s'->RelV v u->Q v H'->CE outer P w H s Q u s':=
  fun{i H' v u} J R q=>⟨v,H',J.os,J.bare,J.base,J.hok,R,q⟩
 cases fl with
 |ret u=>
  obtain⟨v,i,H',J,R,q⟩:=hs
  exact fin J R q
 |next=>
  obtain⟨i,H',J,q⟩:=hs
  exact fin (v:=V.non) (u:=Value.none) J rfl q
 |brk=>
  obtain⟨_,_,_,q⟩:=hs
  exact False.elim q
 |cont=>
  obtain⟨_,_,_,q⟩:=hs
  exact False.elim q
end
section
section
variable {X:Cx}{x:Str}{p pos:Pos}{e:Expr}{es:List Expr}{t:TA}{id T:String}{r:List V->Hp->VK->Prop}
def tCB (r:List V->Hp->VK->Prop)(t:TA):TE:=fun σ H Q=>t σ H fun vs H1=>r vs H1 Q
theorem S1 (S:D6 X (.builtin id) r)(O:Gl X x)(hm:X.mg x=none)(N:bootBuiltins x=some (.builtin id))(ha:PA X (e::es) t)(hn:x≠"__name__":=by decide)(j:(x==("__debug__":Str))=false:=by decide)
  (R:starEach (e::es) X.env=(false,eval e X.env)::starEach es X.env:=by rfl) (i:(backTo pos (starEach es X.env)).any (·.1)=false:=by rfl):PE X (.Call (.Name x p) (e::es) [] pos) (tCB r t):=by
 intro pins s σ H Q I h
 refine wpAny_Call_Name_kw (O3 I O hm N ?_ hn j)
 exact PyProof.Rows.callWith_builtin1 (thn (ha pos pins s σ H _ I h) fun us s1 ⟨vs,H1,U,z,G⟩=>S pins s1 σ H1 vs us Q U z G) R i
theorem A5 (S:D6 X (.type T) r)(O:Gl X x)(hm:X.mg x=none)(N:bootBuiltins x=some (.type T))(ha:PA X (e::es) t)(hn:x≠"__name__":=by decide)(j:(x==("__debug__":Str))=false:=by decide)
  (R:starEach (e::es) X.env=(false,eval e X.env)::starEach es X.env:=by rfl) (i:(backTo pos (starEach es X.env)).any (·.1)=false:=by rfl):PE X (.Call (.Name x p) (e::es) [] pos) (tCB r t):=by
 intro pins s σ H Q I h
 refine wpAny_Call_Name_kw (O3 I O hm N ?_ hn j)
 exact PyProof.Rows.callWith_type1 (thn (ha pos pins s σ H _ I h) fun us s1 ⟨vs,H1,U,z,G⟩=>S pins s1 σ H1 vs us Q U z G) R i
end
end
end L2
namespace HT
open PySem PyProof.Rows
theorem rcLt_int (A:Around)(s:Shared)(a:Int)(t:Tok)(c:Int)(u:Tok)(prog:Program)(w:World)(E:Value->Shared->Prop)(Q:Value->Shared->Prop)(h:Q (.bool (decide (a<c))) s):
  wpAny (model prog w) A (richCompare .Lt (.int a t) (.int c u)) Q E s:=
 (PyProof.Rows.lt_int h:wpAny (model prog w) A (compareOp .Lt (.int a t) (.int c u)) Q E s)
section
open PySem.SeqAt
open PySem.AutoSeq1 (wpAny_loadPart')
open PySem.MeetsSeq PySem.MeetsSeq2 PySem.MeetsSeq3
end
section
variable {prog:Program}{w:World}{A:Around}{E:Value->Shared->Prop}{s:Shared}
noncomputable def sIx (n d:Nat):Option Int->Nat
 |none=>d
 |some v=>if v<0 then (v+(n:Int)).toNat else min v.toNat n
theorem sIx_none (n d:Nat):sIx n d none=d:=rfl
theorem sIx_nat (n d k:Nat):sIx n d (some (k:Int))=min k n:=by
 show (if (k:Int)<0 then ((k:Int)+(n:Int)).toNat else min (k:Int).toNat n)=min k n
 rw[if_neg (by omega),Int.toNat_natCast]
end
end HT
namespace L2
open List
open PySem PySem.Spec PyProof.Rows
section
noncomputable abbrev TO:=St->Hp->(Option Int->Hp->Prop)->Prop
def PO (X:Cx)(e:Option Expr)(t:TO):Prop:=
 ∀(pins:List (Addr×Obj))(s:Shared)(σ:St)(H:Hp)(Q:Option Int->Hp->Prop),Inv X pins σ H s->t σ H Q->
  wpAny (model X.prog X.w) X.A (evalPart e X.env) (fun u s'=>∃ o H',Inv X pins σ H' s'/\IsPart u o/\Q o H') X.xe s
noncomputable def xu7:TO:=fun _ H Q=>Q none H
noncomputable def xc6 (t:TE):TO:=fun σ H Q=>t σ H fun x H1=>∃ i,x= .int i/\Q (some i) H1
section
variable {X:Cx}{e:Expr}{te:TE}{lo hi:Option Expr}{tl th:TO}{pos p2:Pos}
theorem xs6:PO X none xu7:=by
 intro pins s σ H Q I h
 rw[evalPart_none]
 exact wpAny_pure ⟨none,H,I,.none,h⟩
theorem xs5 (h:PE X e te):PO X (some e) (xc6 te):=by
 intro pins s σ H Q I hw
 rw[evalPart_some]
 refine thn (h pins s σ H _ I hw) fun u s1 j=>?_
 obtain⟨x,H1,N,z,G⟩:=j
 obtain⟨i,rfl,q⟩:=G
 obtain⟨t,rfl⟩:=z
 exact⟨some i,H1,N,.int i t,q⟩
def SlR (X:Cx)(r:V->Option Int->Option Int->Hp->VK->Prop):Prop:=
 ∀(pins:List (Addr×Obj))(s:Shared)(σ:St)(H:Hp)(x:V)(v vl vu:Value)(lo hi:Option Int)(sl:Addr)(Q:VK),Inv X pins σ H s->RelV x v->s.heap.IsSliceOf sl vl vu .none->IsPart vl lo->IsPart vu hi->r x lo hi H Q->
  ∃ T id,typeLookup (.type T) "__getitem__"=pure (some (.builtin id))/\s.TypeIs v T/\wpAny (model X.prog X.w) X.A (getItem v (.ref sl)) (EP X pins σ Q) X.xe s
def tSl (r:V->Option Int->Option Int->Hp->VK->Prop)(te:TE)(tl th:TO):TE:=fun σ H Q=>te σ H fun x H1=>tl σ H1 fun l H2=>th σ H2 fun u H3=>r x l u H3 Q
theorem yd9 {r:V->Option Int->Option Int->Hp->VK->Prop}(hr:SlR X r)(he:PE X e te)(hl:PO X lo tl)(Z:PO X hi th):PE X (.Subscript e (.Slice lo hi none p2) pos) (tSl r te tl th):=by
 intro pins s σ H Q I h
 refine Subscript_ (thn (he pins s σ H _ I h) fun v s1 i=>?_)
 obtain⟨x,H1,I1,O,U⟩:=i
 refine wpAny_Slice (thn (hl pins s1 σ H1 _ I1 U) fun G s2 ⟨l,H2,I2,pl,S⟩=>thn (Z pins s2 σ H2 _ I2 S) fun z j i=>?_)
 obtain⟨u,N,I3,Y,R⟩:=i
 rw[evalPart_none]
 refine wpAny_pure ?_
 have I4:Inv X pins σ N { j with heap:=j.heap.push { cls:=.type "slice",data:=.fields #[G,z,.none] } }:=I3.kept (t':=j.toks) fun b ob q=>Heap.get?_push_of_some _ q
 obtain⟨T,id,hT,ht,hg⟩:=hr pins { j with heap:=j.heap.push { cls:=.type "slice",data:=.fields #[G,z,.none] } } σ N x v G z l u j.heap.objs.size Q I4 O (Heap.IsSliceOf.new ..) pl Y R
 show wpAny (model X.prog X.w) X.A (subscriptTail e (.Slice lo hi none p2) v (.ref j.heap.objs.size)) (EP X pins σ Q) X.xe { j with heap:=j.heap.push { cls:=.type "slice",data:=.fields #[G,z,.none] } }
 exact tail_any (ops:=[.ref j.heap.objs.size,v]) ht hT hg (by with_unfolding_all rfl)
noncomputable def cutV (xs:List V)(lo hi:Option Int):List V:=(xs.drop (HT.sIx xs.length 0 lo)).take (HT.sIx xs.length xs.length hi-HT.sIx xs.length 0 lo)
theorem ze3 (xs:List V)(lo hi:Option Int):(cutV xs lo hi).length<=xs.length:=by
 unfold cutV
 rw[length_take,length_drop]
 omega
end
end
section
noncomputable def ixN (n:Nat)(i:Int):Option Nat:=if 0<=i then (if i<n then some i.toNat else none)else if -(n:Int)<=i then some (i+n).toNat else none
noncomputable def atI {α:Type}(xs:List α)(i:Int):Option α:=(ixN xs.length i).bind fun j=>xs[j]?
theorem yj3 {n:Nat}{i:Int}{j:Nat}(h:ixN n i=some j):seqIndex? i n=some j/\j<n/\ -(n:Int)<=i/\i<n:=by
 unfold ixN at h
 by_cases z:0<=i
 .rw[if_pos z]at h
  by_cases h1:i<n
  .rw[if_pos h1]at h
   have e:i.toNat=j:=Option.some.inj h
   exact⟨by rw[seqIndex_of z h1,e],by omega,by omega,h1⟩
  .rw[if_neg h1]at h;cases h
 .rw[if_neg z]at h
  by_cases h1:-(n:Int)<=i
  .rw[if_pos h1]at h
   have e:(i+n).toNat=j:=Option.some.inj h
   exact⟨by rw[seqIndex_neg (by omega) h1,e],by omega,h1,by omega⟩
  .rw[if_neg h1]at h;cases h
theorem yg4 {z:Type}{xs:List z}{i:Int}{v:z}(h:atI xs i=some v):∃ j,seqIndex? i xs.length=some j/\xs[j]? =some v/\j<xs.length/\ -(xs.length:Int)<=i/\i<xs.length:=by
 unfold atI at h
 cases e:ixN xs.length i with
 |none=>rw[e]at h;cases h
 |some j=>
  rw[e]at h
  obtain⟨h1,h2,I,G⟩:=yj3 e
  exact⟨j,h1,h,h2,I,G⟩
def zq8 (b:Expr):Prop:=∀ o i,subscripted b false o i=operate [o,i] (getItem o i)
def IxR (X:Cx)(r:R2):Prop:=
 ∀(value slice:Expr)(pins:List (Addr×Obj))(s:Shared)(σ:St)(H:Hp)(x y:V)(v u:Value)(Q:VK),Inv X pins σ H s->RelV x v->RelV y u->r x y H Q->
  subscripted slice false v u=operate [v,u] (getItem v u)->wpAny (model X.prog X.w) X.A (subscriptTail value slice v u) (EP X pins σ Q) X.xe s
def MtR (X:Cx)(id:String)(r:V->List V->Hp->VK->Prop):Prop:=
 ∀(pins:List (Addr×Obj))(s:Shared)(σ:St)(H:Hp)(x:V)(xs:List V)(v:Value)(us:List Value)(Q:VK),Inv X pins σ H s->RelV x v->Vals xs us->r x xs H Q->
  wpAny (model X.prog X.w) X.A (call (.builtin id) (v::us)) (EP X pins σ Q) X.xe s
section
variable {X:Cx}{a b:Expr}{ta tb:TE}{pos:Pos}
theorem xr1 {r:R2}(j:IxR X r)(ha:PE X a ta)(z:PE X b tb)(hs:zq8 b):PE X (.Subscript a b pos) (tOp r ta tb):=by
 intro pins s σ H Q I h
 exact Subscript_ (binT ha z I h fun v u s2 x y H2 G rx i q=>j a b pins s2 σ H2 x y v u Q G rx i q (hs _ _))
def rIxL (K:W.Frag):R2:=fun x y H Q=>∃ p xs i v,x= .ref p/\y= .int i/\SqL K H p xs/\atI xs i=some v/\Q v H
def rIxT (K:W.Frag):R2:=fun x y H Q=>∃ p xs i v,x= .ref p/\y= .int i/\SqT K H p xs/\atI xs i=some v/\Q v H
theorem xp6:IxR X (rIxL X.K):=by
 intro value G pins s σ H x y v u Q I rx S h hs
 obtain⟨p,xs,i,z,rfl,rfl,U,Z,q⟩:=h
 cases rx
 obtain⟨t,rfl⟩:=S
 obtain⟨its,r,pl,hz⟩:=I.list U
 obtain⟨j,h1,h2,h3,h4,h5⟩:=yg4 Z
 obtain⟨w,R,N⟩:=r.get h2
 have Y:=r.length
 have hn:=zm9
 have fin:EP X pins σ Q w s:=⟨z,H,I,N,q⟩
 by_cases O:0<=i
 .have hj:i.toNat=j:=by
   rw[seqIndex_of O h5]at h1
   exact Option.some.inj h1
  exact item_listR pl.isList O (by omega) (by rw[hj];simpa using R) fin hs
 .have hj:(i+(its.toArray.size:Int)).toNat=j:=by
   rw[seqIndex_neg (by omega) h4]at h1
   rw[size_toArray,<-Y]
   exact Option.some.inj h1
  exact subscriptTail_builtinR (x:=w) pl.isList.typeIs slot_list_getitem.lookup
   (wpAny_getItem_list_neg (Q:=fun r s'=>r=w/\EP X pins σ Q r s') pl.isList (by omega) (by rw[size_toArray] <;> omega) (by omega) (by rw[hj];simpa using R) ⟨rfl,fin⟩) hs
theorem xf6:IxR X (rIxT X.K):=by
 intro value G pins s σ H x y v u Q I rx O h hs
 obtain⟨p,xs,i,z,rfl,rfl,R,U,q⟩:=h
 cases rx
 obtain⟨t,rfl⟩:=O
 obtain⟨its,r,pl,Z⟩:=I.tuple R
 obtain⟨j,h1,h2,h3,h4,h5⟩:=yg4 U
 obtain⟨w,Y,N⟩:=r.get h2
 have S:=r.length
 have hn:=zm9
 have fin:EP X pins σ Q w s:=⟨z,H,I,N,q⟩
 exact subscriptTail_builtinR (x:=w) pl.typeIs slot_tuple_getitem.lookup
  (getItem_tuple (j:=j) (Q:=fun r s'=>r=w/\EP X pins σ Q r s') pl (by omega) (by omega) (by rw[size_toArray,<-S];exact h1) (by simpa using Y) ⟨rfl,fin⟩) hs
theorem yv1 (its:List Value)(n j:Nat)(u:Value):Obj.mapSeq (·.setIfInBounds j u) { cls:=.type "list",data:=.seq its.toArray n }={ cls:=.type "list",data:=.seq (its.set j u).toArray n }:=by
 simp[Obj.mapSeq]
theorem Inv.lst {pins:List (Addr×Obj)}{σ:St}{H:Hp}{s:Shared}{p:Addr}{xs:List V}(I:Inv X pins σ H s)(h:H p=some (.lst xs)):
  ∃(its:List Value)(n:Nat),Vals xs its/\s.heap.get? p=some { cls:=.type "list",data:=.seq its.toArray n }/\xs.length<=sizeLine:=by
 obtain⟨z,its,n,r,e⟩:=I.hok p _ h
 exact⟨its,n,r,e,z⟩
theorem Inv.lstUpd {pins:List (Addr×Obj)}{σ:St}{H:Hp}{s:Shared}{p:Addr}{xs ys:List V}{its its':List Value}{n n':Nat}{f:Obj->Obj}(I:Inv X pins σ H s)(h:H p=some (.lst xs))
  (z:s.heap.get? p=some { cls:=.type "list",data:=.seq its.toArray n }) (i:f { cls:=.type "list",data:=.seq its.toArray n }={ cls:=.type "list",data:=.seq its'.toArray n' }) (r:Vals ys its') (j:ys.length<=sizeLine) (t:Nat):
  Inv X pins σ (upd H p (.lst ys)) { s with heap:=s.heap.update p f,toks:=t }:=by
 have e:(s.heap.update p f).get? p=some { cls:=.type "list",data:=.seq its'.toArray n' }:=by
  rw[Heap.get?_update_self f z (by rw[i] <;> rfl),i]
 refine I.write (x:=p) (e:=p) (by rw[h];trivial) (.inl rfl) (fun b u G q=>(Heap.get?_update_other _ _ (Ne.symm G)).trans q) ⟨_,e⟩ ?_
 exact⟨j,its',n',r,e⟩
def xk8:V->V->V->Hp->(Hp->Prop)->Prop:=fun o i v H Q=>∃ p xs k j,o= .ref p/\i= .int k/\H p=some (.lst xs)/\ixN xs.length k=some j/\Q (upd H p (.lst (xs.set j v)))
theorem P0:PSet X xk8:=by
 intro pins s σ H o i v ov iv u Q I Y Z U h
 obtain⟨p,xs,k,j,rfl,rfl,hp,hj,q⟩:=h
 cases Y
 obtain⟨t,rfl⟩:=Z
 obtain⟨its,n,r,z,hz⟩:=I.lst hp
 obtain⟨h1,h2,O,N⟩:=yj3 hj
 have G:=r.length
 have hn:=zm9
 have S:Inv X pins σ (upd H p (.lst (xs.set j v))) { s with heap:=s.heap.update p (Obj.mapSeq (·.setIfInBounds j u)) }:=
  I.lstUpd hp z (yv1 its n j u) (r.set U j) (by rw[length_set];exact hz) s.toks
 by_cases R:0<=k
 .have hk:k.toNat=j:=by
   rw[seqIndex_of R N]at h1
   exact Option.some.inj h1
  exact W.ki_setAt z R (by omega) (by rw[size_toArray,<-G];exact N) (by rw[hk];exact⟨_,S,q⟩)
 .have hk:(k+(its.toArray.size:Int)).toNat=j:=by
   rw[seqIndex_neg (by omega) O]at h1
   rw[size_toArray,<-G]
   exact Option.some.inj h1
  exact W.ki_setBack z (by omega) (by rw[size_toArray,<-G];exact O) (by omega) (by rw[hk];exact⟨_,S,q⟩)
theorem zp9 (lo hi:Option Int)(n:Nat):(sliceBounds lo hi none n).1=((HT.sIx n 0 lo:Nat):Int)/\(sliceBounds lo hi none n).2.1=((HT.sIx n n hi:Nat):Int)/\(sliceBounds lo hi none n).2.2=1:=by
 refine⟨?_,?_,rfl⟩
 .cases lo with
  |none=>simp[sliceBounds,HT.sIx]
  |some i=>
   simp only[sliceBounds,HT.sIx,Option.getD_none,show (1:Int)>0 by decide,if_true]
   by_cases h:i<0
   .simp only[h,if_true] <;> omega
   .simp only[h,if_false] <;> omega
 .cases hi with
  |none=>simp[sliceBounds,HT.sIx]
  |some i=>
   simp only[sliceBounds,HT.sIx,Option.getD_none,show (1:Int)>0 by decide,if_true]
   by_cases h:i<0
   .simp only[h,if_true] <;> omega
   .simp only[h,if_false] <;> omega
theorem zt3 (its:List Value)(lo hi:Option Int):slicePick its.toArray lo hi none=((its.drop (HT.sIx its.length 0 lo)).take (HT.sIx its.length its.length hi-HT.sIx its.length 0 lo)).toArray:=by
 obtain⟨h1,h2,i⟩:=zp9 lo hi its.toArray.size
 unfold slicePick
 rw[h1,h2,i]
 simp only[sliceRange_one,pick_run,size_toArray] <;> rfl
def rSlL (K:W.Frag):V->Option Int->Option Int->Hp->VK->Prop:=fun x lo hi H Q=>∃ a xs,x= .ref a/\SqL K H a xs/\∀ p,H p=none->Q (.ref p) (upd H p (.lst (cutV xs lo hi)))
theorem xu9:SlR X (rSlL X.K):=by
 intro pins s σ H x v R O lo hi sl Q I rx hs pl z h
 obtain⟨a,xs,rfl,N,q⟩:=h
 cases rx
 obtain⟨its,r,j,G⟩:=I.list N
 have i:=r.length
 refine⟨"list",_,slot_list_getitem.lookup,j.isList.typeIs,?_⟩
 refine wpAny_getItem_list_slice j.isList hs pl z .none (by simp) ?_ (by rw[size_toArray] <;> omega)
 rw[zt3,<-i]
 refine⟨.ref s.heap.objs.size,_,I.laid (t':=s.toks) (o:=.lst (cutV xs lo hi)) (fun b ob q=>Heap.get?_push_of_some _ q) (Nat.le_refl _) ?_,rfl,q _ (I.hok.fresh (Nat.le_refl _))⟩
 exact⟨Nat.le_trans (ze3 xs lo hi) G,_,0,(r.drop (HT.sIx xs.length 0 lo)).take (HT.sIx xs.length xs.length hi-HT.sIx xs.length 0 lo),Heap.get?_push_size _ rfl⟩
theorem zj5:D6 X (.builtin "len") (fun xs H Q=>∃ p ys,xs=[.ref p]/\(SqL X.K H p ys\/SqT X.K H p ys)/\Q (.int ys.length) H):=by
 intro pins s σ H xs us Q I r h
 obtain⟨p,ys,rfl,j,q⟩:=h
 obtain⟨u,rfl,rx⟩:=N9 r
 cases rx
 have hn:=zm9
 rcases j with j|j
 .obtain⟨its,r',pl,hz⟩:=I.list j
  have i:=r'.length
  exact Calls.call_len_list pl.isList (by simp only[size_toArray] <;> omega) ⟨.int ys.length,H,I.tok _,⟨s.toks+1,by rw[size_toArray,i]⟩,q⟩
 .obtain⟨its,r',pl,hz⟩:=I.tuple j
  have i:=r'.length
  exact len_tuple pl (by simp only[size_toArray] <;> omega) ⟨.int ys.length,H,I.tok _,⟨s.toks+1,by rw[size_toArray,i]⟩,q⟩
theorem zj4:D6 X (.type "list") (fun xs H Q=>∃ p ys,xs=[.ref p]/\(SqL X.K H p ys\/SqT X.K H p ys)/\∀ l,H l=none->Q (.ref l) (upd H l (.lst ys))):=by
 intro pins s σ H xs us Q I r h
 obtain⟨p,ys,rfl,G,q⟩:=h
 obtain⟨u,rfl,rx⟩:=N9 r
 cases rx
 have fin:∀(its:List Value),Vals ys its->ys.length<=sizeLine->∀(h':Heap)(j:Nat),(∀ b o',s.heap.get? b=some o'->h'.get? b=some o')->
   h'.get? s.heap.objs.size=some { cls:=.type "list",dict:=none,data:=.seq its.toArray j,slots:=#[] }->EP X pins σ Q (.ref s.heap.objs.size) { s with heap:=h' }:=fun its i z h' j kp e=>
  ⟨.ref s.heap.objs.size,_,I.laid (t':=s.toks) kp (Nat.le_refl _) (show ObjOk X.prog X.w _ h' _ (.lst ys)from⟨z,its,j,i,e⟩),rfl,q _ (I.hok.fresh (Nat.le_refl _))⟩
 rcases G with G|G
 .obtain⟨its,i,pl,z⟩:=I.list G
  have N:=i.length
  obtain⟨o,O,R,n,hd⟩:=pl.isList
  exact call_list_seq p (.inl rfl) O R hd (fun h' j kp e=>fin its i z h' j kp e) (by simp only[size_toArray] <;> omega)
 .obtain⟨its,i,pl,z⟩:=I.tuple G
  have N:=i.length
  obtain⟨o,O,R,n,hd⟩:=pl
  exact call_list_seq p (.inr rfl) O R hd (fun h' j kp e=>fin its i z h' j kp e) (by simp only[size_toArray] <;> omega)
def tyV (K:W.Frag)(T:String)(x:V)(H:Hp):Prop:=match x with
 | .str _=>T="str"
 | .int _=>T="int"
 | .ref p=>(T="list"/\∃ xs,SqL K H p xs)\/(T="tuple"/\∃ o,K.lookup p=some o/\o.cls= .type "tuple"/\o.dict=none)\/
   (T="dict"/\((∃ kvs,H p=some (.dK kvs))\/∃ kvs,H p=some (.dT kvs)))\/(T="set"/\∃ S n,H p=some (.set S n))
 |_=>False
theorem xy9 {pins:List (Addr×Obj)}{σ:St}{H:Hp}{s:Shared}{T:String}{x:V}{v:Value}(I:Inv X pins σ H s)(r:RelV x v)(ty:tyV X.K T x H):
  s.TypeIs v T/\∀ a,v= .ref a->∃ ob,s.heap.get? a=some ob/\ob.dict=none:=by
 cases x with
 |str z=>
  obtain⟨t,rfl⟩:=r
  cases (show T="str" from ty)
  exact⟨typeIs_str s z t,fun _ e=>nomatch e⟩
 |int i=>
  obtain⟨t,rfl⟩:=r
  cases (show T="int" from ty)
  exact⟨typeIs_int s i t,fun _ e=>nomatch e⟩
 |ref p=>
  cases r
  rcases ty with⟨rfl,xs,j⟩|⟨rfl,o,hk,G,hd⟩|⟨rfl,hk⟩|⟨rfl,S,n,hk⟩
  .obtain⟨its,_,pl,_⟩:=I.list j
   refine⟨pl.isList.typeIs,fun a e=>?_⟩
   cases e
   obtain⟨o,n,e,c,hd,_⟩:=pl
   exact⟨o,e,hd⟩
  .refine⟨⟨o,I.kIn p o hk,G⟩,fun a e=>?_⟩
   cases e
   exact⟨o,I.kIn _ o hk,hd⟩
  .have z:∃ o,s.heap.get? p=some o/\o.ExactDict:=by
    rcases hk with⟨kvs,hk⟩|⟨kvs,hk⟩
    .obtain⟨_,_,_,_,o,_,_,e,ex,_⟩:=I.hok p _ hk
     exact⟨o,e,ex⟩
    .obtain⟨_,_,_,_,o,_,_,e,ex,_⟩:=I.hok p _ hk
     exact⟨o,e,ex⟩
   obtain⟨o,e,ex⟩:=z
   refine⟨⟨o,e,ex.1⟩,fun a e2=>?_⟩
   cases e2
   exact⟨o,e,ex.2.1⟩
  .obtain⟨o,_,_,_,e,ex,_⟩:=I.hok p _ hk
   refine⟨⟨o,e,ex.1⟩,fun a e2=>?_⟩
   cases e2
   exact⟨o,e,ex.2.1⟩
 |_=>exact False.elim ty
def tBM0 (K:W.Frag)(T:String)(r:V->List V->Hp->VK->Prop)(to:TE):TE:=fun σ H Q=>to σ H fun x H1=>tyV K T x H1/\r x [] H1 Q
def tBM (K:W.Frag)(T:String)(r:V->List V->Hp->VK->Prop)(to:TE)(t:TA):TE:=fun σ H Q=>to σ H fun x H1=>tyV K T x H1/\t σ H1 fun xs H2=>r x xs H2 Q
variable {o e:Expr}{es:List Expr}{to:TE}{t:TA}{name:Str}{apos cpos:Pos}{T id:String}{r:V->List V->Hp->VK->Prop}
theorem xw1 (S:PlainAttrs T)(slot:Slot T name id)(G:typeOf (.builtin id)=pure (.type "method_descriptor"))(hm:MtR X id r)(U:PE X o to)
  (j:attributeBase o name X.env (eval o X.env)=eval o X.env:=by rfl) (i:(apos.endLine==cpos.line)=true:=by rfl):PE X (.Call (.Attribute o name apos) [] [] cpos) (tBM0 X.K T r to):=by
 intro pins s σ H Q I h
 refine wpAny_Call_method0_late j i (thn (U pins s σ H _ I h) fun v s1 z=>?_)
 obtain⟨x,H1,O,N,ty,R⟩:=z
 obtain⟨h1,h2⟩:=xy9 O N ty
 exact⟨T,id,S,slot,G,h1,h2,Calls.callWith_builtin rfl (PySem.evalArgs_none (hm pins s1 σ H1 x [] v [] Q O N .nil R))⟩
theorem E9 (pa:PlainAttrs T)(slot:Slot T name id)(O:typeOf (.builtin id)=pure (.type "method_descriptor"))(hm:MtR X id r)(ho:PE X o to)(ha:PA X (e::es) t)
  (z:attributeBase o name X.env (eval o X.env)=eval o X.env:=by rfl)
  (N:((backTo cpos (starEach (e::es) X.env)).all (fun x=>!x.1)&&(backToKw cpos (keywordEach [] X.env)).all (fun x=>x.1.isSome)
   &&decide ((e::es).length+([]:List Keyword).length+(if ([]:List Keyword).isEmpty then 0 else 1)<30))=true:=by rfl)
  (j:(apos.endLine==cpos.line)=true:=by rfl) (hs:starEach (e::es) X.env=(false,eval e X.env)::starEach es X.env:=by rfl) (i:(backTo cpos (starEach es X.env)).any (·.1)=false:=by rfl):
  PE X (.Call (.Attribute o name apos) (e::es) [] cpos) (tBM X.K T r to t):=by
 intro pins s σ H Q I h
 refine wpAny_Call_method_late z N j rfl (thn (ho pins s σ H _ I h) fun v s1 G=>?_)
 obtain⟨x,H1,U,R,ty,q1⟩:=G
 obtain⟨h1,h2⟩:=xy9 U R ty
 refine⟨T,id,pa,slot,O,h1,h2,?_⟩
 have S:=ha cpos pins s1 σ H1 _ U q1
 rw[hs]at S ⊢
 refine Calls.callWith_builtin (by show (false || (backTo cpos (starEach es X.env)).any (·.1))=false;rw[i] <;> rfl) (Calls.evalArgs_plain ?_)
 exact thn S fun us s2 ⟨vs,H2,I2,Y,Z⟩=>hm pins s2 σ H2 x vs v us Q I2 R Y Z
end
end
section
def MtM (X:Cx)(id:String)(r:V->List V->Hp->VK->Prop):Prop:=
 ∀(pins:List (Addr×Obj))(s:Shared)(σ:St)(H:Hp)(x:V)(xs:List V)(v:Value)(us:List Value)(Q:VK),Inv X pins σ H s->RelV x v->Vals xs us->r x xs H Q->
  wpAny (model X.prog X.w) X.A (call (.builtin id) (v::us)) (EP X pins σ Q) X.xe s
theorem Vals.one:∀{x:V}{us:List Value},Vals [x] us->∃ u,us=[u]/\RelV x u
 |_,_,.cons r .nil=>⟨_,rfl,r⟩
theorem Vals.zero:∀{us:List Value},Vals [] us->us=[]
 |_,.nil=>rfl
theorem Vals.dropLast {xs:List V}{us:List Value}(h:Vals xs us):Vals xs.dropLast us.dropLast:=by
 induction h with
 |nil=>exact .nil
 |cons r t i=>
  cases t with
  |nil=>exact .nil
  |cons q t'=>exact .cons r i
theorem Vals.rep {xs:List V}{us:List Value}(h:Vals xs us):∀ k:Nat,Vals (List.replicate k xs).flatten (List.replicate k us).flatten
 |0=>.nil
 |k+1=>by
  rw[replicate_succ,replicate_succ,flatten_cons,flatten_cons]
  exact Vals.append h (Vals.rep h k)
theorem yu3 {i:Type}(l:List i):l.eraseIdx (l.length-1)=l.dropLast:=by
 induction l with
 |nil=>rfl
 |cons a r j=>
  cases r with
  |nil=>rfl
  |cons b r=>
   have e:(a::b::r).length-1=((b::r).length-1)+1:=by
    have h1:(a::b::r).length=r.length+2:=rfl
    have h2:(b::r).length=r.length+1:=rfl
    omega
   rw[e,eraseIdx_cons_succ,j]
   all_goals rfl
theorem zk3 (its:List Value):∀(k:Nat)(acc:List Value),
  List.foldl (fun j i=>j++i) acc.toArray (List.replicate k its.toArray)=(acc++(List.replicate k its).flatten).toArray
 |0,acc=>by simp
 |k+1,acc=>by
  have e:acc.toArray++its.toArray=(acc++its).toArray:=by simp
  have e2:(acc++its)++(List.replicate k its).flatten=acc++(List.replicate (k+1) its).flatten:=by
   rw[replicate_succ,flatten_cons,append_assoc]
  rw[<-e2,<-zk3 its k (acc++its),<-e,replicate_succ,foldl_cons]
section
variable {X:Cx}{pins:List (Addr×Obj)}{σ:St}{H:Hp}{s:Shared}{l b:Addr}{xs ys zs:List V}
theorem Inv.lset {its its':List Value}{n:Nat}{f:Array Value->Array Value}{t':Nat}(I:Inv X pins σ H s)(O:H l=some (.lst xs))
  (e:s.heap.get? l=some { cls:=.type "list",data:=.seq its.toArray n }) (G:f its.toArray=its'.toArray) (j:Vals ys its') (i:ys.length<=sizeLine):
  Inv X pins σ (upd H l (.lst ys)) { s with heap:=s.heap.update l (Obj.mapSeq f),toks:=t' }:=by
 have q:=PySem.IsL.update e f
 rw[G]at q
 refine I.write (x:=l) (e:=l) (by rw[O];exact trivial) (.inl rfl) (fun b' u N z=>(Heap.get?_update_other s.heap (Obj.mapSeq f) (Ne.symm N)).trans z) ⟨_,q⟩ ?_
 exact⟨i,its',_,j,q⟩
theorem Inv.lnew {its:List Value}{t':Nat}(I:Inv X pins σ H s)(j:Vals ys its)(i:ys.length<=sizeLine):
  Inv X pins σ (upd H s.heap.objs.size (.lst ys)) { s with heap:=s.heap.push { cls:=.type "list",data:=.seq its.toArray },toks:=t' }:=
 I.laid (fun _ _ q=>Heap.get?_push_of_some _ q) (Nat.le_refl _) ⟨i,its,0,j,Heap.get?_push_size _ rfl⟩
theorem Inv.fresh (I:Inv X pins σ H s):H s.heap.objs.size=none:=I.hok.fresh (Nat.le_refl _)
theorem Inv.lstM (I:Inv X pins σ H s)(i:H l=some (.lst xs)):xs.length<=sizeLine/\∃(its:List Value)(n:Nat),Vals xs its/\xs.length=its.length/\s.heap.get? l=some { cls:=.type "list",data:=.seq its.toArray n }:=by
 obtain⟨z,its,n,r,e⟩:=I.hok l _ i
 exact⟨z,its,n,r,r.length,e⟩
theorem yc3 {n:Nat}(h:n<=sizeLine):Builtin.List.listTooLong n=false:=by
 unfold Builtin.List.listTooLong
 exact decide_eq_false (by omega)
end
section
variable {X:Cx}
def zt8:V->List V->Hp->VK->Prop:=fun x vs H Q=>∃ l xs y,x= .ref l/\vs=[y]/\H l=some (.lst xs)/\xs.length<sizeLine/\Q .non (upd H l (.lst (xs++[y])))
theorem j8:MtM X "list.append" zt8:=by
 intro pins s σ H x vs v us Q I rx j h
 obtain⟨l,xs,y,rfl,rfl,i,N,q⟩:=h
 cases rx
 obtain⟨u,rfl,G⟩:=j.one
 obtain⟨z,its,n,r,O,e⟩:=I.lstM i
 refine call_meets F.slot_list_append ⟨_,e,rfl⟩ F.entry_list_append (F.args_list_append_2 _ _) (PySem.list_append l its.toArray n u (by rw[size_toArray];omega)) ⟨e,?_⟩
 refine⟨.non,_,I.lset (its':=its++[u]) i e (by simp) (r.append (.cons G .nil)) ?_,rfl,q⟩
 rw[length_append,length_singleton]
 omega
def rPop:V->List V->Hp->VK->Prop:=fun x vs H Q=>∃ l xs y,x= .ref l/\vs=[]/\H l=some (.lst xs)/\xs[xs.length-1]? =some y/\Q y (upd H l (.lst xs.dropLast))
theorem xw9:MtM X "list.pop" rPop:=by
 intro pins s σ H x vs v us Q I rx N h
 obtain⟨l,xs,y,rfl,rfl,G,R,q⟩:=h
 cases rx
 have j:=N.zero
 subst j
 obtain⟨z,its,n,r,U,e⟩:=I.lstM G
 obtain⟨u,S,O⟩:=r.get R
 have i:its.toArray[its.toArray.size-1]? =some u:=by
  show its.toArray[its.length-1]? =some u
  rw[<-Array.getElem?_toList,<-U]
  exact S
 refine call_meets F.slot_list_pop ⟨_,e,rfl⟩ F.entry_list_pop (F.args_list_pop_1 _) (MeetsSeq.list_pop_last l its.toArray n u i (by rw[size_toArray];omega)) ⟨e,?_⟩
 refine⟨y,_,I.lset (its':=its.dropLast) G e ?_ r.dropLast ?_,O,q⟩
 .show its.toArray.eraseIdxIfInBounds (its.toArray.size-1)=its.dropLast.toArray
  rw[size_toArray,eraseIdxIfInBounds_toArray,yu3]
 .rw[length_dropLast]
  omega
def rRep:R2:=fun x y H Q=>∃ l k xs,x= .ref l/\y= .int k/\H l=some (.lst xs)/\ -(2^63)<=k/\k<2^63/\xs.length*k.toNat<=sizeLine/\
 ∀ p,H p=none->Q (.ref p) (upd H p (.lst (List.replicate k.toNat xs).flatten))
theorem xp5 {i:Type}(xs:List i)(k:Nat):(List.replicate k xs).flatten.length=k*xs.length:=by
 induction k with
 |zero=>simp
 |succ k j=>rw[replicate_succ,flatten_cons,length_append,j,Nat.succ_mul,Nat.add_comm]
theorem xi5:OpR X (binaryOp .Mult) rRep:=by
 intro pins s σ H x y v u Q I rx Z h
 obtain⟨l,k,xs,rfl,rfl,hH,h1,h2,Y,q⟩:=h
 cases rx
 obtain⟨t,rfl⟩:=Z
 obtain⟨z,its,n,r,hl,e⟩:=I.lstM hH
 have G:its.toArray.size*k.toNat<=sizeLine:=by rw[size_toArray,<-hl];exact Y
 have O:¬ its.toArray.size*k.toNat>(2^63-1) / 8:=by
  have:(sizeLine:Nat)<=(2^63-1) / 8:=by decide
  omega
 have N:¬ (!Builtin.List.listFitsIndex k)=true:=by
  rw[fitsIndex_both h1 h2]
  exact Bool.false_ne_true
 have i:¬ Builtin.List.listTooLong (its.toArray.size*k.toNat)=true:=by
  rw[yc3 G]
  exact Bool.false_ne_true
 have j:List.foldl (fun S R=>S++R) #[] (List.replicate (if its.toArray.isEmpty=true then 0 else k.toNat) its.toArray)=(List.replicate k.toNat its).flatten.toArray:=by
  have f0:∀ m:Nat,List.foldl (fun S R=>S++R) #[] (List.replicate m its.toArray)=(List.replicate m its).flatten.toArray:=fun m=>by
   have:=zk3 its m []
   rw[nil_append]at this
   exact this
  rw[f0]
  cases its with
  |nil=>simp
  |cons a r'=>rw[if_neg (by simp)]
 refine wpAny_binaryOp_repeat_ref (T:="list") (U:="int") (by decide) ⟨_,e,rfl⟩ (fun s'=>typeIs_int s' k t) noFill_list_mul F.fills_int_mul F.slot_int_rmul repeat_list F.slot_int_index.lookup
  (call_meets F.slot_int_rmul (typeIs_int s k t) F.entry_int_rmul (F.args_int_rmul_2 _ _) (int___rmul___int_list k t l its.toArray n)
   ⟨e,rfl,⟨_,e,rfl⟩,call_meets F.slot_list_mul ⟨_,e,rfl⟩ F.entry_list_mul (F.args_list_mul_2 _ _) (AutoListH.list___mul___list_int_3 l its.toArray n k t N O i) ⟨e,?_⟩⟩)
 rw[j]
 exact⟨.ref _,_,I.lnew (t':=s.toks) (r.rep k.toNat) (by rw[xp5,Nat.mul_comm];exact Y),rfl,q _ I.fresh⟩
end
section
variable {prog:Program}{w:World}{A:Around}{E:Value->Shared->Prop}{s:Shared}
end
section
variable {X:Cx}
end
end
end L2
namespace Att
open PySem PySem.W PySem.Calls PyProof.Rows
theorem zz9 {P:Params}{h:Heap}:∀(ns:List Int)(vs:List Value),WellAll P h vs (ns.map WData.int)->IntsAre vs ns:=by
 intro ns
 induction ns with
 |nil=>
  intro vs w
  rw[List.map_nil]at w
  cases w
  exact .nil
 |cons n ns i=>
  intro vs w
  rw[List.map_cons]at w
  cases w with
  |cons a b=>
   cases a
   exact .cons _ _ (i _ b)
theorem ys8 {l:OpenLaw}{n:Nat}(hn:l.most=some n){P:Params}{h:Heap}{args:List WData}{i:List Value}
  (j:l.row.toRowW.claim.pre args=true) (O:WellAll P h i args):
  ∃ a vs ns,i=[Value.ref a]/\args=[WData.list (ns.map WData.int)]/\h.get? a=some { cls:=.type "list",data:=.seq vs.toArray }/\IntsAre vs ns/\ns.length<=n:=by
 have R:WShape.hasAll [] args [.list .int]=true:=(pre_splitW j).1
 have S:l.pre.holds [] { args:=args }=true:=(pre_splitW j).2
 obtain⟨d,r,rfl,h1,h2⟩:=hasAllW_cons R
 obtain rfl:=hasAllW_nil h2
 obtain⟨xs,rfl,h3⟩:=hasW_list h1
 obtain⟨ns,rfl⟩:=items_int h3
 have z:ns.length<=n:=by
  unfold OpenLaw.pre at S
  have N:(WTm.not (.lt (.lit (.int (n:Int))) (.len (.arg 0)))).holds [] { args:=[.list (ns.map .int)] }=true:=by
   have N:=(holds_andW S).1
   rw[hn]at N
   exact N
  have I:=condW_of N (w_not (w_lt w_lit (w_len_list (w_arg rfl))))
  rw[List.length_map]at I
  refine Nat.le_of_not_lt fun q=>?_
  have Z:(n:Int)<((ns.length:Nat):Int):=by omega
  first
   | (rw[decide_eq_true Z]at I;exact absurd I (by decide))
   | (simp at I;omega)
 cases O with
 |cons Y U=>
  cases U
  cases Y with
  |list ho G=>exact⟨_,_,ns,rfl,rfl,ho,zz9 ns _ G,z⟩
theorem yq9 (l:OpenLaw)(args:List WData):l.row.toRowW.claim.post args (.bool true) args=true:=
 postW_of (r:=l.row.toRowW) (X:=(true==true))
  (show WShape.has [] (.bool true) .bool=true by first|rfl|decide|simp[WShape.has,WShape.arms,WShape.armsAll])
  (show (WTm.eq .res (.lit (.bool true))).value [] { args:=args,res:=some (.bool true),after:=args }=some (.bool (true==true))from w_eq_bool (w_res rfl) w_lit) rfl
theorem attach_call {l:OpenLaw}{n:Nat}{q:Program}{j:List Str}{XP:(Str->Option Value)->Heap->Prop}{YP:World->Heap->Prop}{d:DefRec}
  (hn:l.most=some n) (a1:d.params.defaults=[])
  (call:∀(w:World)(s₀ i:Shared)(mg mb:Str->Option Value)(R:Addr)(o:Obj)(pm S doc:Value)(a:Addr)(vs:List Value)(ns:List Int),
   Ground q j [] XP w s₀ mg mb i.heap->YP w i.heap->
   i.heap.get? R=some o->o.data= .func (docDef d.name d.params d.body d.scope pm S doc)->i.heap.CodeRec S d.name->mg d.name=some (.ref R)->
   i.heap.get? a=some { cls:=.type "list",data:=.seq vs.toArray }->IntsAre vs ns->ns.length<=n->i.gens=#[]->
   codeAny (model l.prog w) callerA (.call (.ref R) ⟨[.ref a],[]⟩) (fun r s'=>r= .ok (.ret (.bool true))/\OldK i.heap s'.heap/\s'.os=i.os/\AllBare s'.gens) i):
  WalkO q j XP YP l.row.toRowW d [] (fun f vs=>PySem.call f vs):=by
 intro w s₀ i mg mb G Y R o pm S doc dV kV ho hd a2 hD Z hg args a3 as I a4 a5 U a6
 obtain rfl:dV= .none:=Dflts.none hD a1
 obtain rfl:kV= .none:=Dflts.noKw hD
 obtain⟨a,vs,ns,rfl,rfl,N,z,O⟩:=ys8 hn I U
 refine enter_call (codeAny_mono (call w s₀ i mg mb R o pm S doc a vs ns G Y ho (fd_plain hd) a2 Z N z O hg) fun r s' hq=>?_)
 obtain⟨rfl,h2,h3,h4⟩:=hq
 exact⟨.inl ⟨.bool true,.bool true,[],rfl,fun _=>rfl,.bool true,yq9 l _,fun _=>⟨List.Pairwise.nil,fun _ hm=>(nomatch hm)⟩⟩,h2,h3,h4⟩
section
variable {prog:Program}{w:World}{A:Around}{E:Value->Shared->Prop}{s:Shared}{K:Frag}
end
end Att
namespace L2
open List
open PySem PySem.Spec PyProof.Rows
section
theorem zp1:∀{vs:List Value}{ns:List Int},IntsAre vs ns->Vals (ns.map V.int) vs
 |_,_,.nil=>.nil
 |_,_,.cons n t h=>.cons ⟨t,rfl⟩ (zp1 h)
def Only (H:Hp):Prop:=∀ b,H b=none\/∃ o xs,H b=some (.frz o (.lst xs))
theorem ya3 {P:Program}{w:World}{K:W.Frag}{mg mb:Str->Option Value}{CX:CXT}{k:Nat}{fa a:Addr}{fd:FuncData}{x:Str}{sp:Sp}{i:Shared}{vs:List Value}{ns:List Int}
  (KX:K.In i.heap) (Y:i.heap.Ns mainGlobals mg) (G:i.heap.Ns builtinsNs mb) (a4:∀ x:Str,x≠"__name__"->mb x=bootBuiltins x) (Z:i.heap.NoLimit) (hg:i.gens=#[])
  (ha:i.heap.get? a=some { cls:=.type "list",data:=.seq vs.toArray }) (hi:IntsAre vs ns) (hl:ns.length<=sizeLine) (hr:Room k callerA)
  (F:∀ base:Heap,K.In base->base.Ns mainGlobals mg->FnOk P w K mg base CX k fa fd [x] sp) (O:∀(s:Shared)(u:Value),BindsTo s fd ⟨[u],[]⟩ [(x,u)])
  (a3:∀ H:Hp,Only H->SqL K H a (ns.map V.int)->sp [.ref a] H (fun v _=>v= .bl true) fun _ _ _=>False)
  (a5:∀ H e s',CX [] H i (fun _ _ _=>False) e s'->False):
  codeAny (model P w) callerA (.call (.ref fa) ⟨[.ref a],[]⟩) (fun r s'=>r= .ok (.ret (.bool true))/\OldK i.heap s'.heap/\s'.os=i.os/\AllBare s'.gens) i:=by
 have rv:=zp1 hi
 have S:=hi.length
 have N:∀ H:Hp,Only H->SqL K H a (ns.map V.int)->HOk P w H i.heap->(∀ b,H b≠none->b=a)->(H a≠none->K.lookup a=none)->
   codeAny (model P w) callerA (.call (.ref fa) ⟨[.ref a],[]⟩) (fun r s'=>r= .ok (.ret (.bool true))/\OldK i.heap s'.heap/\s'.os=i.os/\AllBare s'.gens) i:=by
  intro H hO hS hok hA hK
  have j:∀{b:Addr}{o:Obj},i.heap.get? b=some o->H b=none->(hidT i.heap H).get? b=some o:=fun e n=>xz1 e n
  have a2:∀{b:Addr}{o:Obj}{es:Array DictEntry}{ep:Nat},i.heap.get? b=some o->o.data= .dict es ep->H b=none:=fun{b o es ep} e d=>by
   cases q:H b with
   |none=>rfl
   |some u=>
    have e':b=a:=hA b (by rw[q];simp)
    subst e'
    rw[ha]at e;cases e
    have d':Data.seq vs.toArray _=Data.dict es ep:=d
    cases d'
  have I:∀{b:Addr}{m:Str->Option Value},i.heap.Ns b m->(hidT i.heap H).Ns b m:=fun{b m} ⟨o,es,ep,e,d,r⟩=>⟨o,es,ep,j e (a2 e d),d,r⟩
  have a1:K.In (hidT i.heap H):=fun b o e=>j (KX b o e) (by
   cases q:H b with
   |none=>rfl
   |some u=>
    have e':b=a:=hA b (by rw[q];simp)
    subst e'
    rw[hK (by rw[q];simp)]at e;cases e)
  have hM:Mod K mg (hidT i.heap H):=⟨a1,I Y,⟨mb,I G,a4⟩,let ⟨mc,h1,h2⟩:=Z;⟨mc,I h1,h2⟩⟩
  have e0:Env0 P w K mg (hidT i.heap H) callerA [] i H:=⟨rfl,hM,fun b o e=>xq7 e,Nat.le_of_eq (yj7 _ _),trivial,fun b G=>absurd (show b∈([]:List Addr)from G) (by simp),hok,.of_eq hg⟩
  refine codeAny_mono ((F _ a1 (I Y)).run callerA [] i H ⟨[.ref a],[]⟩ [.ref a] [.ref a] _ _ hr e0 (O i (.ref a)) (.cons rfl .nil) (a3 H hO hS)) fun r s' h=>?_
  cases r with
  |error e=>exact(a5 H e s' h).elim
  |ok fl=>
   cases fl with
   |next=>exact False.elim h
   |brk=>exact False.elim h
   |cont=>exact False.elim h
   |ret u=>
    obtain⟨v,H',os,bare,un,U,r',q⟩:=h
    have q':v= .bl true:=q
    subst q'
    obtain rfl:u=Value.bool true:=r'
    refine⟨rfl,OldK.of_keep fun b o e=>?_,os,bare⟩
    cases q:H b with
    |none=>exact un.keep b o e q (by intro z;exact absurd (show b∈([]:List Addr)from z) (by simp)) (by simp)
    |some u=>
     rcases hO b with z|⟨ob,xs,z⟩
     .rw[q]at z;cases z
     .have z2:=un.frzs b ob _ z
      obtain⟨e1,_⟩:=hok b _ z
      obtain⟨e2,_⟩:=U b _ z2
      rw[e]at e1;cases e1
      exact e2
 cases hk:K.lookup a with
 |some o=>
  have e:=KX a o hk
  rw[ha]at e
  cases e
  refine N (fun _=>none) (fun _=>.inl rfl) (.inr ⟨_,vs.toArray,_,hk,rfl,rfl,rfl,by rw[size_toArray,S];exact hl,by simpa using rv⟩) (fun b u z=>by have R:(none:Option HO)=some u:=z;cases R) (fun b z=>absurd rfl z) fun z=>absurd rfl z
 |none=>
  refine N (fun b=>if b=a then some (.frz { cls:=.type "list",data:=.seq vs.toArray } (.lst (ns.map V.int)))else none) (fun b=>?_) (.inl (.inr ⟨{ cls:=.type "list",data:=.seq vs.toArray },if_pos rfl⟩)) (fun b u z=>?_) (fun b z=>?_) fun _=>hk
  .by_cases G:b=a
   .exact .inr ⟨_,_,if_pos G⟩
   .exact .inl (if_neg G)
  .by_cases G:b=a
   .have R:=(if_pos G).symm.trans z
    cases R
    subst G
    exact⟨ha,by rw[length_map];exact hl,vs,_,rv,ha⟩
   .have R:=(if_neg G).symm.trans z
    cases R
  .by_cases G:b=a
   .exact G
   .exact absurd (if_neg G) z
end
section
theorem walk_of {l:W.OpenLaw}{n k:Nat}{q:Program}{j:List Str}{XP:(Str->Option Value)->Heap->Prop}{YP:World->Heap->Prop}{d:DefRec}{K:Params->W.Frag}{CX:World->CXT}{sp:World->Sp}{x:Str}
  (hn:l.most=some n) (S:n<=sizeLine) (Z:d.params.defaults=[]) (hr:Room k callerA)
  (hY:∀(w:World)(h:Heap),YP w h->(K w.params).In h)
  (F:∀(w:World)(mg:Str->Option Value)(O:Addr)(h:Heap),(K w.params).In h->h.Ns mainGlobals mg->mg d.name=some (.ref O)->
   ∃ fd:FuncData,(∀(s:Shared)(u:Value),BindsTo s fd ⟨[u],[]⟩ [(x,u)])/\
    ∀ base:Heap,(K w.params).In base->base.Ns mainGlobals mg->FnOk l.prog w (K w.params) mg base (CX w) k O fd [x] (sp w))
  (R:∀(w:World)(H:Hp)(a:Addr)(ns:List Int),ns.length<=n->Only H->SqL (K w.params) H a (ns.map V.int)->sp w [.ref a] H (fun v _=>v= .bl true) fun _ _ _=>False)
  (a1:∀(w:World)(H:Hp)(s:Shared)(e:Value)(s':Shared),CX w [] H s (fun _ _ _=>False) e s'->False):
  W.WalkO q j XP YP l.row.toRowW d [] (fun f vs=>PySem.call f vs):=by
 refine Att.attach_call hn Z fun w s₀ I mg mb O o pm cd doc a vs ns G Y ho hd a2 U N z i hg=>?_
 have KX:=hY w _ Y
 obtain⟨fd,hb,hF⟩:=F w mg O _ KX G.T.g U
 exact ya3 KX G.T.g G.T.b G.T.builtins G.T.nolimit hg N z (Nat.le_trans i S) hr hF hb (fun H hO hS=>R w H a ns i hO hS) fun H e s'=>a1 w H I e s'
end
section
noncomputable def t4 (s:Stmt):Arguments:=match s with
 | .FunctionDef _ a _ _ _ _ _ _ _ _=>a
 |_=>{ posonlyargs:=[],args:=[],vararg:=none,kwonlyargs:=[],kw_defaults:=[],kwarg:=none,defaults:=[] }
noncomputable def u5 (s:Stmt):List Stmt:=match s with
 | .FunctionDef _ _ b _ _ _ _ _ _ _=>b
 |_=>[]
noncomputable def y7 (s:Stmt):Scope:=match s with
 | .FunctionDef _ _ _ _ _ _ sc _ _ _=>sc
 |_=>{ kind:=.function,names:=[],isGenerator:=false,isCoroutine:=false }
abbrev CX0:CXT:=fun _ _ _ _ _ _=>False
abbrev E0:XK:=fun _ _ _=>False
theorem t6 {X:Cx}:zx2 CX0 X E0:=fun _ _ _ _ _ _ _ h=>h.elim
structure Fun (K:W.Frag)(x qual:Str)(st:Stmt)(f:Addr)(fd:FuncData):Prop where
 ex:∃(oc:Value)(od:Option Addr)(kV doc pm:Value)(an:Option Addr)(cdv ct:Value)(osl:Array (Option Value)),
  fd=W.fnOf x qual (t4 st) (u5 st) (y7 st) .none kV doc pm an cdv ct/\K.lookup f=some ⟨oc,od,.func fd,osl⟩/\W.codeIn K cdv qual=true
 kp:W.keepIn K (.ref f)=true
section
variable {P:Program}{w:World}{K:W.Frag}{mg:Str->Option Value}{base:Heap}
theorem Fun.ok {x qual:Str}{st:Stmt}{f:Addr}{fd:FuncData}{N ps:List Str}{k:Nat}{sp:Sp}(F:Fun K x qual st f fd)(S:FnScope N ps (y7 st))(len:∀ vs H Q E,sp vs H Q E->vs.length=ps.length)
  (i:∀(cdv:Value)(A:Around)(outer:List Env)(s:Shared)(H:Hp)(vs:List V)(Q:VK)(E:XK),Room k (A.deeper (envOfC qual (y7 st) s.heap.objs.size f cdv))->sp vs H Q E->
   ∃ t,PSs (cxOf CX0 P w K mg base N qual (y7 st) f cdv A outer s H E).nox (u5 st) t/\t { nx:=fun _ H'=>Q .non H',rt:=Q } (start N vs) H):FnOk P w K mg base CX0 (k+1) f fd ps sp:=by
 obtain⟨oc,od,kV,doc,pm,an,cdv,ct,osl,rfl,lk,z⟩:=F.ex
 refine xf9 lk z S len fun A outer s H vs Q E G j=>?_
 obtain⟨t,h,q⟩:=i cdv A outer s H vs Q E G j
 exact⟨t,h.nox,q⟩
theorem Fun.binds {x qual:Str}{st:Stmt}{f:Addr}{fd:FuncData}{ps:List Str}(F:Fun K x qual st f fd)
  (h:∀(kV doc pm:Value)(an:Option Addr)(cdv ct:Value)(us:List Value),us.length=ps.length->bindArgs (W.fnOf x qual (t4 st) (u5 st) (y7 st) .none kV doc pm an cdv ct) ⟨us,[]⟩=pure (ps.zip us)):Binds K fd ps []:=by
 obtain⟨oc,od,kV,doc,pm,an,cdv,ct,osl,rfl,lk,i⟩:=F.ex
 exact .all (h kV doc pm an cdv ct)
theorem l9 {x qual:Str}{st:Stmt}{f:Addr}{oc:Value}{od an:Option Addr}{osl:Array (Option Value)}{kV doc pm cdv ct:Value}(l:K.lookup f=some ⟨oc,od,.func (W.fnOf x qual (t4 st) (u5 st) (y7 st) .none kV doc pm an cdv ct),osl⟩)
  (c:W.codeIn K cdv qual=true) (k:W.keepIn K (.ref f)=true):Fun K x qual st f (W.fnOf x qual (t4 st) (u5 st) (y7 st) .none kV doc pm an cdv ct):=⟨⟨oc,od,kV,doc,pm,an,cdv,ct,osl,rfl,l,c⟩,k⟩
end
section
variable {X:Cx}
theorem pv (i:Nat){x:Str}{pos:Pos}(G:X.N[i]? =some x:=by rfl)(z:Vis X.env.scope x:=by first|exact Or.inl rfl|exact Or.inr (Or.inl rfl)|exact Or.inr (Or.inr rfl))(hd:(x==("__debug__":Str))=false:=by decide)
  (j:(x==("__classdict__":Str))=false:=by decide):PE X (.Name x pos) (tVar i):=xj7 G z hd j
end
theorem iteF {A B:Prop}(h:B):if false=true then A else B:=by
 rw[if_neg Bool.false_ne_true]
 exact h
theorem iteT {A B:Prop}(h:A):if true=true then A else B:=by
 rw[if_pos rfl]
 exact h
def Same (H H':Hp):Prop:=∀ b o,H b=some o->H' b=some o
theorem Same.refl (H:Hp):Same H H:=fun _ _ h=>h
theorem Same.trans {H H1 H2:Hp}(a:Same H H1)(b:Same H1 H2):Same H H2:=fun c o h=>b c o (a c o h)
theorem Same.free {H H':Hp}(e:Same H H'){l:Addr}(h:H' l=Option.none):H l=Option.none:=by
 cases q:H l with
 |none=>rfl
 |some o=>
  rw[e l o q]at h
  cases h
theorem Same.seq {K:W.Frag}{H H':Hp}{a:Addr}{xs:List V}(e:Same H H')(h:SqL K H a xs):SqL K H' a xs:=by
 rcases h with (h|⟨o,h⟩)|h
 .exact .inl (.inl (e _ _ h))
 .exact .inl (.inr ⟨o,e _ _ h⟩)
 .exact .inr h
end
section
noncomputable def clOf (cells:List (Str×Addr)):List (Str×NameKind)->List (Str×Addr)->List (Str×Addr)
 |[],cs=>cs
 | (n,k)::r,cs=>if k= .free then (match cells.lookup n with |some c=>clOf cells r ((n,c)::cs)|none=>clOf cells r cs)else clOf cells r cs
theorem N3 {env:Env}:∀(names:List (Str×NameKind))(j:List (Str×Addr)),(∀ x∈names,x.2= .free->∃ c,env.cells.lookup x.1=some c)->
  (forIn names j fun x r=>if (x.2==NameKind.free)=true then do let c ← cellOf env x.1;pure (ForInStep.yield ((x.1,c)::r))else pure (ForInStep.yield r):Sem (List (Str×Addr)))=pure (clOf env.cells names j)
 |[],j,_=>rfl
 | (n,k)::r,j,h=>by
  have z:∀ x∈r,x.2= .free->∃ c,env.cells.lookup x.1=some c:=fun x G=>h x (mem_cons_of_mem _ G)
  rw[forIn_cons]
  by_cases hk:k= .free
  .subst hk
   obtain⟨c,I⟩:=h (n,.free) mem_cons_self rfl
   have i:env.cells.lookup n=some c:=I
   have e:cellOf env n=pure c:=by unfold cellOf;rw[i]
   simp only[beq_self_eq_true,if_true,e,pure_bind]
   rw[N3 r _ z]
   simp only[clOf,if_true,i]
  .have hb:(k==NameKind.free)=false:=by simpa using hk
   simp only[hb,Bool.false_eq_true,if_false,pure_bind]
   rw[N3 r j z]
   simp only[clOf,hk,if_false]
theorem zy7 {env:Env}{scope:Scope}(h:∀ x∈scope.names,x.2= .free->∃ c,env.cells.lookup x.1=some c):closureFor scope env=pure (clOf env.cells scope.names []):=by
 have q:=N3 (env:=env) scope.names [] h
 simp only[closureFor]
 refine Eq.trans ?_ q
 have e:∀(m:Sem (List (Str×Addr))),(m >>= fun i=>pure i)=m:=fun m=>by simp
 first| (rw[e];rfl)|rfl|simp
theorem C8 {cells:List (Str×Addr)}{x:Str}{c:Addr}:∀(names:List (Str×NameKind))(i:List (Str×Addr)),(∀ y d,i.lookup y=some d->cells.lookup y=some d)->(clOf cells names i).lookup x=some c->cells.lookup x=some c
 |[],i,h,e=>h x c e
 | (n,k)::r,i,h,e=>by
  unfold clOf at e
  split at e
  .split at e
   .rename_i d hd
    refine C8 r _ (fun y d' q=>?_) e
    rw[lookup_cons]at q
    split at q
    .rename_i hy
     have:y=n:=by simpa using hy
     subst this
     cases q;exact hd
    .exact h y d' q
   .exact C8 r i h e
  .exact C8 r i h e
theorem K2 {cells:List (Str×Addr)}{x:Str}:∀(names:List (Str×NameKind))(i:List (Str×Addr)),(i.lookup x).isSome=true->((clOf cells names i).lookup x).isSome=true
 |[],i,h=>h
 | (n,k)::r,i,h=>by
  unfold clOf
  split
  .split
   .refine K2 r _ ?_
    rw[lookup_cons];split
    .rfl
    .exact h
   .exact K2 r i h
  .exact K2 r i h
theorem K3 {cells:List (Str×Addr)}{x:Str}{c:Addr}(j:cells.lookup x=some c):∀(names:List (Str×NameKind))(i:List (Str×Addr)),(x,NameKind.free)∈names->((clOf cells names i).lookup x).isSome=true
 |[],i,h=>absurd h (by simp)
 | (n,k)::r,i,h=>by
  unfold clOf
  rcases List.mem_cons.mp h with e|h
  .cases e
   rw[if_pos rfl,j]
   refine K2 r _ ?_
   simp[lookup_cons]
  .split
   .split
    .exact K3 j r _ h
    .exact K3 j r i h
   .exact K3 j r i h
theorem W5 {env:Env}:∀{names:List (Str×NameKind)}{x:Str},names.lookup x=some .free->
  (names.map fun(n,k)=>if (k==NameKind.free&&env.scope.kind== .function&&env.kindOf n==some .cell)then (n,NameKind.cell)else (n,k)).lookup x=some .cell\/
  (names.map fun(n,k)=>if (k==NameKind.free&&env.scope.kind== .function&&env.kindOf n==some .cell)then (n,NameKind.cell)else (n,k)).lookup x=some .free
 |[],_,h=>by simp at h
 | (n,k)::r,x,h=>by
  have i:=@W5 env r x
  show List.lookup x ((if (k==NameKind.free&&env.scope.kind== .function&&env.kindOf n==some .cell)=true then (n,NameKind.cell)else (n,k))::_)=_\/List.lookup x ((if (k==NameKind.free&&env.scope.kind== .function&&env.kindOf n==some .cell)=true then (n,NameKind.cell)else (n,k))::_)=_
  by_cases j:(k==NameKind.free&&env.scope.kind== .function&&env.kindOf n==some .cell)=true
  .rw[if_pos j]
   cases hx:x==n with
   |true=>left;simp only[lookup_cons,hx]
   |false=>simp only[lookup_cons,hx]at h ⊢;exact i h
  .rw[if_neg j]
   cases hx:x==n with
   |true=>right;simp only[lookup_cons,hx]at h ⊢;exact h
   |false=>simp only[lookup_cons,hx]at h ⊢;exact i h
theorem S7 {env:Env}:∀{names:List (Str×NameKind)}{x:Str}{k:NameKind},(∀ y∈names,y.2≠ .cell)->
  (names.map fun(n,k)=>if (k==NameKind.free&&env.scope.kind== .function&&env.kindOf n==some .cell)then (n,NameKind.cell)else (n,k)).lookup x=some k->(k= .cell\/k= .free)->(x,NameKind.free)∈names
 |[],_,_,_,h,_=>by simp at h
 | (n,j)::r,x,k,hc0,h,hk=>by
  have G:=@S7 env r x k (fun y I=>hc0 y (mem_cons_of_mem _ I))
  have h:List.lookup x ((if (j==NameKind.free&&env.scope.kind== .function&&env.kindOf n==some .cell)=true then (n,NameKind.cell)else (n,j))::_)=_:=h
  by_cases z:(j==NameKind.free&&env.scope.kind== .function&&env.kindOf n==some .cell)=true
  .rw[if_pos z]at h
   have N:j= .free:=by
    have:=z;simp only[Bool.and_eq_true]at this;simpa using this.1.1
   cases hx:x==n with
   |true=>
    have i:x=n:=by simpa using hx
    subst i;subst N;exact mem_cons_self
   |false=>simp only[lookup_cons,hx]at h;exact mem_cons_of_mem _ (G h hk)
  .rw[if_neg z]at h
   cases hx:x==n with
   |true=>
    have i:x=n:=by simpa using hx
    subst i
    simp only[lookup_cons,hx]at h
    have e:j=k:=Option.some.inj h
    subst e
    rcases hk with hk|hk
    .exact absurd hk (hc0 _ mem_cons_self)
    .subst hk;exact mem_cons_self
   |false=>simp only[lookup_cons,hx]at h;exact mem_cons_of_mem _ (G h hk)
end
section
structure Blk (X:Cx)(sc:Scope)(N:List Str)(src:List (Option Nat)):Prop where
 kind:sc.kind= .function
 nocell:∀ y∈sc.names,y.2≠ .cell
 names:∀ y∈sc.names,y.2= .local->sc.names.lookup y.1=some .local
 free:∀ y∈sc.names,y.2= .free->X.env.kindOf y.1=some .cell\/X.env.kindOf y.1=some .free
 fv:∀(j i:Nat),src[j]? =some (some i)->∃ x,N[j]? =some x/\X.N[i]? =some x/\sc.names.lookup x=some .free
 len:src.length=N.length
noncomputable def blk0 (src:List (Option Nat))(σ:St):St:=src.map fun o=>o.bind fun i=>(σ[i]?).join
noncomputable def W7 (X:Cx)(sc:Scope)(C:Addr)(N:List Str)(fp:List Addr)(s:Shared)(H:Hp):Cx where
 prog:=X.prog
 w:=X.w
 K:=X.K
 mg:=X.mg
 base:=X.base
 A:=X.A
 N:=N
 s₀:=s
 H₀:=H
 env:=compEnvC sc (clOf X.env.cells sc.names []) C X.env
 outer:=X.stack
 stack:=X.stack
 ex:=fp
 fn:=fun _=>false
 calm:=X.calm
 pn:=[]
 xe:=fun _ _=>False
section
variable {X:Cx}{pins:List (Addr×Obj)}{σ:St}{H:Hp}{s:Shared}
theorem Blk.cl {sc:Scope}{N:List Str}{src:List (Option Nat)}(B:Blk X sc N src)(ok:X.Ok):closureFor sc X.env=pure (clOf X.env.cells sc.names []):=
 zy7 fun x i hk=>ok.has x.1 (B.free x i hk)
theorem E3 {sc:Scope}{x:Str}{c:Addr}(h:(clOf X.env.cells sc.names []).lookup x=some c):X.env.cells.lookup x=some c:=
 C8 sc.names [] (fun y d e=>by simp at e) h
theorem yg0 {sc:Scope}{N:List Str}{src:List (Option Nat)}{fp:List Addr}{D C:Addr}{R:Heap}{t:Nat}{m:Str->Option Value}
  (B:Blk X sc N src) (I:Inv X pins σ H s) (S:∀ b∈fp,FpOk X pins H b) (a3:∀ b∈fp,∃ o,s.heap.get? b=some o)
  (hk:∀ b o,s.heap.get? b=some o->R.get? b=some o) (U:s.heap.objs.size<=D) (a7:R.get? D=some { cls:=.type "list",data:=.seq #[] 0 })
  (hn:R.Ns C m) (Y:s.heap.objs.size<=C) (a8:D≠C):
  Inv (W7 X sc C N fp s H) [] (blk0 src σ) (upd H D (.lst [])) { s with heap:=R,toks:=t }:=by
 have a5:H D=none:=I.hok.fresh U
 have a6:H C=none:=I.hok.fresh Y
 have new:ObjOk X.prog X.w (upd H D (.lst [])) R D (.lst []):=⟨Nat.zero_le _,[],0,.nil,a7⟩
 have cC:∀ x c,X.env.cells.lookup x=some c->c≠C:=fun x c e z=>by
  obtain⟨v,q⟩:=I.cell x c e
  exact absurd (Nat.lt_of_lt_of_le q.lt (by rw[z];exact Y)) (Nat.lt_irrefl _)
 have cD:∀ x c,X.env.cells.lookup x=some c->c≠D:=fun x c e z=>by
  obtain⟨v,q⟩:=I.cell x c e
  exact absurd (Nat.lt_of_lt_of_le q.lt (by rw[z];exact U)) (Nat.lt_irrefl _)
 refine⟨⟨I.ok.mod,?_,I.ok.glob,I.ok.blt,Y,fun x y c h1 h2=>?_,fun x G=>?_,fun x c h _=>(by cases h),I.ok.hd,I.ok.frames,.inl rfl,fun b j=>⟨?_,fun x c e=>?_⟩,I.bs,Nat.le_trans I.ok.bsz I.sz,fun b o e j=>?_,fun b j z=>?_,I.stack,I.stkFree⟩,
  rfl,I.bare,Un.laid hk U a5,⟨m,hn,fun i x v e1 e2 e3=>?_⟩,fun x c e=>?_,?_,fun x c e=>?_,fun p hp=>?_,I.hok.laid hk U new,?_⟩
 .show (relabel sc X.env).kind=_
  exact B.kind
 .exact I.ok.inj x y c (E3 h1) (E3 h2)
 .have hx':(∃ k,(relabel sc X.env).names.lookup x=some k/\(k= .cell\/k= .free)):=by
   rcases G with G|G
   .exact⟨_,G,.inl rfl⟩
   .exact⟨_,G,.inr rfl⟩
  obtain⟨k,e,a2⟩:=hx'
  have hm:=S7 B.nocell e a2
  obtain⟨c,a4⟩:=I.ok.has x (B.free _ hm rfl)
  exact Option.isSome_iff_exists.mp (K3 a4 sc.names [] hm)
 .obtain⟨o,e⟩:=a3 b j
  exact Nat.ne_of_lt (Nat.lt_of_lt_of_le (Heap.lt_size e) Y)
 .exact(S b j).2.2.2.2.1 x c (E3 e)
 .rcases (S b j).2.2.2.1 with z|z
  .exact I.ok.noex b o e z
  .exact absurd (Nat.lt_of_lt_of_le (Heap.lt_size e) (Nat.le_trans I.ok.bsz z)) (Nat.lt_irrefl _)
 .rcases List.mem_cons.mp (I.stkSub b z)with z|z
  .exact(S b j).2.1 z
  .exact(S b j).2.2.1 z
 .have e2':∃ k,src[i]? =some (some k)/\σ[k]? =some (some v):=by
   unfold blk0 at e2
   rw[getElem?_map]at e2
   cases q:src[i]? with
   |none=>rw[q]at e2;cases e2
   |some o=>
    rw[q]at e2
    cases o with
    |none=>cases e2
    |some k=>
     refine⟨k,rfl,?_⟩
     have e2:(σ[k]?).join=some v:=Option.some.inj e2
     cases qq:σ[k]? with
     |none=>rw[qq]at e2;cases e2
     |some z=>rw[qq]at e2;exact congrArg some e2
  obtain⟨k,ek,ev⟩:=e2'
  obtain⟨Z,n1,n2,n3⟩:=B.fv i k ek
  have:Z=x:=by
   have e1:N[i]? =some x:=e1
   rw[n1]at e1;exact Option.some.inj e1
  subst this
  obtain⟨m0,a9,a1⟩:=I.loc
  have O:=B.free (Z,.free) (PySem.mem_of_lookup n3) rfl
  obtain⟨u,r,l⟩:=a1 k Z v n2 ev (by rcases O with z|z;exact .inr (.inl z);exact .inr (.inr z))
  refine⟨u,r,.inr ⟨?_,?_⟩⟩
  .exact W5 n3
  .rcases l with⟨l,_⟩|⟨_,c,ec,z⟩
   .rcases O with q|q <;> (rw[q]at l;cases l)
   .obtain⟨c',ec'⟩:=Option.isSome_iff_exists.mp (K3 ec sc.names [] (PySem.mem_of_lookup n3))
    have:=E3 ec'
    rw[ec]at this;cases this
    obtain⟨o,ho,hd⟩:=z
    exact⟨c,ec',o,hk c o ho,hd⟩
 .obtain⟨v,o,ho,hd⟩:=I.cell x c (E3 e)
  exact⟨v,o,hk c o ho,hd⟩
 .show upd H D _ C=none
  rw[x8 (Ne.symm a8)];exact a6
 .rw[x8 (cD x c (E3 e))];exact I.freeC x c (E3 e)
 .exact absurd (show p∈([]:List (Addr×Obj))++[]from hp) (by simp)
 .show (blk0 src σ).length=N.length
  unfold blk0;rw[length_map];exact B.len
end
end
section
abbrev noE:Value->Shared->Prop:=fun _ _=>False
theorem toE {i:Type}{t:Sem i}{Q j:i->Shared->Prop}{M:Model}{A:Around}{E:Value->Shared->Prop}{s:Shared}(h:wpAny M A t Q noE s)(z:∀ a s,Q a s->j a s):wpAny M A t j E s:=
 wpAny_mono h z fun _ _ x=>x.elim
noncomputable abbrev zk9 (ifs:List Expr)(env:Env):Sem Bool:=forIn ifs true fun c r=>if r=true then do let ok ← isTrue c env (eval c env);pure (ForInStep.yield ok)else pure (ForInStep.yield r)
theorem zj0 {prog:Program}{w:World}{A:Around}{R:Result->Shared->Prop}{s:Shared}{a2 i iter:Expr}{Z:List Expr}{scope:Scope}{pos:Pos}{it acc:Value}{env:Env}(I:Nat->Shared->Prop)
  (turn:∀ n s,I n s->wpAny (model prog w) A (pyNext it) (fun r G=>match r with
   |none=>R (.ok .next) G
   |some v=>wpAny (model prog w) A (letOwnedTupleGo i it v) (fun _ z=>wpAny (model prog w) A (assign i env v) (fun _ S=>
     wpAny (model prog w) A (zk9 Z env) (fun ok j=>
      if ok=true then wpAny (model prog w) A (eval a2 env) (fun x O=>
       wpAny (model prog w) A (call (.builtin "list.append") [acc,x]) (fun _ N=>∃ m,m<n/\I m N) noE O) noE j
      else ∃ m,m<n/\I m j) noE S) noE z) noE G) noE s)
  (n:Nat) (h:I n s):
  codeAny (model prog w) A (.compLoop (.ListComp a2 [⟨i,iter,Z,0⟩] scope pos) 0 it acc env) R s:=by
 refine codeAny_loop rfl I (fun n s hI=>?_) n h
 show wpAny _ A ((compTurn (.ListComp a2 [⟨i,iter,Z,0⟩] scope pos) 0 it acc env).onRaise (fun x=>do noteFrame x env;theTreesLotGoes x)) _ _ s
 refine wpAny_noted ?_
 rw[compTurn_list]
 refine wpAny_bind (wpAny_standAt (wpAny_bind (toE (turn n s hI) (fun r G Y=>?_))))
 cases r with
 |none=>exact wpAny_pure Y
 |some v=>
  refine wpAny_bind (toE Y fun _ z a1=>?_)
  refine wpAny_bind (toE a1 (fun _ S a5=>wpAny_bind (toE a5 (fun ok j U=>?_))))
  cases ok with
  |false=>exact wpAny_pure ⟨rfl,U⟩
  |true=>
   exact wpAny_bind (wpAny_bind (toE U (fun x O a4=>wpAny_bind (toE a4 (fun _ N a3=>wpAny_pure (wpAny_pure ⟨rfl,a3⟩))))))
def PTs (X:Cx)(ifs:List Expr)(t:TT):Prop:=
 ∀(pins:List (Addr×Obj))(s:Shared)(σ:St)(H:Hp)(Q:Bool->Hp->Prop),Inv X pins σ H s->t σ H Q->wpAny (model X.prog X.w) X.A (zk9 ifs X.env) (TP X pins σ Q) X.xe s
def tYes:TT:=fun _ H Q=>Q true H
theorem xt8 {X:Cx}:PTs X [] tYes:=fun pins s σ H Q I h=>wpAny_pure ⟨H,I,h⟩
theorem xt7 {X:Cx}{c:Expr}{t:TT}(h:PT X c t):PTs X [c] t:=fun pins s σ H Q I q=>wpAny_tests_one (h pins s σ H Q I q)
def ys2 (src:List (Option Nat))(wi:TI)(g:TG)(tc:TT)(te:TE):TE:=fun σ H Q=>wi σ H fun J H1=>∀ D,H1 D=none->∃ W:Nat->Nat->St->Hp->Prop,(∃ m,W 0 m (blk0 src σ) (upd H1 D (.lst [])))/\∀ i m σ' H',W i m σ' H'->
 (J.stop i H'/\Q (.ref D) H')\/(J.go i H'/\∃ N:St->Hp->Prop,(∀ σ2 H2,N σ2 H2->∃ m',m'<m/\W (i+1) m' σ2 H2)/\∀ x H2,J.yld i H' x H2->g x σ' H2 fun σ3 H3=>tc σ3 H3 fun b H4=>
  if b=true then te σ3 H4 fun y H5=>∃ xs,H5 D=some (.lst xs)/\xs.length<sizeLine/\N σ3 (upd H5 D (.lst (xs++[y])))else N σ3 H4)
section
variable {X:Cx}
theorem zu5 {sc:Scope}{N:List Str}{src:List (Option Nat)}{tg aa iter:Expr}{a8:List Expr}{pos:Pos}{g:TG}{tc:TT}{te:TE}{cx:Cx->Prop}(B:Blk X sc N src)(hc:∀ C fp s H,cx (W7 X sc C N fp s H))
  (hg:∀ C fp s H,PG (W7 X sc C N fp s H) tg g) (ht:∀ C fp s H,PTs (W7 X sc C N fp s H) a8 tc) (he:∀ C fp s H,PE (W7 X sc C N fp s H) aa te)
  {pins:List (Addr×Obj)} {σ:St} {H:Hp} {s:Shared} {it:Addr} {fp:List Addr} {tn:Nat->Heap->Prop} {J:It} {Q:VK} {E:Value->Shared->Prop}
  (I:Inv X pins σ H s) (T:TurnC cx X.prog X.w X.K tg J fp it tn) (st:tn 0 s.heap) (hf:∀ b∈fp,FpOk X pins H b)
  (hW:∀ D,H D=none->∃ W:Nat->Nat->St->Hp->Prop,(∃ m,W 0 m (blk0 src σ) (upd H D (.lst [])))/\∀ i m Y H',W i m Y H'->
   (J.stop i H'/\Q (.ref D) H')\/(J.go i H'/\∃ N:St->Hp->Prop,(∀ ab H2,N ab H2->∃ m',m'<m/\W (i+1) m' ab H2)/\∀ x H2,J.yld i H' x H2->g x Y H2 fun S H3=>tc S H3 fun b H4=>
    if b=true then te S H4 fun y H5=>∃ xs,H5 D=some (.lst xs)/\xs.length<sizeLine/\N S (upd H5 D (.lst (xs++[y])))else N S H4))
  {RR:Value->Addr->Result->Shared->Prop}
  (am:∀ D C H' s' m',Inv X pins σ H' s'->s'.heap.Ns C m'->H' C=none->s.heap.objs.size<=C->Q (.ref D) H'->RR (.ref D) C (.ok .next) s'):
  wpAny (model X.prog X.w) X.A (newList []) (fun acc Z=>wpAny (model X.prog X.w) X.A (newFunctionEnv sc X.env.globals (clOf X.env.cells sc.names []) [] X.env.qual none .none (some X.env)) (fun a5 ac=>
   codeAny (model X.prog X.w) X.A (.compStart (.ListComp aa [⟨tg,iter,a8,0⟩] sc pos) 0 (.ref it) acc { a5 with scope:=relabel sc X.env }) (RR acc a5.locals) ac) E Z) E s:=by
 refine wpAny_newObj_type (wpAny_newFunctionEnv B.nocell (by intro y hy;simp at hy) (fun R U G=>?_) B.kind)
 dsimp only at U G ⊢
 generalize a9:s.heap.push { cls:=.type "list",dict:=none,data:=.seq ([]:List Value).toArray }=H2 at U G ⊢
 have hC:H2.objs.size=s.heap.objs.size+1:=by rw[<-a9,Heap.size_push]
 have ah:s.heap.objs.size≠H2.objs.size:=by rw[hC];exact Nat.ne_of_lt (Nat.lt_succ_self _)
 have a4:s.heap.objs.size<=H2.objs.size:=by rw[hC];exact Nat.le_succ _
 have below:∀ b,b<s.heap.objs.size->b≠H2.objs.size:=fun b O=>by rw[hC];exact Nat.ne_of_lt (Nat.lt_succ_of_lt O)
 have old:∀ b o,s.heap.get? b=some o->R.get? b=some o:=fun b o e=>G.extBut b o (below b (Heap.lt_size e)) (Heap.get?_push_of_some _ (a9 ▸ Heap.get?_push_of_some _ e))
 have ag:R.get? s.heap.objs.size=some { cls:=.type "list",data:=.seq #[] 0 }:=G.extBut _ _ ah (Heap.get?_push_of_some _ (a9 ▸ Heap.get?_push_size _ rfl))
 have af:∀ b∈fp,∃ o,s.heap.get? b=some o:=fun b O=>by obtain⟨o,e,_⟩:=T.obj _ _ st b O;exact⟨o,e⟩
 have ae:tn 0 R:=T.keep _ _ _ st fun b _ o e=>old b o e
 obtain⟨W,⟨m0,w0⟩,turn⟩:=hW s.heap.objs.size I.fresh
 have I1:=yg0 (t:=s.toks+([]:List (Str×Value)).length) B I hf af old (Nat.le_refl _) ag U a4 ah
 have a2:∀{H':Hp},(∀ b∈fp,H' b=none)->∀ b∈fp,FpOk (W7 X sc H2.objs.size N fp s H) [] H' b:=fun{H'} hn b O=>by
  obtain⟨f0,f1,f2,f3,f4,f5⟩:=hf b O
  refine⟨hn b O,I1.ok.exf b O |>.1,I1.ok.exfs b O,.inl O,fun x c e=>f4 x c (E3 e),fun p hp=>absurd (show p∈([]:List (Addr×Obj))++[]from hp) (by simp)⟩
 have al:∀ b∈fp,b≠s.heap.objs.size:=fun b O z=>by
  obtain⟨o,e⟩:=af b O
  exact absurd (Heap.lt_size e) (by rw[z];exact Nat.lt_irrefl _)
 have a3:∀ Z:Shared,Z={ s with heap:=R,toks:=s.toks+([]:List (Str×Value)).length }->
   codeAny (model X.prog X.w) X.A (.compLoop (.ListComp aa [⟨tg,iter,a8,0⟩] sc pos) 0 (.ref it) (.ref s.heap.objs.size) (compEnvC sc (clOf X.env.cells sc.names []) H2.objs.size X.env))
    (RR (.ref s.heap.objs.size) H2.objs.size) Z:=by
  rintro Z rfl
  refine zj0 (fun n s'=>∃ i Y H',Inv (W7 X sc H2.objs.size N fp s H) [] Y H' s'/\tn i s'.heap/\(∀ b∈fp,H' b=none)/\W i n Y H') ?_ m0
   ⟨0,_,_,I1,ae,fun b O=>by rw[x8 (al b O)];exact(hf b O).1,w0⟩
  rintro n s3 ⟨i,S,H3,I3,ad,ai,w3⟩
  rcases turn i n S H3 w3 with⟨stop,qn⟩|⟨go,N',an,step⟩
  .refine thn (T.done (W7 X sc H2.objs.size N fp s H) rfl rfl rfl (hc _ _ _ _) i [] s3 S H3 noE I3 (a2 ai) ad stop) fun r s4 ⟨hr,I4⟩=>?_
   subst hr
   obtain⟨m4,ak,_⟩:=id I4.loc
   refine am _ _ H3 s4 m4 ?_ ak I4.free a4 qn
   exact I.call' (ch:=fp) I4.os I4.base I4.hok I4.bare fun b O=>⟨(hf b O).2.2.2.1,(hf b O).2.1,(hf b O).2.2.2.2.1,(hf b O).2.2.2.2.2⟩
  .refine thn (T.item (W7 X sc H2.objs.size N fp s H) rfl rfl rfl (hc _ _ _ _) i [] s3 S H3 noE I3 (a2 ai) ad go) fun r s4 ⟨u,hr,h4⟩=>?_
   subst hr
   refine thn h4 fun _ s5 j=>?_
   obtain⟨x,H5,I5,r5,y5,a7,ap⟩:=j
   have aq:=I5.pinned (a2 ap) (T.obj _ _ a7)
   have again:∀{s7:Shared}{a1:St}{H7:Hp},Inv (W7 X sc H2.objs.size N fp s H) ([]++zn1 fp s5.heap) a1 H7 s7->N' a1 H7->∃ m,m<n/\∃ i Y H',Inv (W7 X sc H2.objs.size N fp s H) [] Y H' s7/\tn i s7.heap/\(∀ b∈fp,H' b=none)/\W i m Y H':=fun{s7 a1 H7} I7 n7=>by
    obtain⟨m',hm,w7⟩:=an a1 H7 n7
    refine⟨m',hm,i+1,a1,H7,I7.unpinned,T.keep _ _ _ a7 fun b O o e=>(I7.pin (b,o) (mem_append_right _ (mem_append_right _ (P5 O e)))).1,fun b O=>?_,w7⟩
    obtain⟨o,e,d⟩:=T.obj _ _ a7 b O
    exact(I7.pin (b,o) (mem_append_right _ (mem_append_right _ (P5 O e)))).2.1
   refine thn (hg _ _ _ _ _ s5 S H5 x u _ aq r5 (step x H5 y5)) fun _ s6 j=>?_
   obtain⟨a6,H6,I6,q6⟩:=j
   refine thn (ht _ _ _ _ _ s6 a6 H6 _ I6 q6) fun ok s7 j=>?_
   obtain⟨H7,I7,q7⟩:=j
   cases ok with
   |false=>
    rw[if_neg Bool.false_ne_true]at q7 ⊢
    exact again I7 q7
   |true=>
    rw[if_pos rfl]at q7 ⊢
    refine thn (he _ _ _ _ _ s7 a6 H7 _ I7 q7) fun y s8 j=>?_
    obtain⟨v8,H8,I8,r8,q8⟩:=j
    obtain⟨xs,ao,aj,n8⟩:=q8
    refine thn (j8 _ s8 a6 H8 (.ref s.heap.objs.size) [v8] (.ref s.heap.objs.size) [y] (fun _ H9=>H9=upd H8 s.heap.objs.size (.lst (xs++[v8]))) I8 rfl (.cons r8 .nil) ⟨_,xs,v8,rfl,rfl,ao,aj,rfl⟩) fun _ s9 j=>?_
    obtain⟨v9,H9,I9,r9,q9⟩:=j
    subst q9
    exact again I9 n8
 refine codeAny_compStart_list (a3 _ rfl) (toE (T.self X.A 0 { s with heap:=R,toks:=s.toks+([]:List (Str×Value)).length } (fun v s'=>v= .ref it/\s'={ s with heap:=R,toks:=s.toks+([]:List (Str×Value)).length }) noE ae ⟨rfl,rfl⟩) fun v s' j=>?_)
 obtain⟨e1,e2⟩:=j
 subst e1;subst e2
 exact a3 _ rfl
theorem Inv.letGo {pins:List (Addr×Obj)}{σ:St}{H:Hp}{s N:Shared}{C:Addr}{h':Heap}(I:Inv X pins σ H s)(i:∃ j H0,Inv X pins j H0 N)(G:N.heap.objs.size<=C)(hn:H C=none)(hs:Heap.SameBut C s.heap h'):Inv X pins σ H { s with heap:=h' }:=by
 obtain⟨j,H0,i⟩:=i
 refine I.turned (t':=s.toks) (it:=C) (fun b o O e=>(hs.2 b O).trans e) hn (Nat.ne_of_gt (Nat.lt_of_lt_of_le i.lt G)) (.inr (Nat.le_trans i.sz G)) (fun x c e z=>?_) fun p hp z=>?_
 .obtain⟨v,q⟩:=i.cell x c e
  exact absurd (Nat.lt_of_lt_of_le q.lt (by rw[z];exact G)) (Nat.lt_irrefl _)
 .exact absurd (Nat.lt_of_lt_of_le (Heap.lt_size (i.pin p hp).1) (by rw[z];exact G)) (Nat.lt_irrefl _)
theorem yp8 {sc:Scope}{N:List Str}{src:List (Option Nat)}{tg O iter:Expr}{i:List Expr}{pos:Pos}{U:TI}{g:TG}{tc:TT}{te:TE}(B:Blk X sc N src)(hc:X.calm=true)
  (hi:PI X tg iter U) (hg:∀ C fp s H,PG (W7 X sc C N fp s H) tg g) (ht:∀ C fp s H,PTs (W7 X sc C N fp s H) i tc) (he:∀ C fp s H,PE (W7 X sc C N fp s H) O te)
  (hs:∀ x,foldedSetIterable iter X.env x=pure x:=by intro _;rfl):
  PE X (.ListComp O [⟨tg,iter,i,0⟩] sc pos) (ys2 src U g tc te):=by
 intro pins s σ H Q I h
 rw[eval_ListComp]
 refine wpAny_comprehension_free (use:=none) rfl hs (B.cl I.ok) B.kind B.names (wpAny_mono (hi pins s σ H _ I h) (fun xv Z z=>wpAny_mono z (fun a1 Y j=>?_) fun _ _ e=>e) fun _ _ e=>e)
 obtain⟨it,fp,tn,J,H2,rfl,I2,T,R,f2,hW⟩:=j
 refine zu5 (RR:=fun acc C=>compPost (model X.prog X.w) X.A X.xe none (EP X pins σ Q) acc C) (Q:=Q) B (fun _ _ _ _=>hc) hg ht he I2 T R f2 hW ?_
 intro D C H' s' m' I' hn hC S q
 exact⟨m',hn,fun a2 G=>⟨.ref D,H',I'.letGo ⟨_,_,I2⟩ S hC G,rfl,q⟩⟩
theorem yq6 {i:Nat}{y:Str}{S:Pos}{sc:Scope}{N:List Str}{src:List (Option Nat)}{tg G iter:Expr}{j:List Expr}{pos O:Pos}{wi:TI}{g:TG}{tc:TT}{te:TE}(hN:X.N.Nodup)(a5:X.N[i]? =some y)(hx:Loc X.env.scope y)
  (B:Blk X sc N src) (hc:X.calm=true)
  (hi:PI X tg iter wi) (hg:∀ C fp s H,PG (W7 X sc C N fp s H) tg g) (ht:∀ C fp s H,PTs (W7 X sc C N fp s H) j tc) (he:∀ C fp s H,PE (W7 X sc C N fp s H) G te)
  (a3:swapsWith (.ListComp G [⟨tg,iter,j,0⟩] sc pos) (some (.Name y S)) O.line X.env=pure true:=by rfl)
  (hs:∀ x,foldedSetIterable iter X.env x=pure x:=by intro _;rfl) (hf:X.fn y=true\/X.env.scope.names.lookup y=some .local:=by first|exact .inl rfl|exact .inr rfl|assumption):
  PS X (.Assign [.Name y S] (.ListComp G [⟨tg,iter,j,0⟩] sc pos) O) (tAsg (ys2 src wi g tc te) (zy2 i)):=by
 intro pins s σ H Dn I h
 rw[exec_Assign_Name_used _ _ _ _ a3]
 refine wpAny_bind (wpAny_standAt (wpAny_bind ?_))
 show wpAny _ _ (do let _ ← comprehension (.ListComp G [⟨tg,iter,j,0⟩] sc pos) sc X.env _ (newList []) false (eval iter X.env) (some (assign (.Name y S) X.env))) _ _ s
 refine wpAny_bind (wpAny_mono (wpAny_comprehension_free (use:=some (assign (.Name y S) X.env)) (Q:=fun _ s'=>SP X pins Dn .next s') rfl hs (B.cl I.ok) B.kind B.names
  (wpAny_mono (hi pins s σ H _ I h) (fun xv a9 Y=>wpAny_mono Y (fun ab a8 U=>?_) fun _ _ e=>e) fun _ _ e=>e)) (fun _ s' hq=>wpAny_pure (wpAny_pure hq)) fun _ _ e=>e)
 obtain⟨it,fp,tn,J,H2,rfl,I2,T,a2,f2,hW⟩:=U
 refine zu5 (RR:=fun acc C=>compPost (model X.prog X.w) X.A X.xe (some (assign (.Name y S) X.env)) (fun _ s'=>SP X pins Dn .next s') acc C) (Q:=fun x H1=>zy2 i x σ H1 Dn.nx) B (fun _ _ _ _=>hc) hg ht he I2 T a2 f2 hW ?_
 intro D C H' s' m' I' hn hC R q
 show wpAny _ _ (assign (.Name y S) X.env (.ref D)) _ _ _
 refine wpAny_assign_Name (zp8 I' hN a5 hx (v:=.ref D) rfl (fun aa a7 a1=>?_) hf)
 obtain⟨a,a4,ha⟩:=a1
 have a6:C≠a:=fun z=>by
  rcases ha with ha|ha
  .have:=I2.lt;rw[<-ha,<-z]at this
   exact absurd (Nat.lt_of_lt_of_le this R) (Nat.lt_irrefl _)
  .obtain⟨v,qv⟩:=I2.cell y a ha
   exact absurd (Nat.lt_of_lt_of_le qv.lt (by rw[<-z];exact R)) (Nat.lt_irrefl _)
 exact⟨m',hn.sameBut a4 a6,fun ac Z=>⟨_,H',a7.letGo ⟨_,_,I2⟩ R hC Z,q⟩⟩
end
end
section
section
variable {X:Cx}{pins:List (Addr×Obj)}{σ:St}{H:Hp}{s:Shared}{h':Heap}
theorem Inv.turnedL {t':Nat}{fp:List Addr}(I:Inv X pins σ H s)(k:∀ b o,b∉fp->s.heap.get? b=some o->h'.get? b=some o)(j:∀ b∈fp,FpOk X pins H b):Inv X pins σ H { s with heap:=h',toks:=t' }:=by
 have G:∀ b u,H b=some u->b∉fp:=fun b u e z=>by rw[(j b z).1]at e;cases e
 refine I.step (g':=s.gens) (d':=s.drawn) (ch:=fp) (fun b N=>⟨(j b N).2.2.2.1,(j b N).2.1,(j b N).2.2.2.2.1,(j b N).2.2.2.2.2⟩) (fun b o _ _ i e _=>k b o i e) (fun b o _ _ i e _=>⟨o.slots,k b o i e⟩) (fun _ _ _ _ n=>n)
  (fun b o i e=>⟨o,k b o i e⟩) (fun _ _ e=>e) (fun _ _ _ e=>e) (fun b ps e=>⟨#[],by rw[e];simp⟩) (fun m hm=>?_) (fun b u e=>?_) I.bare
 .obtain⟨o,es,ep,ho,r⟩:=hm
  exact⟨o,es,ep,k _ o (fun z=>(j _ z).2.1 rfl) ho,r⟩
 .refine(I.hok b u e).stay (fun c v i q=>k c v ?_ q) (fun _ q=>q) fun _ _ q=>q
  rcases i with z|z
  .rw[z];exact G b u e
  .exact G c _ z
theorem Inv.turnedN {t':Nat}{fp:List Addr}{T:Addr}{o:HO}(I:Inv X pins σ H s)(k:∀ b o,b∉fp->s.heap.get? b=some o->h'.get? b=some o)(G:∀ b∈fp,FpOk X pins H b)(O:s.heap.objs.size<=T)
  (new:ObjOk X.prog X.w (upd H T o) h' T o):Inv X pins σ (upd H T o) { s with heap:=h',toks:=t' }:=by
 have hn:H T=none:=I.hok.fresh O
 have ne:∀ b u,s.heap.get? b=some u->b≠T:=fun b u e z=>absurd (Nat.lt_of_lt_of_le (Heap.lt_size e) (by rw[z];exact O)) (Nat.lt_irrefl _)
 have N:∀ b u,H b=some u->b∉fp:=fun b u e z=>by rw[(G b z).1]at e;cases e
 refine I.step (g':=s.gens) (d':=s.drawn) (ch:=fp) (fun b j=>⟨(G b j).2.2.2.1,(G b j).2.1,(G b j).2.2.2.2.1,(G b j).2.2.2.2.2⟩) (fun b o _ _ i e _=>k b o i e) (fun b o _ _ i e _=>⟨o.slots,k b o i e⟩) (fun b o _ e n=>by rw[x8 (ne b o e)];exact n)
  (fun b o i e=>⟨o,k b o i e⟩) (fun b xs e=>by rw[x8 (p8 e hn)];exact e) (fun b _ _ e=>by rw[x8 (p8 e hn)];exact e) (fun b ps e=>⟨#[],by rw[x8 (p8 e hn),e];simp⟩) (fun m hm=>?_) (fun b u e=>?_) I.bare
 .obtain⟨o,es,ep,ho,r⟩:=hm
  exact⟨o,es,ep,k _ o (fun z=>(G _ z).2.1 rfl) ho,r⟩
 .by_cases j:b=T
  .subst j;rw[x9]at e;cases e;exact new
  .rw[x8 j]at e
   refine(I.hok b u e).stay (fun c v i q=>k c v ?_ q) (fun c q=>by rw[x8 (p8 q hn)];exact q) fun c xs q=>by rw[x8 (p8 q hn)];exact q
   rcases i with z|z
   .rw[z];exact N b u e
   .exact N c _ z
end
noncomputable def Itz2 (K:W.Frag)(l1 l2:Addr):It:=
 ⟨fun i H=>∃ xs ys x y,SqL K H l1 xs/\SqL K H l2 ys/\xs[i]? =some x/\ys[i]? =some y,
  fun i H v H'=>∃ t x y,v= .ref t/\H t=none/\H'=upd H t (.tup [x,y])/\(∀ xs,SqL K H l1 xs->xs[i]? =some x)/\(∀ ys,SqL K H l2 ys->ys[i]? =some y),
  fun i H=>∃ xs ys,SqL K H l1 xs/\SqL K H l2 ys/\(xs.length<=i\/ys.length<=i)⟩
structure Zip2 (z TI TO i1 i2:Addr):Prop where
 TIz:TI≠z
 TOz:TO≠z
 i1z:i1≠z
 i2z:i2≠z
 TITO:TI≠TO
 TIi1:TI≠i1
 TIi2:TI≠i2
 TOi1:TO≠i1
 TOi2:TO≠i2
 i12:i1≠i2
theorem G7 {h:Heap}{a b:Addr}{o u:Obj}(e:h.get? a=some o)(i:h.get? b=some u)(d:o.cls≠u.cls):a≠b:=by
 intro z;subst z;rw[e]at i;exact d (congrArg Obj.cls (Option.some.inj i))
theorem P6 {n:String}(h:("list"==n)=false):Value.type "list"≠Value.type n:=fun e=>by cases e;revert h;decide
theorem yg8 (n:Nat):Zip2 (n+4) (n+2) (n+3) n (n+1):=by
 constructor <;> (show ((_:Nat)≠_);omega)
theorem zw8 {h:Heap}{z TI TO i1 i2 l1 l2:Addr}{O N:Array Value}{a b Z:Value}{k1 k2:Nat}(D:Zip2 z TI TO i1 i2)(S:IsZip h z TI TO Z)(R:IsPair h TO a b)(h1:h.IsListIter i1 l1 k1)(h2:h.IsListIter i2 l2 k2)
  (p1:h.IsList l1 O) (p2:h.IsList l2 N):ZipApart z TI TO i1 i2 l1 l2:=by
 obtain⟨o1,e1,c1,_⟩:=h1
 obtain⟨o2,e2,c2,_⟩:=h2
 obtain⟨Y,j,I,_⟩:=p1
 obtain⟨U,i,G,_⟩:=p2
 exact⟨D.TIz,D.TOz,D.i1z,D.i2z,D.TITO,D.TIi1,D.TIi2,D.TOi1,D.TOi2,D.i12,
  G7 j S (by rw[I];exact P6 (by decide)),G7 j R (by rw[I];exact P6 (by decide)),G7 j e1 (by rw[I,c1];decide),G7 j e2 (by rw[I,c2];decide),
  G7 i S (by rw[G];exact P6 (by decide)),G7 i R (by rw[G];exact P6 (by decide)),G7 i e1 (by rw[G,c1];decide),G7 i e2 (by rw[G,c2];decide)⟩
theorem yt7 {P:Program}{w:World}{K:W.Frag}{es:List Expr}{tk:Nat}{tp:Pos}(z TI TO i1 i2 l1 l2:Addr)(D:Zip2 z TI TO i1 i2):
  Turn P w K (.Tuple es tk tp) (Itz2 K l1 l2) [z,TI,TO,i1,i2] z
   (fun i h=>IsZip h z TI TO .none/\IsPair h TI (.ref i1) (.ref i2)/\(∃ a b,IsPair h TO a b)/\h.IsListIter i1 l1 i/\h.IsListIter i2 l2 i) where
 mem:=by simp
 obj:=fun i h st b hb=>by
  obtain⟨S,N,⟨a,c,j⟩,⟨o1,e1,_,d1⟩,⟨o2,e2,_,d2⟩⟩:=st
  simp only[mem_cons,not_mem_nil,or_false]at hb
  rcases hb with rfl|rfl|rfl|rfl|rfl
  .exact⟨_,S,fun v q=>by cases q⟩
  .exact⟨_,N,fun v q=>by cases q⟩
  .exact⟨_,j,fun v q=>by cases q⟩
  .exact⟨_,e1,fun v q=>by rw[d1]at q;cases q⟩
  .exact⟨_,e2,fun v q=>by rw[d2]at q;cases q⟩
 keep:=fun i h h' st k=>by
  obtain⟨S,N,⟨a,c,j⟩,h1,h2⟩:=st
  exact⟨k z (by simp) _ S,k TI (by simp) _ N,⟨a,c,k TO (by simp) _ j⟩,h1.at fun o e=>k i1 (by simp) o e,h2.at fun o e=>k i2 (by simp) o e⟩
 item:=by
  intro X hP hw hK O i pins s σ H E I hf st hg
  subst hP hw hK
  obtain⟨xs,ys,x,y,Y,U,hx,hy⟩:=hg
  obtain⟨ac,a8,p1,_⟩:=I.list Y
  obtain⟨ab,a7,p2,_⟩:=I.list U
  obtain⟨u,hu,ru⟩:=a8.get hx
  obtain⟨v,hv,af⟩:=a7.get hy
  obtain⟨S,N,⟨a,b,j⟩,h1,h2⟩:=st
  have Z:=zw8 D S j h1 h2 p1.isList p2.isList
  refine wpAny_pyNext_zip_item Z S N j h1 h2 p1.isList p2.isList (x:=u) (y:=v) (by simpa using hu) (by simpa using hv) fun h' a1 a2 a3 a4 a5 a6 hk=>?_
  refine⟨_,rfl,?_⟩
  refine wpAny_letOwnedTupleGo_zip a1 fun aa ae G=>?_
  have ad:z<s.heap.objs.size:=Heap.lt_size S
  have kk:∀ c o,c∉[z,TI,TO,i1,i2]->s.heap.get? c=some o->aa.get? c=some o:=fun c o O e=>by
   simp only[mem_cons,not_mem_nil,or_false,not_or]at O
   exact G.extBut _ _ O.1 (hk c o O.1 O.2.2.1 O.2.2.2.1 O.2.2.2.2 e)
  have hT:aa.get? s.heap.objs.size=some { cls:=.type "tuple",data:=.seq #[u,v] }:=G.extBut _ _ (Nat.ne_of_gt ad) a5
  have I2:Inv X pins σ (upd H s.heap.objs.size (.tup [x,y])) { s with heap:=aa,toks:=s.toks }:=
   I.turnedN (T:=s.heap.objs.size) (o:=.tup [x,y]) kk hf (Nat.le_refl _) ⟨by show 2<=sizeLine;decide,[u,v],.cons ru (.cons af .nil),⟨_,hT,rfl,_,rfl⟩⟩
  refine⟨.ref s.heap.objs.size,_,I2,rfl,⟨_,x,y,rfl,I.fresh,rfl,fun zs R=>by rw[I.list_inj R Y];exact hx,fun zs R=>by rw[I.list_inj R U];exact hy⟩,
   ⟨ae,G.extBut _ _ D.TIz (hk _ _ D.TIz D.TITO D.TIi1 D.TIi2 N),⟨_,_,G.extBut _ _ D.TOz a2⟩,a3.extBut G.extBut D.i1z,a4.extBut G.extBut D.i2z⟩,fun c a9=>?_⟩
  have ag:c<s.heap.objs.size:=by
   obtain⟨o1,e1,_⟩:=h1
   obtain⟨o2,e2,_⟩:=h2
   simp only[mem_cons,not_mem_nil,or_false]at a9
   rcases a9 with rfl|rfl|rfl|rfl|rfl
   .exact ad
   .exact Heap.lt_size N
   .exact Heap.lt_size j
   .exact Heap.lt_size e1
   .exact Heap.lt_size e2
  rw[x8 (Nat.ne_of_lt ag)]
  exact(hf c a9).1
 done:=by
  intro X hP hw hK O i pins s σ H E I hf st hg
  subst hP hw hK
  obtain⟨xs,ys,Y,U,hl⟩:=hg
  obtain⟨ac,a8,p1,_⟩:=I.list Y
  obtain⟨ab,a7,p2,_⟩:=I.list U
  obtain⟨S,N,⟨a,b,j⟩,h1,h2⟩:=st
  have Z:=zw8 D S j h1 h2 p1.isList p2.isList
  have ai:=a8.length
  have ah:=a7.length
  refine wpAny_pyNext_zip_end (I.ok.hd O) Z S N j h1 h2 p1.isList p2.isList (hl.elim (fun q=>.inl (by simp;omega)) fun q=>.inr (by simp;omega)) fun h' hk=>⟨rfl,?_⟩
  exact I.turnedL (t':=s.toks) (fun c o O e=>by
   simp only[mem_cons,not_mem_nil,or_false,not_or]at O
   exact hk c o O.1 O.2.2.1 O.2.2.2.1 O.2.2.2.2 e) hf
 self:=fun _ _ _ _ _ st h=>wpAny_pyIter_zip st.1 h
section
variable {X:Cx}
def wz4 (K:W.Frag)(ta:TA):TI:=fun σ H R=>ta σ H fun vs H1=>∃ a b xs ys,vs=[.ref a,.ref b]/\SqL K H1 a xs/\SqL K H1 b ys/\R (Itz2 K a b) H1
theorem xs7 {a b:Expr}{ta:TA}{p pos:Pos}{es:List Expr}{tk:Nat}{tp:Pos}(hg:Gl X "zip")(hm:X.mg "zip"=none)(ha:PA X [a,b] ta)(hs:starEach [a,b] X.env=[(false,eval a X.env),(false,eval b X.env)]:=by rfl)(i:starEach [b] X.env=[(false,eval b X.env)]:=by rfl):
  PI X (.Tuple es tk tp) (.Call (.Name "zip" p) [a,b] [] pos) (wz4 X.K ta):=by
 intro pins s σ H R I h
 refine Call_ (O3 I hg hm boot_zip (PyProof.Rows.callWith_type1 (thn (ha pos pins s σ H _ I h) fun us s1 j=>?_) (by rw[hs,i]) (by rw[i];rfl)))
 obtain⟨vs,H1,G,r1,O⟩:=j
 obtain⟨l1,l2,xs,ys,e,O,q2,q⟩:=O
 subst e
 cases r1 with
 |cons r N=>
  cases N with
  |cons r' N=>
   cases N
   cases r
   cases r'
   obtain⟨a2,a4,p1,_⟩:=G.list O
   obtain⟨a1,a3,p2,_⟩:=G.list q2
   refine call_zip_2 p1.isList p2.isList fun h' hz Z Y U S a5 hk=>?_
   have I2:Inv X pins σ H1 { s1 with heap:=h',toks:=s1.toks }:=G.kept hk
   refine wpAny_pyIter_zip (s:={ s1 with heap:=h' }) hz ?_
   refine⟨_,[s1.heap.objs.size+4,s1.heap.objs.size+2,s1.heap.objs.size+3,s1.heap.objs.size,s1.heap.objs.size+1],_,_,H1,rfl,I2,yt7 _ _ _ _ _ l1 l2 (yg8 _),
    ⟨hz,Z,⟨_,_,Y⟩,U,S⟩,fun b hb=>?_,q⟩
   have z:s1.heap.objs.size<=b:=by
    simp only[mem_cons,not_mem_nil,or_false]at hb
    rcases hb with rfl|rfl|rfl|rfl|rfl
    .exact Nat.le_add_right _ 4
    .exact Nat.le_add_right _ 2
    .exact Nat.le_add_right _ 3
    .exact Nat.le_refl _
    .exact Nat.le_add_right _ 1
   exact G.fpOk z (G.hok.fresh z)
end
end
section
structure Zip3 (z TI TO i1 i2 i3:Addr):Prop where
 TIz:TI≠z
 TOz:TO≠z
 i1z:i1≠z
 i2z:i2≠z
 i3z:i3≠z
 TITO:TI≠TO
 TIi1:TI≠i1
 TIi2:TI≠i2
 TIi3:TI≠i3
 TOi1:TO≠i1
 TOi2:TO≠i2
 TOi3:TO≠i3
 i12:i1≠i2
 i13:i1≠i3
 i23:i2≠i3
structure Apart3 (z TO i1 i2 i3 l:Addr):Prop where
 lz:l≠z
 lTO:l≠TO
 l1:l≠i1
 l2:l≠i2
 l3:l≠i3
section
variable {prog:Program}{w:World}{A:Around}{E:Value->Shared->Prop}{s:Shared}
end
section
variable {X:Cx}
end
noncomputable def Ite (K:W.Frag)(l:Addr):It:=
 ⟨fun i H=>∃ xs x,SqL K H l xs/\xs[i]? =some x,
  fun i H v H'=>∃ t x,v= .ref t/\H t=none/\H'=upd H t (.tup [.int i,x])/\(∀ xs,SqL K H l xs->xs[i]? =some x),
  fun i H=>∃ xs,SqL K H l xs/\xs.length<=i⟩
theorem zp3 {P:Program}{w:World}{K:W.Frag}{es:List Expr}{tk:Nat}{tp:Pos}(e it l:Addr)(a5:e≠it):
  Turn P w K (.Tuple es tk tp) (Ite K l) [e,it] e (fun i h=>(∃ old,IsEnum h e it (i:Nat) old)/\h.IsListIter it l i) where
 mem:=by simp
 obj:=fun i h st b hb=>by
  obtain⟨⟨old,z⟩,⟨o1,e1,_,d1⟩⟩:=st
  simp only[mem_cons,not_mem_nil,or_false]at hb
  rcases hb with rfl|rfl
  .exact⟨_,z,fun v q=>by cases q⟩
  .exact⟨_,e1,fun v q=>by rw[d1]at q;cases q⟩
 keep:=fun i h h' st k=>by
  obtain⟨⟨old,z⟩,h1⟩:=st
  exact⟨⟨old,k e (by simp) _ z⟩,h1.at fun o q=>k it (by simp) o q⟩
 item:=by
  intro X hP hw hK G i pins s σ H E I hf st hg
  subst hP hw hK
  obtain⟨xs,x,N,hx⟩:=hg
  obtain⟨U,O,p1,_⟩:=I.list N
  obtain⟨u1,a8,a7⟩:=O.get hx
  obtain⟨⟨old,z⟩,h1⟩:=st
  refine wpAny_pyNext_enum_item z h1 p1.isList (x:=u1) (by simpa using a8) a5 fun h' a1 a2 a3 a4 hk=>?_
  refine⟨_,rfl,?_⟩
  refine wpAny_letOwnedTupleGo_enum a1 fun S a6 j=>?_
  have Z:e<s.heap.objs.size:=Heap.lt_size z
  have kk:∀ c o,c∉[e,it]->s.heap.get? c=some o->S.get? c=some o:=fun c o G q=>by
   simp only[mem_cons,not_mem_nil,or_false,not_or]at G
   exact j.extBut _ _ G.1 (hk c o G.1 G.2 q)
  have hT:S.get? s.heap.objs.size=some { cls:=.type "tuple",data:=.seq #[.int i s.toks,u1] }:=j.extBut _ _ (Nat.ne_of_gt Z) a3
  have I2:Inv X pins σ (upd H s.heap.objs.size (.tup [.int i,x])) { s with heap:=S,toks:=s.toks+1 }:=
   I.turnedN (T:=s.heap.objs.size) (o:=.tup [.int i,x]) kk hf (Nat.le_refl _) ⟨by show 2<=sizeLine;decide,[.int i s.toks,u1],.cons ⟨_,rfl⟩ (.cons a7 .nil),⟨_,hT,rfl,_,rfl⟩⟩
  refine⟨.ref s.heap.objs.size,_,I2,rfl,⟨_,x,rfl,I.fresh,rfl,fun zs Y=>by rw[I.list_inj Y N];exact hx⟩,
   ⟨⟨_,a6⟩,a2.extBut j.extBut a5.symm⟩,fun c R=>?_⟩
  have a9:c<s.heap.objs.size:=by
   obtain⟨o1,e1,_⟩:=h1
   simp only[mem_cons,not_mem_nil,or_false]at R
   rcases R with rfl|rfl
   .exact Z
   .exact Heap.lt_size e1
  rw[x8 (Nat.ne_of_lt a9)]
  exact(hf c R).1
 done:=by
  intro X hP hw hK G i pins s σ H E I hf st hg
  subst hP hw hK
  obtain⟨xs,N,hl⟩:=hg
  obtain⟨U,O,p1,_⟩:=I.list N
  obtain⟨⟨old,z⟩,h1⟩:=st
  have aa:=O.length
  refine wpAny_pyNext_enum_end (I.ok.hd G) z h1 p1.isList (by simp;omega) fun h' hk=>⟨rfl,?_⟩
  exact I.turnedL (t':=s.toks) (fun c o G q=>by
   simp only[mem_cons,not_mem_nil,or_false,not_or]at G
   exact hk c o G.2 q) hf
 self:=fun A i s Q E st h=>by
  obtain⟨⟨old,z⟩,h1⟩:=st
  have hT:s.TypeIs (.ref e) "enumerate":=⟨_,z,rfl⟩
  refine wpAny_pyIter_slot hT F.slot_enumerate_iter (wpAny_call_entry F.slot_enumerate_iter hT F.entry_enumerate_iter ?_ (F.args_enumerate_iter_1 _))
  show wpAny _ _ (ret (.ref e)) _ _ s
  exact wpAny_pure ⟨_,rfl,"enumerate",_,hT,F.slot_enumerate_next.lookup,h⟩
section
variable {X:Cx}
def wz8 (K:W.Frag)(ta:TA):TI:=fun σ H R=>ta σ H fun vs H1=>∃ a xs,vs=[.ref a]/\SqL K H1 a xs/\R (Ite K a) H1
theorem xs9 {a:Expr}{ta:TA}{p pos:Pos}{es:List Expr}{tk:Nat}{tp:Pos}(hg:Gl X "enumerate")(hm:X.mg "enumerate"=none)(ha:PA X [a] ta)(hs:starEach [a] X.env=[(false,eval a X.env)]:=by rfl):
  PI X (.Tuple es tk tp) (.Call (.Name "enumerate" p) [a] [] pos) (wz8 X.K ta):=by
 intro pins s σ H R I h
 refine Call_ (O3 I hg hm boot_enumerate (PyProof.Rows.callWith_type1 (thn (ha pos pins s σ H _ I h) fun us s1 i=>?_) hs rfl))
 obtain⟨vs,H1,z,Z,G⟩:=i
 obtain⟨l,xs,e,G,q⟩:=G
 subst e
 cases Z with
 |cons r Y=>
  cases Y
  cases r
  obtain⟨O,U,p1,_⟩:=z.list G
  refine call_enumerate_list p1.isList fun h' N hit a1 hk=>?_
  have I2:Inv X pins σ H1 { s1 with heap:=h',toks:=s1.toks }:=z.kept hk
  have hT:({ s1 with heap:=h' }:Shared).TypeIs (.ref (s1.heap.objs.size+1)) "enumerate":=⟨_,N,rfl⟩
  refine(zp3 (P:=X.prog) (w:=X.w) (K:=X.K) (es:=es) (tk:=tk) (tp:=tp) (s1.heap.objs.size+1) s1.heap.objs.size l (Nat.ne_of_gt (Nat.lt_succ_self _))).self X.A 0 { s1 with heap:=h' } _ _ ⟨⟨_,N⟩,hit⟩ ?_
  refine⟨_,[s1.heap.objs.size+1,s1.heap.objs.size],_,_,H1,rfl,I2,zp3 _ _ l (Nat.ne_of_gt (Nat.lt_succ_self _)),⟨⟨_,N⟩,hit⟩,fun b S=>?_,q⟩
  have j:s1.heap.objs.size<=b:=by
   simp only[mem_cons,not_mem_nil,or_false]at S
   rcases S with rfl|rfl
   .exact Nat.le_succ _
   .exact Nat.le_refl _
  exact z.fpOk j (z.hok.fresh j)
end
end
section
def XAt (a C:Addr)(h:Heap):Prop:=∃ o vs,h.get? a=some o/\o.cls= .ref C/\o.data= .fields vs/\vs[2]? =some .none
noncomputable def yf3 (K:W.Frag)(C:Addr):Option Str:=match K.lookup C with
 |some ⟨_,_,.cls cd,_⟩=>some cd.name
 |_=>none
inductive D where
 |non|bl (b:Bool)|int (i:Int)|str (x:Str)|lst (ds:List D)|tup (ds:List D)|exc (c:Str)
 |ptr (a:Addr)|obj (c:Str) (ns:List Str) (ds:List D)
mutual
inductive Rep (K:W.Frag)(F:Hp):V->D->Prop
 |non:Rep K F .non .non
 |bl (b:Bool):Rep K F (.bl b) (.bl b)
 |int (i:Int):Rep K F (.int i) (.int i)
 |str (x:Str):Rep K F (.str x) (.str x)
 |lst {a:Addr} {xs:List V} {ds:List D}:SqL K F a xs->Reps K F xs ds->Rep K F (.ref a) (.lst ds)
 |tup {a:Addr} {xs:List V} {ds:List D}:SqT K F a xs->Reps K F xs ds->Rep K F (.ref a) (.tup ds)
 |exc {a C:Addr} {c:Str}:(W.nsIn K mainGlobals c=some (some (.ref C))/\yf3 K C=some c)->F a=some (.ext (XAt a C))->Rep K F (.ref a) (.exc c)
 |ptr (a:Addr):Rep K F (.ref a) (.ptr a)
 |obj {a dx C:Addr} {c:Str} {ns:List Str} {xs:List V} {ds:List D}:W.nsIn K mainGlobals c=some (some (.ref C))->ns.length=xs.length->F a=some (.ins C dx (ns.zip xs))->F dx=some (.own a)->Reps K F xs ds->Rep K F (.ref a) (.obj c ns ds)
inductive Reps (K:W.Frag)(F:Hp):List V->List D->Prop
 |nil:Reps K F [] []
 |cons {v:V} {d:D} {vs:List V} {ds:List D}:Rep K F v d->Reps K F vs ds->Reps K F (v::vs) (d::ds)
end
theorem Same.seqT {K:W.Frag}{H H':Hp}{a:Addr}{xs:List V}(e:Same H H')(h:SqT K H a xs):SqT K H' a xs:=by
 rcases h with (h|⟨o,h⟩)|h
 .exact .inl (.inl (e _ _ h))
 .exact .inl (.inr ⟨o,e _ _ h⟩)
 .exact .inr h
section
variable {K:W.Frag}{F F':Hp}
mutual
theorem Rep.mono (e:Same F F'):∀{v:V}{d:D},Rep K F v d->Rep K F' v d
 |_,_,.non=>.non
 |_,_,.bl b=>.bl b
 |_,_,.int i=>.int i
 |_,_,.str x=>.str x
 |_,_,.lst h r=>.lst (e.seq h) (Reps.mono e r)
 |_,_,.tup h r=>.tup (e.seqT h) (Reps.mono e r)
 |_,_,.exc h r=>.exc h (e _ _ r)
 |_,_,.ptr a=>.ptr a
 |_,_,.obj c l h h2 r=>.obj c l (e _ _ h) (e _ _ h2) (Reps.mono e r)
theorem Reps.mono (e:Same F F'):∀{vs:List V}{ds:List D},Reps K F vs ds->Reps K F' vs ds
 |_,_,.nil=>.nil
 |_,_,.cons h r=>.cons (Rep.mono e h) (Reps.mono e r)
end
theorem Reps.length:∀{vs:List V}{ds:List D},Reps K F vs ds->vs.length=ds.length
 |_,_,.nil=>rfl
 |_,_,.cons _ r=>congrArg (·+1) (Reps.length r)
theorem Reps.get:∀{vs:List V}{ds:List D}{i:Nat}{d:D},Reps K F vs ds->ds[i]? =some d->∃ v,vs[i]? =some v/\Rep K F v d
 |_,_,_,_,.nil,e=>by simp at e
 |_,_,0,_,.cons h _,e=>by simp at e;subst e;exact⟨_,rfl,h⟩
 |_,_,i+1,d,.cons _ r,e=>by
  obtain⟨v,h1,h2⟩:=Reps.get (i:=i) (d:=d) r (by simpa using e)
  exact⟨v,by simpa using h1,h2⟩
theorem Reps.get':∀{vs:List V}{ds:List D}{i:Nat}{v:V},Reps K F vs ds->vs[i]? =some v->∃ d,ds[i]? =some d/\Rep K F v d
 |_,_,_,_,.nil,e=>by simp at e
 |_,_,0,_,.cons h _,e=>by simp at e;subst e;exact⟨_,rfl,h⟩
 |_,_,i+1,d,.cons _ r,e=>by
  obtain⟨v,h1,h2⟩:=Reps.get' (i:=i) (v:=d) r (by simpa using e)
  exact⟨v,by simpa using h1,h2⟩
theorem Reps.append:∀{vs ws:List V}{ds es:List D},Reps K F vs ds->Reps K F ws es->Reps K F (vs++ws) (ds++es)
 |_,_,_,_,.nil,s=>s
 |_,_,_,_,.cons h r,s=>.cons h (Reps.append r s)
theorem Reps.take:∀{vs:List V}{ds:List D}(n:Nat),Reps K F vs ds->Reps K F (vs.take n) (ds.take n)
 |_,_,0,_=>.nil
 |_,_,_+1,.nil=>.nil
 |_,_,n+1,.cons h r=>.cons h (Reps.take n r)
theorem Reps.drop:∀{vs:List V}{ds:List D}(n:Nat),Reps K F vs ds->Reps K F (vs.drop n) (ds.drop n)
 |_,_,0,r=>r
 |_,_,_+1,.nil=>.nil
 |_,_,n+1,.cons _ r=>Reps.drop n r
theorem Reps.set {v:V}{d:D}(h:Rep K F v d):∀{vs:List V}{ds:List D}(i:Nat),Reps K F vs ds->Reps K F (vs.set i v) (ds.set i d)
 |_,_,_,.nil=>.nil
 |_,_,0,.cons _ r=>.cons h r
 |_,_,i+1,.cons q r=>.cons q (Reps.set h i r)
end
structure Ext (F H F' H':Hp):Prop where
 ff:Same F F'
 hh:Same H H'
 fh:Same F' H'
 new:∀ b,F b=none->F' b≠none->H b=none
 nf:∀ b o u,F' b=some (.frz o u)->F b=some (.frz o u)
theorem Ext.refl {F H:Hp}(h:Same F H):Ext F H F H:=⟨Same.refl _,Same.refl _,h,fun b e n=>absurd e n,fun _ _ _ z=>z⟩
theorem Ext.trans {F H F1 H1 F2 H2:Hp}(a:Ext F H F1 H1)(b:Ext F1 H1 F2 H2):Ext F H F2 H2:=
 ⟨a.ff.trans b.ff,a.hh.trans b.hh,b.fh,fun c e n=>by
  by_cases h:F1 c=none
  .exact a.hh.free (b.new c h n)
  .exact a.new c e h,fun c o u z=>a.nf c o u (b.nf c o u z)⟩
theorem Same.put {F H:Hp}{p:Addr}{o:HO}(h:Same F H)(hp:F p=none):Same F (upd H p o):=fun b u e=>by
 rw[x8 (p8 e hp)];exact h b u e
theorem Same.put2 {F H:Hp}{p:Addr}{o:HO}(h:Same F H):Same (upd F p o) (upd H p o):=fun b u e=>by
 by_cases i:b=p
 .subst i;rw[x9]at e ⊢;exact e
 .rw[x8 i]at e ⊢;exact h b u e
theorem Ext.laid {F H:Hp}{p:Addr}{o:HO}(h:Same F H)(hp:H p=none)(j:∀ a u,o≠ .frz a u:=by intro _ _ z;cases z):Ext F H (upd F p o) (upd H p o):=
 ⟨(Same.refl F).put (h.free hp),(Same.refl H).put hp,h.put2,fun b e n=>by
  by_cases i:b=p
  .subst i;exact hp
  .rw[x8 i]at n;exact absurd e n,fun b a u z=>by
  by_cases i:b=p
  .subst i;rw[x9]at z;exact absurd (Option.some.inj z) (j a u)
  .rw[x8 i]at z;exact z⟩
theorem Ext.own {F H:Hp}{p:Addr}{o:HO}(h:Same F H)(hp:H p=none):Ext F H F (upd H p o):=
 ⟨Same.refl F,(Same.refl H).put hp,h.put (h.free hp),fun b e n=>absurd e n,fun _ _ _ z=>z⟩
theorem Ext.freeze {F H F' H':Hp}{p:Addr}{o:HO}(a:Ext F H F' H')(j:F' p=none)(hp:H p=none)(I:H' p=some o)(G:∀ a u,o≠ .frz a u:=by intro _ _ z;cases z):Ext F H (upd F' p o) H':=
 ⟨a.ff.put (a.ff.free j),a.hh,fun b u e=>by
   by_cases i:b=p
   .subst i;rw[x9]at e;cases e;exact I
   .rw[x8 i]at e;exact a.fh b u e,fun b e n=>by
   by_cases i:b=p
   .subst i;exact hp
   .rw[x8 i]at n;exact a.new b e n,fun b c u z=>by
   by_cases i:b=p
   .subst i;rw[x9]at z;exact absurd (Option.some.inj z) (G c u)
   .rw[x8 i]at z;exact a.nf b c u z⟩
inductive S where
 |sh (d:D)|own (ds:List D)|ob (p:Addr) (ds:List D)
noncomputable abbrev Ro:=List (Option S)
structure Rl (K:W.Frag)(F0 H0 F H:Hp)(σ:St)(ρ:Ro):Prop where
 ext:Ext F0 H0 F H
 len:σ.length=ρ.length
 sh:∀(i:Nat) d,ρ[i]? =some (some (.sh d))->∃ v,σ[i]? =some (some v)/\Rep K F v d
 own:∀(i:Nat) ds,ρ[i]? =some (some (.own ds))->∃ p xs,σ[i]? =some (some (.ref p))/\F p=none/\H p=some (.lst xs)/\Reps K F xs ds/\H0 p=none
 inj:∀(i j:Nat) p ds es,i≠j->ρ[i]? =some (some (.own ds))->ρ[j]? =some (some (.own es))->σ[i]? =some (some (.ref p))->σ[j]? =some (some (.ref p))->False
 ob:∀(i:Nat) p ds,ρ[i]? =some (some (.ob p ds))->σ[i]? =some (some (.ref p))/\F p=none/\H0 p=none/\∃ xs,H p=some (.lst xs)/\Reps K F xs ds
 obn:∀(i j:Nat) p ds es,ρ[i]? =some (some (.ob p ds))->ρ[j]? =some (some (.own es))->σ[j]? =some (some (.ref p))->False
 ob1:∀(i j:Nat) p q ds es,ρ[i]? =some (some (.ob p ds))->ρ[j]? =some (some (.ob q es))->i=j
noncomputable def nob:Option S->Prop
 |some (.ob _ _)=>False
 |_=>True
theorem X0 {ρ:Ro}{i j:Nat}{x:Option S}{p:Addr}{ds:List D}(e:(ρ.set i x)[j]? =some (some (.ob p ds)))(I:nob x:=by exact True.intro):i≠j/\ρ[j]? =some (some (.ob p ds)):=by
 by_cases G:i=j
 .subst G
  rcases Nat.lt_or_ge i ρ.length with z|z
  .rw[getElem?_set_self z]at e;cases e;exact I.elim
  .rw[getElem?_eq_none (by simpa using z)]at e;cases e
 .rw[getElem?_set_ne G]at e;exact⟨G,e⟩
section
variable {K:W.Frag}{F0 H0 F H F' H':Hp}{σ:St}{ρ:Ro}
theorem Rl.fh (r:Rl K F0 H0 F H σ ρ):Same F H:=r.ext.fh
theorem Rl.go (r:Rl K F0 H0 F H σ ρ)(e:Ext F H F' H'):Rl K F0 H0 F' H' σ ρ where
 ext:=r.ext.trans e
 len:=r.len
 sh:=fun i d h=>let ⟨v,a,b⟩:=r.sh i d h;⟨v,a,b.mono e.ff⟩
 own:=fun i ds h=>by
  obtain⟨p,xs,a,b,c,d,z⟩:=r.own i ds h
  refine⟨p,xs,a,?_,e.hh _ _ c,d.mono e.ff,z⟩
  cases q:F' p with
  |none=>rfl
  |some o=>have:=e.new p b (by rw[q];simp);rw[this]at c;cases c
 inj:=r.inj
 ob:=fun i p ds h=>by
  obtain⟨a,b,c,xs,d,z⟩:=r.ob i p ds h
  refine⟨a,?_,c,xs,e.hh _ _ d,z.mono e.ff⟩
  cases q:F' p with
  |none=>rfl
  |some o=>have:=e.new p b (by rw[q];simp);rw[this]at d;cases d
 obn:=r.obn
 ob1:=r.ob1
theorem Rl.set (r:Rl K F0 H0 F H σ ρ){i:Nat}{v:V}{d:D}(h:Rep K F v d):Rl K F0 H0 F H (σ.set i (some v)) (ρ.set i (some (.sh d))) where
 ext:=r.ext
 len:=by simp[r.len]
 sh:=fun j d' e=>by
  by_cases I:i=j
  .subst I
   have G:i<ρ.length:=by
    rcases Nat.lt_or_ge i ρ.length with z|z
    .exact z
    .rw[getElem?_eq_none (by simpa using z)]at e;cases e
   rw[getElem?_set_self G]at e
   cases e
   exact⟨v,by rw[getElem?_set_self (by rw[r.len];exact G)],h⟩
  .rw[getElem?_set_ne I]at e ⊢
   exact r.sh j d' e
 own:=fun j ds e=>by
  by_cases I:i=j
  .subst I
   have G:i<ρ.length:=by
    rcases Nat.lt_or_ge i ρ.length with z|z
    .exact z
    .rw[getElem?_eq_none (by simpa using z)]at e;cases e
   rw[getElem?_set_self G]at e
   cases e
  .rw[getElem?_set_ne I]at e ⊢
   exact r.own j ds e
 inj:=fun j k p ds es N e1 e2 e3 O=>by
  have n1:i≠j:=fun z=>by
   subst z
   have G:i<ρ.length:=by
    rcases Nat.lt_or_ge i ρ.length with z|z
    .exact z
    .rw[getElem?_eq_none (by simpa using z)]at e1;cases e1
   rw[getElem?_set_self G]at e1;cases e1
  have n2:i≠k:=fun z=>by
   subst z
   have G:i<ρ.length:=by
    rcases Nat.lt_or_ge i ρ.length with z|z
    .exact z
    .rw[getElem?_eq_none (by simpa using z)]at e2;cases e2
   rw[getElem?_set_self G]at e2;cases e2
  rw[getElem?_set_ne n1]at e1 e3
  rw[getElem?_set_ne n2]at e2 O
  exact r.inj j k p ds es N e1 e2 e3 O
 ob:=fun j p ds e=>by
  obtain⟨n,e⟩:=X0 e
  rw[getElem?_set_ne n];exact r.ob j p ds e
 obn:=fun j k p ds es e1 e2 e3=>by
  obtain⟨n,e1⟩:=X0 e1
  have n2:i≠k:=fun z=>by
   subst z
   have G:i<ρ.length:=by
    rcases Nat.lt_or_ge i ρ.length with z|z
    .exact z
    .rw[getElem?_eq_none (by simpa using z)]at e2;cases e2
   rw[getElem?_set_self G]at e2;cases e2
  rw[getElem?_set_ne n2]at e2 e3
  exact r.obn j k p ds es e1 e2 e3
 ob1:=fun j k p q ds es e1 e2=>r.ob1 j k p q ds es (X0 e1).2 (X0 e2).2
theorem Rl.setOwn (r:Rl K F0 H0 F H σ ρ){i:Nat}{p:Addr}{xs:List V}{ds:List D}(U:F p=none)(S:H p=some (.lst xs))(h:Reps K F xs ds)(Y:H0 p=none)
  (fr:∀(j:Nat) es,i≠j->ρ[j]? =some (some (.own es))->σ[j]? =some (some (.ref p))->False) (Z:∀(j:Nat) q es,ρ[j]? =some (some (.ob q es))->q≠p):Rl K F0 H0 F H (σ.set i (some (.ref p))) (ρ.set i (some (.own ds))) where
 ext:=r.ext
 len:=by simp[r.len]
 sh:=fun j d' e=>by
  by_cases R:i=j
  .subst R
   have G:i<ρ.length:=by
    rcases Nat.lt_or_ge i ρ.length with z|z
    .exact z
    .rw[getElem?_eq_none (by simpa using z)]at e;cases e
   rw[getElem?_set_self G]at e
   cases e
  .rw[getElem?_set_ne R]at e ⊢
   exact r.sh j d' e
 own:=fun j es e=>by
  by_cases R:i=j
  .subst R
   have G:i<ρ.length:=by
    rcases Nat.lt_or_ge i ρ.length with z|z
    .exact z
    .rw[getElem?_eq_none (by simpa using z)]at e;cases e
   rw[getElem?_set_self G]at e
   cases e
   exact⟨p,xs,by rw[getElem?_set_self (by rw[r.len];exact G)],U,S,h,Y⟩
  .rw[getElem?_set_ne R]at e ⊢
   exact r.own j es e
 inj:=fun j k q es I O e1 e2 e3 N=>by
  by_cases n1:i=j
  .subst n1
   rw[getElem?_set_ne O]at e2 N
   have G:i<σ.length:=by
    rcases Nat.lt_or_ge i σ.length with z|z
    .exact z
    .rw[getElem?_eq_none (by simpa using z)]at e3;cases e3
   rw[getElem?_set_self G]at e3
   cases e3
   exact fr k I O e2 N
  .rw[getElem?_set_ne n1]at e1 e3
   by_cases n2:i=k
   .subst n2
    have G:i<σ.length:=by
     rcases Nat.lt_or_ge i σ.length with z|z
     .exact z
     .rw[getElem?_eq_none (by simpa using z)]at N;cases N
    rw[getElem?_set_self G]at N
    cases N
    exact fr j es n1 e1 e3
   .rw[getElem?_set_ne n2]at e2 N
    exact r.inj j k q es I O e1 e2 e3 N
 ob:=fun j q es e=>by
  obtain⟨n,e⟩:=X0 e
  rw[getElem?_set_ne n];exact r.ob j q es e
 obn:=fun j k q es I e1 e2 e3=>by
  obtain⟨n,e1⟩:=X0 e1
  by_cases n2:i=k
  .subst n2
   have G:i<σ.length:=by
    rcases Nat.lt_or_ge i σ.length with z|z
    .exact z
    .rw[getElem?_eq_none (by simpa using z)]at e3;cases e3
   rw[getElem?_set_self G]at e3
   cases e3
   exact Z j p es e1 rfl
  .rw[getElem?_set_ne n2]at e2 e3
   exact r.obn j k q es I e1 e2 e3
 ob1:=fun j k p q ds es e1 e2=>r.ob1 j k p q ds es (X0 e1).2 (X0 e2).2
theorem Rl.freeze (r:Rl K F0 H0 F H σ ρ){i:Nat}{ds:List D}(h:ρ[i]? =some (some (.own ds))):∃ F',Rl K F0 H0 F' H σ (ρ.set i (some (.sh (.lst ds))))/\Same F F':=by
 obtain⟨p,xs,a,b,c,d,z⟩:=r.own i ds h
 have I:i<ρ.length:=(List.getElem?_eq_some_iff.mp h).1
 have e:Ext F0 H0 (upd F p (.lst xs)) H:=r.ext.freeze b z c
 have ff:Same F (upd F p (.lst xs)):=(Same.refl F).put b
 refine⟨upd F p (.lst xs),⟨e,by simp[r.len],fun j d' q=>?_,fun j es q=>?_,fun j k q es G O e1 e2 e3 e4=>?_,fun j q es e1=>?_,fun j k q es G e1 e2 e3=>?_,fun j k q q' es G e1 e2=>r.ob1 j k q q' es G (X0 e1).2 (X0 e2).2⟩,ff⟩
 .by_cases hj:i=j
  .subst hj
   rw[getElem?_set_self I]at q
   cases q
   exact⟨_,a,.lst (SqL.of x9) (d.mono ff)⟩
  .rw[getElem?_set_ne hj]at q
   obtain⟨v,Z,Y⟩:=r.sh j d' q
   exact⟨v,Z,Y.mono ff⟩
 .by_cases hj:i=j
  .subst hj
   rw[getElem?_set_self I]at q
   cases q
  .rw[getElem?_set_ne hj]at q
   obtain⟨R,N,S,b',c',d',U⟩:=r.own j es q
   have hp:R≠p:=fun w=>r.inj i j p ds es hj h q a (by rw[<-w];exact S)
   exact⟨R,N,S,by rw[x8 hp];exact b',c',d'.mono ff,U⟩
 .have n1:i≠j:=fun w=>by subst w;rw[getElem?_set_self I]at e1;cases e1
  have n2:i≠k:=fun w=>by subst w;rw[getElem?_set_self I]at e2;cases e2
  rw[getElem?_set_ne n1]at e1
  rw[getElem?_set_ne n2]at e2
  exact r.inj j k q es G O e1 e2 e3 e4
 .obtain⟨n,e1⟩:=X0 e1
  obtain⟨o1,o2,o3,zs,o4,o5⟩:=r.ob j q es e1
  have hp:q≠p:=fun w=>r.obn j i q es ds e1 h (by rw[w];exact a)
  exact⟨o1,by rw[x8 hp];exact o2,o3,zs,o4,o5.mono ff⟩
 .obtain⟨n,e1⟩:=X0 e1
  have n2:i≠k:=fun w=>by subst w;rw[getElem?_set_self I]at e2;cases e2
  rw[getElem?_set_ne n2]at e2
  exact r.obn j k q es G e1 e2 e3
theorem Rl.write (r:Rl K F0 H0 F H σ ρ){i:Nat}{p:Addr}{ys:List V}{ds es:List D}(h:ρ[i]? =some (some (.own ds)))(hp:σ[i]? =some (some (.ref p)))(hy:Reps K F ys es):
  Rl K F0 H0 F (upd H p (.lst ys)) σ (ρ.set i (some (.own es))):=by
 obtain⟨p',a1,a,b,c,d,z⟩:=r.own i ds h
 rw[hp]at a;cases a
 have U:i<ρ.length:=(List.getElem?_eq_some_iff.mp h).1
 refine⟨⟨r.ext.ff,r.ext.hh.put z,r.ext.fh.put b,r.ext.new,r.ext.nf⟩,by simp[r.len],fun j d' q=>?_,fun j fs q=>?_,fun j k q fs fs' N e1 e2 e3 e4=>?_,fun j q fs e1=>?_,fun j k q fs fs' e1 e2 e3=>?_,fun j k q q' es R e1 e2=>r.ob1 j k q q' es R (X0 e1).2 (X0 e2).2⟩
 .by_cases hj:i=j
  .subst hj
   rw[getElem?_set_self U]at q
   cases q
  .rw[getElem?_set_ne hj]at q
   exact r.sh j d' q
 .by_cases hj:i=j
  .subst hj
   rw[getElem?_set_self U]at q
   cases q
   exact⟨p,ys,hp,b,x9,hy,z⟩
  .rw[getElem?_set_ne hj]at q
   obtain⟨p2,I,Y,b2,c2,d2,Z⟩:=r.own j fs q
   have G:p2≠p:=fun w=>r.inj i j p ds fs hj h q hp (by rw[<-w];exact Y)
   exact⟨p2,I,Y,b2,by rw[x8 G];exact c2,d2,Z⟩
 .have back:∀(m:Nat) gs,(ρ.set i (some (S.own es)))[m]? =some (some (.own gs))->∃ O,ρ[m]? =some (some (.own O)):=fun m gs e=>by
   by_cases hm:i=m
   .subst hm;exact⟨ds,h⟩
   .rw[getElem?_set_ne hm]at e;exact⟨gs,e⟩
  obtain⟨g1,e1⟩:=back j fs e1
  obtain⟨g2,e2⟩:=back k fs' e2
  exact r.inj j k q g1 g2 N e1 e2 e3 e4
 .obtain⟨n,e1⟩:=X0 e1
  obtain⟨o1,o2,o3,zs,o4,o5⟩:=r.ob j q fs e1
  have G:q≠p:=fun w=>r.obn j i q fs ds e1 h (by rw[w];exact hp)
  exact⟨o1,o2,o3,zs,by rw[x8 G];exact o4,o5⟩
 .obtain⟨n,e1⟩:=X0 e1
  by_cases n2:i=k
  .subst n2;exact r.obn j i q fs ds e1 h e3
  .rw[getElem?_set_ne n2]at e2
   exact r.obn j k q fs fs' e1 e2 e3
theorem Rl.writeB (r:Rl K F0 H0 F H σ ρ){i:Nat}{p:Addr}{ys:List V}{ds es:List D}(h:ρ[i]? =some (some (.ob p ds)))(hy:Reps K F ys es):
  Rl K F0 H0 F (upd H p (.lst ys)) σ (ρ.set i (some (.ob p es))):=by
 obtain⟨a,b,z,a1,c,d⟩:=r.ob i p ds h
 have U:i<ρ.length:=(List.getElem?_eq_some_iff.mp h).1
 have back:∀(j:Nat) q fs,(ρ.set i (some (S.ob p es)))[j]? =some (some (.ob q fs))->j=i/\q=p/\fs=es:=fun j q fs e=>by
  by_cases I:i=j
  .subst I;rw[getElem?_set_self U]at e;cases e;exact⟨rfl,rfl,rfl⟩
  .rw[getElem?_set_ne I]at e;exact absurd (r.ob1 i j p q ds fs h e) I
 have G:∀(j:Nat) fs,(ρ.set i (some (S.ob p es)))[j]? =some (some (.own fs))->i≠j/\ρ[j]? =some (some (.own fs)):=fun j fs e=>by
  by_cases I:i=j
  .subst I;rw[getElem?_set_self U]at e;cases e
  .rw[getElem?_set_ne I]at e;exact⟨I,e⟩
 refine⟨⟨r.ext.ff,r.ext.hh.put z,r.ext.fh.put b,r.ext.new,r.ext.nf⟩,by simp[r.len],fun j d' q=>?_,fun j fs q=>?_,fun j k q fs fs' Y e1 e2 e3 N=>r.inj j k q fs fs' Y (G j fs e1).2 (G k fs' e2).2 e3 N,fun j q fs e1=>?_,fun j k q fs fs' e1 e2 e3=>?_,fun j k q q' fs fs' e1 e2=>?_⟩
 .by_cases I:i=j
  .subst I;rw[getElem?_set_self U]at q;cases q
  .rw[getElem?_set_ne I]at q;exact r.sh j d' q
 .obtain⟨n,e⟩:=G j fs q
  obtain⟨p2,O,Z,b2,c2,d2,z2⟩:=r.own j fs e
  have R:p2≠p:=fun w=>r.obn i j p ds fs h e (by rw[<-w];exact Z)
  exact⟨p2,O,Z,b2,by rw[x8 R];exact c2,d2,z2⟩
 .obtain⟨e2,e3,N⟩:=back j q fs e1
  subst e2 e3 N
  exact⟨a,b,z,ys,x9,hy⟩
 .obtain⟨N,e5,_⟩:=back j q fs e1
  subst N e5
  exact r.obn j k q ds fs' h (G k fs' e2).2 e3
 .rw[(back j q fs e1).1,(back k q' fs' e2).1]
end
theorem Rep.n' {K:W.Frag}{F:Hp}{x:V}(r:Rep K F x .non):x= .non:=by cases r;rfl
theorem Rep.b' {K:W.Frag}{F:Hp}{x:V}{i:Bool}(r:Rep K F x (.bl i)):x= .bl i:=by cases r;rfl
theorem Rep.i' {K:W.Frag}{F:Hp}{x:V}{i:Int}(r:Rep K F x (.int i)):x= .int i:=by cases r;rfl
theorem Rep.s' {K:W.Frag}{F:Hp}{x:V}{i:Str}(r:Rep K F x (.str i)):x= .str i:=by cases r;rfl
theorem Rep.l' {K:W.Frag}{F:Hp}{x:V}{ds:List D}(r:Rep K F x (.lst ds)):∃ a xs,x= .ref a/\SqL K F a xs/\Reps K F xs ds:=by cases r with |lst s r=>exact⟨_,_,rfl,s,r⟩
theorem Rep.t' {K:W.Frag}{F:Hp}{x:V}{ds:List D}(r:Rep K F x (.tup ds)):∃ a xs,x= .ref a/\SqT K F a xs/\Reps K F xs ds:=by cases r with |tup s r=>exact⟨_,_,rfl,s,r⟩
end
section
noncomputable abbrev ME:=Ro->Option D
noncomputable abbrev ML:=Ro->Option (List D)
noncomputable abbrev MB:=Ro->Option Bool
def TD (K:W.Frag)(m:ME):TE:=fun σ H Q=>∃ F0 H0 F ρ d,Rl K F0 H0 F H σ ρ/\m ρ=some d/\∀ v F' H',Ext F H F' H'->Rep K F' v d->Q v H'
def TF (K:W.Frag)(m:ML):TE:=fun σ H Q=>∃ F0 H0 F ρ ds,Rl K F0 H0 F H σ ρ/\m ρ=some ds/\∀ p xs F' H',Ext F H F' H'->H p=none->F' p=none->H' p=some (.lst xs)->Reps K F' xs ds->Q (.ref p) H'
def TB (K:W.Frag)(m:ML):TE:=fun σ H Q=>∃ F0 H0 F ρ ds,Rl K F0 H0 F H σ ρ/\m ρ=some ds/\∀ p xs F' H',Ext F H F' H'->SqL K H' p xs->Reps K F' xs ds->Q (.ref p) H'
def TC (K:W.Frag)(c:MB):TT:=fun σ H Q=>∃ F0 H0 F ρ b,Rl K F0 H0 F H σ ρ/\c ρ=some b/\∀ F' H',Ext F H F' H'->Q b H'
def TAs (K:W.Frag)(m:ML):TA:=fun σ H Q=>∃ F0 H0 F ρ ds,Rl K F0 H0 F H σ ρ/\m ρ=some ds/\∀ vs F' H',Ext F H F' H'->Reps K F' vs ds->Q vs H'
def PD (X:Cx)(e:Expr)(m:ME):Prop:=PE X e (TD X.K m)
def PF (X:Cx)(e:Expr)(m:ML):Prop:=PE X e (TF X.K m)
def PB (X:Cx)(e:Expr)(m:ML):Prop:=PE X e (TB X.K m)
def PC' (X:Cx)(e:Expr)(c:MB):Prop:=PT X e (TC X.K c)
def PCw (X:Cx)(e:Expr)(c:MB):Prop:=PW X e (TC X.K c)
def PAs (X:Cx)(es:List Expr)(m:ML):Prop:=PA X es (TAs X.K m)
section
variable {X:Cx}{a b c e:Expr}{ma mb:ME}{pos:Pos}
theorem PE.imp {t t':TE}(h:PE X e t)(i:∀ σ H Q,t' σ H Q->t σ H Q):PE X e t':=fun pins s σ H Q I q=>h pins s σ H Q I (i σ H Q q)
theorem PT.imp {t t':TT}(h:PT X e t)(i:∀ σ H Q,t' σ H Q->t σ H Q):PT X e t':=fun pins s σ H Q I q=>h pins s σ H Q I (i σ H Q q)
theorem PW.imp {t t':TT}(h:PW X e t)(i:∀ σ H Q,t' σ H Q->t σ H Q):PW X e t':=fun w pins s σ H Q I q=>h w pins s σ H Q I (i σ H Q q)
theorem PA.imp {es:List Expr}{t t':TA}(h:PA X es t)(i:∀ σ H Q,t' σ H Q->t σ H Q):PA X es t':=fun pos pins s σ H Q I q=>h pos pins s σ H Q I (i σ H Q q)
noncomputable def mvar (i:Nat):ME:=fun ρ=>match ρ[i]? with |some (some (.sh d))=>some d|_=>none
noncomputable def bvar (i:Nat):ML:=fun ρ=>match ρ[i]? with |some (some (.sh (.lst ds)))=>some ds|some (some (.own ds))=>some ds|some (some (.ob _ ds))=>some ds|_=>none
noncomputable def mc (d:D):ME:=fun _=>some d
theorem z5 (i:Nat){x:Str}{pos:Pos}(h:PE X (.Name x pos) (tVar i)):PD X (.Name x pos) (mvar i):=h.imp fun σ H Q j=>by
 obtain⟨F0,H0,F,ρ,d,r,e,q⟩:=j
 unfold mvar at e
 split at e
 .rename_i h'
  cases e
  obtain⟨v,e1,e2⟩:=r.sh i _ h'
  exact⟨v,e1,q v F H (.refl r.fh) e2⟩
 .cases e
theorem w5 (i:Nat){x:Str}{pos:Pos}(h:PE X (.Name x pos) (tVar i)):PB X (.Name x pos) (bvar i):=h.imp fun σ H Q j=>by
 obtain⟨F0,H0,F,ρ,d,r,e,q⟩:=j
 unfold bvar at e
 split at e
 .rename_i ds h'
  cases e
  obtain⟨v,e1,e2⟩:=r.sh i _ h'
  cases e2 with
  |lst s G=>exact⟨_,e1,q _ _ F H (.refl r.fh) (r.fh.seq s) G⟩
 .rename_i ds h'
  cases e
  obtain⟨p,xs,e1,e2,e3,z,_⟩:=r.own i _ h'
  exact⟨_,e1,q _ _ F H (.refl r.fh) (SqL.of e3) z⟩
 .rename_i p ds h'
  cases e
  obtain⟨e1,e2,_,xs,e3,z⟩:=r.ob i p _ h'
  exact⟨_,e1,q _ _ F H (.refl r.fh) (SqL.of e3) z⟩
 .cases e
theorem x6 {i:Int}{j pos}:PD X (.Constant (.int i) j pos) (mc (.int i)):=pe_int.imp fun σ H Q z=>by
 obtain⟨F0,H0,F,ρ,d,r,e,q⟩:=z
 cases e;exact q _ F H (.refl r.fh) (.int i)
theorem zh5 {b:Bool}{j pos}:PD X (.Constant (.bool b) j pos) (mc (.bl b)):=pe_bl.imp fun σ H Q i=>by
 obtain⟨F0,H0,F,ρ,d,r,e,q⟩:=i
 cases e;exact q _ F H (.refl r.fh) (.bl b)
theorem zn4 {j pos}:PD X (.Constant .none j pos) (mc .non):=pe_non.imp fun σ H Q i=>by
 obtain⟨F0,H0,F,ρ,d,r,e,q⟩:=i
 cases e;exact q _ F H (.refl r.fh) .non
theorem A6 {x:Str}{j pos}:PD X (.Constant (.str x) j pos) (mc (.str x)):=pe_str.imp fun σ H Q i=>by
 obtain⟨F0,H0,F,ρ,d,r,e,q⟩:=i
 cases e;exact q _ F H (.refl r.fh) (.str x)
noncomputable def mlst (m:ML):ME:=fun ρ=>(m ρ).map .lst
noncomputable def p5 (m:ME):ML:=fun ρ=>match m ρ with |some (.lst ds)=>some ds|_=>none
theorem Z6 {m:ML}(h:PF X e m):PD X e (mlst m):=h.imp fun σ H Q i=>by
 obtain⟨F0,H0,F,ρ,d,r,e,q⟩:=i
 unfold mlst at e
 cases hm:m ρ with
 |none=>rw[hm]at e;cases e
 |some ds=>
  rw[hm]at e;cases e
  refine⟨F0,H0,F,ρ,ds,r,hm,fun p xs F' H' x hp j G z=>?_⟩
  exact q _ (upd F' p (.lst xs)) H' (x.freeze j hp G) (.lst (SqL.of x9) (z.mono ((Same.refl F').put j)))
theorem S2 (h:PD X e ma):PB X e (p5 ma):=h.imp fun σ H Q i=>by
 obtain⟨F0,H0,F,ρ,d,r,e,q⟩:=i
 unfold p5 at e
 split at e
 .rename_i ds hm
  cases e
  refine⟨F0,H0,F,ρ,_,r,hm,fun v F' H' x j=>?_⟩
  cases j with
  |lst s z=>exact q _ _ F' H' x (x.fh.seq s) z
 .cases e
theorem U3 {m:ML}(h:PF X e m):PB X e m:=h.imp fun σ H Q ⟨F0,H0,F,ρ,d,r,e,q⟩=>
 ⟨F0,H0,F,ρ,d,r,e,fun p xs F' H' x hp z j i=>q p xs F' H' x (SqL.of j) i⟩
@[irreducible] noncomputable def m2 (f:D->D->Option D)(x y:ME):ME:=fun ρ=>(x ρ).bind fun d=>(y ρ).bind fun e=>f d e
def OpD (K:W.Frag)(r:R2)(f:D->D->Option D):Prop:=∀(F H:Hp)(x y:V)(d e g:D)(Q:VK),Same F H->Rep K F x d->Rep K F y e->f d e=some g->(∀ v F' H',Ext F H F' H'->Rep K F' v g->Q v H')->r x y H Q
theorem xp3 {f:D->D->Option D}{ρ:Ro}{g:D}(h:m2 f ma mb ρ=some g):∃ d e,ma ρ=some d/\mb ρ=some e/\f d e=some g:=by
 unfold m2 at h
 cases h1:ma ρ with
 |none=>rw[h1]at h;cases h
 |some d=>
  cases h2:mb ρ with
  |none=>rw[h1,h2]at h;cases h
  |some e=>rw[h1,h2]at h;exact⟨d,e,rfl,rfl,h⟩
theorem op_d {r:R2}{f:D->D->Option D}(R:OpD X.K r f){σ:St}{H:Hp}{Q:VK}(h:TD X.K (m2 f ma mb) σ H Q):tOp r (TD X.K ma) (TD X.K mb) σ H Q:=by
 obtain⟨F0,H0,F,ρ,g,z,e,q⟩:=h
 obtain⟨d,G,h1,h2,S⟩:=xp3 e
 refine⟨F0,H0,F,ρ,d,z,h1,fun x F1 H1 j O=>⟨F0,H0,F1,ρ,G,z.go j,h2,fun y F2 H2 i N=>?_⟩⟩
 exact R F2 H2 x y d G g Q i.fh (O.mono i.ff) N S fun v F' H' I=>q v F' H' ((j.trans i).trans I)
theorem yw3 {op:Operator}{r:R2}{f:D->D->Option D}(i:OpR X (binaryOp op) r)(j:OpD X.K r f)(ha:PD X a ma)(z:PD X b mb):PD X (.BinOp a op b pos) (m2 f ma mb):=(xr0 i ha z).imp fun _ _ _ h=>op_d j h
theorem xw5 {op:CmpOp}{r:R2}{f:D->D->Option D}(i:OpR X (compareOp op) r)(j:OpD X.K r f)(ha:PD X a ma)(z:PD X b mb)(hm:behindInMarks op b=false):PD X (.Compare a [op] [b] pos) (m2 f ma mb):=(yp9 i ha z hm).imp fun _ _ _ h=>op_d j h
noncomputable def u4 (m:ME):MB:=fun ρ=>match m ρ with |some (.bl b)=>some b|_=>none
theorem n9 {op:CmpOp}{r:R2}{f:D->D->Option D}(z:OpR X (compareOp op) r)(G:OpD X.K r f)(ha:PD X a ma)(I:PD X b mb)(hm:behindInMarks op b=false):PC' X (.Compare a [op] [b] pos) (u4 (m2 f ma mb)):=(yq3 z ha I hm).imp fun σ H Q i=>by
 obtain⟨F0,H0,F,ρ,g,j,e,q⟩:=i
 unfold u4 at e
 split at e
 .rename_i k hk
  cases e
  refine op_d G ⟨F0,H0,F,ρ,.bl g,j,hk,fun v F' H' x r=>?_⟩
  cases r
  exact⟨_,rfl,q F' H' x⟩
 .cases e
noncomputable def int2 (g:Int->Int->Option D):D->D->Option D
 | .int i,.int j=>g i j
 |_,_=>none
theorem za3 {g:Int->Int->Option D}{d e w:D}(h:int2 g d e=some w):∃ i j,d= .int i/\e= .int j/\g i j=some w:=by
 cases d with
 |int i=>
  cases e with
  |int j=>exact⟨i,j,rfl,rfl,h⟩
  |_=>cases h
 |_=>cases h
theorem A8 {K:W.Frag}{g:Int->Int->V}{g':Int->Int->D}(I:∀ F i j,Rep K F (g i j) (g' i j)):OpD K (rI0 g) (int2 fun i j=>some (g' i j)):=by
 intro F H x y d e w Q s G z h q
 obtain⟨i,j,rfl,rfl,h'⟩:=za3 h
 clear h
 cases h'
 exact⟨i,j,G.i',z.i',q _ F H (.refl s) (I F i j)⟩
theorem zb1 {K:W.Frag}{C:Int->Int->Prop}{ok:Int->Int->Bool}{g:Int->Int->V}{g':Int->Int->D}(N:∀ i j,ok i j=true->C i j)(I:∀ F i j,Rep K F (g i j) (g' i j)):
  OpD K (rI C g) (int2 fun i j=>if ok i j=true then some (g' i j)else none):=by
 intro F H x y d e w Q s G z h q
 obtain⟨i,j,rfl,rfl,h'⟩:=za3 h
 clear h
 by_cases hk:ok i j=true
 .rw[if_pos hk]at h'
  cases h'
  exact⟨i,j,G.i',z.i',N i j hk,q _ F H (.refl s) (I F i j)⟩
 .rw[if_neg hk]at h'
  cases h'
noncomputable def subD:D->D->Option D:=int2 fun i j=>some (.int (i-j))
noncomputable def O8 (i j:Int):Bool:=(decide (-(2^64)<i)&&decide (i<2^64)) || (decide (-(2^64)<j)&&decide (j<2^64))
noncomputable def mulD:D->D->Option D:=int2 fun i j=>if O8 i j=true then some (.int (i*j))else none
noncomputable def F8 (_ j:Int):Bool:=decide (0<j)&&decide (j<1073741824)
noncomputable def zw3:D->D->Option D:=int2 fun i j=>if F8 i j=true then some (.int (i / j))else none
noncomputable def zr5 (_ j:Int):Bool:=decide (0<j)
noncomputable def modD:D->D->Option D:=int2 fun i j=>if zr5 i j=true then some (.int (i % j))else none
noncomputable def yq8 (i j:Int):Bool:=decide (0<=j)&&decide (j<=1000000)&&decide (i.natAbs<2^64)
noncomputable def powD:D->D->Option D:=int2 fun i j=>if yq8 i j=true then some (.int (i^j.toNat))else none
noncomputable def ltD:D->D->Option D:=int2 fun i j=>some (.bl (decide (i<j)))
noncomputable def leD:D->D->Option D:=int2 fun i j=>some (.bl (decide (i<=j)))
noncomputable def gtD:D->D->Option D:=int2 fun i j=>some (.bl (decide (j<i)))
noncomputable def geD:D->D->Option D:=int2 fun i j=>some (.bl (decide (j<=i)))
theorem xr8 {K:W.Frag}:OpD K (rI0 fun i j=>.int (i-j)) subD:=A8 fun F i j=>.int _
theorem xq1 {K:W.Frag}:OpD K (rI CMul fun i j=>.int (i*j)) mulD:=zb1 (fun i j h=>by
 unfold O8 at h
 simp only[Bool.or_eq_true,Bool.and_eq_true,decide_eq_true_eq]at h
 exact h) fun F i j=>.int _
theorem yc2 {K:W.Frag}:OpD K (rI CDiv fun i j=>.int (i / j)) zw3:=zb1 (fun i j h=>by
 unfold F8 at h
 simp only[Bool.and_eq_true,decide_eq_true_eq]at h
 exact h) fun F i j=>.int _
theorem xq2 {K:W.Frag}:OpD K (rI (fun _ j=>0<j) fun i j=>.int (i % j)) modD:=zb1 (fun i j h=>of_decide_eq_true h) fun F i j=>.int _
theorem xr9 {K:W.Frag}:OpD K (rI CPow fun i j=>.int (i^j.toNat)) powD:=zb1 (fun i j h=>by
 unfold yq8 at h
 simp only[Bool.and_eq_true,decide_eq_true_eq]at h
 exact⟨h.1.1,h.1.2,h.2⟩) fun F i j=>.int _
theorem L5 {K:W.Frag}:OpD K (rI0 fun i j=>.bl (decide (i<j))) ltD:=A8 fun F i j=>.bl _
theorem xi3 {K:W.Frag}:OpD K (rI0 fun i j=>.bl (decide (i<=j))) leD:=A8 fun F i j=>.bl _
theorem yn1 {K:W.Frag}:OpD K (rI0 fun i j=>.bl (decide (j<i))) gtD:=A8 fun F i j=>.bl _
theorem L6 {K:W.Frag}:OpD K (rI0 fun i j=>.bl (decide (j<=i))) geD:=A8 fun F i j=>.bl _
noncomputable def eqS:D->D->Option Bool
 | .non,.non=>some true| .non,.int _=>some false| .int _,.non=>some false| .non,.bl _=>some false| .bl _,.non=>some false| .non,.str _=>some false| .str _,.non=>some false
 | .int i,.int j=>some (i==j)| .bl i,.bl j=>some (i==j)| .str i,.str j=>some (i==j)
 | .int _,.str _=>some false| .str _,.int _=>some false| .bl _,.str _=>some false| .str _,.bl _=>some false
 |_,_=>none
noncomputable def eqSD (d e:D):Option D:=(eqS d e).map .bl
noncomputable def neSD (d e:D):Option D:=(eqS d e).map fun b=>.bl (!b)
noncomputable def scV:D->V
 | .bl b=>.bl b| .int i=>.int i| .str x=>.str x|_=>.non
theorem yi2 {d e:D}{k:Bool}(h:eqS d e=some k):scal (scV d) (scV e)=true/\decide (scV d=scV e)=k:=by
 cases d with
 |non=>cases e <;> cases h <;> exact⟨rfl,rfl⟩
 |bl i=>
  cases e <;> cases h
  .exact⟨rfl,rfl⟩
  .exact⟨rfl,yi8⟩
  .exact⟨rfl,rfl⟩
 |int i=>
  cases e <;> cases h
  .exact⟨rfl,rfl⟩
  .exact⟨rfl,ze2⟩
  .exact⟨rfl,rfl⟩
 |str i=>
  cases e <;> cases h
  .exact⟨rfl,rfl⟩
  .exact⟨rfl,rfl⟩
  .exact⟨rfl,rfl⟩
  .exact⟨rfl,ze1⟩
 |_=>cases h
theorem yu4 {d e:D}{k:Bool}(h:eqS d e=some k){K:W.Frag}{F:Hp}{x:V}(r:Rep K F x d):x=scV d:=by
 cases d with
 |non=>exact r.n'
 |bl i=>exact r.b'
 |int i=>exact r.i'
 |str i=>exact r.s'
 |_=>cases h
theorem ze0 (d e:D)(k:Bool)(h:eqS d e=some k):∃ j,eqS e d=some j:=by
 cases d with
 |non=>cases e <;> cases h <;> exact⟨_,rfl⟩
 |bl i=>cases e <;> cases h <;> exact⟨_,rfl⟩
 |int i=>cases e <;> cases h <;> exact⟨_,rfl⟩
 |str i=>cases e <;> cases h <;> exact⟨_,rfl⟩
 |_=>cases h
theorem O7 {K:W.Frag}:OpD K rEq eqSD:=by
 intro F H x y d e w Q s z j h q
 unfold eqSD at h
 cases hk:eqS d e with
 |none=>rw[hk]at h;cases h
 |some k=>
  rw[hk]at h
  cases h
  obtain⟨G,i⟩:=ze0 d e k hk
  obtain⟨h1,h2⟩:=yi2 hk
  rw[yu4 hk z,yu4 i j]
  refine⟨h1,?_⟩
  rw[h2]
  exact q _ F H (.refl s) (.bl _)
theorem xq0 {K:W.Frag}:OpD K rNe neSD:=by
 intro F H x y d e w Q s z j h q
 unfold neSD at h
 cases hk:eqS d e with
 |none=>rw[hk]at h;cases h
 |some k=>
  rw[hk]at h
  cases h
  obtain⟨G,i⟩:=ze0 d e k hk
  obtain⟨h1,h2⟩:=yi2 hk
  rw[yu4 hk z,yu4 i j]
  refine⟨h1,?_⟩
  rw[h2]
  exact q _ F H (.refl s) (.bl _)
noncomputable def m1 (f:D->Option D)(x:ME):ME:=fun ρ=>(x ρ).bind f
noncomputable def negD:D->Option D
 | .int i=>some (.int (-i))
 |_=>none
theorem zg7 {f:D->Option D}{ρ:Ro}{g:D}(h:m1 f ma ρ=some g):∃ d,ma ρ=some d/\f d=some g:=by
 unfold m1 at h
 cases h1:ma ρ with
 |none=>rw[h1]at h;cases h
 |some d=>rw[h1]at h;exact⟨d,rfl,h⟩
theorem A7 (ha:PD X a ma):PD X (.UnaryOp .USub a pos) (m1 negD ma):=(xb9 xn8 ha).imp fun σ H Q i=>by
 obtain⟨F0,H0,F,ρ,g,z,e,q⟩:=i
 obtain⟨d,h1,h2⟩:=zg7 e
 refine⟨F0,H0,F,ρ,d,z,h1,fun x F1 H1 j G=>?_⟩
 cases G <;> first| (cases h2;done)|skip
 cases h2
 exact⟨_,rfl,q _ F1 H1 j (.int _)⟩
noncomputable def notD:D->Option D
 | .bl b=>some (.bl (!b))
 |_=>none
theorem xw3 (ha:PD X a ma):PD X (.UnaryOp .Not a pos) (m1 notD ma):=(xj9 ha).imp fun σ H Q i=>by
 obtain⟨F0,H0,F,ρ,g,z,e,q⟩:=i
 obtain⟨d,h1,h2⟩:=zg7 e
 refine⟨F0,H0,F,ρ,d,z,h1,fun x F1 H1 j G=>?_⟩
 cases G <;> first| (cases h2;done)|skip
 cases h2
 exact⟨_,rfl,q _ F1 H1 j (.bl _)⟩
noncomputable def mand (x y:ME):ME:=fun ρ=>match x ρ with |some (.bl true)=>y ρ|some (.bl false)=>some (.bl false)|_=>none
theorem yo4 {op}(h:PD X a ma):PD X (.BoolOp op [a] pos) ma:=xj8 h
theorem yo8 {rest:List Expr}(ha:PD X a ma)(O:PD X (.BoolOp .And (b::rest) pos) mb):PD X (.BoolOp .And (a::b::rest) pos) (mand ma mb):=(xi0 ha O).imp fun σ H Q i=>by
 obtain⟨F0,H0,F,ρ,g,z,e,q⟩:=i
 unfold mand at e
 split at e
 .rename_i h1
  refine⟨F0,H0,F,ρ,_,z,h1,fun x F1 H1 j G=>?_⟩
  cases G
  refine⟨true,rfl,?_⟩
  refine iteT ?_
  exact⟨F0,H0,F1,ρ,g,z.go j,e,fun y F2 H2 I N=>q y F2 H2 (j.trans I) N⟩
 .rename_i h1
  cases e
  refine⟨F0,H0,F,ρ,_,z,h1,fun x F1 H1 j G=>?_⟩
  cases G
  refine⟨false,rfl,?_⟩
  refine iteF ?_
  exact q _ F1 H1 j (.bl _)
 .cases e
noncomputable def truD:D->Option Bool
 | .non=>some false
 | .bl b=>some b
 | .int i=>some (i != 0)
 | .str y=>if y.length<=sizeLine then some ((y.length:Int) != 0)else none
 | .lst ds=>some (!ds.isEmpty)
 | .tup ds=>some (!ds.isEmpty)
 | .exc _=>none
 | .ptr _=>none
 | .obj _ _ _=>none
noncomputable def mtru (m:ME):MB:=fun ρ=>(m ρ).bind truD
theorem G9 {K:W.Frag}{F:Hp}{vs:List V}{ds:List D}(h:Reps K F vs ds):(!ds.isEmpty)= !vs.isEmpty:=by cases h <;> rfl
theorem xw7 (ha:PD X a ma)(O:∀ i,isTrue a X.env i=(do let v ← i;standAt a.pos;holding [v] (truthy v)):=by intro _;rfl):PC' X a (mtru ma):=(zd9 ha O).imp fun σ H Q j=>by
 obtain⟨F0,H0,F,ρ,b,I,e,q⟩:=j
 unfold mtru at e
 cases h1:ma ρ with
 |none=>rw[h1]at e;cases e
 |some d=>
  rw[h1]at e
  refine⟨F0,H0,F,ρ,d,I,h1,fun x F1 H1 z N=>⟨b,?_,q F1 H1 z⟩⟩
  cases N with
  |non=>cases e;rfl
  |bl=>cases e;rfl
  |int=>cases e;rfl
  |str x=>
   have e:(if x.length<=sizeLine then some ((x.length:Int) != 0)else none)=some b:=e
   split at e
   .rename_i hz
    cases e
    exact⟨hz,rfl⟩
   .cases e
  |lst s G=>cases e;exact .inl ⟨_,z.fh.seq s,G9 G⟩
  |tup s G=>cases e;exact .inr (.inl ⟨_,z.fh.seqT s,G9 G⟩)
  |exc=>cases e
  |ptr=>cases e
  |obj=>cases e
variable {ca cb:MB}
noncomputable def cand (x y:MB):MB:=fun ρ=>match x ρ with |some true=>y ρ|some false=>some false|none=>none
noncomputable def cor (x y:MB):MB:=fun ρ=>match x ρ with |some true=>some true|some false=>y ρ|none=>none
noncomputable def cnot (x:MB):MB:=fun ρ=>(x ρ).map (!·)
theorem pc_w (h:PCw X a ca):PC' X a ca:=h.pt
theorem zh1 (h:PC' X a ca):PCw X (.BoolOp .And [a] pos) ca:=xt6 h
theorem yq1 (h:PC' X a ca):PCw X (.BoolOp .Or [a] pos) ca:=xj0 h
theorem zh6 {rest:List Expr}(ha:PC' X a ca)(I:PCw X (.BoolOp .And (b::rest) pos) cb):PCw X (.BoolOp .And (a::b::rest) pos) (cand ca cb):=(xj1 ha I).imp fun σ H Q i=>by
 obtain⟨F0,H0,F,ρ,g,z,e,q⟩:=i
 unfold cand at e
 split at e
 .rename_i h1
  refine⟨F0,H0,F,ρ,_,z,h1,fun F1 H1 j=>?_⟩
  refine iteT ?_
  exact⟨F0,H0,F1,ρ,g,z.go j,e,fun F2 H2 G=>q F2 H2 (j.trans G)⟩
 .rename_i h1
  cases e
  refine⟨F0,H0,F,ρ,_,z,h1,fun F1 H1 j=>?_⟩
  refine iteF ?_
  exact q F1 H1 j
 .cases e
theorem zb0 {rest:List Expr}(ha:PC' X a ca)(I:PCw X (.BoolOp .Or (b::rest) pos) cb):PCw X (.BoolOp .Or (a::b::rest) pos) (cor ca cb):=(xb8 ha I).imp fun σ H Q i=>by
 obtain⟨F0,H0,F,ρ,g,z,e,q⟩:=i
 unfold cor at e
 split at e
 .rename_i h1
  cases e
  refine⟨F0,H0,F,ρ,_,z,h1,fun F1 H1 j=>?_⟩
  refine iteT ?_
  exact q F1 H1 j
 .rename_i h1
  refine⟨F0,H0,F,ρ,_,z,h1,fun F1 H1 j=>?_⟩
  refine iteF ?_
  exact⟨F0,H0,F1,ρ,g,z.go j,e,fun F2 H2 G=>q F2 H2 (j.trans G)⟩
 .cases e
theorem xi2 (ha:PC' X a ca):PC' X (.UnaryOp .Not a pos) (cnot ca):=(xx5 ha).imp fun σ H Q i=>by
 obtain⟨F0,H0,F,ρ,g,z,e,q⟩:=i
 unfold cnot at e
 cases h1:ca ρ with
 |none=>rw[h1]at e;cases e
 |some k=>
  rw[h1]at e;cases e
  exact⟨F0,H0,F,ρ,k,z,h1,fun F1 H1 j=>q F1 H1 j⟩
noncomputable def mite (c:MB)(x y:ME):ME:=fun ρ=>match c ρ with |some true=>x ρ|some false=>y ρ|none=>none
theorem xw4 (I:PC' X c ca)(ha:PD X a ma)(N:PD X b mb):PD X (.IfExp c a b pos) (mite ca ma mb):=(yc0 I ha N).imp fun σ H Q j=>by
 obtain⟨F0,H0,F,ρ,g,z,e,q⟩:=j
 unfold mite at e
 split at e
 .rename_i h1
  refine⟨F0,H0,F,ρ,_,z,h1,fun F1 H1 i=>?_⟩
  refine iteT ?_
  exact⟨F0,H0,F1,ρ,g,z.go i,e,fun v F2 H2 G=>q v F2 H2 (i.trans G)⟩
 .rename_i h1
  refine⟨F0,H0,F,ρ,_,z,h1,fun F1 H1 i=>?_⟩
  refine iteF ?_
  exact⟨F0,H0,F1,ρ,g,z.go i,e,fun v F2 H2 G=>q v F2 H2 (i.trans G)⟩
 .cases e
noncomputable def anil:ML:=fun _=>some []
@[irreducible] noncomputable def z7 (x:ME)(r:ML):ML:=fun ρ=>(x ρ).bind fun d=>(r ρ).bind fun ds=>some (d::ds)
theorem zu9 {r:ML}{ρ:Ro}{gs:List D}(h:z7 ma r ρ=some gs):∃ d ds,ma ρ=some d/\r ρ=some ds/\gs=d::ds:=by
 unfold z7 at h
 cases h1:ma ρ with
 |none=>rw[h1]at h;cases h
 |some d=>
  cases h2:r ρ with
  |none=>rw[h1,h2]at h;cases h
  |some ds=>rw[h1,h2]at h;cases h;exact⟨d,ds,rfl,rfl,rfl⟩
theorem z9:PAs X [] anil:=pa_nil.imp fun σ H Q i=>by
 obtain⟨F0,H0,F,ρ,g,j,e,q⟩:=i
 cases e;exact q [] F H (.refl j.fh) .nil
theorem z0 {es:List Expr}{m:ML}(ha:PD X a ma)(O:PAs X es m)(hs:starEach (a::es) X.env=(false,eval a X.env)::starEach es X.env:=by rfl):PAs X (a::es) (z7 ma m):=(j7 ha O hs).imp fun σ H Q i=>by
 obtain⟨F0,H0,F,ρ,g,G,e,q⟩:=i
 obtain⟨d,ds,h1,h2,rfl⟩:=zu9 e
 refine⟨F0,H0,F,ρ,d,G,h1,fun x F1 H1 z N=>⟨F0,H0,F1,ρ,ds,G.go z,h2,fun xs F2 H2 j I=>?_⟩⟩
 exact q _ F2 H2 (z.trans j) (.cons (N.mono j.ff) I)
@[irreducible] noncomputable def u8 (m:ML):ML:=fun ρ=>match m ρ with |some ds=>if ds.length<=sizeLine then some ds else none|none=>none
theorem zv1 {m:ML}{ρ:Ro}{gs:List D}(h:u8 m ρ=some gs):m ρ=some gs/\gs.length<=sizeLine:=by
 unfold u8 at h
 cases h1:m ρ with
 |none=>rw[h1]at h;cases h
 |some ds=>
  rw[h1]at h
  have h:(if ds.length<=sizeLine then some ds else none)=some gs:=h
  split at h
  .rename_i hz;cases h;exact⟨rfl,hz⟩
  .cases h
theorem p9 {es:List Expr}{m:ML}(h:PAs X es m):PF X (.List es pos) (u8 m):=(xx9 h).imp fun σ H Q i=>by
 obtain⟨F0,H0,F,ρ,g,G,e,q⟩:=i
 obtain⟨h1,h2⟩:=zv1 e
 refine⟨F0,H0,F,ρ,g,G,h1,fun vs F1 H1 j z=>⟨by rw[z.length];exact h2,fun p hp=>?_⟩⟩
 exact q p vs F1 _ (j.trans (Ext.own j.fh hp)) (j.hh.free hp) (j.fh.free hp) x9 z
noncomputable def mtup (m:ML):ME:=fun ρ=>(u8 m ρ).map .tup
theorem V4 {es:List Expr}{m:ML}{k:Nat}(h:PAs X es m):PD X (.Tuple es k pos) (mtup m):=(yp6 h).imp fun σ H Q i=>by
 obtain⟨F0,H0,F,ρ,g,G,e,q⟩:=i
 unfold mtup at e
 cases h1:u8 m ρ with
 |none=>rw[h1]at e;cases e
 |some ds=>
  rw[h1]at e;cases e
  obtain⟨h1,h2⟩:=zv1 h1
  refine⟨F0,H0,F,ρ,ds,G,h1,fun vs F1 H1 j z=>⟨by rw[z.length];exact h2,fun p hp=>?_⟩⟩
  exact q _ _ _ (j.trans (Ext.laid j.fh hp)) (.tup (SqT.of x9) (z.mono ((Same.refl F1).put (j.fh.free hp))))
noncomputable def mlen (m:ML):ME:=fun ρ=>(m ρ).map fun ds=>.int ds.length
@[irreducible] noncomputable def mix (m:ML)(i:ME):ME:=fun ρ=>(m ρ).bind fun ds=>(i ρ).bind fun| .int k=>atI ds k|_=>none
theorem yy1 {K:W.Frag}{F:Hp}{vs:List V}{ds:List D}{k:Int}{d:D}(r:Reps K F vs ds)(h:atI ds k=some d):∃ v,atI vs k=some v/\Rep K F v d:=by
 unfold atI at h ⊢
 rw[r.length]
 cases q:ixN ds.length k with
 |none=>rw[q]at h;cases h
 |some j=>
  rw[q]at h
  exact r.get h
theorem k7 {G:ML}(ha:PB X a G)(S:PD X b mb)(hs:zq8 b:=by exact fun _ _=>rfl):PD X (.Subscript a b pos) (mix G mb):=(xr1 xp6 ha S hs).imp fun σ H Q j=>by
 obtain⟨F0,H0,F,ρ,g,N,e,q⟩:=j
 unfold mix at e
 cases h1:G ρ with
 |none=>rw[h1]at e;cases e
 |some ds=>
  cases h2:mb ρ with
  |none=>rw[h1,h2]at e;cases e
  |some i=>
   rw[h1,h2]at e
   refine⟨F0,H0,F,ρ,ds,N,h1,fun p xs F1 H1 I s1 R=>⟨F0,H0,F1,ρ,i,N.go I,h2,fun y F2 H2 z O=>?_⟩⟩
   cases O <;> first| (cases e;done)|skip
   rename_i k
   obtain⟨v,Y,U⟩:=yy1 (R.mono z.ff) (show atI ds k=some g from e)
   exact⟨p,xs,k,v,rfl,rfl,z.hh.seq s1,Y,q v F2 H2 (I.trans z) U⟩
theorem xz4 {K:W.Frag}{F:Hp}{vs:List V}{ds:List D}(r:Reps K F vs ds)(lo hi:Option Int):Reps K F (cutV vs lo hi) ((ds.drop (HT.sIx ds.length 0 lo)).take (HT.sIx ds.length ds.length hi-HT.sIx ds.length 0 lo)):=by
 unfold cutV
 rw[r.length]
 exact(r.drop _).take _
noncomputable def cutL (ds:List D)(lo hi:Option Int):List D:=(ds.drop (HT.sIx ds.length 0 lo)).take (HT.sIx ds.length ds.length hi-HT.sIx ds.length 0 lo)
noncomputable abbrev MO:=Ro->Option (Option Int)
noncomputable def zr1:MO:=fun _=>some none
noncomputable def P8 (m:ME):MO:=fun ρ=>(m ρ).bind fun| .int i=>some (some i)|_=>none
noncomputable def TOs (K:W.Frag)(m:MO):TO:=fun σ H Q=>∃ F0 H0 F ρ i,Rl K F0 H0 F H σ ρ/\m ρ=some i/\∀ F' H',Ext F H F' H'->Q i H'
def POs (X:Cx)(e:Option Expr)(m:MO):Prop:=PO X e (TOs X.K m)
theorem PO.imp {e:Option Expr}{t t':TO}(h:PO X e t)(i:∀ σ H Q,t' σ H Q->t σ H Q):PO X e t':=fun pins s σ H Q I q=>h pins s σ H Q I (i σ H Q q)
theorem zs5:POs X none zr1:=PO.imp xs6 fun σ H Q j=>by obtain⟨F0,H0,F,ρ,i,z,e,q⟩:=j;cases e;exact q F H (.refl z.fh)
theorem M8 (h:PD X a ma):POs X (some a) (P8 ma):=PO.imp (xs5 h) fun σ H Q j=>by
 obtain⟨F0,H0,F,ρ,i,G,e,q⟩:=j
 unfold P8 at e
 cases h1:ma ρ with
 |none=>rw[h1]at e;cases e
 |some d=>
  rw[h1]at e
  refine⟨F0,H0,F,ρ,d,G,h1,fun v F1 H1 z I=>?_⟩
  cases I <;> first| (cases e;done)|skip
  cases e
  exact⟨_,rfl,q F1 H1 z⟩
@[irreducible] noncomputable def mcut (m:ML)(lo hi:MO):ML:=fun ρ=>(m ρ).bind fun ds=>(lo ρ).bind fun l=>(hi ρ).bind fun h=>some (cutL ds l h)
theorem xj6 {N:ML}{lo hi:Option Expr}{l h:MO}(ha:PB X a N)(hl:POs X lo l)(hh:POs X hi h)(Y:PE X e (tSl (rSlL X.K) (TB X.K N) (TOs X.K l) (TOs X.K h))):PF X e (mcut N l h):=Y.imp fun σ H Q G=>by
 obtain⟨F0,H0,F,ρ,g,R,e,q⟩:=G
 unfold mcut at e
 cases h1:N ρ with
 |none=>rw[h1]at e;cases e
 |some ds=>
  cases h2:l ρ with
  |none=>rw[h1,h2]at e;cases e
  |some i=>
   cases h3:h ρ with
   |none=>rw[h1,h2,h3]at e;cases e
   |some j=>
    rw[h1,h2,h3]at e;cases e
    refine⟨F0,H0,F,ρ,ds,R,h1,fun p xs F1 H1 O s1 U=>⟨F0,H0,F1,ρ,i,R.go O,h2,fun F2 H2 I=>⟨F0,H0,F2,ρ,j,(R.go O).go I,h3,fun Z H3 z=>?_⟩⟩⟩
    refine⟨p,xs,rfl,z.hh.seq (I.hh.seq s1),fun w hw=>?_⟩
    have S:=(O.trans I).trans z
    exact q w _ Z _ (S.trans (Ext.own z.fh hw)) (S.hh.free hw) (z.fh.free hw) x9 (xz4 (U.mono (I.ff.trans z.ff)) i j)
end
end
section
theorem zm8 (l:Addr)(j:Array Value)(n:Nat)(b:Addr)(i:Array Value)(n2:Nat)(dd G:Option Addr)(sl z:Array (Option Value))(N:j.size+i.size<=sizeLine):
  Meets (Builtin.«list.__add__» ⟨[.ref l,.ref b],[]⟩) (fun _ R s=>s.heap.get? l=some { cls:=.type "list",dict:=dd,data:=.seq j n,slots:=sl }/\s.heap.get? b=some { cls:=.type "list",dict:=G,data:=.seq i n2,slots:=z }/\R (.ok (.ret (Value.ref s.heap.objs.size))) { s with heap:=s.heap.push { cls:=Value.type "list",data:=Data.seq (j++i) },toks:=s.toks }):=
 .of_wp fun prog w A R s h=>by obtain⟨hp,g,d,tk,os⟩:=s;obtain⟨I,O,h⟩:=h;have f1:=AutoSeq1.idx_int;have Z:=AutoSeq1.sub_tuple_tuple;have Y:=AutoSeq1.sub_list_list;have U:=AutoSeq1.sub_tuple_list;have S:=AutoSeq1.sub_list_tuple;wp_walk using AutoSeq1.wpAny_loadPart' I,AutoSeq1.wpAny_loadPart' O;exact⟨_,rfl,h⟩
section
variable {X:Cx}{a b c e:Expr}{ma mb:ME}{pos:Pos}
def xk9 (K:W.Frag):R2:=fun x y H Q=>∃ l b xs zs,x= .ref l/\y= .ref b/\SqL K H l xs/\SqL K H b zs/\xs.length+zs.length<=sizeLine/\∀ p,H p=none->Q (.ref p) (upd H p (.lst (xs++zs)))
theorem yn4:OpR X (binaryOp .Add) (xk9 X.K):=by
 intro pins s σ H x y v u Q I rx U h
 obtain⟨l,b,xs,zs,rfl,rfl,Y,Z,hz,q⟩:=h
 cases rx
 cases U
 obtain⟨its,r,⟨⟨cl,dd,dt,sl⟩,n,e,S,hd,hs⟩,z⟩:=I.list Y
 obtain⟨i,R,⟨⟨a3,a2,a1,O⟩,n2,e2,N,G,j⟩,z2⟩:=I.list Z
 simp only at S hd hs N G j
 subst S hd hs N G j
 have l1:=r.length
 have l2:=R.length
 refine concat_meets (T:="list") ⟨_,e,rfl⟩ ⟨_,e2,rfl⟩ PySem.noFill_list_add PySem.seq_list_add F.slot_list_add F.entry_list_add (F.args_list_add_2 _ _) (zm8 l its.toArray n b i.toArray n2 none none sl O (by rw[size_toArray,size_toArray];omega)) ⟨e,e2,?_⟩
 have ea:its.toArray++i.toArray=(its++i).toArray:=by simp
 rw[ea]
 exact⟨.ref _,_,I.lnew (t':=s.toks) (r.append R) (by rw[length_append];omega),rfl,q _ I.fresh⟩
@[irreducible] noncomputable def mcat (x y:ML):ML:=fun ρ=>(x ρ).bind fun ds=>(y ρ).bind fun es=>if ds.length+es.length<=sizeLine then some (ds++es)else none
theorem yk2 {x y:ML}{ρ:Ro}{gs:List D}(h:mcat x y ρ=some gs):∃ ds es,x ρ=some ds/\y ρ=some es/\ds.length+es.length<=sizeLine/\gs=ds++es:=by
 unfold mcat at h
 cases h1:x ρ with
 |none=>rw[h1]at h;cases h
 |some ds=>
  cases h2:y ρ with
  |none=>rw[h1,h2]at h;cases h
  |some es=>
   rw[h1,h2]at h
   have h:(if ds.length+es.length<=sizeLine then some (ds++es)else none)=some gs:=h
   split at h
   .rename_i hz;cases h;exact⟨ds,es,rfl,rfl,hz,rfl⟩
   .cases h
theorem zv8 {x y:ML}(ha:PB X a x)(S:PB X b y):PF X (.BinOp a .Add b pos) (mcat x y):=(xr0 yn4 ha S).imp fun σ H Q j=>by
 obtain⟨F0,H0,F,ρ,g,I,e,q⟩:=j
 obtain⟨ds,es,h1,h2,R,rfl⟩:=yk2 e
 refine⟨F0,H0,F,ρ,ds,I,h1,fun p xs F1 H1 G s1 O=>⟨F0,H0,F1,ρ,es,I.go G,h2,fun p2 ys F2 H2 i s2 N=>?_⟩⟩
 refine⟨p,p2,xs,ys,rfl,rfl,i.hh.seq s1,s2,by rw[O.length,N.length];exact R,fun w hw=>?_⟩
 have z:=G.trans i
 exact q w _ F2 _ (z.trans (Ext.own i.fh hw)) (z.hh.free hw) (i.fh.free hw) x9 ((O.mono i.ff).append N)
noncomputable def addD:D->D->Option D
 | .int i,.int j=>some (.int (i+j))
 | .lst ds,.lst es=>if ds.length+es.length<=sizeLine then some (.lst (ds++es))else none
 |_,_=>none
theorem xq4 {K:W.Frag}:OpD K (fun x y H Q=>(rI0 fun i j=>V.int (i+j)) x y H Q\/xk9 K x y H Q) addD:=by
 intro F H x y d e w Q s S R h q
 cases d with
 |int i=>
  cases e with
  |int j=>
   cases h
   exact .inl ⟨_,_,S.i',R.i',q _ F H (.refl s) (.int _)⟩
  |_=>cases h
 |lst G=>
  cases e with
  |lst z=>
   obtain⟨p1,Y,e1,s1,O⟩:=S.l'
   obtain⟨p2,U,e2,s2,N⟩:=R.l'
   have h:(if G.length+z.length<=sizeLine then some (D.lst (G++z))else none)=some w:=h
   by_cases I:G.length+z.length<=sizeLine
   .rw[if_pos I]at h
    cases h
    refine .inr ⟨_,_,_,_,e1,e2,s.seq s1,s.seq s2,by rw[O.length,N.length];exact I,fun p hp=>?_⟩
    exact q _ _ _ (Ext.laid s hp) (.lst (SqL.of x9) ((O.append N).mono ((Same.refl F).put (s.free hp))))
   .rw[if_neg I]at h;cases h
  |_=>cases h
 |_=>cases h
theorem e6 (ha:PD X a ma)(i:PD X b mb):PD X (.BinOp a .Add b pos) (m2 addD ma mb):=yw3 (OpR.or xi9 yn4) xq4 ha i
theorem O1 (ha:PD X a ma)(i:PD X b mb):PD X (.BinOp a .Sub b pos) (m2 subD ma mb):=yw3 xi4 xr8 ha i
theorem G5 (ha:PD X a ma)(i:PD X b mb):PD X (.BinOp a .Mult b pos) (m2 mulD ma mb):=yw3 xi7 xq1 ha i
theorem O6 (ha:PD X a ma)(i:PD X b mb):PD X (.BinOp a .FloorDiv b pos) (m2 zw3 ma mb):=yw3 xq6 yc2 ha i
theorem Z4 (ha:PD X a ma)(i:PD X b mb):PD X (.BinOp a .Mod b pos) (m2 modD ma mb):=yw3 xi8 xq2 ha i
theorem yo3 (ha:PD X a ma)(i:PD X b mb):PD X (.BinOp a .Pow b pos) (m2 powD ma mb):=yw3 xi6 xr9 ha i
@[irreducible] noncomputable def Y7 (f:List D->Option D)(m:ML):ME:=fun ρ=>(m ρ).bind f
def xy5 (K:W.Frag)(r:List V->Hp->VK->Prop)(f:List D->Option D):Prop:=∀(F H:Hp)(vs:List V)(ds:List D)(g:D)(Q:VK),Same F H->Reps K F vs ds->f ds=some g->(∀ v F' H',Ext F H F' H'->Rep K F' v g->Q v H')->r vs H Q
theorem yz1 {r:List V->Hp->VK->Prop}{f:List D->Option D}{m:ML}(I:xy5 X.K r f){σ:St}{H:Hp}{Q:VK}(h:TD X.K (Y7 f m) σ H Q):tCB r (TAs X.K m) σ H Q:=by
 obtain⟨F0,H0,F,ρ,g,z,e,q⟩:=h
 unfold Y7 at e
 cases h1:m ρ with
 |none=>rw[h1]at e;cases e
 |some ds=>
  rw[h1]at e
  exact⟨F0,H0,F,ρ,ds,z,h1,fun vs F1 H1 i G=>I F1 H1 vs ds g Q i.fh G e fun v F' H' j=>q v F' H' (i.trans j)⟩
theorem t3 {e:Expr}{p:Pos}{m:ML}(N:Gl X "len")(hm:X.mg "len"=none)(ha:PB X e m)(hs:starEach (e::[]) X.env=(false,eval e X.env)::starEach [] X.env:=by rfl)(O:starEach [e] X.env=(false,eval e X.env)::starEach [] X.env:=by rfl)(j:(backTo pos (starEach [] X.env)).any (·.1)=false:=by rfl):PD X (.Call (.Name "len" p) [e] [] pos) (mlen m):=
 (S1 zj5 N hm PySem.boot_len (j7 ha pa_nil hs) (by decide) (by decide) O j).imp fun σ H Q i=>by
  obtain⟨F0,H0,F,ρ,g,G,e,q⟩:=i
  unfold mlen at e
  cases h1:m ρ with
  |none=>rw[h1]at e;cases e
  |some ds=>
   rw[h1]at e;cases e
   refine⟨F0,H0,F,ρ,ds,G,h1,fun p xs F1 H1 z s1 I=>⟨p,xs,rfl,.inl s1,?_⟩⟩
   rw[I.length]
   exact q _ F1 H1 z (.int _)
noncomputable def absF:List D->Option D
 |[.int i]=>some (.int (if i<0 then -i else i))
 |_=>none
theorem yh2 {K:W.Frag}:xy5 K (fun xs H Q=>∃ i,xs=[.int i]/\Q (.int (if i<0 then -i else i)) H) absF:=by
 intro F H vs ds g Q s r h q
 cases r with
 |nil=>cases h
 |cons r j=>
  cases j with
  |cons _ _=>revert h;unfold absF;intro h;split at h <;> simp_all
  |nil=>
   cases r with
   |int i=>cases h;exact⟨_,rfl,q _ F H (.refl s) (.int _)⟩
   |_=>cases h
theorem xw6 {e:Expr}{p:Pos}{m:ML}(j:Gl X "abs")(hm:X.mg "abs"=none)(ha:PAs X [e] m)(z:starEach [e] X.env=(false,eval e X.env)::starEach [] X.env:=by rfl)(i:(backTo pos (starEach [] X.env)).any (·.1)=false:=by rfl):PD X (.Call (.Name "abs" p) [e] [] pos) (Y7 absF m):=
 (S1 xy0 j hm PyProof.Rows.boot_abs ha (by decide) (by decide) z i).imp fun _ _ _ h=>yz1 yh2 h
noncomputable def two2 (k:Int->Int->Int):List D->Option D
 |[.int i,.int j]=>some (.int (k i j))
 |_=>none
theorem yf7 {k:Int->Int->Int}{ds:List D}{g:D}(h:two2 k ds=some g):∃ i j,ds=[.int i,.int j]/\g= .int (k i j):=by
 cases ds with
 |nil=>cases h
 |cons d ds=>
  cases ds with
  |nil=>cases d <;> cases h
  |cons e ds=>
   cases ds with
   |cons f ds=>cases d <;> first| (cases h;done)| (cases e <;> cases h)
   |nil=>
    cases d with
    |int i=>
     cases e with
     |int j=>cases h;exact⟨i,j,rfl,rfl⟩
     |_=>cases h
    |_=>cases h
theorem zj3 {K:W.Frag}{k:Int->Int->Int}:xy5 K (fun xs H Q=>∃ i j,xs=[.int i,.int j]/\Q (.int (k i j)) H) (two2 k):=by
 intro F H vs ds g Q s r h q
 obtain⟨i,j,rfl,rfl⟩:=yf7 h
 cases r with
 |cons r z=>
  cases z with
  |cons G z=>
   cases z
   rw[r.i',G.i']
   exact⟨_,_,rfl,q _ F H (.refl s) (.int _)⟩
noncomputable def yb6:List D->Option D:=two2 fun i j=>if j>i then j else i
noncomputable def ym9:List D->Option D:=two2 fun i j=>if j<i then j else i
theorem xr6 {x y:Expr}{p:Pos}{m:ML}(N:X.calm=true)(G:Gl X "max")(hm:X.mg "max"=none)(ha:PAs X [x,y] m)(I:starEach [x,y] X.env=(false,eval x X.env)::starEach [y] X.env:=by rfl)(z:(backTo pos (starEach [y] X.env)).any (·.1)=false:=by rfl):PD X (.Call (.Name "max" p) [x,y] [] pos) (Y7 yb6 m):=
 (S1 (yh6 N) G hm PyProof.Rows.boot_max ha (by decide) (by decide) I z).imp fun _ _ _ h=>yz1 (zj3 (k:=fun i j=>if j>i then j else i)) h
theorem yo5 {x y:Expr}{p:Pos}{m:ML}(N:X.calm=true)(G:Gl X "min")(hm:X.mg "min"=none)(ha:PAs X [x,y] m)(I:starEach [x,y] X.env=(false,eval x X.env)::starEach [y] X.env:=by rfl)(z:(backTo pos (starEach [y] X.env)).any (·.1)=false:=by rfl):PD X (.Call (.Name "min" p) [x,y] [] pos) (Y7 ym9 m):=
 (S1 (yh4 N) G hm PyProof.Rows.boot_min ha (by decide) (by decide) I z).imp fun _ _ _ h=>yz1 (zj3 (k:=fun i j=>if j<i then j else i)) h
noncomputable def intF:List D->Option D
 |[.int i]=>some (.int i)
 |[.bl k]=>some (.int (if k then 1 else 0))
 |_=>none
theorem yh1 {K:W.Frag}:xy5 K (fun xs H Q=>(∃ i,xs=[.int i]/\Q (.int i) H)\/∃ k,xs=[.bl k]/\Q (.int (if k then 1 else 0)) H) intF:=by
 intro F H vs ds g Q s r h q
 cases r with
 |nil=>cases h
 |cons r j=>
  cases j with
  |cons _ _=>revert h;unfold intF;intro h;split at h <;> simp_all
  |nil=>
   cases r with
   |int i=>cases h;exact .inl ⟨_,rfl,q _ F H (.refl s) (.int _)⟩
   |bl i=>cases h;exact .inr ⟨_,rfl,q _ F H (.refl s) (.int _)⟩
   |_=>cases h
theorem yo6 {e:Expr}{p:Pos}{m:ML}(z:Gl X "int")(hm:X.mg "int"=none)(ha:PAs X [e] m)(j:bootBuiltins "int"=some (.type "int"))(G:starEach [e] X.env=(false,eval e X.env)::starEach [] X.env:=by rfl)(i:(backTo pos (starEach [] X.env)).any (·.1)=false:=by rfl):PD X (.Call (.Name "int" p) [e] [] pos) (Y7 intF m):=
 (A5 yh7 z hm j ha (by decide) (by decide) G i).imp fun _ _ _ h=>yz1 yh1 h
theorem O5 {e:Expr}{p:Pos}{m:ML}(O:Gl X "list")(hm:X.mg "list"=none)(ha:PB X e m)(N:bootBuiltins "list"=some (.type "list"))(hs:starEach (e::[]) X.env=(false,eval e X.env)::starEach [] X.env:=by rfl)(z:(backTo pos (starEach [] X.env)).any (·.1)=false:=by rfl):PF X (.Call (.Name "list" p) [e] [] pos) m:=
 (A5 zj4 O hm N (j7 ha pa_nil hs) (by decide) (by decide) hs z).imp fun σ H Q i=>by
  obtain⟨F0,H0,F,ρ,ds,G,e,q⟩:=i
  refine⟨F0,H0,F,ρ,ds,G,e,fun p xs F1 H1 j s1 I=>⟨p,xs,rfl,.inl s1,fun w hw=>?_⟩⟩
  exact q w _ F1 _ (j.trans (Ext.own j.fh hw)) (j.hh.free hw) (j.fh.free hw) x9 I
end
end
section
inductive Out where
 |nx (ρ:Ro)|bk (ρ:Ro)|ct (ρ:Ro)|rt (d:D)|rf (ds:List D)|rp (d:D) (ds:List D)|rg (d:D) (p:Addr) (r:List D)|rgf (ds:List D) (p:Addr) (r:List D)
noncomputable abbrev MS:=Ro->Option Out
noncomputable def okO (K:W.Frag)(F0 H0 Fb:Hp)(Dn:Ends):Out->Prop
 | .nx ρ=>∀ F H σ,Rl K F0 H0 F H σ ρ->Same Fb F->Dn.nx σ H
 | .bk ρ=>∀ F H σ,Rl K F0 H0 F H σ ρ->Same Fb F->Dn.bk σ H
 | .ct ρ=>∀ F H σ,Rl K F0 H0 F H σ ρ->Same Fb F->Dn.ct σ H
 | .rt d=>∀ v F H,Ext F0 H0 F H->Rep K F v d->Dn.rt v H
 | .rf ds=>∀ p xs F H,Ext F0 H0 F H->H0 p=none->F p=none->H p=some (.lst xs)->Reps K F xs ds->Dn.rt (.ref p) H
 | .rp d ds=>∀ t v p xs F H,Ext F0 H0 F H->H0 t=none->H0 p=none->t≠p->F t=none->F p=none->H t=some (.tup [v,.ref p])->H p=some (.lst xs)->Rep K F v d->Reps K F xs ds->Dn.rt (.ref t) H
 | .rg d p r=>∀ v F H xs,Ext F0 H0 F H->Rep K F v d->F p=none->H p=some (.lst xs)->Reps K F xs r->Dn.rt v H
 | .rgf ds p r=>∀ q ys F H xs,Ext F0 H0 F H->H0 q=none->F q=none->q≠p->H q=some (.lst ys)->Reps K F ys ds->F p=none->H p=some (.lst xs)->Reps K F xs r->Dn.rt (.ref q) H
def TSd (K:W.Frag)(m:MS):TS:=fun Dn σ H=>∃ F0 H0 F ρ o,Rl K F0 H0 F H σ ρ/\m ρ=some o/\okO K F0 H0 F Dn o
theorem okO.mono {K:W.Frag}{F0 H0 z j:Hp}{G:Ends}(s:Same z j):∀{o:Out},okO K F0 H0 z G o->okO K F0 H0 j G o
 | .nx _,h=>fun F H σ i q=>h F H σ i (s.trans q)
 | .bk _,h=>fun F H σ i q=>h F H σ i (s.trans q)
 | .ct _,h=>fun F H σ i q=>h F H σ i (s.trans q)
 | .rt _,h=>h
 | .rf _,h=>h
 | .rp _ _,h=>h
 | .rg _ _ _,h=>h
 | .rgf _ _ _,h=>h
def PSd (X:Cx)(st:Stmt)(m:MS):Prop:=PS X st (TSd X.K m)
def PSsd (X:Cx)(st:List Stmt)(m:MS):Prop:=PSs X st (TSd X.K m)
section
variable {X:Cx}{a b c e:Expr}{ma mb:ME}{pos:Pos}{st:Stmt}{rest:List Stmt}{m1 m2':MS}
theorem PS.imp {t t':TS}(h:PS X st t)(i:∀ D σ H,t' D σ H->t D σ H):PS X st t':=fun pins s σ H D I q=>h pins s σ H D I (i D σ H q)
theorem PSs.imp {sts:List Stmt}{t t':TS}(h:PSs X sts t)(i:∀ D σ H,t' D σ H->t D σ H):PSs X sts t':=fun pins s σ H D I q=>h pins s σ H D I (i D σ H q)
noncomputable def Z8:MS:=fun ρ=>some (.nx ρ)
noncomputable def mseq (x y:MS):MS:=fun ρ=>match x ρ with |some (.nx ρ')=>y ρ'|o=>o
theorem c7:PSsd X [] Z8:=pss_nil.imp fun D σ H i=>by obtain⟨F0,H0,F,ρ,o,j,e,ok⟩:=i;cases e;exact ok F H σ j (Same.refl _)
theorem y9 (h1:PSd X st m1)(h2:PSsd X rest m2'):PSsd X (st::rest) (mseq m1 m2'):=(M6 h1 h2).imp fun D σ H j=>by
 obtain⟨F0,H0,F,ρ,o,i,e,ok⟩:=j
 unfold mseq at e
 cases h:m1 ρ with
 |none=>rw[h]at e;cases e
 |some N=>
  rw[h]at e
  cases N with
  |nx ρ1=>exact⟨F0,H0,F,ρ,_,i,h,fun F' H' G z I=>⟨F0,H0,F',ρ1,o,z,e,ok.mono I⟩⟩
  |bk ρ1=>cases e;exact⟨F0,H0,F,ρ,_,i,h,ok⟩
  |ct ρ1=>cases e;exact⟨F0,H0,F,ρ,_,i,h,ok⟩
  |rt d=>cases e;exact⟨F0,H0,F,ρ,_,i,h,ok⟩
  |rf d=>cases e;exact⟨F0,H0,F,ρ,_,i,h,ok⟩
  |rp d ds=>cases e;exact⟨F0,H0,F,ρ,_,i,h,ok⟩
  |rg d p r=>cases e;exact⟨F0,H0,F,ρ,_,i,h,ok⟩
  |rgf d p r=>cases e;exact⟨F0,H0,F,ρ,_,i,h,ok⟩
theorem w4 (h1:PSd X st m1):PSsd X [st] m1:=zs2 h1
noncomputable def mif (c:MB)(x y:MS):MS:=fun ρ=>match c ρ with |some true=>x ρ|some false=>y ρ|none=>none
theorem V2 {ca:MB}{x y:List Stmt}{mx G:MS}(O:PC' X c ca)(N:PSsd X x mx)(I:PSsd X y G):PSd X (.If c x y pos) (mif ca mx G):=(yq7 O N I).imp fun D σ H j=>by
 obtain⟨F0,H0,F,ρ,o,z,e,ok⟩:=j
 unfold mif at e
 split at e
 .rename_i h1
  refine⟨F0,H0,F,ρ,_,z,h1,fun F1 H1 i=>iteT ⟨F0,H0,F1,ρ,o,z.go i,e,ok.mono i.ff⟩⟩
 .rename_i h1
  refine⟨F0,H0,F,ρ,_,z,h1,fun F1 H1 i=>iteF ⟨F0,H0,F1,ρ,o,z.go i,e,ok.mono i.ff⟩⟩
 .cases e
noncomputable def zu0:MS:=fun _=>none
theorem M7:PSd X st zu0:=ps_never.imp fun D σ H i=>by obtain⟨F0,H0,F,ρ,o,j,e,ok⟩:=i;cases e
noncomputable def mset (i:Nat)(x:ME):MS:=fun ρ=>(x ρ).map fun d=>.nx (ρ.set i (some (.sh d)))
noncomputable def X3 (i:Nat)(x:ML):MS:=fun ρ=>(x ρ).map fun ds=>.nx (ρ.set i (some (.own ds)))
theorem wy3 {t:TE}{i:Nat}(h:PS X st (tAsg t (zy2 i)))(N:∀ σ H Q,TD X.K ma σ H Q->t σ H Q):PSd X st (mset i ma):=h.imp fun D σ H j=>by
 obtain⟨F0,H0,F,ρ,o,G,e,ok⟩:=j
 unfold mset at e
 cases h1:ma ρ with
 |none=>rw[h1]at e;cases e
 |some d=>
  rw[h1]at e;cases e
  exact N _ _ _ ⟨F0,H0,F,ρ,d,G,h1,fun v F1 H1 z I=>ok F1 H1 _ ((G.go z).set I) z.ff⟩
theorem xd8 {t:TE}{i:Nat}{mf:ML}(h:PS X st (tAsg t (zy2 i)))(R:∀ σ H Q,TF X.K mf σ H Q->t σ H Q):PSd X st (X3 i mf):=h.imp fun D σ H I=>by
 obtain⟨F0,H0,F,ρ,o,G,e,ok⟩:=I
 unfold X3 at e
 cases h1:mf ρ with
 |none=>rw[h1]at e;cases e
 |some ds=>
  rw[h1]at e;cases e
  refine R _ _ _ ⟨F0,H0,F,ρ,ds,G,h1,fun p xs F1 H1 N hp U S O=>ok F1 H1 _ ?_ N.ff⟩
  refine(G.go N).setOwn U S O (G.ext.hh.free hp) (fun j es Y e1 e2=>?_) fun j q es e1 z=>?_
  .obtain⟨q,ys,a1,a2,a3,_⟩:=G.own j es e1
   rw[a1]at e2;cases e2
   rw[hp]at a3;cases a3
  .obtain⟨_,_,_,ys,a3,_⟩:=G.ob j q es e1
   rw[z,hp]at a3;cases a3
theorem p7 {i:Nat}{x:Str}{pos':Pos}(I:X.N.Nodup)(hi:X.N[i]? =some x)(j:Loc X.env.scope x)(G:PD X e ma)(hs:swapsWith e (some (.Name x pos')) pos.line X.env=pure false:=by rfl)(z:X.fn x=true\/X.env.scope.names.lookup x=some .local:=by first|exact .inl rfl|exact .inr rfl|assumption):
  PSd X (.Assign [.Name x pos'] e pos) (mset i ma):=wy3 (zv5 I hi j G hs z) fun _ _ _ h=>h
theorem V1 {i:Nat}{x:Str}{pos':Pos}{mf:ML}(I:X.N.Nodup)(hi:X.N[i]? =some x)(j:Loc X.env.scope x)(G:PF X e mf)(hs:swapsWith e (some (.Name x pos')) pos.line X.env=pure false:=by rfl)(z:X.fn x=true\/X.env.scope.names.lookup x=some .local:=by first|exact .inl rfl|exact .inr rfl|assumption):
  PSd X (.Assign [.Name x pos'] e pos) (X3 i mf):=xd8 (zv5 I hi j G hs z) fun _ _ _ h=>h
noncomputable def S3 (x:ME):MS:=fun ρ=>(x ρ).map fun _=>.nx ρ
theorem V3 (G:PD X e ma)(hs:swapsWith e none pos.line X.env=pure false:=by rfl):PSd X (.Expr e pos) (S3 ma):=(Y8 G hs).imp fun D σ H i=>by
 obtain⟨F0,H0,F,ρ,o,z,e,ok⟩:=i
 unfold S3 at e
 cases h1:ma ρ with
 |none=>rw[h1]at e;cases e
 |some d=>
  rw[h1]at e;cases e
  exact⟨F0,H0,F,ρ,d,z,h1,fun v F1 H1 j I=>ok F1 H1 _ (z.go j) j.ff⟩
noncomputable def mret (x:ME):MS:=fun ρ=>(x ρ).map .rt
noncomputable def zg2 (x:ML):MS:=fun ρ=>(x ρ).map .rf
noncomputable def zm0 (i:Nat):MS:=fun ρ=>match ρ[i]? with |some (some (.own ds))=>some (.rf ds)|some (some (.sh d))=>some (.rt d)|_=>none
theorem j5 (I:PD X e ma):PSd X (.Return (some e) pos) (mret ma):=(U9 I).imp fun D σ H i=>by
 obtain⟨F0,H0,F,ρ,o,j,e,ok⟩:=i
 unfold mret at e
 cases h1:ma ρ with
 |none=>rw[h1]at e;cases e
 |some d=>
  rw[h1]at e;cases e
  exact⟨F0,H0,F,ρ,d,j,h1,fun v F1 H1 z G=>ok v F1 H1 (j.ext.trans z) G⟩
theorem zc4 {mf:ML}(I:PF X e mf):PSd X (.Return (some e) pos) (zg2 mf):=(U9 I).imp fun D σ H i=>by
 obtain⟨F0,H0,F,ρ,o,j,e,ok⟩:=i
 unfold zg2 at e
 cases h1:mf ρ with
 |none=>rw[h1]at e;cases e
 |some ds=>
  rw[h1]at e;cases e
  exact⟨F0,H0,F,ρ,ds,j,h1,fun p xs F1 H1 z hp O N G=>ok p xs F1 H1 (j.ext.trans z) (j.ext.hh.free hp) O N G⟩
theorem zs3 (i:Nat){x:Str}{pos':Pos}(h:PE X (.Name x pos') (tVar i)):PSd X (.Return (some (.Name x pos')) pos) (zm0 i):=(U9 h).imp fun D σ H j=>by
 obtain⟨F0,H0,F,ρ,o,z,e,ok⟩:=j
 unfold zm0 at e
 split at e
 .rename_i ds h1
  cases e
  obtain⟨p,xs,e1,e2,e3,I,G⟩:=z.own i _ h1
  exact⟨_,e1,ok p xs F H z.ext G e2 e3 I⟩
 .rename_i d h1
  cases e
  obtain⟨v,e1,e2⟩:=z.sh i _ h1
  exact⟨_,e1,ok v F H z.ext e2⟩
 .cases e
noncomputable def mapp (i:Nat)(x:ME):MS:=fun ρ=>match ρ[i]? with |some (some (.own ds))=>(x ρ).bind fun d=>if ds.length<sizeLine then some (.nx (ρ.set i (some (.own (ds++[d])))))else none|_=>none
theorem U8 {i:Nat}{x:Str}{e:Expr}{G apos cpos:Pos}(Y:PE X (.Name x G) (tVar i))(Z:PD X e ma)
  (S:∀ t,PA X [e] t->PE X (.Call (.Attribute (.Name x G) "append" apos) [e] [] cpos) (tBM X.K "list" zt8 (tVar i) t)) (U:PAs X [e] (z7 ma anil)) (hs:swapsWith (.Call (.Attribute (.Name x G) "append" apos) [e] [] cpos) none pos.line X.env=pure false:=by rfl):
  PSd X (.Expr (.Call (.Attribute (.Name x G) "append" apos) [e] [] cpos) pos) (mapp i ma):=(Y8 (S _ U) hs).imp fun D σ H j=>by
 obtain⟨F0,H0,F,ρ,o,I,e,ok⟩:=j
 unfold mapp at e
 split at e
 .rename_i ds h1
  obtain⟨p,xs,e1,e2,e3,N,e5⟩:=I.own i _ h1
  cases h2:ma ρ with
  |none=>rw[h2]at e;cases e
  |some d=>
   rw[h2]at e
   have e:(if ds.length<sizeLine then some (Out.nx (ρ.set i (some (.own (ds++[d])))))else none)=some o:=e
   split at e
   .rename_i hz
    cases e
    refine⟨_,e1,.inl ⟨rfl,_,SqL.of e3⟩,F0,H0,F,ρ,[d],I,by unfold z7 anil;rw[h2];rfl,fun vs F1 H1 z R=>?_⟩
    cases R with
    |cons r O=>
     cases O
     have hp:H1 p=some (.lst xs):=z.hh _ _ e3
     exact⟨p,xs,_,rfl,rfl,hp,by rw[N.length];exact hz,ok F1 _ σ ((I.go z).write h1 e1 ((N.mono z.ff).append (.cons r .nil))) z.ff⟩
   .cases e
 .cases e
noncomputable def W4 (i:Nat)(ix v:ME):MS:=fun ρ=>(v ρ).bind fun d=>match ρ[i]? with
 |some (some (.own ds))=>(ix ρ).bind (fun x=>match x with | .int k=>(ixN ds.length k).map fun j=>.nx (ρ.set i (some (.own (ds.set j d))))|_=>none)
 |some (some (.ob p ds))=>(ix ρ).bind (fun x=>match x with | .int k=>(ixN ds.length k).map fun j=>.nx (ρ.set i (some (.ob p (ds.set j d))))|_=>none)
 |_=>none
theorem U7 {i:Nat}(hE:PS X st (tAsg (TD X.K mb) (gSub (tVar i) (TD X.K ma) xk8))):PSd X st (W4 i ma mb):=hE.imp fun D σ H R=>by
 obtain⟨F0,H0,F,ρ,o,O,e,ok⟩:=R
 unfold W4 at e
 cases h1:mb ρ with
 |none=>rw[h1]at e;cases e
 |some d=>
  rw[h1]at e
  refine⟨F0,H0,F,ρ,d,O,h1,fun y F1 H1 I Z=>?_⟩
  dsimp only[Option.bind]at e
  split at e
  .rename_i ds h2
   obtain⟨p,xs,e1,e2,e3,S,e5⟩:=(O.go I).own i _ h2
   cases h3:ma ρ with
   |none=>rw[h3]at e;cases e
   |some Y=>
    rw[h3]at e
    refine⟨_,e1,F0,H0,F1,ρ,Y,O.go I,h3,fun z F2 H2 G U=>?_⟩
    cases U <;> first| (cases e;done)|skip
    rename_i k
    have e:(ixN ds.length k).map (fun j=>Out.nx (ρ.set i (some (.own (ds.set j d)))))=some o:=e
    cases h4:ixN ds.length k with
    |none=>rw[h4]at e;cases e
    |some j=>
     rw[h4]at e;cases e
     have N:=(O.go I).go G
     refine⟨p,xs,k,j,rfl,rfl,G.hh _ _ e3,by rw[S.length];exact h4,ok F2 _ σ (N.write h2 e1 (Reps.set (Z.mono G.ff) j (S.mono G.ff))) (I.ff.trans G.ff)⟩
  .rename_i p ds h2
   obtain⟨e1,e2,e5,xs,e3,S⟩:=(O.go I).ob i p _ h2
   cases h3:ma ρ with
   |none=>rw[h3]at e;cases e
   |some Y=>
    rw[h3]at e
    refine⟨_,e1,F0,H0,F1,ρ,Y,O.go I,h3,fun z F2 H2 G U=>?_⟩
    cases U <;> first| (cases e;done)|skip
    rename_i k
    have e:(ixN ds.length k).map (fun j=>Out.nx (ρ.set i (some (.ob p (ds.set j d)))))=some o:=e
    cases h4:ixN ds.length k with
    |none=>rw[h4]at e;cases e
    |some j=>
     rw[h4]at e;cases e
     have N:=(O.go I).go G
     refine⟨p,xs,k,j,rfl,rfl,G.hh _ _ e3,by rw[S.length];exact h4,ok F2 _ σ (N.writeB h2 (Reps.set (Z.mono G.ff) j (S.mono G.ff))) (I.ff.trans G.ff)⟩
  .cases e
noncomputable def Z9 (i:Nat)(m:MS):MS:=fun ρ=>match ρ[i]? with |some (some (.own ds))=>m (ρ.set i (some (.sh (.lst ds))))|_=>m ρ
theorem f7 (i:Nat){sts:List Stmt}{m:MS}(h:PSsd X sts m):PSsd X sts (Z9 i m):=h.imp fun D σ H j=>by
 obtain⟨F0,H0,F,ρ,o,G,e,ok⟩:=j
 unfold Z9 at e
 split at e
 .rename_i ds h1
  obtain⟨F',z,I⟩:=G.freeze h1
  exact⟨F0,H0,F',_,o,z,e,ok.mono I⟩
 .exact⟨F0,H0,F,ρ,o,G,e,ok⟩
inductive Tg where
 |nm (i:Nat)|tp (is:List Nat)|nt (i:Nat) (is:List Nat)
noncomputable def zv3:List Nat->List D->Ro->Option Ro
 |[],[],ρ=>some ρ
 |i::is,d::ds,ρ=>zv3 is ds (ρ.set i (some (.sh d)))
 |_,_,_=>none
noncomputable def tgD:Tg->D->Ro->Option Ro
 | .nm i,d,ρ=>some (ρ.set i (some (.sh d)))
 | .tp is,.tup ds,ρ=>zv3 is ds ρ
 | .nt i is,.tup [d,.tup ds],ρ=>zv3 is ds (ρ.set i (some (.sh d)))
 |_,_,_=>none
def TGd (K:W.Frag)(g:Tg):TG:=fun v σ H Q=>∃ F0 H0 F ρ d ρ',Rl K F0 H0 F H σ ρ/\Rep K F v d/\tgD g d ρ=some ρ'/\∀ F' H' σ',Rl K F0 H0 F' H' σ' ρ'->Ext F H F' H'->Q σ' H'
def PGd (X:Cx)(tg:Expr)(g:Tg):Prop:=PG X tg (TGd X.K g)
theorem PG.imp {tg:Expr}{t t':TG}(h:PG X tg t)(i:∀ v σ H Q,t' v σ H Q->t v σ H Q):PG X tg t':=fun pins s σ H v u Q I r q=>h pins s σ H v u Q I r (i v σ H Q q)
theorem m8 {i:Nat}{x:Str}{pos:Pos}(h:PG X (.Name x pos) (zy2 i)):PGd X (.Name x pos) (.nm i):=PG.imp h fun v σ H Q j=>by
 obtain⟨F0,H0,F,ρ,d,ρ',z,r,e,q⟩:=j
 cases e;exact q F H _ (z.set r) (.refl z.fh)
noncomputable def gAll:List Nat->TGs
 |[]=>gNil
 |i::is=>xf8 (zy2 i) (gAll is)
theorem yj9 {K:W.Frag}{F0 H0 F H:Hp}{Q:St->Hp->Prop}:∀(is:List Nat)(vs:List V)(ds:List D)(σ:St)(ρ ρ':Ro),Rl K F0 H0 F H σ ρ->Reps K F vs ds->zv3 is ds ρ=some ρ'->(∀ j,Rl K F0 H0 F H j ρ'->Q j H)->gAll is vs σ H Q
 |[],_,[],σ,ρ,ρ',rl,r,e,q=>by cases r;cases e;exact⟨rfl,q σ rl⟩
 |[],_,_::_,_,_,_,_,_,e,_=>by cases e
 |_::_,_,[],_,_,_,_,_,e,_=>by cases e
 |i::is,_,d::ds,σ,ρ,ρ',rl,r,e,q=>by
  cases r with
  |cons r z=>exact⟨_,_,rfl,yj9 is _ ds _ _ ρ' (rl.set r) z e q⟩
theorem zv2:∀(is:List Nat)(ds:List D)(ρ ρ':Ro),zv3 is ds ρ=some ρ'->ds.length=is.length
 |[],[],_,_,_=>rfl
 |[],_::_,_,_,e=>by cases e
 |_::_,[],_,_,e=>by cases e
 |_::is,_::ds,ρ,ρ',e=>congrArg (·+1) (zv2 is ds _ ρ' e)
theorem f9 {es:List Expr}{k n:Nat}{is:List Nat}{pos:Pos}(h:PG X (.Tuple es k pos) (gTup X.K n (gAll is)))(hn:is.length=n:=by rfl):PGd X (.Tuple es k pos) (.tp is):=PG.imp h fun v σ H Q i=>by
 obtain⟨F0,H0,F,ρ,d,ρ',G,r,e,q⟩:=i
 cases r with
 |tup s t=>exact⟨_,_,rfl,G.fh.seqT s,by rw[t.length,zv2 _ _ _ _ e,hn],yj9 is _ _ σ ρ ρ' G t e fun j z=>q F H j z (.refl G.fh)⟩
 |_=>cases e
noncomputable def masg (g:Tg)(x:ME):MS:=fun ρ=>(x ρ).bind fun d=>(tgD g d ρ).map .nx
theorem W0 {g:Tg}(h:PS X st (tAsg (TD X.K ma) (TGd X.K g))):PSd X st (masg g ma):=h.imp fun D σ H i=>by
 obtain⟨F0,H0,F,ρ,o,I,e,ok⟩:=i
 unfold masg at e
 cases h1:ma ρ with
 |none=>rw[h1]at e;cases e
 |some d=>
  rw[h1]at e
  have e:(tgD g d ρ).map Out.nx=some o:=e
  cases h2:tgD g d ρ with
  |none=>rw[h2]at e;cases e
  |some ρ'=>
   rw[h2]at e;cases e
   exact⟨F0,H0,F,ρ,d,I,h1,fun v F1 H1 G O=>⟨F0,H0,F1,ρ,d,ρ',I.go G,O,h2,fun F' H' j z N=>ok F' H' j z (G.ff.trans N.ff)⟩⟩
structure ItD (K:W.Frag)(F:Hp)(J:It)(its:List D):Prop where
 go:∀(i:Nat) F1 H1,Same F F1->Same F1 H1->i<its.length->J.go i H1
 yld:∀(i:Nat) F1 H1 x H2 d,Same F F1->Same F1 H1->its[i]? =some d->J.yld i H1 x H2->∃ F2,Ext F1 H1 F2 H2/\Rep K F2 x d
 stop:∀ F1 H1,Same F F1->Same F1 H1->J.stop its.length H1
def TId (K:W.Frag)(mi:ML):TI:=fun σ H R=>∃ F0 H0 F ρ its,Rl K F0 H0 F H σ ρ/\mi ρ=some its/\∀ J F' H',Ext F H F' H'->ItD K F' J its->R J H'
def PId (X:Cx)(tg iter:Expr)(mi:ML):Prop:=PI X tg iter (TId X.K mi)
theorem PI.imp {tg it:Expr}{t t':TI}(h:PI X tg it t)(i:∀ σ H R,t' σ H R->t σ H R):PI X tg it t':=fun pins s σ H R I q=>h pins s σ H R I (i σ H R q)
theorem ya7 {K:W.Frag}{F:Hp}{p:Addr}{xs:List V}{ds:List D}(s:SqL K F p xs)(r:Reps K F xs ds):ItD K F (Itl K p) ds where
 go:=fun i F1 H1 a b hi=>by
  obtain⟨v,e,_⟩:=r.get (getElem?_eq_getElem hi)
  exact⟨xs,v,b.seq (a.seq s),e⟩
 yld:=fun i F1 H1 x H2 d a b e y=>by
  obtain⟨rfl,y⟩:=y
  obtain⟨v,e1,e2⟩:=r.get e
  have:=y xs (b.seq (a.seq s))
  rw[e1]at this;cases this
  exact⟨F1,.refl b,e2.mono a⟩
 stop:=fun F1 H1 a b=>⟨xs,b.seq (a.seq s),by rw[r.length];exact Nat.le_refl _⟩
theorem U2 {tg:Expr}(hd:PD X e ma):PId X tg e (p5 ma):=PI.imp (xs8 hd) fun σ H R i=>by
 obtain⟨F0,H0,F,ρ,its,z,e,q⟩:=i
 unfold p5 at e
 split at e
 .rename_i ds h1
  cases e
  refine⟨F0,H0,F,ρ,_,z,h1,fun v F1 H1 j G=>?_⟩
  cases G with
  |lst s t=>exact⟨_,rfl,⟨_,j.fh.seq s⟩,q _ F1 H1 j (ya7 s t)⟩
 .cases e
noncomputable def X1 (lo:Int)(n:Nat):List D:=(List.range n).map fun(i:Nat)=>D.int (lo+(i:Int))
theorem M4 (lo:Int)(n:Nat):(X1 lo n).length=n:=by unfold X1;simp
theorem zk0 {K:W.Frag}{F:Hp}{lo:Int}{n:Nat}:ItD K F (Itr lo n) (X1 lo n) where
 go:=fun i F1 H1 a b hi=>by rw[M4]at hi;exact hi
 yld:=fun i F1 H1 x H2 d a b e y=>by
  obtain⟨rfl,rfl⟩:=y
  unfold X1 at e
  rw[getElem?_map]at e
  have hi:i<n:=by
   rcases Nat.lt_or_ge i n with h|h
   .exact h
   .rw[getElem?_eq_none (by simpa using h)]at e;cases e
  rw[getElem?_range hi]at e
  cases e
  exact⟨F1,.refl b,.int _⟩
 stop:=fun F1 H1 a b=>by rw[M4];exact Nat.le_refl n
noncomputable def okR (j:Int):Bool:=decide (-(2^62)<=j)&&decide (j<2^62)
noncomputable def rng1:List D->Option (List D)
 |[.int j]=>if okR j=true then some (X1 0 j.toNat)else none
 |_=>none
noncomputable def rng2:List D->Option (List D)
 |[.int i,.int j]=>if (okR i&&okR j)=true then some (X1 i (j-i).toNat)else none
 |_=>none
@[irreducible] noncomputable def g9 (f:List D->Option (List D))(m:ML):ML:=fun ρ=>(m ρ).bind f
theorem T2 {f:List D->Option (List D)}{m:ML}{ρ:Ro}{gs:List D}(h:g9 f m ρ=some gs):∃ ds,m ρ=some ds/\f ds=some gs:=by
 unfold g9 at h
 cases h1:m ρ with
 |none=>rw[h1]at h;cases h
 |some ds=>rw[h1]at h;exact⟨ds,rfl,h⟩
theorem P3 {tg a:Expr}{m:ML}{p pos:Pos}(O:Gl X "range")(hm:X.mg "range"=none)(ha:PAs X [a] m)(hs:starEach [a] X.env=[(false,eval a X.env)]:=by rfl):PId X tg (.Call (.Name "range" p) [a] [] pos) (g9 rng1 m):=PI.imp (yp4 O hm ha hs) fun σ H R i=>by
 obtain⟨F0,H0,F,ρ,its,I,e,q⟩:=i
 obtain⟨ds,h1,h2⟩:=T2 e
 refine⟨F0,H0,F,ρ,ds,I,h1,fun vs F1 H1 z N=>?_⟩
 unfold rng1 at h2
 split at h2
 .rename_i j
  split at h2
  .rename_i hk
   cases h2
   unfold okR at hk
   simp only[Bool.and_eq_true,decide_eq_true_eq]at hk
   cases N with
   |cons r G=>
    cases G;cases r
    exact⟨j,rfl,hk.1,hk.2,q _ F1 H1 z zk0⟩
  .cases h2
 .cases h2
theorem X7 {tg a b:Expr}{m:ML}{p pos:Pos}(Y:Gl X "range")(hm:X.mg "range"=none)(ha:PAs X [a,b] m)(hs:starEach [a,b] X.env=[(false,eval a X.env),(false,eval b X.env)]:=by rfl)(I:starEach [b] X.env=[(false,eval b X.env)]:=by rfl):PId X tg (.Call (.Name "range" p) [a,b] [] pos) (g9 rng2 m):=PI.imp (yp3 Y hm ha hs I) fun σ H R z=>by
 obtain⟨F0,H0,F,ρ,its,O,e,q⟩:=z
 obtain⟨ds,h1,h2⟩:=T2 e
 refine⟨F0,H0,F,ρ,ds,O,h1,fun vs F1 H1 N U=>?_⟩
 unfold rng2 at h2
 split at h2
 .rename_i i j
  split at h2
  .rename_i hk
   cases h2
   unfold okR at hk
   simp only[Bool.and_eq_true,decide_eq_true_eq]at hk
   cases U with
   |cons r G=>
    cases G with
    |cons S G=>
     cases G;cases r;cases S
     exact⟨i,j,rfl,⟨hk.1.1,hk.1.2,hk.2.1,hk.2.2⟩,q _ F1 H1 N zk0⟩
  .cases h2
 .cases h2
noncomputable def zip2:List D->Option (List D)
 |[.lst ds,.lst es]=>some (List.zipWith (fun d e=>.tup [d,e]) ds es)
 |_=>none
theorem ya6 {K:W.Frag}{F:Hp}{p q:Addr}{xs ys:List V}{ds es:List D}(s:SqL K F p xs)(r:Reps K F xs ds)(s':SqL K F q ys)(G:Reps K F ys es):ItD K F (Itz2 K p q) (List.zipWith (fun d e=>D.tup [d,e]) ds es) where
 go:=fun i F1 H1 a b hi=>by
  rw[length_zipWith]at hi
  obtain⟨v,e,_⟩:=r.get (getElem?_eq_getElem (show i<ds.length by omega))
  obtain⟨w,S,_⟩:=G.get (getElem?_eq_getElem (show i<es.length by omega))
  exact⟨xs,ys,v,w,b.seq (a.seq s),b.seq (a.seq s'),e,S⟩
 yld:=fun i F1 H1 x H2 d a b e y=>by
  obtain⟨t,u,v,rfl,N,rfl,z,j⟩:=y
  have z:=z xs (b.seq (a.seq s))
  have j:=j ys (b.seq (a.seq s'))
  obtain⟨Y,e1,R⟩:=r.get' z
  obtain⟨U,e2,O⟩:=G.get' j
  rw[getElem?_zipWith,e1,e2]at e
  cases e
  refine⟨upd F1 t (.tup [u,v]),Ext.laid b N,.tup (SqT.of x9) ?_⟩
  have I:Same F (upd F1 t (.tup [u,v])):=a.trans ((Same.refl F1).put (b.free N))
  exact .cons (R.mono I) (.cons (O.mono I) .nil)
 stop:=fun F1 H1 a b=>⟨xs,ys,b.seq (a.seq s),b.seq (a.seq s'),by rw[r.length,G.length,length_zipWith];omega⟩
theorem yd5 {es:List Expr}{tk:Nat}{tp:Pos}{a b:Expr}{m:ML}{p pos:Pos}(U:Gl X "zip")(hm:X.mg "zip"=none)(ha:PAs X [a,b] m)(hs:starEach [a,b] X.env=[(false,eval a X.env),(false,eval b X.env)]:=by rfl)(G:starEach [b] X.env=[(false,eval b X.env)]:=by rfl):PId X (.Tuple es tk tp) (.Call (.Name "zip" p) [a,b] [] pos) (g9 zip2 m):=PI.imp (xs7 U hm ha hs G) fun σ H R i=>by
 obtain⟨F0,H0,F,ρ,its,N,e,q⟩:=i
 obtain⟨ds,h1,h2⟩:=T2 e
 refine⟨F0,H0,F,ρ,ds,N,h1,fun vs F1 H1 j S=>?_⟩
 unfold zip2 at h2
 split at h2
 .cases h2
  cases S with
  |cons r z=>
   cases z with
   |cons O z=>
    cases z
    cases r with
    |lst s t=>
     cases O with
     |lst s2 I=>exact⟨_,_,_,_,rfl,j.fh.seq s,j.fh.seq s2,q _ F1 H1 j (ya6 s t s2 I)⟩
 .cases h2
noncomputable def zw4:Nat->List D->List D
 |_,[]=>[]
 |i,d::ds=>.tup [.int i,d]::zw4 (i+1) ds
theorem Q6:∀ i ds,(zw4 i ds).length=ds.length
 |_,[]=>rfl
 |i,_::ds=>by simp[zw4,Q6 (i+1) ds]
theorem zk6:∀(k:Nat) ds (i:Nat) d,ds[i]? =some d->(zw4 k ds)[i]? =some (.tup [.int ((k+i:Nat):Int),d])
 |_,[],_,_,h=>by simp at h
 |k,_::ds,0,d,h=>by simp at h;subst h;rfl
 |k,_::ds,i+1,d,h=>by
  have:=zk6 (k+1) ds i d (by simpa using h)
  have e:k+1+i=k+(i+1):=by omega
  rw[e]at this
  simpa[zw4]using this
noncomputable def yi6:List D->Option (List D)
 |[.lst ds]=>some (zw4 0 ds)
 |_=>none
theorem ya8 {K:W.Frag}{F:Hp}{p:Addr}{xs:List V}{ds:List D}(s:SqL K F p xs)(r:Reps K F xs ds):ItD K F (Ite K p) (zw4 0 ds) where
 go:=fun i F1 H1 a b hi=>by
  rw[Q6]at hi
  obtain⟨v,e,_⟩:=r.get (getElem?_eq_getElem hi)
  exact⟨xs,v,b.seq (a.seq s),e⟩
 yld:=fun i F1 H1 x H2 d a b e y=>by
  obtain⟨t,u,rfl,z,rfl,j⟩:=y
  have j:=j xs (b.seq (a.seq s))
  obtain⟨N,e1,G⟩:=r.get' j
  rw[zk6 0 ds i N e1,Nat.zero_add]at e
  cases e
  refine⟨upd F1 t (.tup [.int i,u]),Ext.laid b z,.tup (SqT.of x9) ?_⟩
  have I:Same F (upd F1 t (.tup [.int i,u])):=a.trans ((Same.refl F1).put (b.free z))
  exact .cons (.int _) (.cons (G.mono I) .nil)
 stop:=fun F1 H1 a b=>⟨xs,b.seq (a.seq s),by rw[r.length,Q6];exact Nat.le_refl _⟩
theorem yd6 {es:List Expr}{tk:Nat}{tp:Pos}{a:Expr}{m:ML}{p pos:Pos}(N:Gl X "enumerate")(hm:X.mg "enumerate"=none)(ha:PAs X [a] m)(hs:starEach [a] X.env=[(false,eval a X.env)]:=by rfl):PId X (.Tuple es tk tp) (.Call (.Name "enumerate" p) [a] [] pos) (g9 yi6 m):=PI.imp (xs9 N hm ha hs) fun σ H R i=>by
 obtain⟨F0,H0,F,ρ,its,G,e,q⟩:=i
 obtain⟨ds,h1,h2⟩:=T2 e
 refine⟨F0,H0,F,ρ,ds,G,h1,fun vs F1 H1 j I=>?_⟩
 unfold yi6 at h2
 split at h2
 .cases h2
  cases I with
  |cons r z=>
   cases z
   cases r with
   |lst s t=>exact⟨_,_,rfl,j.fh.seq s,q _ F1 H1 j (ya8 s t)⟩
 .cases h2
end
end
section
noncomputable def forD (g:Tg)(body:MS):List D->MS
 |[],ρ=>some (.nx ρ)
 |d::ds,ρ=>match tgD g d ρ with
  |some ρ1=>match body ρ1 with
   |some (.nx ρ2)=>forD g body ds ρ2
   |some (.ct ρ2)=>forD g body ds ρ2
   |some (.bk ρ2)=>some (.nx ρ2)
   |o=>o
  |none=>none
noncomputable def mfor (mi:ML)(g:Tg)(body:MS):MS:=fun ρ=>(mi ρ).bind fun its=>forD g body its ρ
theorem K0 {j:Type}{xs:List j}{i:Nat}{d:j}(h:xs[i]? =some d):xs.drop i=d::xs.drop (i+1):=by
 obtain⟨z,e⟩:=List.getElem?_eq_some_iff.mp h
 rw[drop_eq_getElem_cons z,e]
section
variable {X:Cx}{a b c e:Expr}{ma mb:ME}{pos:Pos}{st:Stmt}{rest:List Stmt}
theorem R5 {tg iter:Expr}{body:List Stmt}{mi:ML}{g:Tg}{mb:MS}(hp:PassesOwn (model X.prog X.w) X.A X.env X.xe)(hc:X.calm=true)(hi:PId X tg iter mi)(hg:PGd X tg g)(hb:PSsd X body mb)
  (hs:∀ x,foldedSetIterable iter X.env x=pure x:=by intro _;rfl):PSd X (.For tg iter body [] pos) (mfor mi g mb):=(xx7 hp hc hi hg hb hs).imp fun Dn σ H Z=>by
 obtain⟨F0,H0,F,ρ,o,rl,e,ok⟩:=Z
 unfold mfor at e
 cases h1:mi ρ with
 |none=>rw[h1]at e;cases e
 |some its=>
  rw[h1]at e
  have e:forD g mb its ρ=some o:=e
  refine⟨F0,H0,F,ρ,its,rl,h1,fun J F1 H1 x1 I=>?_⟩
  refine⟨fun i m O H'=>∃ F' ρ',Rl X.K F0 H0 F' H' O ρ'/\Same F1 F'/\i<=its.length/\m=its.length-i/\forD g mb (its.drop i) ρ'=some o,⟨_,F1,ρ,rl.go x1,Same.refl _,Nat.zero_le _,rfl,e⟩,?_⟩
  rintro i m O H' ⟨F',ρ',G,U,a4,rfl,j⟩
  by_cases R:i<its.length
  .right
   have hd:=getElem?_eq_getElem R
   refine⟨I.go i F' H' U G.fh R,fun S H2=>∃ F2 ρ2,Rl X.K F0 H0 F2 H2 S ρ2/\Same F1 F2/\forD g mb (its.drop (i+1)) ρ2=some o,?_,fun x H2 y=>?_⟩
   .rintro S H2 ⟨F2,ρ2,rl2,sf2,e2⟩
    exact⟨its.length-(i+1),by omega,F2,ρ2,rl2,sf2,R,rfl,e2⟩
   .obtain⟨F2,x2,r2⟩:=I.yld i F' H' x H2 _ U G.fh hd y
    rw[K0 hd]at j
    unfold forD at j
    cases h2:tgD g its[i] ρ' with
    |none=>simp only[h2]at j;cases j
    |some ρ1=>
     simp only[h2]at j
     refine⟨F0,H0,F2,ρ',_,ρ1,G.go x2,r2,h2,fun F3 H3 a3 a2 x3=>?_⟩
     have s3:Same F1 F3:=(U.trans x2.ff).trans x3.ff
     cases h3:mb ρ1 with
     |none=>simp only[h3]at j;cases j
     |some o1=>
      simp only[h3]at j
      refine⟨F0,H0,F3,ρ1,o1,a2,h3,?_⟩
      cases o1 with
      |nx ρ2=>exact fun F4 H4 N z Y=>⟨F4,ρ2,z,s3.trans Y,j⟩
      |ct ρ2=>exact fun F4 H4 N z Y=>⟨F4,ρ2,z,s3.trans Y,j⟩
      |bk ρ2=>
       cases j
       exact fun F4 H4 N z Y=>ok F4 H4 N z ((x1.ff.trans s3).trans Y)
      |rt d=>cases j;exact ok
      |rf d=>cases j;exact ok
      |rp d ds=>cases j;exact ok
      |rg d p r=>cases j;exact ok
      |rgf d p r=>cases j;exact ok
  .left
   have a1:i=its.length:=by omega
   subst a1
   rw[drop_length]at j
   have j:some (Out.nx ρ')=some o:=j
   cases j
   exact⟨I.stop F' H' U G.fh,ok F' H' O G (x1.ff.trans U)⟩
end
end
section
noncomputable def zq3 (src:List (Option Nat))(ρ:Ro):Ro:=src.map fun o=>o.bind fun i=>match ρ[i]? with |some (some (.sh d))=>some (.sh d)|_=>none
noncomputable def T6 (g:Tg)(c:MB)(elt:ME):List D->Ro->List D->Option (List D)
 |[],_,acc=>some acc
 |d::ds,ρ,acc=>match tgD g d ρ with
  |some ρ1=>match c ρ1 with
   |some true=>match elt ρ1 with
    |some x=>if acc.length<sizeLine then T6 g c elt ds ρ1 (acc++[x])else none
    |none=>none
   |some false=>T6 g c elt ds ρ1 acc
   |none=>none
  |none=>none
@[irreducible] noncomputable def T4 (src:List (Option Nat))(mi:ML)(g:Tg)(c:MB)(elt:ME):ML:=fun ρ=>(mi ρ).bind fun its=>T6 g c elt its (zq3 src ρ) []
def xn4 (ρ:Ro):Prop:=∀(i:Nat) ds,ρ[i]? ≠some (some (.own ds))/\∀ p,ρ[i]? ≠some (some (.ob p ds))
theorem Rl.blk {K:W.Frag}{F0 H0 F H:Hp}{σ:St}{ρ:Ro}(r:Rl K F0 H0 F H σ ρ)(src:List (Option Nat)):Rl K F H F H (blk0 src σ) (zq3 src ρ)/\xn4 (zq3 src ρ):=by
 have I:∀(i:Nat) x,(zq3 src ρ)[i]? =some (some x)->∃ d,x=S.sh d:=fun i x e=>by
  unfold zq3 at e
  rw[getElem?_map]at e
  cases h:src[i]? with
  |none=>rw[h]at e;cases e
  |some o=>
   rw[h]at e
   cases o with
   |none=>cases e
   |some k=>
    simp only[Option.map_some,Option.bind_some]at e
    split at e
    .cases e;exact⟨_,rfl⟩
    .cases e
 have G:xn4 (zq3 src ρ):=fun i ds=>⟨fun e=>(by obtain⟨d,z⟩:=I i _ e;cases z),fun p e=>(by obtain⟨d,z⟩:=I i _ e;cases z)⟩
 refine⟨⟨.refl r.fh,by unfold blk0 zq3;simp,fun i d e=>?_,fun i ds e=>absurd e (G i ds).1,fun i j p ds es _ e=>absurd e (G i ds).1,fun i p ds e=>absurd e ((G i ds).2 p),fun i j p ds es e=>absurd e ((G i ds).2 p),fun i j p q ds es e=>absurd e ((G i ds).2 p)⟩,G⟩
 unfold zq3 at e
 unfold blk0
 rw[getElem?_map]at e ⊢
 cases h:src[i]? with
 |none=>rw[h]at e;cases e
 |some o=>
  rw[h]at e
  cases o with
  |none=>cases e
  |some k=>
   simp only[Option.map_some,Option.bind_some]at e ⊢
   split at e
   .rename_i d' h'
    cases e
    obtain⟨v,e1,e2⟩:=r.sh k _ h'
    exact⟨v,by rw[e1];rfl,e2⟩
   .cases e
theorem Rl.rebase {K:W.Frag}{F1 F H:Hp}{σ:St}{ρ:Ro}{p:Addr}{xs ys:List V}(r:Rl K F1 (upd F1 p (.lst xs)) F H σ ρ)(G:F p=none)(I:F1 p=none):Rl K F1 (upd F1 p (.lst ys)) F (upd H p (.lst ys)) σ ρ:=by
 have ne:∀ q,upd F1 p (.lst xs) q=none->q≠p:=fun q z w=>by rw[w,x9]at z;cases z
 refine⟨⟨r.ext.ff,fun b u e=>?_,r.fh.put G,fun b e n=>?_,r.ext.nf⟩,r.len,r.sh,fun i ds e=>?_,r.inj,fun i q ds e=>?_,r.obn,r.ob1⟩
 .by_cases hb:b=p
  .subst hb;rw[x9]at e ⊢;exact e
  .rw[x8 hb]at e ⊢
   exact r.ext.hh b u (by rw[x8 hb];exact e)
 .have hb:b≠p:=fun w=>by rw[w,G]at n;exact n rfl
  rw[x8 hb];exact e
 .obtain⟨q,zs,a,b,c,d,z⟩:=r.own i ds e
  have j:=ne q z
  rw[x8 j]at z
  exact⟨q,zs,a,b,by rw[x8 j];exact c,d,by rw[x8 j];exact z⟩
 .obtain⟨a,b,z,zs,c,d⟩:=r.ob i q ds e
  have j:=ne q z
  rw[x8 j]at z
  exact⟨a,b,by rw[x8 j];exact z,zs,by rw[x8 j];exact c,d⟩
theorem Ext.acc {F H F' H':Hp}{p:Addr}{o:HO}(x:Ext F H F' H')(hp:H p=none)(i:F' p=none):Ext F H F' (upd H' p o):=⟨x.ff,x.hh.put hp,x.fh.put i,x.new,x.nf⟩
theorem Ext.stay {F' H' z I:Hp}{p:Addr}{o:HO}(G:Ext F' H' z I)(j:F' p=none)(i:H' p=some o):z p=none:=by
 cases qq:z p with
 |none=>rfl
 |some u=>have:=G.new p j (by rw[qq];simp);rw[this]at i;cases i
theorem Rl.noB {K:W.Frag}{F H:Hp}{σ:St}{ρ:Ro}{p:Addr}(r:Rl K F H F H σ ρ)(j:xn4 ρ)(hp:H p=none):Rl K F (upd F p (.lst [])) F (upd H p (.lst [])) σ ρ:=
 ⟨⟨Same.refl F,r.fh.put2,r.fh.put (r.fh.free hp),fun b e n=>absurd e n,fun _ _ _ z=>z⟩,r.len,r.sh,fun i ds e=>absurd e (j i ds).1,r.inj,fun i p ds e=>absurd e ((j i ds).2 p),r.obn,r.ob1⟩
theorem yu5 {g:Tg}{c:MB}{i:ME}{d:D}{ds acc out:List D}{ρ:Ro}(h:T6 g c i (d::ds) ρ acc=some out):∃ ρ1,tgD g d ρ=some ρ1/\((c ρ1=some false/\T6 g c i ds ρ1 acc=some out)\/∃ x,c ρ1=some true/\i ρ1=some x/\acc.length<sizeLine/\T6 g c i ds ρ1 (acc++[x])=some out):=by
 rw[T6]at h
 cases h2:tgD g d ρ with
 |none=>rw[h2]at h;cases h
 |some ρ1=>
  rw[h2]at h
  simp only at h
  refine⟨ρ1,rfl,?_⟩
  cases h3:c ρ1 with
  |none=>rw[h3]at h;cases h
  |some k=>
   rw[h3]at h
   cases k with
   |false=>exact .inl ⟨rfl,h⟩
   |true=>
    simp only at h
    cases h4:i ρ1 with
    |none=>rw[h4]at h;cases h
    |some x=>
     rw[h4]at h
     simp only at h
     by_cases j:acc.length<sizeLine
     .rw[if_pos j]at h;exact .inr ⟨x,rfl,rfl,j,h⟩
     .rw[if_neg j]at h;cases h
theorem zk8 {K:PySem.W.Frag}{src:List (Option Nat)}{g:Tg}{c:MB}{a3:ME}{its out:List D}{F1 H1:Hp}{σ:St}{a4:Ro}{p:Addr}{J:It}{Q:VK}(f1:Same F1 H1)(hp:H1 p=none)(rb:Rl K F1 (upd F1 p (.lst [])) F1 (upd H1 p (.lst [])) (blk0 src σ) a4)(I:ItD K F1 J its)(e:T6 g c a3 its a4 []=some out)
  (q:∀ xs F' H',Ext F1 H1 F' H'->F' p=none->H' p=some (.lst xs)->Reps K F' xs out->Q (.ref p) H'):
  ∃ W:Nat->Nat->St->Hp->Prop,(∃ m,W 0 m (blk0 src σ) (upd H1 p (.lst [])))/\∀ i m O H',W i m O H'->
   (J.stop i H'/\Q (.ref p) H')\/(J.go i H'/\∃ N:St->Hp->Prop,(∀ G H2,N G H2->∃ m',m'<m/\W (i+1) m' G H2)/\∀ x H2,J.yld i H' x H2->TGd K g x O H2 fun z H3=>TC K c z H3 fun b H4=>
    if b=true then TD K a3 z H4 fun y H5=>∃ xs,H5 p=some (.lst xs)/\xs.length<sizeLine/\N z (upd H5 p (.lst (xs++[y])))else N z H4):=by
 have a5:F1 p=none:=f1.free hp
 refine⟨fun i m O H'=>∃ F' ρ' acc xs,Rl K F1 (upd F1 p (.lst xs)) F' H' O ρ'/\Ext F1 H1 F' H'/\H' p=some (.lst xs)/\F' p=none/\Reps K F' xs acc/\i<=its.length/\m=its.length-i/\T6 g c a3 (its.drop i) ρ' acc=some out,
  ⟨_,F1,a4,[],[],rb,(Ext.refl f1).acc hp a5,x9,a5,.nil,Nat.zero_le _,rfl,e⟩,?_⟩
 clear rb e
 rintro i m O H' ⟨F',ρ',acc,xs,a2,xe,Y,a6,ra,a9,rfl,e'⟩
 by_cases U:i<its.length
 .right
  have hd:=getElem?_eq_getElem U
  refine⟨I.go i F' H' xe.ff a2.fh U,fun G H2=>∃ F2 ρ2 j R,Rl K F1 (upd F1 p (.lst R)) F2 H2 G ρ2/\Ext F1 H1 F2 H2/\H2 p=some (.lst R)/\F2 p=none/\Reps K F2 R j/\T6 g c a3 (its.drop (i+1)) ρ2 j=some out,?_,fun x H2 y=>?_⟩
  .rintro G H2 ⟨F2,ρ2,j,R,b1,b2,b3,b4,b5,b6⟩
   exact⟨its.length-(i+1),Nat.sub_lt_sub_left U (Nat.lt_succ_self i),F2,ρ2,j,R,b1,b2,b3,b4,b5,U,rfl,b6⟩
  .obtain⟨F2,x2,r2⟩:=I.yld i F' H' x H2 _ xe.ff a2.fh hd y
   rw[K0 hd]at e'
   obtain⟨ρ1,h2,e3⟩:=yu5 e'
   clear e' I q y hd
   refine⟨F1,_,F2,ρ',_,ρ1,a2.go x2,r2,h2,fun F3 H3 z S x3=>?_⟩
   have a7:=x2.trans x3
   rcases e3 with⟨h3,e4⟩|⟨d,h3,h4,hz,e4⟩
   .refine⟨F1,_,F3,ρ1,false,S,h3,fun F4 H4 x4=>?_⟩
    have a1:=a7.trans x4
    exact iteF ⟨F4,ρ1,acc,xs,S.go x4,xe.trans a1,a1.hh _ _ Y,a1.stay a6 Y,ra.mono a1.ff,e4⟩
   .refine⟨F1,_,F3,ρ1,true,S,h3,fun F4 H4 x4=>iteT ⟨F1,_,F4,ρ1,d,S.go x4,h4,fun v F5 H5 x5 r5=>?_⟩⟩
    have Z:=(a7.trans x4).trans x5
    have pn:=Z.stay a6 Y
    exact⟨xs,Z.hh _ _ Y,by rw[ra.length];exact hz,F5,ρ1,acc++[d],xs++[v],((S.go x4).go x5).rebase pn a5,(xe.trans Z).acc hp pn,x9,pn,(ra.mono Z.ff).append (.cons r5 .nil),e4⟩
 .left
  have a8:i=its.length:=Nat.le_antisymm a9 (Nat.le_of_not_lt U)
  subst a8
  rw[drop_length]at e'
  have e':some acc=some out:=e'
  cases e'
  exact⟨I.stop F' H' xe.ff a2.fh,q xs F' H' xe a6 Y ra⟩
section
variable {X:Cx}{a b c e:Expr}{ma mb:ME}{pos:Pos}{st:Stmt}{rest:List Stmt}
def PTsd (X:Cx)(ifs:List Expr)(c:MB):Prop:=PTs X ifs (TC X.K c)
noncomputable def cyes:MB:=fun _=>some true
theorem V0:PTsd X [] cyes:=fun pins s σ H Q I i=>by
 obtain⟨F0,H0,F,ρ,b,j,e,q⟩:=i
 cases e
 exact xt8 pins s σ H Q I (q F H (.refl j.fh))
theorem P2 {ca:MB}(h:PC' X c ca):PTsd X [c] ca:=xt7 h
theorem yi9 {K:W.Frag}{src:List (Option Nat)}{mi:ML}{g:Tg}{c:MB}{i:ME}{σ:St}{H:Hp}{Q:VK}(h:TF K (T4 src mi g c i) σ H Q):ys2 src (TId K mi) (TGd K g) (TC K c) (TD K i) σ H Q:=by
 obtain⟨F0,H0,F,ρ,out,N,e,q⟩:=h
 unfold T4 at e
 cases h1:mi ρ with
 |none=>rw[h1]at e;cases e
 |some its=>
  rw[h1]at e
  refine⟨F0,H0,F,ρ,its,N,h1,fun J F1 H1 j I p hp=>?_⟩
  obtain⟨rb,R⟩:=(N.go j).blk src
  exact zk8 j.fh hp (rb.noB R hp) I e fun xs F' H' xe G z O=>q p xs F' H' (j.trans xe) (j.hh.free hp) G z O
theorem R6 {sc:Scope}{N:List Str}{src:List (Option Nat)}{tg j iter:Expr}{i:List Expr}{mi:ML}{g:Tg}{cc:MB}{z:ME}(B:Blk X sc N src)(R:X.calm=true)
  (hi:PId X tg iter mi) (I:∀ C fp s H,PGd (W7 X sc C N fp s H) tg g) (G:∀ C fp s H,PTsd (W7 X sc C N fp s H) i cc) (O:∀ C fp s H,PD (W7 X sc C N fp s H) j z)
  (hs:∀ x,foldedSetIterable iter X.env x=pure x:=by intro _;rfl):
  PF X (.ListComp j [⟨tg,iter,i,0⟩] sc pos) (T4 src mi g cc z):=(yp8 (g:=TGd X.K g) (tc:=TC X.K cc) (te:=TD X.K z) B R hi (fun C fp s H=>I C fp s H) (fun C fp s H=>G C fp s H) (fun C fp s H=>O C fp s H) hs).imp fun _ _ _ h=>yi9 h
theorem zc3 {i:Nat}{src:List (Option Nat)}{mi:ML}{g:Tg}{cc:MB}{j:ME}(h:PS X st (tAsg (ys2 src (TId X.K mi) (TGd X.K g) (TC X.K cc) (TD X.K j)) (zy2 i))):PSd X st (X3 i (T4 src mi g cc j)):=xd8 h fun _ _ _ q=>yi9 q
noncomputable def N8 (c:MB)(body:MS):Nat->MS
 |0,_=>none
 |n+1,ρ=>match c ρ with
  |some true=>match body ρ with
   |some (.nx ρ2)=>N8 c body n ρ2
   |some (.ct ρ2)=>N8 c body n ρ2
   |some (.bk ρ2)=>some (.nx ρ2)
   |o=>o
  |some false=>some (.nx ρ)
  |none=>none
theorem yq5 {body:List Stmt}{ca:MB}{mb:MS}(n:Nat)(hp:PassesOwn (model X.prog X.w) X.A X.env X.xe)(hc:PC' X c ca)(hb:PSsd X body mb):PSd X (.While c body [] pos) (N8 ca mb n):=(yd4 hp hc hb).imp fun Dn σ H R=>by
 obtain⟨F0,H0,F,ρ,o,rl,e,ok⟩:=R
 refine⟨fun m G H'=>∃ F' ρ',Rl X.K F0 H0 F' H' G ρ'/\Same F F'/\N8 ca mb m ρ'=some o,⟨n,F,ρ,rl,Same.refl _,e⟩,?_⟩
 rintro m G H' ⟨F',ρ',I,Z,i⟩
 cases m with
 |zero=>cases i
 |succ m=>
  unfold N8 at i
  cases h1:ca ρ' with
  |none=>simp only[h1]at i;cases i
  |some k=>
   refine⟨F0,H0,F',ρ',k,I,h1,fun F1 H1 U=>?_⟩
   cases k with
   |false=>
    simp only[h1]at i
    cases i
    exact iteF (ok F1 H1 G (I.go U) (Z.trans U.ff))
   |true=>
    simp only[h1]at i
    refine iteT ⟨fun N H2=>∃ F2 ρ2,Rl X.K F0 H0 F2 H2 N ρ2/\Same F F2/\N8 ca mb m ρ2=some o,fun N H2 ⟨F2,ρ2,a1,a2,a3⟩=>⟨m,Nat.lt_succ_self m,F2,ρ2,a1,a2,a3⟩,?_⟩
    cases h2:mb ρ' with
    |none=>simp only[h2]at i;cases i
    |some o1=>
     simp only[h2]at i
     refine⟨F0,H0,F1,ρ',o1,I.go U,h2,?_⟩
     have s1:=Z.trans U.ff
     cases o1 with
     |nx ρ2=>exact fun S Y z j O=>⟨S,ρ2,j,s1.trans O,i⟩
     |ct ρ2=>exact fun S Y z j O=>⟨S,ρ2,j,s1.trans O,i⟩
     |bk ρ2=>cases i;exact fun S Y z j O=>ok S Y z j (s1.trans O)
     |rt d=>cases i;exact ok
     |rf d=>cases i;exact ok
     |rp d ds=>cases i;exact ok
     |rg d p r=>cases i;exact ok
     |rgf d p r=>cases i;exact ok
inductive Rt where
 |sh (d:D)|fr (ds:List D)|pr (d:D) (ds:List D)
noncomputable abbrev MF:=List D->Option Rt
noncomputable def okT (K:W.Frag)(F H:Hp)(Q:VK):Rt->Prop
 | .sh d=>∀ v F' H',Ext F H F' H'->Rep K F' v d->Q v H'
 | .fr ds=>∀ p xs F' H',Ext F H F' H'->H p=none->F' p=none->H' p=some (.lst xs)->Reps K F' xs ds->Q (.ref p) H'
 | .pr d ds=>∀ t v p xs F' H',Ext F H F' H'->H t=none->H p=none->t≠p->F' t=none->F' p=none->H' t=some (.tup [v,.ref p])->H' p=some (.lst xs)->Rep K F' v d->Reps K F' xs ds->Q (.ref t) H'
def spR (K:W.Frag)(n:Nat)(m:MF):Sp:=fun vs H Q _=>vs.length=n/\∃ F ds r,Same F H/\Reps K F vs ds/\m ds=some r/\okT K F H Q r
noncomputable def u7 (n:Nat)(ds:List D):Ro:=ds.map (fun d=>some (.sh d))++List.replicate (n-ds.length) none
noncomputable def runB (n:Nat)(m:MS):MF:=fun ds=>match m (u7 n ds)with
 |some (.nx _)=>some (.sh .non)
 |some (.rt d)=>some (.sh d)
 |some (.rf es)=>some (.fr es)
 |some (.rp d es)=>some (.pr d es)
 |_=>none
theorem zt7 {K:W.Frag}{F H:Hp}{N:List Str}{vs:List V}{ds:List D}(s:Same F H)(r:Reps K F vs ds):Rl K F H F H (start N vs) (u7 N.length ds):=by
 have get:∀(i:Nat) x,(u7 N.length ds)[i]? =some (some x)->∃ d,x=S.sh d/\ds[i]? =some d:=fun i x e=>by
  unfold u7 at e
  by_cases hi:i<ds.length
  .rw[getElem?_append_left (by simpa using hi),getElem?_map]at e
   cases q:ds[i]? with
   |none=>rw[q]at e;cases e
   |some d=>rw[q]at e;cases e;exact⟨d,rfl,rfl⟩
  .rw[getElem?_append_right (by simpa using hi),getElem?_replicate]at e
   split at e <;> cases e
 refine⟨.refl s,?_,fun i d e=>?_,fun i ds e=>?_,fun i j p ds es _ e=>?_,fun i p ds e=>?_,fun i j p ds es e=>?_,fun i j p q ds es e=>?_⟩
 .unfold start u7;simp[r.length]
 .obtain⟨d',e1,e2⟩:=get i _ e
  cases e1
  obtain⟨v,e3,G⟩:=r.get e2
  have z:i<vs.length:=(List.getElem?_eq_some_iff.mp e3).1
  refine⟨v,?_,G⟩
  unfold start
  rw[getElem?_append_left (by simpa using z),getElem?_map,e3];rfl
 .obtain⟨d',e1,_⟩:=get i _ e
  cases e1
 .obtain⟨d',e1,_⟩:=get i _ e
  cases e1
 .obtain⟨d',e1,_⟩:=get i _ e
  cases e1
 .obtain⟨d',e1,_⟩:=get i _ e
  cases e1
 .obtain⟨d',e1,_⟩:=get i _ e
  cases e1
theorem Fun.okD {P:Program}{w:World}{K:W.Frag}{mg:Str->Option Value}{base:Heap}{x qual:Str}{st:Stmt}{f:Addr}{fd:FuncData}{N ps:List Str}{k:Nat}{m:MS}(S:Fun K x qual st f fd)(R:FnScope N ps (y7 st))
  (i:∀(cdv:Value)(A:Around)(outer:List Env)(s:Shared)(H:Hp)(E:XK),Room k (A.deeper (envOfC qual (y7 st) s.heap.objs.size f cdv))->PSsd (cxOf CX0 P w K mg base N qual (y7 st) f cdv A outer s H E).nox (u5 st) m):
  FnOk P w K mg base CX0 (k+1) f fd ps (spR K ps.length (runB N.length m)):=by
 refine S.ok R (fun vs H Q E h=>h.1) fun cdv A outer s H vs Q E O h=>?_
 obtain⟨U,F,ds,r,z,G,e,ok⟩:=h
 unfold runB at e
 cases h1:m (u7 N.length ds)with
 |none=>rw[h1]at e;cases e
 |some o=>
  rw[h1]at e
  refine⟨_,i cdv A outer s H E O,F,H,F,u7 N.length ds,o,zt7 z G,h1,?_⟩
  cases o with
  |nx ρ=>cases e;exact fun F' H' j I _=>ok .non F' H' I.ext .non
  |rt d=>cases e;exact ok
  |rf es=>cases e;exact ok
  |rp d es=>cases e;exact ok
  |rg d p r=>cases e
  |rgf d p r=>cases e
  |bk ρ=>cases e
  |ct ρ=>cases e
@[irreducible] noncomputable def m7 (f:MF)(m:ML):ME:=fun ρ=>(m ρ).bind fun ds=>match f ds with |some (.sh d)=>some d|some (.fr es)=>some (.lst es)|some (.pr d es)=>some (.tup [d,.lst es])|none=>none
variable {E:XK}{es:List Expr}{mf:MF}{m:ML}
theorem p6 {n:Nat}(h:∀ t,PA X es t->PE X e (ys3 (spR X.K n mf) [] E t))(hl:es.length=n)(ha:PAs X es m)(hm:∀ ρ ds,m ρ=some ds->ds.length=es.length):PD X e (m7 mf m):=(h _ ha).imp fun σ H Q G=>by
 obtain⟨F0,H0,F,ρ,d,rl,e,q⟩:=G
 unfold m7 at e
 cases h1:m ρ with
 |none=>rw[h1]at e;cases e
 |some ds=>
  rw[h1]at e
  refine⟨F0,H0,F,ρ,ds,rl,h1,fun vs F1 H1 j O=>?_⟩
  dsimp only[Option.bind]at e
  show spR X.K n mf (vs++[]) H1 Q E
  rw[append_nil]
  refine⟨by rw[O.length,hm ρ ds h1,hl],F1,ds,?_⟩
  split at e
  .rename_i d' h2
   cases e
   exact⟨_,j.fh,O,h2,fun v F2 H2 z R=>q v F2 H2 (j.trans z) R⟩
  .rename_i es' h2
   cases e
   exact⟨_,j.fh,O,h2,fun p xs F2 H2 z hp hF hH R=>q _ (upd F2 p (.lst xs)) H2 (j.trans (z.freeze hF hp hH)) (.lst (SqL.of x9) (R.mono ((Same.refl F2).put hF)))⟩
  .rename_i d' es' h2
   cases e
   refine⟨_,j.fh,O,h2,fun t v p xs F2 H2 z ht hp I Y N S U rv rs=>?_⟩
   have x3:=z.freeze N hp U
   have i:upd F2 p (.lst xs) t=none:=by rw[x8 I];exact Y
   have s2:Same F2 (upd F2 p (.lst xs)):=(Same.refl F2).put N
   have Z:Same (upd F2 p (.lst xs)) (upd (upd F2 p (.lst xs)) t (.tup [v,.ref p])):=(Same.refl _).put i
   exact q _ (upd (upd F2 p (.lst xs)) t (.tup [v,.ref p])) H2 (j.trans (x3.freeze i ht S)) (.tup (SqT.of x9) (.cons (rv.mono (s2.trans Z)) (.cons (.lst (SqL.of (by rw[x8 (Ne.symm I)];exact x9)) (rs.mono (s2.trans Z))) .nil)))
  .cases e
theorem w6 (ρ:Ro)(ds:List D)(h:anil ρ=some ds):ds.length=0:=by cases h;rfl
theorem z8 {x:ME}{r:ML}{n:Nat}(i:∀ ρ ds,r ρ=some ds->ds.length=n)(ρ:Ro)(ds:List D)(h:z7 x r ρ=some ds):ds.length=n+1:=by
 obtain⟨d,es,_,h2,rfl⟩:=zu9 h
 rw[length_cons,i ρ es h2]
end
end
section
section
variable {X:Cx}{a b c e:Expr}{ma mb:ME}{pos:Pos}
noncomputable def bl2 (g:Bool->Bool->Bool):D->D->Option D
 | .bl i,.bl j=>some (.bl (g i j))
 |_,_=>none
def xb5:List V->Hp->VK->Prop:=fun vs H Q=>∃ j:Int,vs=[.int j]/\∀ p,H p=none->Q (.ref p) (upd H p (.rng 0 j))
theorem yh3:D6 X (.type "range") xb5:=by
 intro pins s σ H xs us Q I r h
 obtain⟨j,rfl,q⟩:=h
 obtain⟨u,rfl,t,rfl⟩:=N9 r
 refine call_range_1 ⟨.ref s.heap.objs.size,_,I.laid (o:=.rng 0 j) (fun b o e=>Heap.get?_push_of_some _ e) (Nat.le_refl _) ⟨_,_,_,Heap.get?_push_size _ rfl⟩,rfl,q _ I.fresh⟩
theorem zo4 {K:W.Frag}{F:Hp}:∀ ns:List Int,Reps K F (ns.map V.int) (ns.map D.int)
 |[]=>.nil
 |n::ns=>.cons (.int n) (zo4 ns)
theorem xm9 {K:W.Frag}{m:MF}(h:∀ ns:List Int,ns.length<=63->m [.lst (ns.map .int)]=some (.sh (.bl true)))(H:Hp)(a:Addr)(ns:List Int)(i:ns.length<=63)(j:SqL K H a (ns.map V.int))(E:XK):
  spR K 1 m [.ref a] H (fun v _=>v= .bl true) E:=
 ⟨rfl,H,_,_,Same.refl H,.cons (.lst j (zo4 ns)) .nil,h ns i,fun v F' H' _ r=>by cases r;rfl⟩
end
end
section
noncomputable def xd7 (fsc:Scope)(fN:List Str)(sc:Scope)(N:List Str)(src:List (Option Nat)):Bool:=
 (sc.kind== .function)&&sc.names.all (fun y=>y.2 != .cell)&&sc.names.all (fun y=>y.2 != .local || sc.names.lookup y.1==some .local)
  &&sc.names.all (fun y=>y.2 != .free || (fsc.names.lookup y.1==some .cell || fsc.names.lookup y.1==some .free))&&(src.length==N.length)
  &&(List.range src.length).all fun j=>match src[j]? with
   |some (some i)=>match N[j]? with
    |some x=>fN[i]? ==some x&&sc.names.lookup x==some .free
    |none=>false
   |_=>true
theorem U1 {X:Cx}{sc:Scope}{N:List Str}{src:List (Option Nat)}(G:Scope)(O:List Str)(h1:X.env.scope=G)(h2:X.N=O)(h:xd7 G O sc N src=true):Blk X sc N src:=by
 unfold xd7 at h
 simp only[Bool.and_eq_true,all_eq_true,beq_iff_eq,Bool.or_eq_true,bne_iff_ne,ne_eq]at h
 obtain⟨⟨⟨⟨⟨a1,Z⟩,Y⟩,U⟩,S⟩,R⟩:=h
 refine⟨a1,Z,fun y I hk=>?_,fun y I hk=>?_,fun j i e=>?_,S⟩
 .rcases Y y I with z|z
  .exact absurd hk z
  .exact z
 .have k:∀ x,X.env.kindOf x=G.names.lookup x:=fun x=>by rw[<-h1];rfl
  rw[k]
  rcases U y I with z|z
  .exact absurd hk z
  .exact z
 .have hj:j<src.length:=(List.getElem?_eq_some_iff.mp e).1
  have:=R j (List.mem_range.mpr hj)
  rw[e]at this
  simp only at this
  cases hx:N[j]? with
  |none=>rw[hx]at this;cases this
  |some x=>
   rw[hx]at this
   simp only[Bool.and_eq_true,beq_iff_eq]at this
   exact⟨x,rfl,by rw[h2];exact this.1,this.2⟩
end
section
theorem yd7 {X:Cx}{a:Expr}{i:ML}{lo hi:Option Expr}{l h:MO}{p2 pos:Pos}(ha:PB X a i)(j:POs X lo l)(hh:POs X hi h):PF X (.Subscript a (.Slice lo hi none p2) pos) (mcut i l h):=xj6 ha j hh (yd9 xu9 ha j hh)
end
section
noncomputable def zipE (f:D->D->Option Bool):List D->List D->Option Bool
 |d::ds,e::es=>(f d e).bind fun a=>(zipE f ds es).bind fun b=>some (a&&b)
 |_,_=>some true
noncomputable def eqF:Nat->D->D->Option Bool
 |0,_,_=>none
 |n+1,.lst ds,.lst es=>if ds.length=es.length then zipE (eqF n) ds es else some false
 |n+1,.tup ds,.tup es=>(zipE (eqF n) ds es).map fun b=>b&&ds.length==es.length
 |_+1,d,e=>eqS d e
theorem zt0 {f:D->D->Option Bool}:∀{ds es:List D}{k:Bool},zipE f ds es=some k->∃ g:Nat->Bool,(∀ j d e,ds[j]? =some d->es[j]? =some e->f d e=some (g j))/\k=(List.range (min ds.length es.length)).all g
 |[],es,k,h=>by
  have h:some true=some k:=by simpa[zipE]using h
  cases h
  exact⟨fun _=>true,by simp,by simp⟩
 |_::_,[],k,h=>by
  have h:some true=some k:=by simpa[zipE]using h
  cases h
  exact⟨fun _=>true,by simp,by simp⟩
 |d::ds,e::es,k,h=>by
  unfold zipE at h
  cases h1:f d e with
  |none=>rw[h1]at h;cases h
  |some a=>
   rw[h1]at h
   cases h2:zipE f ds es with
   |none=>rw[h2]at h;cases h
   |some b=>
    rw[h2]at h
    have h:some (a&&b)=some k:=h
    cases h
    obtain⟨g,z,i⟩:=zt0 h2
    refine⟨fun j=>match j with |0=>a|j+1=>g j,?_,?_⟩
    .intro j d' e' hd he
     cases j with
     |zero=>simp at hd he;subst hd he;exact h1
     |succ j=>exact z j d' e' (by simpa using hd) (by simpa using he)
    .rw[i,length_cons,length_cons,Nat.add_min_add_right,range_succ_eq_map,all_cons,all_map]
     rfl
section
variable {X:Cx}{pins:List (Addr×Obj)}{σ:St}{H:Hp}{s:Shared}
theorem Inv.xat (I:Inv X pins σ H s){a C:Addr}(h:H a=some (.ext (XAt a C))):XAt a C s.heap:=(show ObjOk X.prog X.w H s.heap a (.ext (XAt a C))from I.hok a _ h).1
theorem B8 {f:D->D->Option Bool}(i:∀{v:V}{d e:D}{k:Bool},Rep X.K H v d->Rep X.K H v e->f d e=some k->k=true):∀{vs:List V}{ds es:List D}{k:Bool},Reps X.K H vs ds->Reps X.K H vs es->zipE f ds es=some k->k=true
 |_,_,_,_,.nil,.nil,h=>by simp[zipE]at h;exact h
 |_::_,d::ds,e::es,k,.cons r1 s1,.cons r2 s2,h=>by
  unfold zipE at h
  cases h1:f d e with
  |none=>rw[h1]at h;cases h
  |some a=>
   rw[h1]at h
   cases h2:zipE f ds es with
   |none=>rw[h2]at h;cases h
   |some b=>
    rw[h2]at h
    have h:some (a&&b)=some k:=h
    cases h
    rw[i r1 r2 h1,B8 i s1 s2 h2];rfl
theorem Rep.eqT (I:Inv X pins σ H s):∀(n:Nat){v:V}{d e:D}{k:Bool},Rep X.K H v d->Rep X.K H v e->eqF n d e=some k->k=true
 |0,_,_,_,_,_,_,h=>by simp[eqF]at h
 |n+1,v,d,e,k,r1,r2,h=>by
  cases r1 with
  |non=>cases r2;exact(Option.some.inj (show some true=some k from h)).symm
  |bl b=>cases r2;exact(Option.some.inj (show some (b==b)=some k from h)).symm.trans (beq_self_eq_true b)
  |int b=>cases r2;exact(Option.some.inj (show some (b==b)=some k from h)).symm.trans (beq_self_eq_true b)
  |str b=>cases r2;exact(Option.some.inj (show some (b==b)=some k from h)).symm.trans (beq_self_eq_true b)
  |lst G z=>
   cases r2 with
   |lst j i=>
    have e:=I.list_inj G j
    subst e
    simp only[eqF]at h
    split at h
    .exact B8 (fun a b c=>Rep.eqT I n a b c) z i h
    .rename_i hl;exact absurd (z.length.symm.trans i.length) hl
   |_=>cases h
  |tup G z=>
   cases r2 with
   |tup j i=>
    have e:=I.tuple_inj G j
    subst e
    simp only[eqF]at h
    cases hz:zipE (eqF n) _ _ with
    |none=>rw[hz]at h;cases h
    |some N=>
     rw[hz]at h
     have h:=Option.some.inj h
     rw[<-h,B8 (fun a b c=>Rep.eqT I n a b c) z i hz,z.length.symm.trans i.length]
     simp
   |_=>cases h
  |_=>cases h
open PySem.SeqAt in
theorem xd2 {K:W.Frag}{H:Hp}{A:Around}{s:Shared}{x y:V}{v u:Value}{d e:D}{k:Bool}(N:Rep K H x d)(I:Rep K H y e)(z:RelV x v)(j:RelV y u)(h:eqS d e=some k):EqAt A s v u k/\RcAt A s v u k/\RcNeAt A s v u (!k):=by
 obtain⟨R,G⟩:=ze0 d e k h
 rw[yu4 h N]at z
 rw[yu4 G I]at j
 clear N I G
 cases d with
 |non=>
  cases z
  cases e with
  |non=>cases j;cases h;exact⟨EqAt.same _,.none_none,.none_none⟩
  |bl b=>cases j;cases h;exact⟨.none_bool _,.none_bool _,.none_bool _⟩
  |int b=>obtain⟨t,rfl⟩:=j;cases h;exact⟨.none_int _ _,.none_int _ _,.none_int _ _⟩
  |str b=>obtain⟨t,rfl⟩:=j;cases h;exact⟨.none_str _ _,.none_str _ _,.none_str _ _⟩
  |_=>cases h
 |bl i=>
  cases z
  cases e with
  |non=>cases j;cases h;exact⟨.bool_none _,.bool_none _,.bool_none _⟩
  |bl b=>cases j;cases h;exact⟨.bool_bool _ _,.bool_bool _ _,.bool_bool _ _⟩
  |str b=>obtain⟨t,rfl⟩:=j;cases h;exact⟨.bool_str _ _ _,.bool_str _ _ _,.bool_str _ _ _⟩
  |_=>cases h
 |int i=>
  obtain⟨O,rfl⟩:=z
  cases e with
  |non=>cases j;cases h;exact⟨.int_none _ _,.int_none _ _,.int_none _ _⟩
  |int b=>obtain⟨t,rfl⟩:=j;cases h;exact⟨.int_int _ _ _ _,.int_int _ _ _ _,.int_int _ _ _ _⟩
  |str b=>obtain⟨t,rfl⟩:=j;cases h;exact⟨.int_str _ _ _ _,.int_str _ _ _ _,.int_str _ _ _ _⟩
  |_=>cases h
 |str i=>
  obtain⟨O,rfl⟩:=z
  cases e with
  |non=>cases j;cases h;exact⟨.str_none _ _,.str_none _ _,.str_none _ _⟩
  |bl b=>cases j;cases h;exact⟨.str_bool _ _ _,.str_bool _ _ _,.str_bool _ _ _⟩
  |int b=>obtain⟨t,rfl⟩:=j;cases h;exact⟨.str_int _ _ _ _,.str_int _ _ _ _,.str_int _ _ _ _⟩
  |str b=>obtain⟨t,rfl⟩:=j;cases h;exact⟨.str_str _ _ _ _,.str_str _ _ _ _,.str_str _ _ _ _⟩
  |_=>cases h
 |_=>cases h
theorem xo4 {n:Nat}{d e:D}{k:Bool}(h:eqF (n+1) d e=some k):eqS d e=some k\/(∃ ds es,d= .lst ds/\e= .lst es/\(if ds.length=es.length then zipE (eqF n) ds es else some false)=some k)\/∃ ds es i,d= .tup ds/\e= .tup es/\zipE (eqF n) ds es=some i/\(i&&ds.length==es.length)=k:=by
 cases d with
 |lst ds=>
  cases e with
  |lst es=>exact .inr (.inl ⟨ds,es,rfl,rfl,h⟩)
  |_=>exact .inl h
 |tup ds=>
  cases e with
  |tup es=>
   have h:((zipE (eqF n) ds es).map fun b=>b&&ds.length==es.length)=some k:=h
   cases hz:zipE (eqF n) ds es with
   |none=>rw[hz]at h;cases h
   |some i=>rw[hz]at h;exact .inr (.inr ⟨ds,es,i,rfl,rfl,hz,Option.some.inj h⟩)
  |_=>exact .inl h
 |_=>exact .inl h
theorem za2 {K:W.Frag}{H:Hp}{A:Around}{s:Shared}{n:Nat}{xs ys:List V}{ds es:List D}{its i:List Value}{g:Nat->Bool}(ih:∀{x y:V}{v u:Value}{d e:D}{k:Bool},Rep K H x d->Rep K H y e->RelV x v->RelV y u->eqF n d e=some k->PySem.SeqAt.EqAt A s v u k)(rs:Reps K H xs ds)(G:Reps K H ys es)(vr:Vals xs its)(z:Vals ys i)
  (g1:∀(j:Nat) d e,ds[j]? =some d->es[j]? =some e->eqF n d e=some (g j)) (j:Nat) (h1:j<its.toArray.size) (h2:j<i.toArray.size):PySem.SeqAt.EqAt A s its.toArray[j] i.toArray[j] (g j):=by
 have z1:its.length=ds.length:=by rw[<-vr.length,rs.length]
 have z2:i.length=es.length:=by rw[<-z.length,G.length]
 simp only[size_toArray]at h1 h2
 obtain⟨d',O⟩:∃ d',ds[j]? =some d':=⟨_,getElem?_eq_getElem (z1 ▸ h1)⟩
 obtain⟨e',N⟩:∃ e',es[j]? =some e':=⟨_,getElem?_eq_getElem (z2 ▸ h2)⟩
 obtain⟨v',Y,R⟩:=rs.get O
 obtain⟨u',Z,S⟩:=G.get N
 obtain⟨p,hp,rp⟩:=vr.get Y
 obtain⟨p2,I,U⟩:=z.get Z
 have e1:its.toArray[j]=p:=by
  rw[getElem?_eq_getElem h1]at hp
  simpa using hp
 have e2:i.toArray[j]=p2:=by
  rw[getElem?_eq_getElem h2]at I
  simpa using I
 rw[e1,e2]
 exact ih R S rp U (g1 j d' e' O N)
open PySem.SeqAt in
theorem yi1 (I:Inv X pins σ H s):∀(n:Nat){A:Around}{x y:V}{v u:Value}{d e:D}{k:Bool},A.units+n<cLine->Rep X.K H x d->Rep X.K H y e->RelV x v->RelV y u->eqF n d e=some k->EqAt A s v u k/\RcAt A s v u k/\RcNeAt A s v u (!k)
 |0,A,x,y,v,u,d,e,k,hu,r1,r2,q1,q2,h=>by simp[eqF]at h
 |n+1,A,x,y,v,u,d,e,k,hu,r1,r2,q1,q2,h=>by
  have G:A.units<cLine:=by omega
  have a1:A.in1.units+n<cLine:=by show A.units+1+n<cLine;omega
  rcases xo4 h with h1|⟨ds,es,rfl,rfl,h1⟩|⟨ds,es,kk,rfl,rfl,Z,hk⟩
  .exact xd2 r1 r2 q1 q2 h1
  .obtain⟨a,xs,rfl,sq,rs⟩:=r1.l'
   obtain⟨b,ys,rfl,O,z⟩:=r2.l'
   cases q1;cases q2
   obtain⟨its,vr,⟨o,m,ho,hc,_,hd⟩,_⟩:=I.list sq
   obtain⟨i,N,⟨o2,m2,R,U,_,S⟩,_⟩:=I.list O
   have L1:s.heap.IsList a its.toArray:=⟨o,ho,hc,m,hd⟩
   have L2:s.heap.IsList b i.toArray:=⟨o2,R,U,m2,S⟩
   clear ho hc hd R U S
   have z1:its.length=ds.length:=by rw[<-vr.length,rs.length]
   have z2:i.length=es.length:=by rw[<-N.length,z.length]
   have j:RcAt A s (.ref a) (.ref b) k/\RcNeAt A s (.ref a) (.ref b) (!k):=by
    by_cases hl:ds.length=es.length
    .rw[if_pos hl]at h1
     obtain⟨g,g1,g2⟩:=zt0 h1
     have he:=za2 (fun a b c d e=>(yi1 I n a1 a b c d e).1) rs z vr N g1
     have Z:its.toArray.size=i.toArray.size:=by simp only[size_toArray];rw[z1,z2,hl]
     have hk:k=(List.range its.toArray.size).all g:=by
      rw[g2];simp only[size_toArray];rw[z1,hl,Nat.min_self]
     rw[hk]
     exact⟨.lists L1 L2 Z G he,.lists L1 L2 Z G he⟩
    .rw[if_neg hl]at h1
     cases h1
     have Z:(its.toArray.size != i.toArray.size)=true:=by simp only[size_toArray];rw[z1,z2];exact bne_iff_ne.mpr hl
     exact⟨.lists_lengths L1 L2 Z G,.lists_lengths L1 L2 Z G⟩
   refine⟨?_,j⟩
   by_cases Y:a=b
   .subst Y
    rw[Rep.eqT I (n+1) (.lst sq rs) (.lst O z) h]
    exact EqAt.same _
   .exact .of_refs Y j.1
  .obtain⟨a,xs,rfl,sq,rs⟩:=r1.t'
   obtain⟨b,ys,rfl,O,z⟩:=r2.t'
   cases q1;cases q2
   obtain⟨its,vr,⟨o,ho,hc,m,hd⟩,_⟩:=I.tuple sq
   obtain⟨i,N,⟨o2,R,U,m2,S⟩,_⟩:=I.tuple O
   have L1:s.heap.IsTuple a its.toArray:=⟨o,ho,hc,m,hd⟩
   have L2:s.heap.IsTuple b i.toArray:=⟨o2,R,U,m2,S⟩
   clear ho hc hd R U S
   have z1:its.length=ds.length:=by rw[<-vr.length,rs.length]
   have z2:i.length=es.length:=by rw[<-N.length,z.length]
   have j:RcAt A s (.ref a) (.ref b) k/\RcNeAt A s (.ref a) (.ref b) (!k):=by
    obtain⟨g,g1,g2⟩:=zt0 Z
    have he:=za2 (fun a b c d e=>(yi1 I n a1 a b c d e).1) rs z vr N g1
    have hk:k=((List.range (min its.toArray.size i.toArray.size)).all g&&its.toArray.size==i.toArray.size):=by
     rw[<-hk,g2];simp only[size_toArray];rw[z1,z2]
    rw[hk]
    exact⟨.tuples L1 L2 G he,.tuples L1 L2 G he⟩
   refine⟨?_,j⟩
   by_cases Y:a=b
   .subst Y
    rw[Rep.eqT I (n+1) (.tup sq rs) (.tup O z) h]
    exact EqAt.same _
   .exact .of_refs Y j.1
end
end
section
section
variable {X:Cx}{a b c e:Expr}{ma mb:ME}{la lb:ML}{pos:Pos}
def rEqF (K:W.Frag)(neg:Bool):R2:=fun x y H Q=>∃ d e k,Rep K H x d/\Rep K H y e/\eqF 8 d e=some k/\Q (.bl (if neg then !k else k)) H
theorem yn3 (G:X.A.units+64<cLine):OpR X (compareOp .Eq) (rEqF X.K false):=by
 intro pins s σ H x y v u Q I rx i h
 obtain⟨d,e,k,z,j,h,q⟩:=h
 exact(yi1 I 8 (by omega) z j rx i h).2.1 X.prog X.w _ _ ⟨.bl k,H,I,rfl,q⟩
theorem G6 (G:X.A.units+64<cLine):OpR X (compareOp .NotEq) (rEqF X.K true):=by
 intro pins s σ H x y v u Q I rx i h
 obtain⟨d,e,k,z,j,h,q⟩:=h
 exact(yi1 I 8 (by omega) z j rx i h).2.2 X.prog X.w _ _ ⟨.bl (!k),H,I,rfl,q⟩
noncomputable def eqFD (neg:Bool)(d e:D):Option D:=(eqF 8 d e).map fun k=>.bl (if neg then !k else k)
theorem A9 {K:W.Frag}{i:Bool}:OpD K (rEqF K i) (eqFD i):=by
 intro F H x y d e w Q s z j h q
 unfold eqFD at h
 cases hk:eqF 8 d e with
 |none=>rw[hk]at h;cases h
 |some k=>
  rw[hk]at h;cases h
  exact⟨d,e,k,z.mono s,j.mono s,hk,q _ F H (.refl s) (.bl _)⟩
@[irreducible] noncomputable def meqB (neg:Bool)(x y:ML):ME:=fun ρ=>(x ρ).bind fun ds=>(y ρ).bind fun es=>eqFD neg (.lst ds) (.lst es)
theorem xd3 {i:Bool}{σ:St}{H:Hp}{Q:VK}(h:TD X.K (meqB i la lb) σ H Q):tOp (rEqF X.K i) (TB X.K la) (TB X.K lb) σ H Q:=by
 obtain⟨F0,H0,F,ρ,g,G,e,q⟩:=h
 unfold meqB at e
 cases h1:la ρ with
 |none=>rw[h1]at e;cases e
 |some ds=>
  cases h2:lb ρ with
  |none=>rw[h1,h2]at e;cases e
  |some es=>
   rw[h1,h2]at e
   have e:eqFD i (.lst ds) (.lst es)=some g:=e
   refine⟨F0,H0,F,ρ,ds,G,h1,fun p xs F1 H1 z s1 O=>⟨F0,H0,F1,ρ,es,G.go z,h2,fun p2 I F2 H2 j s2 N=>?_⟩⟩
   unfold eqFD at e
   cases hk:eqF 8 (.lst ds) (.lst es)with
   |none=>rw[hk]at e;cases e
   |some k=>
    rw[hk]at e;cases e
    exact⟨_,_,k,.lst (j.hh.seq s1) (O.mono (j.ff.trans j.fh)),.lst s2 (N.mono j.fh),hk,q _ F2 H2 (z.trans j) (.bl _)⟩
theorem yo7 {op:CmpOp}{i:Bool}(j:OpR X (compareOp op) (rEqF X.K i))(ha:PB X a la)(z:PB X b lb)(hm:behindInMarks op b=false):PD X (.Compare a [op] [b] pos) (meqB i la lb):=(yp9 j ha z hm).imp fun _ _ _ h=>xd3 h
theorem yo9 {op:CmpOp}{i:Bool}(G:OpR X (compareOp op) (rEqF X.K i))(ha:PB X a la)(I:PB X b lb)(hm:behindInMarks op b=false):PC' X (.Compare a [op] [b] pos) (u4 (meqB i la lb)):=(yq3 G ha I hm).imp fun σ H Q j=>by
 obtain⟨F0,H0,F,ρ,g,z,e,q⟩:=j
 unfold u4 at e
 split at e
 .rename_i k hk
  cases e
  refine xd3 ⟨F0,H0,F,ρ,.bl g,z,hk,fun v F' H' x r=>?_⟩
  cases r
  exact⟨_,rfl,q F' H' x⟩
 .cases e
end
end
section
section
variable {X:Cx}{a b c e k:Expr}{te:TE}{ma mb:ME}{la lb:ML}{pos p2:Pos}{st:Stmt}
end
end
section
section
variable {X:Cx}{a b c e:Expr}{ma mb:ME}{la lb:ML}{pos:Pos}{st:Stmt}
end
end
section
section
variable {K:W.Frag}{F0 H0 F H:Hp}{σ:St}{ρ:Ro}
end
noncomputable def isSc:D->Bool
 | .lst _=>false
 | .tup _=>false
 | .exc _=>false
 | .ptr _=>false
 | .obj _ _ _=>false
 |_=>true
theorem ys9 {K:W.Frag}{F G:Hp}{v:V}{d:D}(h:isSc d=true)(r:Rep K F v d):Rep K G v d:=by
 cases r with
 |non=>exact .non
 |bl b=>exact .bl b
 |int i=>exact .int i
 |str x=>exact .str x
 |lst _ _=>cases h
 |tup _ _=>cases h
 |exc _ _=>cases h
 |ptr _=>cases h
 |obj _ _ _ _ _=>cases h
end
section
section
variable {X:Cx}{a b c e:Expr}{ma mb mz:ME}{la lb:ML}{pos:Pos}
noncomputable def ixTD:D->D->Option D
 | .tup ds,.int k=>atI ds k
 |_,_=>none
theorem xq3 {K:W.Frag}:OpD K (rIxT K) ixTD:=by
 intro F H x y d e w Q s G z h q
 cases d with
 |tup ds=>
  cases e with
  |int k=>
   obtain⟨a,xs,e1,i,j⟩:=G.t'
   obtain⟨v,N,I⟩:=yy1 j (show atI _ k=some w from h)
   exact⟨_,_,k,v,e1,z.i',s.seqT i,N,q v F H (.refl s) I⟩
  |_=>cases h
 |_=>cases h
theorem zn5 (ha:PD X a ma)(i:PD X b mb)(hs:zq8 b:=by exact fun _ _=>rfl):PD X (.Subscript a b pos) (m2 ixTD ma mb):=(xr1 xf6 ha i hs).imp fun σ H Q h=>op_d xq3 h
noncomputable def isND (neg:Bool):D->D->Option D
 | .non,.non=>some (.bl (!neg))
 |_,.non=>some (.bl neg)
 |_,_=>none
theorem zh8 {K:W.Frag}:OpD K (fun x y H Q=>y= .non/\Q (.bl (decide (x= .non))) H) (isND false):=by
 intro F H x y d e w Q s j i h q
 cases i with
 |non=>cases j <;> cases h <;> exact⟨rfl,q _ F H (.refl s) (.bl _)⟩
 |_=>cases d <;> cases h
noncomputable def maxI:List Int->Int
 |[]=>0
 |a::r=>r.foldl (fun x y=>if y>x then y else x) a
theorem zf7:∀(r:List Int)(a:Int),(r.foldl (fun x y=>if y>x then y else x) a∈a::r)/\∀ y∈a::r,y<=r.foldl (fun x y=>if y>x then y else x) a
 |[],a=>⟨by simp,fun y i=>by simp at i;subst i;exact Int.le_refl _⟩
 |b::r,a=>by
  obtain⟨h1,h2⟩:=zf7 r (if b>a then b else a)
  rw[foldl_cons]
  refine⟨?_,fun y i=>?_⟩
  .rcases List.mem_cons.mp h1 with h|h
   .rw[h];split <;> simp
   .exact mem_cons_of_mem _ (mem_cons_of_mem _ h)
  .have h0:=h2 _ mem_cons_self
   rcases List.mem_cons.mp i with h|h
   .subst h;refine Int.le_trans ?_ h0;split <;> omega
   .rcases List.mem_cons.mp h with h|h
    .subst h;refine Int.le_trans ?_ h0;split <;> omega
    .exact h2 y (mem_cons_of_mem _ h)
theorem zb8 {ns:List Int}(h:ns≠[]):maxI ns∈ns:=by
 cases ns with
 |nil=>exact absurd rfl h
 |cons a r=>exact(zf7 r a).1
theorem yk4 {ns:List Int}{y:Int}(h:y∈ns):y<=maxI ns:=by
 cases ns with
 |nil=>cases h
 |cons a r=>exact(zf7 r a).2 y h
theorem T8:∀{ns:List Int}{its:List Value},Vals (ns.map V.int) its->∃ xs:List (Int×Tok),its.toArray=intItems xs.toArray/\xs.map (·.1)=ns
 |[],_,.nil=>⟨[],by unfold intItems;simp,rfl⟩
 |n::ns,_,.cons r t=>by
  obtain⟨k,rfl⟩:=r
  obtain⟨xs,h1,h2⟩:=T8 t
  refine⟨(n,k)::xs,?_,by rw[map_cons,h2]⟩
  have:=congrArg Array.toList h1
  unfold intItems at this ⊢
  simp at this ⊢
  exact this
theorem zn8 (xs:List (Int×Tok)){i:Nat}(h:i<xs.length):numAt xs.toArray i=(xs[i]).1:=by
 unfold numAt
 simp[h]
def xb6 (K:W.Frag):List V->Hp->VK->Prop:=fun vs H Q=>∃ p ns,vs=[.ref p]/\SqL K H p (ns.map V.int)/\ns≠[]/\Q (.int (maxI ns)) H
theorem yh5 (hc:X.calm=true):D6 X (.builtin "max") (xb6 X.K):=by
 intro pins s σ H xs us Q I r h
 obtain⟨p,ns,rfl,S,N,q⟩:=h
 obtain⟨u,rfl,rx⟩:=N9 r
 cases rx
 obtain⟨its,R,pl,hz⟩:=I.list S
 obtain⟨z,h1,h2⟩:=T8 R
 have hp:=pl.isList
 rw[h1]at hp
 have O:0<z.length:=by
  cases z with
  |nil=>simp at h2;exact absurd h2.symm (by simpa using N)
  |cons _ _=>simp
 refine max_intList (I.ok.hd hc) hp (by simpa using O) fun v h' tk e k=>?_
 obtain⟨b1,b2⟩:=argBest_gt (numAt z.toArray) (z.toArray.size-1)
 rw[size_toArray]at b1 b2 e
 generalize hi:argBest (fun i j=>decide (numAt z.toArray i>numAt z.toArray j)) (z.length-1)=i at b1 b2 e
 have G:i<z.length:=by omega
 have U:v=Value.int (z[i]).1 (z[i]).2:=by
  unfold intItems at e
  simp[G]at e
  exact e.symm
 have hm:(z[i]).1=maxI ns:=by
  have m1:(z[i]).1∈ns:=by rw[<-h2];exact mem_map_of_mem (getElem_mem G)
  refine Int.le_antisymm (yk4 m1) ?_
  have m2:=zb8 N
  rw[<-h2]at m2
  obtain⟨t,Y,e2⟩:=List.mem_map.mp m2
  obtain⟨j,Z,e3⟩:=getElem_of_mem Y
  have:=b2 j (by omega)
  rw[zn8 z Z,zn8 z G,e3,e2,h2]at this
  exact this
 subst U
 exact⟨.int (maxI ns),H,I.kept k,⟨_,by rw[hm]⟩,q⟩
noncomputable def zy1:List D->Option (List Int)
 |[]=>some []
 | .int i::r=>match zy1 r with |some ns=>some (i::ns)|none=>none
 |_=>none
theorem G0 {K:W.Frag}{F:Hp}:∀{vs:List V}{ds:List D}{ns:List Int},Reps K F vs ds->zy1 ds=some ns->vs=ns.map V.int
 |_,_,_,.nil,h=>by cases h;rfl
 |_,_,_,.cons (d:=d) (ds:=ds) r t,h=>by
  cases r with
  |int i=>
   unfold zy1 at h
   cases h1:zy1 ds with
   |none=>simp only[h1]at h;cases h
   |some ns=>simp only[h1]at h;cases h;rw[G0 t h1];rfl
  |_=>cases h
theorem zy0:∀ ns:List Int,zy1 (ns.map D.int)=some ns
 |[]=>rfl
 |n::ns=>by show (match zy1 (ns.map D.int)with |some ns=>some (n::ns)|none=>none)=_;rw[zy0 ns]
@[irreducible] noncomputable def ym7 (m:ML):ME:=fun ρ=>match m ρ with |some ds=>(match zy1 ds with |some (n::ns)=>some (.int (maxI (n::ns)))|_=>none)|none=>none
theorem xr4 {p:Pos}{m:ML}(R:X.calm=true)(N:Gl X "max")(hm:X.mg "max"=none)(ha:PB X e m)(hs:starEach (e::[]) X.env=(false,eval e X.env)::starEach [] X.env:=by rfl)(O:starEach [e] X.env=(false,eval e X.env)::starEach [] X.env:=by rfl)(j:(backTo pos (starEach [] X.env)).any (·.1)=false:=by rfl):PD X (.Call (.Name "max" p) [e] [] pos) (ym7 m):=
 (S1 (yh5 R) N hm PyProof.Rows.boot_max (j7 ha pa_nil hs) (by decide) (by decide) O j).imp fun σ H Q i=>by
  obtain⟨F0,H0,F,ρ,g,G,e,q⟩:=i
  unfold ym7 at e
  cases h1:m ρ with
  |none=>rw[h1]at e;cases e
  |some ds=>
   rw[h1]at e
   cases h2:zy1 ds with
   |none=>simp only[h2]at e;cases e
   |some ns=>
    cases ns with
    |nil=>simp only[h2]at e;cases e
    |cons n ns=>
     simp only[h2]at e;cases e
     refine⟨F0,H0,F,ρ,ds,G,h1,fun p xs F1 H1 z s1 I=>⟨p,n::ns,rfl,?_,by simp,q _ F1 H1 z (.int _)⟩⟩
     rw[<-G0 I h2];exact s1
noncomputable def ys0:List (Str×Str)->List DictEntry->Prop
 |[],[]=>True
 | (k,v)::r,e::es=>(∃ t,e.key= .str k t)/\(∃ t,e.val= .str v t)/\ys0 r es
 |_,_=>False
structure KTab (w:World)(K:W.Frag)(a:Addr)(tab:List (Str×Str)):Prop where
 ns:(a==sysModules)=false
 nd:(tab.map (·.1)).Nodup
 obj:∃ es ep,K.lookup a=some ⟨.type "dict",none,.dict es ep,#[]⟩/\ys0 tab es.toList/\∀ e∈es.toList,∀ k t,e.key= .str k t->e.hash=hashStr w k
theorem zp6 {P:Program}{w:World}:∀{tab:List (Str×Str)}{es:List DictEntry},ys0 tab es->∃ kvs:List (Key×Value),Pairs (zz2 P w) es kvs/\kvs.map (·.1)=tab.map (fun p=>Sum.inr p.1)/\∀ k,(∀ v,tab.lookup k=some v->∃ t,valueAt kvs (Sum.inr k)=some (.str v t))/\(tab.lookup k=none->valueAt kvs (Sum.inr k)=none)
 |[],[],_=>⟨[],.nil,rfl,fun k=>⟨fun v h=>by simp at h,fun _=>rfl⟩⟩
 |[],_::_,h=>h.elim
 |_::_,[],h=>h.elim
 | (k,v)::r,e::es,⟨⟨t1,h1⟩,⟨t2,h2⟩,h3⟩=>by
  obtain⟨kvs,R,O,N⟩:=zp6 (P:=P) (w:=w) h3
  refine⟨(Sum.inr k,.str v t2)::kvs,.cons (by rw[h1];exact zz8 k t1) h2 R,by rw[map_cons,map_cons,O],fun j=>?_⟩
  unfold valueAt
  by_cases hk:j=k
  .subst hk
   refine⟨fun G h=>?_,fun h=>?_⟩
   .rw[lookup_cons_self]at h;cases h
    exact⟨t2,by simp⟩
   .rw[lookup_cons_self]at h;cases h
  .have hb:(j==k)=false:=by simpa using hk
   have i:¬ ((Sum.inr k:Key)=Sum.inr j):=fun z=>hk (Sum.inr.inj z).symm
   obtain⟨c1,c2⟩:=N j
   refine⟨fun G h=>?_,fun h=>?_⟩
   .rw[lookup_cons,hb]at h
    obtain⟨t,I⟩:=c1 G h
    unfold valueAt at I
    exact⟨t,by simpa[i]using I⟩
   .rw[lookup_cons,hb]at h
    have:=c2 h
    unfold valueAt at this
    simpa[i]using this
theorem KTab.dict {t:Addr}{tab:List (Str×Str)}{pins:List (Addr×Obj)}{σ:St}{H:Hp}{s:Shared}(T:KTab X.w X.K t tab)(I:Inv X pins σ H s):∃ kvs:List (Key×Value),s.heap.DictOf (zz2 X.prog X.w) t kvs/\∀ k,(∀ v,tab.lookup k=some v->∃ t,valueAt kvs (Sum.inr k)=some (.str v t))/\(tab.lookup k=none->valueAt kvs (Sum.inr k)=none):=by
 obtain⟨es,ep,h1,h2,N⟩:=T.obj
 obtain⟨kvs,Y,U,S⟩:=zp6 (P:=X.prog) (w:=X.w) h2
 refine⟨kvs,⟨_,es,ep,I.kIn t _ h1,⟨rfl,rfl,rfl⟩,rfl,fun e i=>?_,Y,?_⟩,S⟩
 .have key:∀{tab:List (Str×Str)}{es:List DictEntry},ys0 tab es->∀ e∈es,∃ k t,e.key= .str k t:=by
   intro tab
   induction tab with
   |nil=>intro es h e i;cases es with
    |nil=>cases i
    |cons _ _=>exact h.elim
   |cons p r G=>
    intro es h e i
    cases es with
    |nil=>cases i
    |cons Z es=>
     obtain⟨⟨j,R⟩,_,O⟩:=h
     rcases List.mem_cons.mp i with z|z
     .subst z;exact⟨_,j,R⟩
     .exact G O e z
  obtain⟨k,tk,hk⟩:=key h2 e (by simpa using i)
  exact⟨Sum.inr k,by rw[hk];exact zz8 k tk,N e (by simpa using i) k tk hk⟩
 .rw[U]
  have:=T.nd
  rw[show tab.map (fun p=>(Sum.inr p.1:Key))=(tab.map (·.1)).map Sum.inr by rw[map_map];rfl]
  exact List.Pairwise.map _ (fun _ _ h z=>h (Sum.inr.inj z)) this
def rTab (t:Addr)(tab:List (Str×Str)):R2:=fun x y H Q=>∃ k v,x= .ref t/\y= .str k/\tab.lookup k=some v/\Q (.str v) H
theorem xf7 {t:Addr}{tab:List (Str×Str)}(T:KTab X.w X.K t tab):IxR X (rTab t tab):=by
 intro value i pins s σ H x y v u Q I rx G h hs
 obtain⟨k,z,rfl,rfl,O,q⟩:=h
 cases rx
 obtain⟨tk,rfl⟩:=G
 obtain⟨kvs,dd,hk⟩:=T.dict I
 obtain⟨j,N⟩:=(hk k).1 z O
 exact subscriptTail_builtinR (x:=.str z j) dd.typeIs slot_dict_getitem.lookup
  (wpAny_getItem_of (Q:=fun r s'=>r= .str z j/\EP X pins σ Q r s') (zz8 k tk) dd.mapOf N ⟨rfl,.str z,H,I.tok _,⟨_,rfl⟩,q⟩) hs
noncomputable def tabD (tab:List (Str×Str)):D->Option D
 | .str k=>(tab.lookup k).map .str
 |_=>none
theorem xi1 {x:Str}{t:Addr}{tab:List (Str×Str)}{p:Pos}(T:KTab X.w X.K t tab)(N:Gl X x)(hm:X.mg x=some (.ref t))(O:PD X b mb)(hs:zq8 b:=by exact fun _ _=>rfl)(hd:(x==("__debug__":Str))=false:=by decide):PD X (.Subscript (.Name x p) b pos) (m1 (tabD tab) mb):=
 (xr1 (xf7 T) (zs7 (v:=.ref t) N hm rfl hd) O hs).imp fun σ H Q i=>by
  obtain⟨F0,H0,F,ρ,g,G,e,q⟩:=i
  obtain⟨d,h1,h2⟩:=zg7 e
  refine⟨F0,H0,F,ρ,d,G,h1,fun v F1 H1 j I=>?_⟩
  cases I with
  |str k=>
   have h2:(tab.lookup k).map D.str=some g:=h2
   cases h3:tab.lookup k with
   |none=>rw[h3]at h2;cases h2
   |some z=>rw[h3]at h2;cases h2;exact⟨k,z,rfl,rfl,h3,q _ F1 H1 j (.str _)⟩
  |_=>cases h2
end
end
section
section
variable {prog:Program}{w:World}{A:Around}{E:Value->Shared->Prop}{s:Shared}
structure ApT (z TO i1 i2 l:Addr):Prop where
 lz:l≠z
 lTO:l≠TO
 l1:l≠i1
 l2:l≠i2
end
end
section
section
variable {prog:Program}{w:World}{A:Around}{E:Value->Shared->Prop}{s:Shared}
end
section
variable {X:Cx}
end
end
section
section
variable {X:Cx}{a b c e:Expr}{ma mb:ME}{la lb:ML}{pos:Pos}
@[irreducible] noncomputable def yc6 (x:ME)(i:Nat):MS:=fun ρ=>match x ρ,ρ[i]? with |some d,some (some (.own ds))=>some (.rp d ds)|_,_=>none
theorem yd3 {i:Nat}{x:Str}{G tp:Pos}{I:Nat}(he:PD X e ma)(Z:PE X (.Name x G) (tVar i))(hs:starEach (e::[.Name x G]) X.env=(false,eval e X.env)::starEach [.Name x G] X.env:=by rfl)(S:starEach [.Name x G] X.env=(false,eval (.Name x G) X.env)::starEach [] X.env:=by rfl):
  PSd X (.Return (some (.Tuple [e,.Name x G] I tp)) pos) (yc6 ma i):=(U9 (yp6 (j7 he (j7 Z pa_nil S) hs))).imp fun D σ H O=>by
 obtain⟨F0,H0,F,ρ,o,U,e,ok⟩:=O
 unfold yc6 at e
 split at e
 .rename_i d ds h1 h2
  cases e
  refine⟨F0,H0,F,ρ,d,U,h1,fun v F1 H1 I Y=>?_⟩
  have j:=U.go I
  obtain⟨p,xs,e1,e2,e3,e4,e5⟩:=j.own i ds h2
  refine⟨_,e1,⟨by show 2<=sizeLine;rw[sizeLine_eq];decide,fun t N=>?_⟩⟩
  have R:t≠p:=fun z=>by rw[z,e3]at N;cases N
  exact ok t v p xs F1 _ (j.ext.trans (Ext.own I.fh N)) (j.ext.hh.free N) e5 R (I.fh.free N) e2 x9 (by rw[x8 (Ne.symm R)];exact e3) Y e4
 .cases e
end
section
variable {K:W.Frag}{F0 H0 F H H':Hp}{σ:St}{ρ:Ro}
end
section
variable {X:Cx}{a b c e3:Expr}{ma mb:ME}{la lb:ML}{pos:Pos}{E:XK}{es:List Expr}{mf:MF}{m:ML}{rb:List Stmt}{mx:MS}{cc:MB}{y:D}
end
end
section
noncomputable abbrev MEm:=Ro->Option (D×Ro)
noncomputable abbrev MLm:=Ro->Option (List D×Ro)
section
variable {X:Cx}{a b c e:Expr}{ma mb:ME}{na nb:MEm}{pos:Pos}{es:List Expr}
variable {st:Stmt}
end
noncomputable abbrev MG:=Addr->List D->List D->Option (Rt×List D)
noncomputable def del (H:Hp)(p:Addr):Hp:=fun b=>if b=p then none else H b
theorem del_self {H:Hp}{p:Addr}:del H p p=none:=by unfold del;rw[if_pos rfl]
theorem del_ne {H:Hp}{p b:Addr}(h:b≠p):del H p b=H b:=by unfold del;rw[if_neg h]
end
section
section
variable {K:W.Frag}{F0 H0 F H F' H':Hp}{σ:St}{ρ:Ro}
end
open Classical in
section
variable {X:Cx}{e:Expr}{pos:Pos}{es:List Expr}{E:XK}{mf:MG}{m:MLm}
end
end
section
section
variable {X:Cx}{a b c e:Expr}{ma mb:ME}{pos:Pos}
end
end
section
def LtAt (A:Around)(s:Shared)(v u:Value)(k:Bool):Prop:=∀(prog:Program)(w:World)(E:Value->Shared->Prop)(Q:Value->Shared->Prop),Q (.bool k) s->wpAny (model prog w) A (richCompare .Lt v u) Q E s
noncomputable def yu9 (A:Around)(s:Shared):List Value->List Value->Bool->Prop
 |[],[],k=>k=false
 |[],_::_,k=>k=true
 |_::_,[],k=>k=false
 |y::ys,x::xs,k=>∃ e,SeqAt.EqAt A s y x e/\((e=true/\yu9 A s ys xs k)\/(e=false/\LtAt A s y x k))
section
open PySem.SeqAt
open PySem.AutoSeq1 (wpAny_loadPart')
open PySem.MeetsSeq PySem.MeetsSeq2 PySem.MeetsSeq3
set_option maxHeartbeats 4000000 in
theorem xn9 (l b:Addr)(j i:Array Value)(n n2:Nat)(dd Z:Option Addr)(sl S:Array (Option Value))(k:Bool):
  Meets (Builtin.«tuple.__lt__» ⟨[.ref l,.ref b],[]⟩)
   (fun A R s=>s.heap.get? l=some { cls:=.type "tuple",dict:=dd,data:=.seq j n,slots:=sl }/\s.heap.get? b=some { cls:=.type "tuple",dict:=Z,data:=.seq i n2,slots:=S }/\
    yu9 A.in1 s j.toList i.toList k/\R (.ok (.ret (.bool k))) s):=
 .of_wp fun prog w A R s h=>by
  obtain⟨hp,g,d,tk,os⟩:=s;obtain⟨hl,hb,hx,h⟩:=h
  have f2:=AutoSeq1.sub_tuple_tuple
  wp_walk using wpAny_loadPart' hl,wpAny_loadPart' hb,wpAny_forIn_list _ (fun rest b s'=>b.1=none/\s'=⟨hp,g,d,tk,os⟩/\∃(vs ws:List Value),rest=vs.zip ws/\
   vs.length+i.size=ws.length+j.size/\yu9 A.in1 ⟨hp,g,d,tk,os⟩ vs ws k) _
  case turn=>
   rintro⟨y,x⟩ rest b s' ⟨O,rfl,vs,ws,I,z,G⟩
   cases vs with
   |nil=>rw[zip_nil_left]at I;cases I
   |cons a vs=>
    cases ws with
    |nil=>rw[zip_nil_right]at I;cases I
    |cons c ws=>
     rw[zip_cons_cons]at I
     injection I with U N
     injection U with hy Y
     subst hy Y
     simp only[length_cons]at z
     obtain⟨e,he,G⟩:=G
     refine wpAny_bind (he prog w _ _ ?_)
     rcases G with⟨rfl,G⟩|⟨rfl,G⟩
     .wp_walk
      exact⟨rfl,rfl,vs,ws,N,by omega,G⟩
     .have hri:=G prog w
      wp_walk using hri
      exact⟨_,rfl,by simpa using h⟩
  case fin=>
   rintro⟨b1,b2⟩ s' ⟨O,rfl,vs,ws,I,z,G⟩
   simp only at O
   subst O
   have hv:k=decide (j.size<i.size):=by
    cases vs with
    |nil=>
     cases ws with
     |nil=>
      simp only[length_nil]at z
      rw[show k=false from G]
      exact(decide_eq_false (by omega)).symm
     |cons c ws=>
      simp only[length_nil,length_cons]at z
      rw[show k=true from G]
      exact(decide_eq_true (by omega)).symm
    |cons a vs=>
     cases ws with
     |nil=>
      simp only[length_nil,length_cons]at z
      rw[show k=false from G]
      exact(decide_eq_false (by omega)).symm
     |cons c ws=>
      rw[zip_cons_cons]at I
      cases I
   rw[hv]at h
   wp_walk
   exact⟨_,rfl,by simpa[Builtin.Tuple.tupleCompareSizes]using h⟩
  case h=>
   exact⟨rfl,rfl,j.toList,i.toList,rfl,by simp;omega,hx⟩
set_option maxHeartbeats 4000000 in
theorem zg8 (l b:Addr)(G j:Array Value)(n n2:Nat)(dd a1:Option Addr)(sl Z:Array (Option Value))(r:Bool)(k:Nat):
  ∀ i:Nat,G.size-i=k->i<=G.size->i<=j.size->Meets (Builtin.«list.__eq__.loop» ⟨[.ref l,.ref b,rawInt i,rawInt 0],[]⟩)
   (fun A R s=>s.heap.get? l=some { cls:=.type "list",dict:=dd,data:=.seq G n,slots:=sl }/\s.heap.get? b=some { cls:=.type "list",dict:=a1,data:=.seq j n2,slots:=Z }/\
    yu9 A.in1 s (G.toList.drop i) (j.toList.drop i) r/\R (.ok (.ret (.bool r))) s):=by
 induction k with
 |zero=>
  intro i hk h1 h2 prog w A R s h
  obtain⟨hp,g,d,tk,os⟩:=s;obtain⟨S,U,I,h⟩:=h
  wp_walk using wpAny_loadPart' S,wpAny_loadPart' U
  have N:G[((i:Nat):Int).toNat]? =none:=by simp;omega
  have e1:G.toList.drop i=[]:=drop_eq_nil_of_le (by simp;omega)
  rw[e1]at I
  have hr:r=decide (G.size<j.size):=by
   cases e2:j.toList.drop i with
   |nil=>
    rw[e2]at I
    have:j.size<=i:=by simpa using e2
    rw[show r=false from I]
    exact(decide_eq_false (by omega)).symm
   |cons c ws=>
    rw[e2]at I
    have:i<j.size:=by
     rcases Nat.lt_or_ge i j.size with z|z
     .exact z
     .rw[drop_eq_nil_of_le (by simpa using z)]at e2;cases e2
    rw[show r=true from I]
    exact(decide_eq_true (by omega)).symm
  rw[N]
  wp_walk using wpAny_loadPart' S,wpAny_loadPart' U
  rw[hr]at h
  exact h
 |succ k ih=>
  intro i hk h1 h2 prog w A R s h
  obtain⟨hp,g,d,tk,os⟩:=s;obtain⟨S,U,I,h⟩:=h
  have Y:i<G.size:=by omega
  have N:G[((i:Nat):Int).toNat]? =some G[i]:=by simp[Y]
  have e1:G.toList.drop i=G[i]::G.toList.drop (i+1):=by rw[drop_eq_getElem_cons (by simpa using Y)];simp
  have hc:((i:Int)+1)=((i+1:Nat):Int):=by push_cast;rfl
  rw[e1]at I
  by_cases O:i<j.size
  .have hi2:j[((i:Nat):Int).toNat]? =some j[i]:=by simp[O]
   have e2:j.toList.drop i=j[i]::j.toList.drop (i+1):=by rw[drop_eq_getElem_cons (by simpa using O)];simp
   rw[e2]at I
   obtain⟨e,he,I⟩:=I
   wp_walk using wpAny_loadPart' S,wpAny_loadPart' U
   rw[N,hi2]
   refine wpAny_bind (he prog w _ _ ?_)
   rcases I with⟨rfl,I⟩|⟨rfl,I⟩
   .wp_walk
    rw[hc]
    exact⟨plainId_quiet plain_eq_loop _,codeAny_builtin entry_eq_loop (by
     rw[Around.under_plainId plain_eq_loop _]
     exact ih (i+1) (by omega) (by omega) (by omega) prog w A R _ ⟨S,U,I,h⟩)⟩
   .have hri:=I prog w
    wp_walk using wpAny_loadPart' S,wpAny_loadPart' U
    rw[N,hi2]
    wp_walk using hri
    exact h
  .have hi2:j[((i:Nat):Int).toNat]? =none:=by simp;omega
   have e2:j.toList.drop i=[]:=drop_eq_nil_of_le (by simp;omega)
   rw[e2]at I
   have hr:r=decide (G.size<j.size):=by
    rw[show r=false from I]
    exact(decide_eq_false (by omega)).symm
   wp_walk using wpAny_loadPart' S,wpAny_loadPart' U
   rw[N,hi2]
   wp_walk using wpAny_loadPart' S,wpAny_loadPart' U
   rw[hr]at h
   exact h
set_option maxHeartbeats 4000000 in
theorem xg9 (l b:Addr)(j i:Array Value)(n n2:Nat)(dd G:Option Addr)(sl z:Array (Option Value))(r:Bool):
  Meets (Builtin.«list.__lt__» ⟨[.ref l,.ref b],[]⟩)
   (fun A R s=>s.heap.get? l=some { cls:=.type "list",dict:=dd,data:=.seq j n,slots:=sl }/\s.heap.get? b=some { cls:=.type "list",dict:=G,data:=.seq i n2,slots:=z }/\
    yu9 A.in1 s j.toList i.toList r/\R (.ok (.ret (.bool r))) s):=by
 intro prog w A R s h
 obtain⟨hp,g,d,tk,os⟩:=s;obtain⟨I,N,O,h⟩:=h
 have S:=AutoSeq1.sub_list_list
 wp_walk using wpAny_loadPart' I,wpAny_loadPart' N
 exact⟨plainId_quiet plain_eq_loop _,codeAny_builtin entry_eq_loop (by
  rw[Around.under_plainId plain_eq_loop _]
  exact zg8 l b j i n n2 dd G sl z r _ 0 rfl (Nat.zero_le _) (Nat.zero_le _) prog w A R _ ⟨I,N,by simpa using O,h⟩)⟩
end
noncomputable def lexF (eq lt:D->D->Option Bool):List D->List D->Option Bool
 |[],[]=>some false
 |[],_::_=>some true
 |_::_,[]=>some false
 |d::ds,e::es=>match eq d e with
  |some true=>lexF eq lt ds es
  |some false=>lt d e
  |none=>none
noncomputable def ltF:Nat->D->D->Option Bool
 |0,_,_=>none
 |n+1,.lst ds,.lst es=>lexF (eqF n) (ltF n) ds es
 |n+1,.tup ds,.tup es=>lexF (eqF n) (ltF n) ds es
 |_+1,.int i,.int j=>some (decide (i<j))
 |_+1,_,_=>none
section
variable {X:Cx}{pins:List (Addr×Obj)}{σ:St}{H:Hp}{s:Shared}
theorem yj0 (I:Inv X pins σ H s)(n:Nat){A:Around}(j:A.units+n<cLine)(i:∀{x y:V}{v u:Value}{d e:D}{k:Bool},Rep X.K H x d->Rep X.K H y e->RelV x v->RelV y u->ltF n d e=some k->LtAt A s v u k):
  ∀{xs ys:List V}{vs us:List Value}{ds es:List D}{k:Bool},Reps X.K H xs ds->Reps X.K H ys es->Vals xs vs->Vals ys us->lexF (eqF n) (ltF n) ds es=some k->yu9 A s vs us k
 |_,_,_,_,_,_,k,.nil,.nil,.nil,.nil,h=>by cases h;exact rfl
 |_,_,_,_,_,_,k,.nil,.cons _ _,.nil,.cons _ _,h=>by cases h;exact rfl
 |_,_,_,_,_,_,k,.cons _ _,.nil,.cons _ _,.nil,h=>by cases h;exact rfl
 |_,_,_,_,_,_,k,.cons (d:=d) r1 t1,.cons (d:=e) r2 t2,.cons q1 p1,.cons q2 p2,h=>by
  unfold lexF at h
  cases hq:eqF n d e with
  |none=>rw[hq]at h;cases h
  |some b=>
   rw[hq]at h
   refine⟨b,(yi1 I n j r1 r2 q1 q2 hq).1,?_⟩
   cases b with
   |true=>exact .inl ⟨rfl,yj0 I n j i t1 t2 p1 p2 h⟩
   |false=>exact .inr ⟨rfl,i r1 r2 q1 q2 h⟩
theorem xp4 (I:Inv X pins σ H s):∀(n:Nat){A:Around}{x y:V}{v u:Value}{d e:D}{k:Bool},A.units+n<cLine->Rep X.K H x d->Rep X.K H y e->RelV x v->RelV y u->ltF n d e=some k->LtAt A s v u k
 |0,A,x,y,v,u,d,e,k,hu,r1,r2,q1,q2,h=>by simp[ltF]at h
 |n+1,A,x,y,v,u,d,e,k,hu,r1,r2,q1,q2,h=>by
  have a4:A.units<cLine:=by omega
  have R:A.in1.units+n<cLine:=by show A.units+1+n<cLine;omega
  cases d with
  |int i=>
   cases e with
   |int j=>
    obtain rfl:=r1.i'
    obtain rfl:=r2.i'
    obtain⟨t,rfl⟩:=q1
    obtain⟨t',rfl⟩:=q2
    cases h
    exact fun prog w E Q hQ=>HT.rcLt_int A s i t j t' prog w E Q hQ
   |_=>cases h
  |lst a9=>
   cases e with
   |lst a8=>
    obtain⟨a1,a7,rfl,sq,rs⟩:=r1.l'
    obtain⟨a2,a6,rfl,U,Z⟩:=r2.l'
    cases q1;cases q2
    obtain⟨its,vr,⟨⟨cls,dd,data,sl⟩,m,ho,hc,ab,hd⟩,_⟩:=I.list sq
    obtain⟨z,S,⟨⟨a5,a3,data2,Y⟩,m2,G,O,aa,N⟩,_⟩:=I.list U
    simp only at hc hd O N
    subst hc hd O N
    have L:=yj0 I n R (fun a b c d e=>xp4 I n R a b c d e) rs Z vr S (show lexF (eqF n) (ltF n) _ _=some k from h)
    intro prog w E Q hQ
    exact richCompare_meets_room (op:=.Lt) ⟨_,ho,rfl⟩ ⟨_,G,rfl⟩ PySem.F.slot_list_lt PySem.F.entry_list_lt (PySem.F.args_list_lt_2 _ _) (xg9 _ _ its.toArray z.toArray m m2 dd a3 sl Y k)
     ⟨ho,G,by simpa using L,show Value.bool k≠Value.notImplemented/\Q (.bool k) s from⟨(fun x=>nomatch x),hQ⟩⟩ a4
   |_=>cases h
  |tup a9=>
   cases e with
   |tup a8=>
    obtain⟨a1,a7,rfl,sq,rs⟩:=r1.t'
    obtain⟨a2,a6,rfl,U,Z⟩:=r2.t'
    cases q1;cases q2
    obtain⟨its,vr,⟨⟨cls,dd,data,sl⟩,ho,hc,m,hd⟩,_⟩:=I.tuple sq
    obtain⟨z,S,⟨⟨a5,a3,data2,Y⟩,G,O,m2,N⟩,_⟩:=I.tuple U
    simp only at hc hd O N
    subst hc hd O N
    have L:=yj0 I n R (fun a b c d e=>xp4 I n R a b c d e) rs Z vr S (show lexF (eqF n) (ltF n) _ _=some k from h)
    intro prog w E Q hQ
    exact richCompare_meets_room (op:=.Lt) ⟨_,ho,rfl⟩ ⟨_,G,rfl⟩ PySem.F.slot_tuple_lt PySem.F.entry_tuple_lt (PySem.F.args_tuple_lt_2 _ _) (xn9 _ _ its.toArray z.toArray m m2 dd a3 sl Y k)
     ⟨ho,G,by simpa using L,show Value.bool k≠Value.notImplemented/\Q (.bool k) s from⟨(fun x=>nomatch x),hQ⟩⟩ a4
   |_=>cases h
  |_=>cases h
end
end
section
def yt0 (X:Cx)(kv:Value)(mk:D->Option D):Prop:=∀(pins:List (Addr×Obj))(σ:St)(H F:Hp)(s:Shared)(x:V)(u:Value)(d kd:D),Inv X pins σ H s->Same F H->Rep X.K F x d->RelV x u->mk d=some kd->
 wpAny (model X.prog X.w) X.A.in1 (call kv [u]) (fun w s'=>∃ y F' H',Inv X pins σ H' s'/\RelV y w/\Ext F H F' H'/\Rep X.K F' y kd) (fun _ _=>False) s
noncomputable def shOf:Option Rt->Option D
 |some (.sh d)=>some d
 |some (.fr es)=>some (.lst es)
 |_=>none
theorem za1 {X:Cx}{k:Nat}{f:Addr}{fd:FuncData}{p:Str}{m:MF}(F:FnOk X.prog X.w X.K X.mg X.base CX0 k f fd [p] (spR X.K 1 m))(Y:Room k X.A.in1)(Z:Binds X.K fd [p] []):yt0 X (.ref f) (fun d=>shOf (m [d])):=by
 intro pins σ H N s x u d kd I O r rx hm
 have hm:shOf (m [d])=some kd:=hm
 have sp:spR X.K 1 m [x] H (fun v H'=>∃ F',Ext N H F' H'/\Rep X.K F' v kd) E0:=by
  cases h:m [d]with
  |none=>rw[h]at hm;cases hm
  |some t=>
   rw[h]at hm
   cases t with
   |sh g=>cases hm;exact⟨rfl,N,[d],_,O,.cons r .nil,h,fun v F' H' j G=>⟨F',j,G⟩⟩
   |fr gs=>cases hm;exact⟨rfl,N,[d],_,O,.cons r .nil,h,fun q xs F' H' j hp R hH U=>⟨upd F' q (.lst xs),j.freeze R hp hH,.lst (SqL.of x9) (U.mono ((Same.refl F').put R))⟩⟩
   |pr _ _=>cases hm
 have i:=I.env0
 have env:Env0 X.prog X.w X.K X.mg X.base X.A.in1 X.stack s H:=⟨i.frames,i.mod,i.bs,i.bsz,i.funs,i.frf,i.hok,i.bare⟩
 refine wpAny_call (codeAny_mono (F.run X.A.in1 X.stack s H ⟨[u],[]⟩ [u] [x] _ E0 Y env (Z s [u] I.kIn rfl) (.cons rx .nil) sp) fun r s' z=>?_)
 cases r with
 |error e=>exact z.elim
 |ok fl=>
  cases fl with
  |ret v=>
   obtain⟨y,H',I',S,F',j,G⟩:=I.after z
   exact⟨y,F',H',I',S,j,G⟩
  |next=>exact z.elim
  |brk=>exact z.elim
  |cont=>exact z.elim
noncomputable def minF (mk:D->Option D):List D->D->D->Option D
 |[],b,_=>some b
 |d::ds,b,kb=>match mk d with
  |some kd=>(match ltF 8 kd kb with |some true=>minF mk ds d kd|some false=>minF mk ds b kb|none=>none)
  |none=>none
section
variable {X:Cx}{pins:List (Addr×Obj)}{σ:St}
theorem FpOk.now {H H':Hp}{b:Addr}(h:FpOk X pins H b)(hn:H' b=none):FpOk X pins H' b:=⟨hn,h.2⟩
theorem Inv.pin2 {H:Hp}{s:Shared}{a b:Addr}{i ob:Obj}(I:Inv X pins σ H s)(ha:FpOk X pins H a)(j:FpOk X pins H b)(G:s.heap.get? a=some i)(z:s.heap.get? b=some ob)(O:∀ v,i.data≠ .cell v)(N:∀ v,ob.data≠ .cell v):Inv X (pins++[(a,i),(b,ob)]) σ H s:=
 I.pins_of fun p hp=>by
  rcases List.mem_append.mp hp with hp|hp
  .exact I.pin p (mem_append_right _ hp)
  .simp only[mem_cons,not_mem_nil,or_false]at hp
   rcases hp with rfl|rfl
   .exact⟨G,ha.1,ha.2.1,ha.2.2.1,O⟩
   .exact⟨z,j.1,j.2.1,j.2.2.1,N⟩
set_option maxHeartbeats 8000000 in
theorem zb3 {q:Addr}{mk:D->Option D}(hk:yt0 X (.ref q) mk)(hc:X.calm=true)(hu:X.A.units+64<cLine){l I S:Addr}{xs:List V}{ds:List D}{kw:List (Str×Value)}{dm:D}(a1:I≠S)(ag:l≠I)(af:l≠S):
  ∀(r j:Nat)(H F H0 F0:Hp)(s:Shared)(xb yb:V)(U Y:Value)(db G:D)(c:Nat)(R:Result->Shared->Prop),
   ds.length-(j+1)=r->j+1<=ds.length->Inv X pins σ H s->Ext F0 H0 F H->SqL X.K H l xs->Reps X.K F xs ds->s.heap.IsListIter I l (j+1)->s.heap.get? S=some (seqObj "list" #[U,Y] c)->FpOk X pins H I->FpOk X pins H S->
   RelV xb U->Rep X.K F xb db->RelV yb Y->Rep X.K F yb G->minF mk (ds.drop (j+1)) db G=some dm->
   (∀ x v F' H' s',Inv X pins σ H' s'->RelV x v->Ext F0 H0 F' H'->Rep X.K F' x dm->R (.ok (.ret v)) s')->
   codeAny (model X.prog X.w) X.A (.builtin "min.loop" ⟨[.ref I,.ref q,.ref S],kw⟩) R s:=by
 have O:(toString "min"++toString ".loop":String)="min.loop":=by decide
 intro r
 induction r with
 |zero=>
  intro j H F H0 F0 s xb yb U Y db G c R hr hj I' ext sq rs hit hS fI fS rb pb ry py hm hR
  have ab:j+1=ds.length:=by omega
  obtain⟨its,vr,pl,_⟩:=I'.list sq
  have zl:its.length=ds.length:=by rw[<-vr.length,rs.length]
  rw[ab,drop_length]at hm
  have hm:some db=some dm:=hm
  cases hm
  refine codeAny_builtin PySem.F.entry_min_loop ?_
  rw[Around.under_plainId PySem.F.plain_min_loop _]
  show wpAny _ X.A.in1 (seqItems? (.ref S) >>= _) _ _ _
  refine wpAny_bind (wpAny_seqItems hS rfl ?_)
  show wpAny _ X.A.in1 (tryCatch (pyNext (.ref I)) _ >>= _) _ _ _
  refine wpAny_bind (wpAny_tryCatch (wpAny_pyNext_list_end (I'.ok.hd hc) hit pl.isList (by simp;omega) fun h' a6=>?_))
  have ae:h'.get? S=some (seqObj "list" #[U,Y] c):=a6 S _ (Ne.symm a1) hS
  have s1:=Heap.SameBut.update h' S (Obj.mapSeq fun _=>(#[]:Array Value))
  show wpAny _ X.A.in1 (updateSeq S (fun _=>#[]) >>= _) _ _ _
  refine wpAny_bind ?_
  refine wpAny_updateSeq ae rfl (wpAny_bind (wpAny_letGo (wpAny_pure ?_)))
  have I9:Inv X pins σ H { s with heap:=h'.update S (Obj.mapSeq fun _=>(#[]:Array Value)),toks:=s.toks }:=I'.turnedL (fp:=[I,S]) (t':=s.toks) (fun b o i e=>by
   simp only[mem_cons,not_mem_nil,or_false,not_or]at i
   exact(s1.2 b i.2).trans (a6 b o i.1 e)) (fun b i=>by
   simp only[mem_cons,not_mem_nil,or_false]at i
   rcases i with rfl|rfl <;> assumption)
  exact hR xb U F H _ I9 rb ext pb
 |succ r ih=>
  intro j H F H0 F0 s xb yb U Y db G c R hr hj I' ext sq rs hit hS fI fS rb pb ry py hm hR
  have Z:j+1<ds.length:=by omega
  obtain⟨its,vr,pl,_⟩:=I'.list sq
  have zl:its.length=ds.length:=by rw[<-vr.length,rs.length]
  obtain⟨d,hd⟩:∃ d,ds[j+1]? =some d:=⟨_,getElem?_eq_getElem Z⟩
  obtain⟨x,hx,px⟩:=rs.get hd
  obtain⟨v,hv,rx⟩:=vr.get hx
  rw[K0 hd]at hm
  unfold minF at hm
  cases hkd:mk d with
  |none=>rw[hkd]at hm;cases hm
  |some kd=>
   rw[hkd]at hm
   dsimp only at hm
   refine codeAny_builtin PySem.F.entry_min_loop ?_
   rw[Around.under_plainId PySem.F.plain_min_loop _]
   show wpAny _ X.A.in1 (seqItems? (.ref S) >>= _) _ _ _
   refine wpAny_bind (wpAny_seqItems hS rfl ?_)
   show wpAny _ X.A.in1 (tryCatch (pyNext (.ref I)) _ >>= _) _ _ _
   refine wpAny_bind (wpAny_tryCatch (wpAny_pyNext_list_item hit pl.isList (by simpa using hv) fun h1 a8 s1=>?_))
   have I1:Inv X pins σ H { s with heap:=h1,toks:=s.toks }:=I'.turnedL (fp:=[I]) (fun b o i e=>s1.extBut b o (by simpa using i) e) (fun b i=>by rw[List.mem_singleton.mp i];exact fI)
   have ad:h1.get? S=some (seqObj "list" #[U,Y] c):=s1.extBut _ _ (Ne.symm a1) hS
   obtain⟨oI,eI,cI,dI⟩:=id a8
   have Ip:=I1.pin2 fI fS eI ad (fun v z=>by rw[dI]at z;cases z) (fun v z=>by cases z)
   show wpAny _ X.A.in1 (tryCatch (holding [v] (call (.ref q) [v])) _ >>= _) _ _ _
   refine wpAny_bind (wpAny_tryCatch (wpAny_holding (wpAny_mono (hk (pins++[(I,oI),(S,seqObj "list" #[U,Y] c)]) σ H F _ x v d kd Ip ext.fh px rx hkd) (fun w s2 hw=>?_) fun _ _ z=>z.elim)))
   obtain⟨y,F2,H2,I2,a4,N,a5⟩:=hw
   have pI:=I2.pin (I,oI) (by simp)
   have pS:=I2.pin (S,seqObj "list" #[U,Y] c) (by simp)
   have a3:Inv X pins σ H2 s2:=I2.unpinned
   have aa:FpOk X pins H2 I:=fI.now pI.2.1
   have a2:FpOk X pins H2 S:=fS.now pS.2.1
   have a7:s2.heap.IsListIter I l (j+1+1):=⟨oI,pI.1,cI,dI⟩
   cases hlt8:ltF 8 kd G with
   |none=>rw[hlt8]at hm;cases hm
   |some bt=>
    rw[hlt8]at hm
    have a9:=xp4 a3 8 (A:=X.A.in1) (by show X.A.units+1+8<cLine;omega) (a5.mono N.fh) ((py.mono N.ff).mono N.fh) a4 ry hlt8
    show wpAny _ X.A.in1 (tryCatch (holding [v,w] (richCompare .Lt w Y >>= _)) _ >>= _) _ _ _
    refine wpAny_bind (wpAny_tryCatch (wpAny_holding (wpAny_bind (a9 X.prog X.w _ _ ?_))))
    refine wpAny_bind (wpAny_holding (wpAny_truthy_bool ?_))
    refine wpAny_bind (wpAny_letGo (wpAny_pure ?_))
    cases bt with
    |true=>
     have s3:=Heap.SameBut.update s2.heap S (Obj.mapSeq fun _=>#[v,w])
     obtain⟨c2,ac⟩:∃ c2,(s2.heap.update S (Obj.mapSeq fun _=>#[v,w])).get? S=some (seqObj "list" #[v,w] c2):=⟨_,get?_update_seq pS.1 fun _=>#[v,w]⟩
     simp only[if_true]
     refine wpAny_bind ?_
     refine wpAny_updateSeq pS.1 rfl (wpAny_bind (wpAny_letGo ?_))
     rw[O]
     have I3:Inv X pins σ H2 { s2 with heap:=s2.heap.update S (Obj.mapSeq fun _=>#[v,w]),toks:=s2.toks }:=a3.turnedL (fp:=[S]) (fun b o i e=>(s3.2 b (by simpa using i)).trans e) (fun b i=>by rw[List.mem_singleton.mp i];exact a2)
     refine wpAny_pure ⟨plainId_quiet PySem.F.plain_min_loop _,ih (j+1) H2 F2 H0 F0 _ x y v w d kd c2 R (by omega) Z I3 (ext.trans N) (N.hh.seq sq) (rs.mono N.ff) ⟨oI,(s3.2 I a1).trans pI.1,cI,dI⟩ ac aa a2 rx (px.mono N.ff) a4 a5 hm hR⟩
    |false=>
     simp only[Bool.false_eq_true,if_false]
     refine wpAny_bind (wpAny_letGo ?_)
     rw[O]
     refine wpAny_pure ⟨plainId_quiet PySem.F.plain_min_loop _,ih (j+1) H2 F2 H0 F0 _ xb yb U Y db G c R (by omega) Z a3 (ext.trans N) (N.hh.seq sq) (rs.mono N.ff) a7 pS.1 aa a2 rb (pb.mono N.ff) ry (py.mono N.ff) hm hR⟩
end
end
section
theorem ze9 (a v u:Value):argsOk "min" ⟨[a],[(Str.ofString "key",v),(Str.ofString "default",u)]⟩:=by unfold argsOk;kernel_rfl
noncomputable def minD (mk:D->Option D)(ds:List D)(d0:D):Option D:=match ds with
 |[]=>some d0
 |d::ds=>(match mk d with |some kd=>minF mk ds d kd|none=>none)
section
variable {X:Cx}{pins:List (Addr×Obj)}{σ:St}
set_option maxHeartbeats 8000000 in
theorem xq9 {q:Addr}{mk:D->Option D}(hk:yt0 X (.ref q) mk)(hc:X.calm=true)(hu:X.A.units+64<cLine){l:Addr}{xs:List V}{ds:List D}{dm d0:D}{H F:Hp}{s:Shared}{x0:V}{R:Value}{E:Value->Shared->Prop}{Q:Value->Shared->Prop}
  (I:Inv X pins σ H s) (sf:Same F H) (sq:SqL X.K H l xs) (rs:Reps X.K F xs ds) (r0:RelV x0 R) (p0:Rep X.K F x0 d0) (hm:minD mk ds d0=some dm)
  (hQ:∀ x v F' H' s',Inv X pins σ H' s'->RelV x v->Ext F H F' H'->Rep X.K F' x dm->Q v s'):
  wpAny (model X.prog X.w) X.A (call (.builtin "min") [.ref l] [(Str.ofString "key",.ref q),(Str.ofString "default",R)]) Q E s:=by
 have G:(toString "min"++toString ".loop":String)="min.loop":=by decide
 obtain⟨its,vr,pl,_⟩:=I.list sq
 have a1:=pl.isList
 obtain⟨ol,a7,_⟩:=id a1
 have a2:l<s.heap.objs.size:=Heap.lt_size a7
 refine kmk_tree PySem.F.kind_min PySem.F.plain_min PySem.F.entry_min (ze9 _ _ _) ?_
 show wpAny _ X.A.in1 (Builtin.Builtins.bindParams "min" ["key","default"] 0 ⟨[],[(Str.ofString "key",.ref q),(Str.ofString "default",R)]⟩ >>= _) _ _ s
 refine wpAny_bind (wpAny_of_eq (show Builtin.Builtins.bindParams "min" ["key","default"] 0 ⟨[],[(Str.ofString "key",.ref q),(Str.ofString "default",R)]⟩=pure [some (.ref q),some R]from rfl) ?_)
 refine wpAny_bind (wpAny_pure ?_)
 refine wpAny_bind (wpAny_pyIter_list a1 ?_)
 refine wpAny_bind (wpAny_newList ?_ (Nat.zero_le _))
 rw[G]
 refine wpAny_pure ⟨plainId_quiet PySem.F.plain_min_loop _,?_⟩
 generalize N:({ cls:=.type "list_iterator",data:=.fields #[.ref l,.int 0 0] }:Obj)=oI0
 have hS:(s.heap.push oI0).objs.size=s.heap.objs.size+1:=size_push' ..
 have a9:l≠s.heap.objs.size:=Nat.ne_of_lt a2
 have a8:l≠(s.heap.push oI0).objs.size:=by rw[hS];exact Nat.ne_of_lt (Nat.lt_succ_of_lt a2)
 have O:s.heap.objs.size≠(s.heap.push oI0).objs.size:=by rw[hS];exact Nat.ne_of_lt (Nat.lt_succ_self _)
 have gI:((s.heap.push oI0).push (seqObj "list" #[] 0)).get? s.heap.objs.size=some oI0:=Heap.get?_push_of_some _ (Heap.get?_push_size _ (by rw[<-N];rfl))
 have gS:((s.heap.push oI0).push (seqObj "list" #[] 0)).get? (s.heap.push oI0).objs.size=some (seqObj "list" #[] 0):=Heap.get?_push_size _ rfl
 have fI:FpOk X pins H s.heap.objs.size:=I.fpOk (Nat.le_refl _) (I.hok.fresh (Nat.le_refl _))
 have fS:FpOk X pins H (s.heap.push oI0).objs.size:=I.fpOk (by rw[hS];exact Nat.le_succ _) (I.hok.fresh (by rw[hS];exact Nat.le_succ _))
 have I0:Inv X pins σ H { s with heap:=(s.heap.push oI0).push (seqObj "list" #[] 0),toks:=s.toks }:=I.turnedL (fp:=[]) (fun b o _ e=>Heap.get?_push_of_some _ (Heap.get?_push_of_some _ e)) (fun b j=>by cases j)
 generalize (s.heap.push oI0).objs.size=S at*
 generalize hI:s.heap.objs.size=J at*
 generalize (s.heap.push oI0).push (seqObj "list" #[] 0)=h0 at*
 have hit:h0.IsListIter J l 0:=⟨_,gI,by rw[<-N],by rw[<-N];rfl⟩
 have zl:its.length=ds.length:=by rw[<-vr.length,rs.length]
 obtain⟨its',Y,Z,_⟩:=I0.list sq
 have U:its'.length=ds.length:=by rw[<-Y.length,rs.length]
 refine codeAny_builtin PySem.F.entry_min_loop ?_
 rw[Around.under_plainId PySem.F.plain_min_loop _]
 show wpAny _ X.A.in1 (seqItems? (.ref S) >>= _) _ _ _
 refine wpAny_bind (wpAny_seqItems gS rfl ?_)
 show wpAny _ X.A.in1 (tryCatch (pyNext (.ref J)) _ >>= _) _ _ _
 cases ds with
 |nil=>
  have hm:some d0=some dm:=hm
  cases hm
  refine wpAny_bind (wpAny_tryCatch (wpAny_pyNext_list_end (I.ok.hd hc) hit Z.isList (by simp at U ⊢;simp[U]) fun h' aa=>?_))
  refine wpAny_bind (wpAny_rule (wpAny_pure ?_))
  have I9:=I0.turnedL (h':=h') (fp:=[J]) (t':=s.toks) (fun b o j e=>aa b o (by simpa using j) e) (fun b j=>by rw[List.mem_singleton.mp j];exact fI)
  exact hQ x0 R F H _ I9 r0 (Ext.refl sf) p0
 |cons d ds=>
  obtain⟨x,hx,px⟩:=rs.get (i:=0) (d:=d) rfl
  obtain⟨v,hv,rx⟩:=Y.get hx
  unfold minD at hm
  dsimp only at hm
  cases hkd:mk d with
  |none=>rw[hkd]at hm;cases hm
  |some kd=>
   rw[hkd]at hm
   dsimp only at hm
   refine wpAny_bind (wpAny_tryCatch (wpAny_pyNext_list_item hit Z.isList (by simpa using hv) fun h1 a3 s1=>?_))
   have I1:=I0.turnedL (h':=h1) (t':=s.toks) (fp:=[J]) (fun b o j e=>s1.extBut b o (by simpa using j) e) (fun b j=>by rw[List.mem_singleton.mp j];exact fI)
   have ac:h1.get? S=some (seqObj "list" #[] 0):=s1.extBut _ _ (Ne.symm O) gS
   obtain⟨oI,eI,cI,dI⟩:=id a3
   have Ip:=I1.pin2 fI fS eI ac (fun v z=>by rw[dI]at z;cases z) (fun v z=>by cases z)
   show wpAny _ X.A.in1 (tryCatch (holding [v] (call (.ref q) [v])) _ >>= _) _ _ _
   refine wpAny_bind (wpAny_tryCatch (wpAny_holding (wpAny_mono (hk (pins++[(J,oI),(S,seqObj "list" #[] 0)]) σ H F _ x v d kd Ip sf px rx hkd) (fun w s2 hw=>?_) fun _ _ z=>z.elim)))
   obtain⟨y,F2,H2,I2,a5,x2,a6⟩:=hw
   have pI:=I2.pin (J,oI) (by simp)
   have pS:=I2.pin (S,seqObj "list" #[] 0) (by simp)
   have ae:Inv X pins σ H2 s2:=I2.unpinned
   have ad:FpOk X pins H2 J:=fI.now pI.2.1
   have a4:FpOk X pins H2 S:=fS.now pS.2.1
   have s3:=Heap.SameBut.update s2.heap S (Obj.mapSeq fun _=>#[v,w])
   obtain⟨c2,ab⟩:∃ c2,(s2.heap.update S (Obj.mapSeq fun _=>#[v,w])).get? S=some (seqObj "list" #[v,w] c2):=⟨_,get?_update_seq pS.1 fun _=>#[v,w]⟩
   show wpAny _ X.A.in1 (updateSeq S (fun _=>#[v,w]) >>= _) _ _ _
   refine wpAny_bind (wpAny_updateSeq pS.1 rfl ?_)
   rw[G]
   have I3:Inv X pins σ H2 { s2 with heap:=s2.heap.update S (Obj.mapSeq fun _=>#[v,w]),toks:=s2.toks }:=ae.turnedL (fp:=[S]) (fun b o j e=>(s3.2 b (by simpa using j)).trans e) (fun b j=>by rw[List.mem_singleton.mp j];exact a4)
   refine wpAny_pure ⟨plainId_quiet PySem.F.plain_min_loop _,zb3 hk hc hu (ds:=d::ds) (dm:=dm) O a9 a8 _ 0 H2 F2 H F _ x y v w d kd c2 _ rfl (by simp) I3 x2 (x2.hh.seq sq) (rs.mono x2.ff) ⟨oI,(s3.2 J O).trans pI.1,cI,dI⟩ ab ad a4 rx (px.mono x2.ff) a5 a6 hm fun x v F' H' s' a b c d=>hQ x v F' H' s' a b c d⟩
@[irreducible] noncomputable def yw8 (mk:D->Option D)(m:ML)(md:ME):ME:=fun ρ=>(m ρ).bind fun ds=>(md ρ).bind fun d0=>minD mk ds d0
theorem yw7 {mk:D->Option D}{m:ML}{i:ME}{ρ:Ro}{g:D}(h:yw8 mk m i ρ=some g):∃ ds d0,m ρ=some ds/\i ρ=some d0/\minD mk ds d0=some g:=by
 unfold yw8 at h
 cases h1:m ρ with
 |none=>rw[h1]at h;cases h
 |some d=>
  cases h2:i ρ with
  |none=>rw[h1,h2]at h;cases h
  |some e=>rw[h1,h2]at h;exact⟨d,e,rfl,rfl,h⟩
theorem yc9 {mk:D->Option D}{m:ML}{i:ME}{ρ:Ro}{ds:List D}{d0:D}(h1:m ρ=some ds)(h2:i ρ=some d0):yw8 mk m i ρ=minD mk ds d0:=by
 unfold yw8
 rw[h1,h2];rfl
theorem xr3 {q:Addr}{mk:D->Option D}{x:Str}{p pf kp z pos:Pos}{e ed:Expr}{m:ML}{md:ME}(hk:yt0 X (.ref q) mk)(hc:X.calm=true)(hu:X.A.units+64<cLine)(hg:Gl X "min")(hm:X.mg "min"=none)(Y:Gl X x)(U:X.mg x=some (.ref q))(ha:PB X e m)(hd:PD X ed md)
  (Z:(x==("__debug__":Str))=false:=by decide) (hs:starEach (e::[]) X.env=(false,eval e X.env)::starEach [] X.env:=by rfl):
  PD X (.Call (.Name "min" p) [e] [⟨some "key",.Name x pf,kp⟩,⟨some "default",ed,z⟩] pos) (yw8 mk m md):=by
 intro pins s σ H Q I h
 obtain⟨F0,H0,F,ρ,g,rl,em,q0⟩:=h
 obtain⟨ds,d0,h1,h2,h3⟩:=yw7 em
 refine wpAny_Call_Name_kw (O3 I hg hm PyProof.Rows.boot_min ?_ (by decide) (by decide))
 have A:=j7 ha pa_nil hs pos pins s σ H (fun vs H1=>∃ p xs F1,vs=[.ref p]/\Ext F H F1 H1/\SqL X.K H1 p xs/\Reps X.K F1 xs ds) I ⟨F0,H0,F,ρ,ds,rl,h1,fun p xs F1 H1 G s1 S=>⟨p,xs,F1,rfl,G,s1,S⟩⟩
 refine callWith_kw (thn A fun us s1 i=>?_) (by rw[hs];rfl) (by rw[hs];rfl)
 obtain⟨vs,H1,I1,S,p,xs,F1,ev,G,sq,rs⟩:=i
 subst ev
 obtain⟨u,rfl,ru⟩:=N9 S
 cases ru
 have B:=zs6 (nm:=some "key") (kpos:=kp) (zs7 (v:=.ref q) (pos:=pf) Y U rfl Z) (zs6 (nm:=some "default") (kpos:=z) hd yp2) pos pins s1 σ H1 (fun vs H2=>∃ y F2,vs=[.ref q,y]/\Ext F1 H1 F2 H2/\Rep X.K F2 y d0) I1 ⟨F0,H0,F1,ρ,d0,rl.go G,h2,fun y F2 H2 j R=>⟨y,F2,rfl,j,R⟩⟩
 refine thn B fun us s2 i=>?_
 obtain⟨vs,H2,I2,R,y,F2,ev,j,p0⟩:=i
 subst ev
 obtain⟨u1,u2,rfl,O,N⟩:=yf6 R
 cases O
 exact xq9 hk hc hu I2 j.fh (j.hh.seq sq) (rs.mono j.ff) N p0 h3 fun x v F' H' s' I' rx x3 px=>⟨x,H',I',rx,q0 x F' H' ((G.trans j).trans x3) px⟩
end
end
section
section
variable {prog:Program}{w:World}{A:Around}{E:Value->Shared->Prop}{s:Shared}
theorem E8:isSubtype (.type "range_iterator") (.type "reversed")=pure false:=by rw[isSubtype_type];kernel_rfl
noncomputable def zo3 (x left step:Int):Obj:={ cls:=.type "range_iterator",dict:=none,data:=.fields #[rawInt x,rawInt left,rawInt step],slots:=#[] }
theorem N5 {l:Addr}{j:Int}{t u v:Tok}{Q:Value->Shared->Prop}(i:IsRange s.heap l 0 j 1 t u v)(h1:-(2^62)<=j)(h2:j<2^62)
  (h:Q (.ref s.heap.objs.size) { s with heap:=s.heap.push (zo3 ((j.toNat:Int)-1) j.toNat (-1)) }):wpAny (model prog w) A (call (.builtin "range.__reversed__") [.ref l]) Q E s:=by
 have I:s.TypeIs (.ref l) "range":=⟨_,i,rfl⟩
 refine wpAny_call_entry F.slot_range_reversed I F.entry_range_reversed ?_ (F.args_range_reversed_1 _)
 have z:Builtin.Range.rangeSize 0 j 1=(j.toNat:Int):=by rw[rangeSize_one];split <;> omega
 unfold Builtin.«range.__reversed__»
 refine wpAny_bind (wpAny_of_eq (a:=Value.ref l) rfl ?_)
 unfold Builtin.Range.rangeFields
 refine wpAny_bind ?_
 refine wpAny_bind (wpAny_field i rfl (x:=.int 0 t) rfl ?_)
 refine wpAny_bind (wpAny_of_eq (a:=some (0:Int)) rfl ?_)
 refine wpAny_bind (wpAny_field i rfl (x:=.int j u) rfl ?_)
 refine wpAny_bind (wpAny_of_eq (a:=some j) rfl ?_)
 refine wpAny_bind (wpAny_field i rfl (x:=.int 1 v) rfl ?_)
 refine wpAny_bind (wpAny_of_eq (a:=some (1:Int)) rfl ?_)
 refine wpAny_pure ?_
 dsimp only
 rw[z]
 have G:(Builtin.Range.rangeFitsLong 0&&Builtin.Range.rangeFitsLong j&&Builtin.Range.rangeFitsLong 1&&Builtin.Range.rangeFitsLong (-1)&&Builtin.Range.rangeFitsLong (0-1)&&Builtin.Range.rangeFitsLong (j.toNat:Int))=true:=by
  simp only[Builtin.Range.rangeFitsLong,Bool.and_eq_true,decide_eq_true_eq]
  omega
 simp only[G,Bool.not_true,Bool.false_eq_true,if_false,if_true]
 have e:(0:Int)+((j.toNat:Int)-1)*1=(j.toNat:Int)-1:=by omega
 rw[e]
 exact wpAny_bind (wpAny_newObj_type (wpAny_pure ⟨_,rfl,h⟩))
theorem K1 {l:Addr}{j:Int}{t u v:Tok}{Q₁:Value->Shared->Prop}(i:IsRange s.heap l 0 j 1 t u v)(h1:-(2^62)<=j)(h2:j<2^62)
  (h:Q₁ (.ref s.heap.objs.size) { s with heap:=s.heap.push (zo3 ((j.toNat:Int)-1) j.toNat (-1)) }):
  codeAny (model prog w) A (.call (.builtin "reversed.__new__") ⟨[.type "reversed",.ref l],[]⟩) (wants Q₁ E) s:=by
 have z:s.TypeIs (.ref l) "range":=⟨_,i,rfl⟩
 refine codeAny_of_tree ?_
 show wpAny _ A.in1 (do checkBuiltinCall "reversed.__new__" ⟨[.type "reversed",.ref l],[]⟩;again (.builtin "reversed.__new__" ⟨[.type "reversed",.ref l],[]⟩)) _ _ s
 refine wpAny_bind (wpAny_of_eq (F.newCall_reversed_1 _) (wpAny_pure ⟨plainId_quiet F.plain_reversed_new _,codeAny_builtin F.entry_reversed_new ?_⟩))
 rw[Around.under_plainId F.plain_reversed_new _]
 unfold Builtin.«reversed.__new__»
 refine wpAny_bind (wpAny_of_eq (newClass_reversed _) ?_)
 try dsimp only
 refine wpAny_bind (wpAny_of_eq (a:=()) (by first|rfl|kernel_rfl) ?_)
 refine wpAny_bind (wpAny_of_eq (a:=()) (by first|rfl|kernel_rfl) ?_)
 try dsimp only
 refine wpAny_bind (wpAny_specialOf z F.slot_range_reversed.lookup ?_)
 try dsimp only
 refine wpAny_bind (wpAny_of_eq (F.slot_range_reversed.bind _) ?_)
 try dsimp only
 first
 |rw[if_neg (show ¬ ((Value.builtin "range.__reversed__"==Value.none)=true)from Bool.false_ne_true)]
 | (show wpAny _ _ (if (Value.builtin "range.__reversed__"==Value.none)=true then _ else _) _ _ _;rw[if_neg (show ¬ ((Value.builtin "range.__reversed__"==Value.none)=true)from Bool.false_ne_true)])
 refine wpAny_bind (wpAny_rule ?_)
 refine wpAny_bind (m:=runValue (.call (.builtin "range.__reversed__") ⟨[.ref l],[]⟩)) (show wpAny _ _ (call (.builtin "range.__reversed__") [.ref l]) _ _ _ from N5 i h1 h2 ?_)
 first
 |exact wpAny_pure h
 |exact wpAny_bind (wpAny_pure (wpAny_pure h))
theorem N4 {l:Addr}{j:Int}{t u v:Tok}{Q:Value->Shared->Prop}(z:IsRange s.heap l 0 j 1 t u v)(h1:-(2^62)<=j)(h2:j<2^62)
  (h:Q (.ref s.heap.objs.size) { s with heap:=s.heap.push (zo3 ((j.toNat:Int)-1) j.toNat (-1)) }):wpAny (model prog w) A (call (.type "reversed") [.ref l]) Q E s:=by
 refine callType_other (U:="range_iterator") (Q₁:=fun obj i=>obj= .ref s.heap.objs.size/\i={ s with heap:=s.heap.push (zo3 ((j.toNat:Int)-1) j.toNat (-1)) }) (by decide +kernel) F.create_reversed ⟨_,_,F.mro_reversed⟩ F.made_reversed E8 (F.typeCall_reversed_1 _) (K1 z h1 h2 ⟨rfl,rfl⟩) ?_
 rintro obj i ⟨rfl,rfl⟩
 exact⟨⟨_,Heap.get?_push_size _ rfl,rfl⟩,h⟩
end
noncomputable def Itdn (hi:Int)(n:Nat):It:=⟨fun i _=>i<n,fun i H x H'=>H'=H/\x= .int (hi-i),fun i _=>n<=i⟩
theorem yt9 {P:Program}{w:World}{K:PySem.W.Frag}{tg:Expr}(it:Addr)(lo:Int)(n:Nat):Turn P w K tg (Itdn lo n) [it] it (fun i h=>IsRangeIter h it (lo+(i:Nat)*(-1)) ((n:Int)-(i:Nat)) (-1)) where
 mem:=by simp
 obj:=fun i h st b j=>by
  have e:b=it:=by simpa using j
  subst e
  exact⟨_,st,fun v z=>by
   have z':Data.fields _=Data.cell v:=z
   cases z'⟩
 keep:=fun i h h' st k=>k it (by simp) _ st
 item:=by
  intro X S hw U R i pins s σ H E I N st O
  subst S hw U
  obtain⟨f0,f1,f2,f3,Z,Y⟩:=N it (by simp)
  have W:=Walks.range (prog:=X.prog) (w:=X.w) (I.ok.hd R) it lo (-1) n
  refine W.item i s _ _ O st fun v h' tk hv G kk=>?_
  obtain⟨t,rfl⟩:=hv
  have I1:Inv X pins σ H { s with heap:=h',toks:=tk }:=I.turned (fun b o j e=>kk b o (by simpa using j) e) f0 f1 f3 Z Y
  refine⟨_,rfl,xp9 (s:={ s with heap:=h',toks:=tk }) (n:="range_iterator") G rfl rfl (by decide) ⟨.int (lo-i),H,I1,⟨t,?_⟩,⟨rfl,rfl⟩,G,fun b j=>(N b j).1⟩⟩
  rw[show lo+(i:Int)*(-1)=lo-i by omega]
 done:=by
  intro X S hw U R i pins s σ H E I N st O
  subst S hw U
  obtain⟨f0,f1,f2,f3,Z,Y⟩:=N it (by simp)
  exact wpAny_pyNext_range_end (I.ok.hd R) st (by have:n<=i:=O;omega) fun h' eb=>⟨rfl,I.turned (t':=s.toks) (fun b o j e=>eb b o j e) f0 f1 f3 Z Y⟩
 self:=fun _ _ _ _ _ st h=>wpAny_pyIter_rangeiter st h
section
variable {X:Cx}
noncomputable def zw5 (n:Nat):List D:=(List.range n).map fun(i:Nat)=>D.int ((n:Int)-1-(i:Int))
theorem F9 (n:Nat):(zw5 n).length=n:=by unfold zw5;simp
theorem ya9 {K:W.Frag}{F:Hp}{n:Nat}:ItD K F (Itdn ((n:Int)-1) n) (zw5 n) where
 go:=fun i F1 H1 a b hi=>by rw[F9]at hi;exact hi
 yld:=fun i F1 H1 x H2 d a b e y=>by
  obtain⟨rfl,rfl⟩:=y
  unfold zw5 at e
  rw[getElem?_map]at e
  have hi:i<n:=by
   rcases Nat.lt_or_ge i n with h|h
   .exact h
   .rw[getElem?_eq_none (by simpa using h)]at e;cases e
  rw[getElem?_range hi]at e
  cases e
  exact⟨F1,.refl b,.int _⟩
 stop:=fun F1 H1 a b=>by rw[F9];exact Nat.le_refl n
noncomputable def rngD:List D->Option (List D)
 |[.int j]=>if okR j=true then some (zw5 j.toNat)else none
 |_=>none
theorem A3 {tg a:Expr}{m:ML}{p p2 pos i:Pos}(hg:Gl X "reversed")(hm:X.mg "reversed"=none)(Y:Gl X "range")(U:X.mg "range"=none)(ha:PAs X [a] m)(he:starEach [a] X.env=(false,eval a X.env)::starEach [] X.env:=by rfl)
  (z:∀ pos,(backTo pos (starEach [] X.env)).any (·.1)=false:=by intro _;rfl)
  (hs:starEach (Expr.Call (.Name "range" p2) [a] [] i::[]) X.env=(false,eval (Expr.Call (.Name "range" p2) [a] [] i) X.env)::starEach [] X.env:=by rfl):
  PId X tg (.Call (.Name "reversed" p) [.Call (.Name "range" p2) [a] [] i] [] pos) (g9 rngD m):=by
 intro pins s σ H R I h
 obtain⟨F0,H0,F,ρ,its,rl,e,q⟩:=h
 obtain⟨ds,h1,h2⟩:=T2 e
 have A:=j7 (A5 yh3 Y U boot_range ha (by decide) (by decide) he (z _)) pa_nil hs pos pins s σ H (fun vs H1=>∃ p j F1 H2,vs=[.ref p]/\ds=[.int j]/\H2 p=none/\H1=upd H2 p (.rng 0 j)/\Ext F H F1 H2) I ⟨F0,H0,F,ρ,ds,rl,h1,fun vs F1 H1 N S=>by
  unfold rngD at h2
  split at h2
  .rename_i j
   cases S with
   |cons r rr=>
    cases rr;cases r
    exact⟨j,rfl,fun p hp=>⟨p,j,F1,H1,rfl,rfl,hp,rfl,N⟩⟩
  .cases h2⟩
 refine Call_ (O3 I hg hm boot_reversed (PyProof.Rows.callWith_type1 (thn A fun us s1 G=>?_) hs (z _)))
 obtain⟨vs,H1,O,S,q1⟩:=G
 obtain⟨l,j,F1,H2,ev,ed,hn,eH,N⟩:=q1
 subst ev ed eH
 obtain⟨u,rfl,ru⟩:=N9 S
 cases ru
 have h2:(if okR j=true then some (zw5 j.toNat)else none)=some its:=h2
 split at h2
 case isFalse=>cases h2
 rename_i hk
 cases h2
 unfold okR at hk
 simp only[Bool.and_eq_true,decide_eq_true_eq]at hk
 obtain⟨t,u,v,eo⟩:=O.hok l _ x9
 refine N4 (j:=j) eo hk.1 hk.2 ?_
 have hit:IsRangeIter (s1.heap.push (zo3 ((j.toNat:Int)-1) j.toNat (-1))) s1.heap.objs.size ((j.toNat:Int)-1) j.toNat (-1):=Heap.get?_push_size _ rfl
 refine wpAny_pyIter_rangeiter hit ?_
 have Z:Ext F H F1 (upd H2 l (.rng 0 j)):=N.trans (Ext.own N.fh hn)
 refine⟨s1.heap.objs.size,[s1.heap.objs.size],_,_,_,rfl,O.kept (t':=s1.toks) fun b o e=>Heap.get?_push_of_some _ e,yt9 _ ((j.toNat:Int)-1) j.toNat,?_,fun b hb=>?_,q _ F1 _ Z ya9⟩
 .have e1:((j.toNat:Int)-1)+((0:Nat):Int)*(-1)=(j.toNat:Int)-1:=by simp
  have e2:((j.toNat:Nat):Int)-((0:Nat):Int)=j.toNat:=by simp
  show IsRangeIter _ _ (((j.toNat:Int)-1)+((0:Nat):Int)*(-1)) (((j.toNat:Nat):Int)-((0:Nat):Int)) (-1)
  rw[e1,e2]
  exact hit
 .have e:b=s1.heap.objs.size:=by simpa using hb
  subst e
  exact O.fpOk (Nat.le_refl _) (O.hok.fresh (Nat.le_refl _))
end
end
section
section
variable {X:Cx}{a b:Expr}{pos:Pos}
end
end
section
section
variable {X:Cx}{e:Expr}{pos:Pos}{es:List Expr}{E:XK}{mf:MG}{st:Stmt}{na:MEm}
end
section
variable {X:Cx}{a b:Expr}{pos:Pos}
noncomputable def zo6 (n:Nat)(k:Int):Bool:=decide (-(2^62)<=k)&&decide (k<2^62)&&decide (n*k.toNat<=sizeLine)
@[irreducible] noncomputable def mrep (x:ML)(y:ME):ML:=fun ρ=>(x ρ).bind fun ds=>match y ρ with
 |some (.int k)=>if zo6 ds.length k=true then some (List.replicate k.toNat ds).flatten else none
 |_=>none
theorem ym4 {x:ML}{y:ME}{ρ:Ro}{gs:List D}(h:mrep x y ρ=some gs):∃ ds k,x ρ=some ds/\y ρ=some (.int k)/\zo6 ds.length k=true/\gs=(List.replicate k.toNat ds).flatten:=by
 unfold mrep at h
 cases h1:x ρ with
 |none=>rw[h1]at h;cases h
 |some ds=>
  rw[h1,Option.bind_some]at h
  split at h
  .rename_i k h2
   split at h
   .rename_i hk
    exact⟨ds,k,rfl,h2,hk,(Option.some.inj h).symm⟩
   .cases h
  .cases h
theorem ym5 {x:ML}{y:ME}{ρ:Ro}{ds:List D}{k:Int}(h1:x ρ=some ds)(h2:y ρ=some (.int k))(hk:zo6 ds.length k=true):mrep x y ρ=some (List.replicate k.toNat ds).flatten:=by
 unfold mrep
 rw[h1,Option.bind_some,h2]
 simp only[hk,if_true]
theorem zo5 {K:W.Frag}{F:Hp}{xs:List V}{ds:List D}(r:Reps K F xs ds):∀ k:Nat,Reps K F (List.replicate k xs).flatten (List.replicate k ds).flatten
 |0=>.nil
 |k+1=>by
  rw[replicate_succ,replicate_succ,flatten_cons,flatten_cons]
  exact r.append (zo5 r k)
theorem zc6 {x:ML}{y:ME}(ha:PF X a x)(R:PD X b y):PF X (.BinOp a .Mult b pos) (mrep x y):=(xr0 xi5 ha R).imp fun σ H Q j=>by
 obtain⟨F0,H0,F,ρ,g,I,e,q⟩:=j
 obtain⟨ds,k,h1,h2,hk,rfl⟩:=ym4 e
 unfold zo6 at hk
 simp only[Bool.and_eq_true,decide_eq_true_eq]at hk
 refine⟨F0,H0,F,ρ,ds,I,h1,fun p xs F1 H1 G n1 U S N=>⟨F0,H0,F1,ρ,.int k,I.go G,h2,fun v F2 H2 i O=>?_⟩⟩
 cases O
 refine⟨p,k,xs,rfl,rfl,i.hh _ _ S,by omega,by omega,by rw[N.length];exact hk.2,fun w hw=>?_⟩
 have z:=G.trans i
 exact q w _ F2 _ (z.trans (Ext.own i.fh hw)) (z.hh.free hw) (i.fh.free hw) x9 (zo5 (N.mono i.ff) k.toNat)
end
end
section
noncomputable def minN (mk:D->Option D)(ds:List D):Option D:=match ds with
 |[]=>none
 |d::ds=>(match mk d with |some kd=>minF mk ds d kd|none=>none)
section
variable {X:Cx}{pins:List (Addr×Obj)}{σ:St}
set_option maxHeartbeats 8000000 in
theorem yb1 {q:Addr}{mk:D->Option D}(hk:yt0 X (.ref q) mk)(hc:X.calm=true)(hu:X.A.units+64<cLine){l:Addr}{xs:List V}{ds:List D}{dm:D}{H F:Hp}{s:Shared}{E:Value->Shared->Prop}{Q:Value->Shared->Prop}
  (I:Inv X pins σ H s) (sf:Same F H) (sq:SqL X.K H l xs) (rs:Reps X.K F xs ds) (hm:minN mk ds=some dm)
  (hQ:∀ x v F' H' s',Inv X pins σ H' s'->RelV x v->Ext F H F' H'->Rep X.K F' x dm->Q v s'):
  wpAny (model X.prog X.w) X.A (call (.builtin "min") [.ref l] [(Str.ofString "key",.ref q)]) Q E s:=by
 have j:(toString "min"++toString ".loop":String)="min.loop":=by decide
 obtain⟨its,vr,pl,_⟩:=I.list sq
 have U:=pl.isList
 obtain⟨ol,a5,_⟩:=id U
 have Y:l<s.heap.objs.size:=Heap.lt_size a5
 refine kmk_tree PySem.F.kind_min PySem.F.plain_min PySem.F.entry_min (kmk_min_key _ _) ?_
 show wpAny _ X.A.in1 (Builtin.Builtins.bindParams "min" ["key","default"] 0 ⟨[],[(Str.ofString "key",.ref q)]⟩ >>= _) _ _ s
 refine wpAny_bind (wpAny_of_eq (show Builtin.Builtins.bindParams "min" ["key","default"] 0 ⟨[],[(Str.ofString "key",.ref q)]⟩=pure [some (.ref q),none]from rfl) ?_)
 refine wpAny_bind (wpAny_pure ?_)
 refine wpAny_bind (wpAny_pyIter_list U ?_)
 refine wpAny_bind (wpAny_newList ?_ (Nat.zero_le _))
 rw[j]
 refine wpAny_pure ⟨plainId_quiet PySem.F.plain_min_loop _,?_⟩
 generalize N:({ cls:=.type "list_iterator",data:=.fields #[.ref l,.int 0 0] }:Obj)=oI0
 have hS:(s.heap.push oI0).objs.size=s.heap.objs.size+1:=size_push' ..
 have a7:l≠s.heap.objs.size:=Nat.ne_of_lt Y
 have a6:l≠(s.heap.push oI0).objs.size:=by rw[hS];exact Nat.ne_of_lt (Nat.lt_succ_of_lt Y)
 have O:s.heap.objs.size≠(s.heap.push oI0).objs.size:=by rw[hS];exact Nat.ne_of_lt (Nat.lt_succ_self _)
 have gI:((s.heap.push oI0).push (seqObj "list" #[] 0)).get? s.heap.objs.size=some oI0:=Heap.get?_push_of_some _ (Heap.get?_push_size _ (by rw[<-N];rfl))
 have gS:((s.heap.push oI0).push (seqObj "list" #[] 0)).get? (s.heap.push oI0).objs.size=some (seqObj "list" #[] 0):=Heap.get?_push_size _ rfl
 have fI:FpOk X pins H s.heap.objs.size:=I.fpOk (Nat.le_refl _) (I.hok.fresh (Nat.le_refl _))
 have fS:FpOk X pins H (s.heap.push oI0).objs.size:=I.fpOk (by rw[hS];exact Nat.le_succ _) (I.hok.fresh (by rw[hS];exact Nat.le_succ _))
 have I0:Inv X pins σ H { s with heap:=(s.heap.push oI0).push (seqObj "list" #[] 0),toks:=s.toks }:=I.turnedL (fp:=[]) (fun b o _ e=>Heap.get?_push_of_some _ (Heap.get?_push_of_some _ e)) (fun b G=>by cases G)
 generalize (s.heap.push oI0).objs.size=S at*
 generalize hI:s.heap.objs.size=J at*
 generalize (s.heap.push oI0).push (seqObj "list" #[] 0)=h0 at*
 have hit:h0.IsListIter J l 0:=⟨_,gI,by rw[<-N],by rw[<-N];rfl⟩
 have zl:its.length=ds.length:=by rw[<-vr.length,rs.length]
 obtain⟨its',R,a4,_⟩:=I0.list sq
 have ac:its'.length=ds.length:=by rw[<-R.length,rs.length]
 refine codeAny_builtin PySem.F.entry_min_loop ?_
 rw[Around.under_plainId PySem.F.plain_min_loop _]
 show wpAny _ X.A.in1 (seqItems? (.ref S) >>= _) _ _ _
 refine wpAny_bind (wpAny_seqItems gS rfl ?_)
 show wpAny _ X.A.in1 (tryCatch (pyNext (.ref J)) _ >>= _) _ _ _
 cases ds with
 |nil=>cases hm
 |cons d ds=>
  obtain⟨x,hx,px⟩:=rs.get (i:=0) (d:=d) rfl
  obtain⟨v,hv,rx⟩:=R.get hx
  unfold minN at hm
  dsimp only at hm
  cases hkd:mk d with
  |none=>rw[hkd]at hm;cases hm
  |some kd=>
   rw[hkd]at hm
   dsimp only at hm
   refine wpAny_bind (wpAny_tryCatch (wpAny_pyNext_list_item hit a4.isList (by simpa using hv) fun h1 Z s1=>?_))
   have I1:=I0.turnedL (h':=h1) (t':=s.toks) (fp:=[J]) (fun b o G e=>s1.extBut b o (by simpa using G) e) (fun b G=>by rw[List.mem_singleton.mp G];exact fI)
   have a9:h1.get? S=some (seqObj "list" #[] 0):=s1.extBut _ _ (Ne.symm O) gS
   obtain⟨oI,eI,cI,dI⟩:=id Z
   have Ip:=I1.pin2 fI fS eI a9 (fun v z=>by rw[dI]at z;cases z) (fun v z=>by cases z)
   show wpAny _ X.A.in1 (tryCatch (holding [v] (call (.ref q) [v])) _ >>= _) _ _ _
   refine wpAny_bind (wpAny_tryCatch (wpAny_holding (wpAny_mono (hk (pins++[(J,oI),(S,seqObj "list" #[] 0)]) σ H F _ x v d kd Ip sf px rx hkd) (fun w s2 hw=>?_) fun _ _ z=>z.elim)))
   obtain⟨y,F2,H2,I2,a2,x2,a3⟩:=hw
   have pI:=I2.pin (J,oI) (by simp)
   have pS:=I2.pin (S,seqObj "list" #[] 0) (by simp)
   have ab:Inv X pins σ H2 s2:=I2.unpinned
   have aa:FpOk X pins H2 J:=fI.now pI.2.1
   have a1:FpOk X pins H2 S:=fS.now pS.2.1
   have s3:=Heap.SameBut.update s2.heap S (Obj.mapSeq fun _=>#[v,w])
   obtain⟨c2,a8⟩:∃ c2,(s2.heap.update S (Obj.mapSeq fun _=>#[v,w])).get? S=some (seqObj "list" #[v,w] c2):=⟨_,get?_update_seq pS.1 fun _=>#[v,w]⟩
   show wpAny _ X.A.in1 (updateSeq S (fun _=>#[v,w]) >>= _) _ _ _
   refine wpAny_bind (wpAny_updateSeq pS.1 rfl ?_)
   rw[j]
   have I3:Inv X pins σ H2 { s2 with heap:=s2.heap.update S (Obj.mapSeq fun _=>#[v,w]),toks:=s2.toks }:=ab.turnedL (fp:=[S]) (fun b o G e=>(s3.2 b (by simpa using G)).trans e) (fun b G=>by rw[List.mem_singleton.mp G];exact a1)
   refine wpAny_pure ⟨plainId_quiet PySem.F.plain_min_loop _,zb3 hk hc hu (ds:=d::ds) (dm:=dm) O a7 a6 _ 0 H2 F2 H F _ x y v w d kd c2 _ rfl (by simp) I3 x2 (x2.hh.seq sq) (rs.mono x2.ff) ⟨oI,(s3.2 J O).trans pI.1,cI,dI⟩ a8 aa a1 rx (px.mono x2.ff) a2 a3 hm fun x v F' H' s' a b c d=>hQ x v F' H' s' a b c d⟩
@[irreducible] noncomputable def ym6 (mk:D->Option D)(m:ML):ME:=fun ρ=>(m ρ).bind fun ds=>minN mk ds
theorem yc8 {mk:D->Option D}{m:ML}{ρ:Ro}{ds:List D}(h1:m ρ=some ds):ym6 mk m ρ=minN mk ds:=by
 unfold ym6
 rw[h1];rfl
theorem xr2 {q:Addr}{mk:D->Option D}{x:Str}{p U kp pos:Pos}{e:Expr}{m:ML}(hk:yt0 X (.ref q) mk)(hc:X.calm=true)(hu:X.A.units+64<cLine)(hg:Gl X "min")(hm:X.mg "min"=none)(O:Gl X x)(N:X.mg x=some (.ref q))(ha:PB X e m)
  (R:(x==("__debug__":Str))=false:=by decide) (hs:starEach (e::[]) X.env=(false,eval e X.env)::starEach [] X.env:=by rfl):
  PD X (.Call (.Name "min" p) [e] [⟨some "key",.Name x U,kp⟩] pos) (ym6 mk m):=by
 intro pins s σ H Q I h
 obtain⟨F0,H0,F,ρ,g,rl,em,q0⟩:=h
 unfold ym6 at em
 cases h1:m ρ with
 |none=>rw[h1]at em;cases em
 |some ds=>
  rw[h1,Option.bind_some]at em
  refine wpAny_Call_Name_kw (O3 I hg hm PyProof.Rows.boot_min ?_ (by decide) (by decide))
  have A:=j7 ha pa_nil hs pos pins s σ H (fun vs H1=>∃ p xs F1,vs=[.ref p]/\Ext F H F1 H1/\SqL X.K H1 p xs/\Reps X.K F1 xs ds) I ⟨F0,H0,F,ρ,ds,rl,h1,fun p xs F1 H1 j s1 G=>⟨p,xs,F1,rfl,j,s1,G⟩⟩
  refine callWith_kw (thn A fun us s1 i=>?_) (by rw[hs];rfl) (by rw[hs];rfl)
  obtain⟨vs,H1,I1,G,p,xs,F1,S,j,Z,rs⟩:=i
  subst S
  obtain⟨u,rfl,ru⟩:=N9 G
  cases ru
  have B:=zs6 (nm:=some "key") (kpos:=kp) (zs7 (v:=.ref q) (pos:=U) O N rfl R) yp2 pos pins s1 σ H1 (fun vs H2=>vs=[.ref q]/\H2=H1) I1 ⟨rfl,rfl⟩
  refine thn B fun us s2 i=>?_
  obtain⟨vs,H2,I2,r2,S,eH⟩:=i
  subst S eH
  obtain⟨u1,rfl,z⟩:=N9 r2
  cases z
  exact yb1 hk hc hu I2 j.fh Z rs em fun x v F' H' s' I' rx Y px=>⟨x,H',I',rx,q0 x F' H' (j.trans Y) px⟩
end
end
section
noncomputable def gtI:D->D->Option Bool
 | .int i,.int j=>some (decide (i>j))
 |_,_=>none
theorem xp8 {d e:D}{k:Bool}(h:gtI d e=some k):∃ i j,d= .int i/\e= .int j/\k=decide (i>j):=by
 cases d with
 |int i=>
  cases e with
  |int j=>cases h;exact⟨i,j,rfl,rfl,rfl⟩
  |_=>cases h
 |_=>cases h
theorem wy0 {K:W.Frag}{F F':Hp}{A:Around}{s:Shared}{x y:V}{v u:Value}{d e:D}{k:Bool}(G:Rep K F x d)(z:Rep K F' y e)(N:RelV x v)(I:RelV y u)(h:gtI d e=some k)(prog:Program)(w:World)(E:Value->Shared->Prop)(Q:Value->Shared->Prop)(O:Q (.bool k) s):wpAny (model prog w) A (richCompare .Gt v u) Q E s:=by
 obtain⟨i,j,rfl,rfl,rfl⟩:=xp8 h
 obtain rfl:=G.i'
 obtain rfl:=z.i'
 obtain⟨t,rfl⟩:=N
 obtain⟨t',rfl⟩:=I
 exact CmpOf.ints_gt (prog:=prog) (w:=w) (A:=A) (P:=fun n v=>∃ t,v= .int (if n=1 then i else j) t) (fun n=>if n=1 then i else j) (fun i v h=>h) 1 0 _ _ _ _ _ ⟨t,rfl⟩ ⟨t',rfl⟩ O
section
variable {X:Cx}{pins:List (Addr×Obj)}{σ:St}
end
end
section
section
variable {X:Cx}{pins:List (Addr×Obj)}{σ:St}
end
section
variable {X:Cx}
end
end
section
theorem yu6 (a u:Value):argsOk "max" ⟨[a],[(Str.ofString "default",u)]⟩:=by unfold argsOk;kernel_rfl
noncomputable def maxP:List D->D->Option D
 |[],b=>some b
 |d::ds,b=>(match gtI d b with |some true=>maxP ds d|some false=>maxP ds b|none=>none)
noncomputable def maxE (ds:List D)(d0:D):Option D:=match ds with
 |[]=>some d0
 |d::ds=>maxP ds d
section
variable {X:Cx}{pins:List (Addr×Obj)}{σ:St}
set_option maxHeartbeats 8000000 in
theorem yk3 (hc:X.calm=true)(hu:X.A.units+64<cLine){l I S:Addr}{xs:List V}{ds:List D}{kw:List (Str×Value)}{dm:D}(Y:I≠S)(a7:l≠I)(a6:l≠S):
  ∀(r j:Nat)(H F H0 F0:Hp)(s:Shared)(xb:V)(z:Value)(Z:D)(c:Nat)(R:Result->Shared->Prop),
   ds.length-(j+1)=r->j+1<=ds.length->Inv X pins σ H s->Ext F0 H0 F H->SqL X.K H l xs->Reps X.K F xs ds->s.heap.IsListIter I l (j+1)->s.heap.get? S=some (seqObj "list" #[z,z] c)->FpOk X pins H I->FpOk X pins H S->
   RelV xb z->Rep X.K F xb Z->maxP (ds.drop (j+1)) Z=some dm->
   (∀ x v F' H' s',Inv X pins σ H' s'->RelV x v->Ext F0 H0 F' H'->Rep X.K F' x dm->R (.ok (.ret v)) s')->
   codeAny (model X.prog X.w) X.A (.builtin "max.loop" ⟨[.ref I,.none,.ref S],kw⟩) R s:=by
 have G:(toString "max"++toString ".loop":String)="max.loop":=by decide
 intro r
 induction r with
 |zero=>
  intro j H F H0 F0 s xb z Z c R hr hj I' ext sq rs hit hS fI fS rb pb hm hR
  have a3:j+1=ds.length:=by omega
  obtain⟨its,vr,pl,_⟩:=I'.list sq
  have zl:its.length=ds.length:=by rw[<-vr.length,rs.length]
  rw[a3,drop_length]at hm
  have hm:some Z=some dm:=hm
  cases hm
  refine codeAny_builtin PySem.F.entry_max_loop ?_
  rw[Around.under_plainId PySem.F.plain_max_loop _]
  show wpAny _ X.A.in1 (seqItems? (.ref S) >>= _) _ _ _
  refine wpAny_bind (wpAny_seqItems hS rfl ?_)
  show wpAny _ X.A.in1 (tryCatch (pyNext (.ref I)) _ >>= _) _ _ _
  refine wpAny_bind (wpAny_tryCatch (wpAny_pyNext_list_end (I'.ok.hd hc) hit pl.isList (by simp;omega) fun h' a1=>?_))
  have a5:h'.get? S=some (seqObj "list" #[z,z] c):=a1 S _ (Ne.symm Y) hS
  have s1:=Heap.SameBut.update h' S (Obj.mapSeq fun _=>(#[]:Array Value))
  show wpAny _ X.A.in1 (updateSeq S (fun _=>#[]) >>= _) _ _ _
  refine wpAny_bind ?_
  refine wpAny_updateSeq a5 rfl (wpAny_bind (wpAny_letGo (wpAny_pure ?_)))
  have I9:Inv X pins σ H { s with heap:=h'.update S (Obj.mapSeq fun _=>(#[]:Array Value)),toks:=s.toks }:=I'.turnedL (fp:=[I,S]) (t':=s.toks) (fun b o i e=>by
   simp only[mem_cons,not_mem_nil,or_false,not_or]at i
   exact(s1.2 b i.2).trans (a1 b o i.1 e)) (fun b i=>by
   simp only[mem_cons,not_mem_nil,or_false]at i
   rcases i with rfl|rfl <;> assumption)
  exact hR xb z F H _ I9 rb ext pb
 |succ r ih=>
  intro j H F H0 F0 s xb z Z c R hr hj I' ext sq rs hit hS fI fS rb pb hm hR
  have O:j+1<ds.length:=by omega
  obtain⟨its,vr,pl,_⟩:=I'.list sq
  have zl:its.length=ds.length:=by rw[<-vr.length,rs.length]
  obtain⟨d,hd⟩:∃ d,ds[j+1]? =some d:=⟨_,getElem?_eq_getElem O⟩
  obtain⟨x,hx,px⟩:=rs.get hd
  obtain⟨v,hv,rx⟩:=vr.get hx
  rw[K0 hd]at hm
  unfold maxP at hm
  refine codeAny_builtin PySem.F.entry_max_loop ?_
  rw[Around.under_plainId PySem.F.plain_max_loop _]
  show wpAny _ X.A.in1 (seqItems? (.ref S) >>= _) _ _ _
  refine wpAny_bind (wpAny_seqItems hS rfl ?_)
  show wpAny _ X.A.in1 (tryCatch (pyNext (.ref I)) _ >>= _) _ _ _
  refine wpAny_bind (wpAny_tryCatch (wpAny_pyNext_list_item hit pl.isList (by simpa using hv) fun h1 N s1=>?_))
  have I1:Inv X pins σ H { s with heap:=h1,toks:=s.toks }:=I'.turnedL (fp:=[I]) (fun b o i e=>s1.extBut b o (by simpa using i) e) (fun b i=>by rw[List.mem_singleton.mp i];exact fI)
  have U:h1.get? S=some (seqObj "list" #[z,z] c):=s1.extBut _ _ (Ne.symm Y) hS
  cases hlt8:gtI d Z with
  |none=>rw[hlt8]at hm;cases hm
  |some bt=>
   rw[hlt8]at hm
   have a2:=wy0 (A:=X.A.in1) (s:={ s with heap:=h1,toks:=s.toks }) px pb rx rb hlt8
   refine wpAny_bind (wpAny_pure ?_)
   show wpAny _ X.A.in1 (tryCatch (holding [v,v] (richCompare .Gt v z >>= _)) _ >>= _) _ _ _
   refine wpAny_bind (wpAny_tryCatch (wpAny_holding (wpAny_bind (a2 X.prog X.w _ _ ?_))))
   refine wpAny_bind (wpAny_holding (wpAny_truthy_bool ?_))
   refine wpAny_bind (wpAny_letGo (wpAny_pure ?_))
   cases bt with
   |true=>
    have s3:=Heap.SameBut.update h1 S (Obj.mapSeq fun _=>#[v,v])
    obtain⟨c2,a4⟩:∃ c2,(h1.update S (Obj.mapSeq fun _=>#[v,v])).get? S=some (seqObj "list" #[v,v] c2):=⟨_,get?_update_seq U fun _=>#[v,v]⟩
    simp only[if_true]
    refine wpAny_bind ?_
    refine wpAny_updateSeq U rfl (wpAny_bind (wpAny_letGo ?_))
    rw[G]
    have I3:=I1.turnedL (h':=h1.update S (Obj.mapSeq fun _=>#[v,v])) (t':=s.toks) (fp:=[S]) (fun b o i e=>(s3.2 b (by simpa using i)).trans e) (fun b i=>by rw[List.mem_singleton.mp i];exact fS)
    refine wpAny_pure ⟨plainId_quiet PySem.F.plain_max_loop _,ih (j+1) H F H0 F0 _ x v d c2 R (by omega) O I3 ext sq rs (N.at fun o e=>(s3.2 I Y).trans e) a4 fI fS rx px hm hR⟩
   |false=>
    simp only[Bool.false_eq_true,if_false]
    refine wpAny_bind (wpAny_letGo ?_)
    rw[G]
    refine wpAny_pure ⟨plainId_quiet PySem.F.plain_max_loop _,ih (j+1) H F H0 F0 _ xb z Z c R (by omega) O I1 ext sq rs N U fI fS rb pb hm hR⟩
set_option maxHeartbeats 8000000 in
theorem yb5 (hc:X.calm=true)(hu:X.A.units+64<cLine){l:Addr}{xs:List V}{ds:List D}{dm d0:D}{H F:Hp}{s:Shared}{x0:V}{O:Value}{E:Value->Shared->Prop}{Q:Value->Shared->Prop}
  (I:Inv X pins σ H s) (sf:Same F H) (sq:SqL X.K H l xs) (rs:Reps X.K F xs ds) (r0:RelV x0 O) (p0:Rep X.K F x0 d0) (hm:maxE ds d0=some dm)
  (hQ:∀ x v F' H' s',Inv X pins σ H' s'->RelV x v->Ext F H F' H'->Rep X.K F' x dm->Q v s'):
  wpAny (model X.prog X.w) X.A (call (.builtin "max") [.ref l] [(Str.ofString "default",O)]) Q E s:=by
 have z:(toString "max"++toString ".loop":String)="max.loop":=by decide
 obtain⟨its,vr,pl,_⟩:=I.list sq
 have Z:=pl.isList
 obtain⟨ol,a4,_⟩:=id Z
 have a1:l<s.heap.objs.size:=Heap.lt_size a4
 refine kmk_tree PySem.F.kind_max PySem.F.plain_max PySem.F.entry_max (yu6 _ _) ?_
 show wpAny _ X.A.in1 (Builtin.Builtins.bindParams "max" ["key","default"] 0 ⟨[],[(Str.ofString "default",O)]⟩ >>= _) _ _ s
 refine wpAny_bind (wpAny_of_eq (show Builtin.Builtins.bindParams "max" ["key","default"] 0 ⟨[],[(Str.ofString "default",O)]⟩=pure [none,some O]from rfl) ?_)
 refine wpAny_bind (wpAny_pure ?_)
 refine wpAny_bind (wpAny_pyIter_list Z ?_)
 refine wpAny_bind (wpAny_newList ?_ (Nat.zero_le _))
 rw[z]
 refine wpAny_pure ⟨plainId_quiet PySem.F.plain_max_loop _,?_⟩
 generalize G:({ cls:=.type "list_iterator",data:=.fields #[.ref l,.int 0 0] }:Obj)=oI0
 have hS:(s.heap.push oI0).objs.size=s.heap.objs.size+1:=size_push' ..
 have a6:l≠s.heap.objs.size:=Nat.ne_of_lt a1
 have a5:l≠(s.heap.push oI0).objs.size:=by rw[hS];exact Nat.ne_of_lt (Nat.lt_succ_of_lt a1)
 have N:s.heap.objs.size≠(s.heap.push oI0).objs.size:=by rw[hS];exact Nat.ne_of_lt (Nat.lt_succ_self _)
 have gI:((s.heap.push oI0).push (seqObj "list" #[] 0)).get? s.heap.objs.size=some oI0:=Heap.get?_push_of_some _ (Heap.get?_push_size _ (by rw[<-G];rfl))
 have gS:((s.heap.push oI0).push (seqObj "list" #[] 0)).get? (s.heap.push oI0).objs.size=some (seqObj "list" #[] 0):=Heap.get?_push_size _ rfl
 have fI:FpOk X pins H s.heap.objs.size:=I.fpOk (Nat.le_refl _) (I.hok.fresh (Nat.le_refl _))
 have fS:FpOk X pins H (s.heap.push oI0).objs.size:=I.fpOk (by rw[hS];exact Nat.le_succ _) (I.hok.fresh (by rw[hS];exact Nat.le_succ _))
 have I0:Inv X pins σ H { s with heap:=(s.heap.push oI0).push (seqObj "list" #[] 0),toks:=s.toks }:=I.turnedL (fp:=[]) (fun b o _ e=>Heap.get?_push_of_some _ (Heap.get?_push_of_some _ e)) (fun b j=>by cases j)
 generalize (s.heap.push oI0).objs.size=S at*
 generalize hI:s.heap.objs.size=J at*
 generalize (s.heap.push oI0).push (seqObj "list" #[] 0)=h0 at*
 have hit:h0.IsListIter J l 0:=⟨_,gI,by rw[<-G],by rw[<-G];rfl⟩
 have zl:its.length=ds.length:=by rw[<-vr.length,rs.length]
 obtain⟨its',U,Y,_⟩:=I0.list sq
 have R:its'.length=ds.length:=by rw[<-U.length,rs.length]
 refine codeAny_builtin PySem.F.entry_max_loop ?_
 rw[Around.under_plainId PySem.F.plain_max_loop _]
 show wpAny _ X.A.in1 (seqItems? (.ref S) >>= _) _ _ _
 refine wpAny_bind (wpAny_seqItems gS rfl ?_)
 show wpAny _ X.A.in1 (tryCatch (pyNext (.ref J)) _ >>= _) _ _ _
 cases ds with
 |nil=>
  have hm:some d0=some dm:=hm
  cases hm
  refine wpAny_bind (wpAny_tryCatch (wpAny_pyNext_list_end (I.ok.hd hc) hit Y.isList (by simp at R ⊢;simp[R]) fun h' a7=>?_))
  refine wpAny_bind (wpAny_rule (wpAny_pure ?_))
  have I9:=I0.turnedL (h':=h') (fp:=[J]) (t':=s.toks) (fun b o j e=>a7 b o (by simpa using j) e) (fun b j=>by rw[List.mem_singleton.mp j];exact fI)
  exact hQ x0 O F H _ I9 r0 (Ext.refl sf) p0
 |cons d ds=>
  obtain⟨x,hx,px⟩:=rs.get (i:=0) (d:=d) rfl
  obtain⟨v,hv,rx⟩:=U.get hx
  refine wpAny_bind (wpAny_tryCatch (wpAny_pyNext_list_item hit Y.isList (by simpa using hv) fun h1 a2 s1=>?_))
  have I1:=I0.turnedL (h':=h1) (t':=s.toks) (fp:=[J]) (fun b o j e=>s1.extBut b o (by simpa using j) e) (fun b j=>by rw[List.mem_singleton.mp j];exact fI)
  have a3:h1.get? S=some (seqObj "list" #[] 0):=s1.extBut _ _ (Ne.symm N) gS
  refine wpAny_bind (wpAny_pure ?_)
  have s3:=Heap.SameBut.update h1 S (Obj.mapSeq fun _=>#[v,v])
  obtain⟨c2,a8⟩:∃ c2,(h1.update S (Obj.mapSeq fun _=>#[v,v])).get? S=some (seqObj "list" #[v,v] c2):=⟨_,get?_update_seq a3 fun _=>#[v,v]⟩
  show wpAny _ X.A.in1 (updateSeq S (fun _=>#[v,v]) >>= _) _ _ _
  refine wpAny_bind (wpAny_updateSeq a3 rfl ?_)
  rw[z]
  have I3:=I1.turnedL (h':=h1.update S (Obj.mapSeq fun _=>#[v,v])) (t':=s.toks) (fp:=[S]) (fun b o j e=>(s3.2 b (by simpa using j)).trans e) (fun b j=>by rw[List.mem_singleton.mp j];exact fS)
  exact wpAny_pure ⟨plainId_quiet PySem.F.plain_max_loop _,yk3 hc hu (ds:=d::ds) (dm:=dm) N a6 a5 _ 0 H F H F _ x v d c2 _ rfl (by simp) I3 (.refl sf) sq rs (a2.at fun o e=>(s3.2 J N).trans e) a8 fI fS rx px hm fun x v F' H' s' a b c d=>hQ x v F' H' s' a b c d⟩
@[irreducible] noncomputable def zm2 (m:ML)(md:ME):ME:=fun ρ=>(m ρ).bind fun ds=>(md ρ).bind fun d0=>maxE ds d0
theorem yw9 {m:ML}{i:ME}{ρ:Ro}{g:D}(h:zm2 m i ρ=some g):∃ ds d0,m ρ=some ds/\i ρ=some d0/\maxE ds d0=some g:=by
 unfold zm2 at h
 cases h1:m ρ with
 |none=>rw[h1]at h;cases h
 |some d=>
  cases h2:i ρ with
  |none=>rw[h1,h2]at h;cases h
  |some e=>rw[h1,h2]at h;exact⟨d,e,rfl,rfl,h⟩
theorem mmaxE_ev {m:ML}{i:ME}{ρ:Ro}{ds:List D}{d0:D}(h1:m ρ=some ds)(h2:i ρ=some d0):zm2 m i ρ=maxE ds d0:=by
 unfold zm2
 rw[h1,h2];rfl
theorem xr5 {p z pos:Pos}{e Z:Expr}{m:ML}{Y:ME}(hc:X.calm=true)(hu:X.A.units+64<cLine)(hg:Gl X "max")(hm:X.mg "max"=none)(ha:PB X e m)(hd:PD X Z Y)
  (hs:starEach (e::[]) X.env=(false,eval e X.env)::starEach [] X.env:=by rfl):
  PD X (.Call (.Name "max" p) [e] [⟨some "default",Z,z⟩] pos) (zm2 m Y):=by
 intro pins s σ H Q I h
 obtain⟨F0,H0,F,ρ,g,U,em,q0⟩:=h
 obtain⟨ds,d0,h1,h2,h3⟩:=yw9 em
 refine wpAny_Call_Name_kw (O3 I hg hm PyProof.Rows.boot_max ?_ (by decide) (by decide))
 have A:=j7 ha pa_nil hs pos pins s σ H (fun vs H1=>∃ p xs F1,vs=[.ref p]/\Ext F H F1 H1/\SqL X.K H1 p xs/\Reps X.K F1 xs ds) I ⟨F0,H0,F,ρ,ds,U,h1,fun p xs F1 H1 G s1 R=>⟨p,xs,F1,rfl,G,s1,R⟩⟩
 refine callWith_kw (thn A fun us s1 i=>?_) (by rw[hs];rfl) (by rw[hs];rfl)
 obtain⟨vs,H1,I1,R,p,xs,F1,S,G,sq,rs⟩:=i
 subst S
 obtain⟨u,rfl,ru⟩:=N9 R
 cases ru
 have B:=zs6 (nm:=some "default") (kpos:=z) hd yp2 pos pins s1 σ H1 (fun vs H2=>∃ y F2,vs=[y]/\Ext F1 H1 F2 H2/\Rep X.K F2 y d0) I1 ⟨F0,H0,F1,ρ,d0,U.go G,h2,fun y F2 H2 j O=>⟨y,F2,rfl,j,O⟩⟩
 refine thn B fun us s2 i=>?_
 obtain⟨vs,H2,I2,O,y,F2,S,j,p0⟩:=i
 subst S
 obtain⟨u2,rfl,N⟩:=N9 O
 exact yb5 hc hu I2 j.fh (j.hh.seq sq) (rs.mono j.ff) N p0 h3 fun x v F' H' s' I' rx x3 px=>⟨x,H',I',rx,q0 x F' H' ((G.trans j).trans x3) px⟩
end
end
end L2
namespace L2
open List
open PySem PySem.Spec PyProof.Rows PySem.Builtin PySem.Builtin.Str
section
section
variable {X:Cx}{a b c e o:Expr}{ma mb mo:ME}{pos:Pos}
noncomputable def strM (g:Str->List D->Option D):D->List D->Option D
 | .str z,ds=>g z ds
 |_,_=>none
@[irreducible] noncomputable def wz2 (g:Str->List D->Option D)(x:ME)(m:ML):ME:=fun ρ=>(x ρ).bind fun d=>(m ρ).bind fun ds=>strM g d ds
end
end
section
section
variable {X:Cx}{a b c e o:Expr}{ma mb mo:ME}{pos:Pos}
end
end
end L2
namespace L2
open List
open PySem PySem.Spec PyProof.Rows
section
noncomputable def E5 (src:List (Option Nat))(ρ:Ro):Ro:=src.map fun o=>o.bind fun i=>match ρ[i]? with |some (some (.sh d))=>some (.sh d)|some (some (.own ds))=>some (.own ds)|_=>none
@[irreducible] noncomputable def Q4 (src:List (Option Nat))(mi:ML)(g:Tg)(c:MB)(elt:ME):ML:=fun ρ=>(mi ρ).bind fun its=>T6 g c elt its (E5 src ρ) []
def ye1 (src:List (Option Nat)):Prop:=∀ i j k:Nat,src[i]? =some (some k)->src[j]? =some (some k)->i=j
theorem D8 {src:List (Option Nat)}(h:∀ i,i<src.length->∀ j,j<src.length->src[i]? =src[j]?->src[i]? =some none\/i=j):ye1 src:=fun i j k hi z=>by
 have I:=(List.getElem?_eq_some_iff.mp hi).1
 have G:=(List.getElem?_eq_some_iff.mp z).1
 rcases h i I j G (by rw[hi,z])with e|e
 .rw[hi]at e;cases e
 .exact e
theorem N6 {src:List (Option Nat)}{ρ:Ro}{i:Nat}{x:S}(e:(E5 src ρ)[i]? =some (some x)):∃ k,src[i]? =some (some k)/\ρ[k]? =some (some x)/\nob (some x):=by
 unfold E5 at e
 rw[getElem?_map]at e
 cases h:src[i]? with
 |none=>rw[h]at e;cases e
 |some o=>
  rw[h]at e
  cases o with
  |none=>cases e
  |some k=>
   simp only[Option.map_some,Option.bind_some]at e
   split at e
   .rename_i d h';cases e;exact⟨k,rfl,h',True.intro⟩
   .rename_i ds h';cases e;exact⟨k,rfl,h',True.intro⟩
   .cases e
theorem yg1 {src:List (Option Nat)}{σ:St}{i k:Nat}{v:V}(h:src[i]? =some (some k))(j:σ[k]? =some (some v)):(blk0 src σ)[i]? =some (some v):=by
 unfold blk0
 rw[getElem?_map,h]
 simp only[Option.map_some,Option.bind_some,j];rfl
theorem zj6 {src:List (Option Nat)}{σ:St}{i k:Nat}{v:V}(h:src[i]? =some (some k))(j:(blk0 src σ)[i]? =some (some v)):σ[k]? =some (some v):=by
 unfold blk0 at j
 rw[getElem?_map,h]at j
 simp only[Option.map_some,Option.bind_some]at j
 cases hk:σ[k]? with
 |none=>rw[hk]at j;cases j
 |some o=>rw[hk]at j;simpa using j
theorem Rl.blkO {K:W.Frag}{F0 H0 F H:Hp}{σ:St}{ρ:Ro}(r:Rl K F0 H0 F H σ ρ){src:List (Option Nat)}(ok:ye1 src){p:Addr}(hp:H p=none):Rl K F (upd F p (.lst [])) F (upd H p (.lst [])) (blk0 src σ) (E5 src ρ):=by
 have O:F p=none:=r.fh.free hp
 refine⟨⟨Same.refl F,r.fh.put2,r.fh.put O,fun b e n=>absurd e n,fun _ _ _ z=>z⟩,by unfold blk0 E5;simp,fun i d e=>?_,fun i ds e=>?_,fun i j q ds es G e1 e2 s1 s2=>?_,fun i q ds e=>?_,fun i j q ds es e=>?_,fun i j q S ds es e=>?_⟩
 .obtain⟨k,h1,h2,_⟩:=N6 e
  obtain⟨v,a,b⟩:=r.sh k d h2
  exact⟨v,yg1 h1 a,b⟩
 .obtain⟨k,h1,h2,_⟩:=N6 e
  obtain⟨q,xs,a,b,c,d,z⟩:=r.own k ds h2
  have I:q≠p:=fun w=>by rw[w,hp]at c;cases c
  exact⟨q,xs,yg1 h1 a,b,by rw[x8 I];exact c,d,by rw[x8 I];exact b⟩
 .obtain⟨k,h1,h2,_⟩:=N6 e1
  obtain⟨l,N,R,_⟩:=N6 e2
  refine r.inj k l q ds es (fun w=>?_) h2 R (zj6 h1 s1) (zj6 N s2)
  subst w
  exact G (ok i j k h1 N)
 .obtain⟨k,h1,h2,n⟩:=N6 e;exact n.elim
 .obtain⟨k,h1,h2,n⟩:=N6 e;exact n.elim
 .obtain⟨k,h1,h2,n⟩:=N6 e;exact n.elim
theorem xz7 {K:W.Frag}{src:List (Option Nat)}{mi:ML}{g:Tg}{c:MB}{i:ME}(O:ye1 src){σ:St}{H:Hp}{Q:VK}(h:TF K (Q4 src mi g c i) σ H Q):ys2 src (TId K mi) (TGd K g) (TC K c) (TD K i) σ H Q:=by
 obtain⟨F0,H0,F,ρ,out,N,e,q⟩:=h
 unfold Q4 at e
 cases h1:mi ρ with
 |none=>rw[h1]at e;cases e
 |some its=>
  rw[h1]at e
  refine⟨F0,H0,F,ρ,its,N,h1,fun J F1 H1 j I p hp=>?_⟩
  exact zk8 j.fh hp ((N.go j).blkO O hp) I e fun xs F' H' xe G z R=>q p xs F' H' (j.trans xe) (j.hh.free hp) G z R
section
variable {X:Cx}{a b c e o:Expr}{ma mb mo:ME}{pos:Pos}{st:Stmt}
theorem C2 {sc:Scope}{N:List Str}{src:List (Option Nat)}{tg j iter:Expr}{i:List Expr}{mi:ML}{g:Tg}{cc:MB}{z:ME}(G:ye1 src)(B:Blk X sc N src)(S:X.calm=true)
  (hi:PId X tg iter mi) (O:∀ C fp s H,PGd (W7 X sc C N fp s H) tg g) (I:∀ C fp s H,PTsd (W7 X sc C N fp s H) i cc) (R:∀ C fp s H,PD (W7 X sc C N fp s H) j z)
  (hs:∀ x,foldedSetIterable iter X.env x=pure x:=by intro _;rfl):
  PF X (.ListComp j [⟨tg,iter,i,0⟩] sc pos) (Q4 src mi g cc z):=(yp8 (g:=TGd X.K g) (tc:=TC X.K cc) (te:=TD X.K z) B S hi (fun C fp s H=>O C fp s H) (fun C fp s H=>I C fp s H) (fun C fp s H=>R C fp s H) hs).imp fun _ _ _ h=>xz7 G h
def rSum (K:W.Frag):List V->Hp->VK->Prop:=fun vs H Q=>∃(p:Addr)(ns:List Int),vs=[.ref p]/\SqL K H p (ns.map V.int)/\Q (.int ns.sum) H
theorem xz8 (z:X.calm=true):D6 X (.builtin "sum") (rSum X.K):=by
 intro pins s σ H xs us Q I r h
 obtain⟨p,ns,rfl,j,q⟩:=h
 obtain⟨u,rfl,rx⟩:=N9 r
 cases rx
 obtain⟨its,i,pl,N⟩:=I.list j
 obtain⟨G,h1,h2⟩:=T8 i
 have hp:=pl.isList
 rw[h1]at hp
 refine sum_intListG (I.ok.hd z) hp fun h' tk t' k=>?_
 refine⟨.int ns.sum,H,I.kept k,⟨t',?_⟩,q⟩
 rw[preSum_eq,take_of_length_le (by simp),<-h2]
@[irreducible] noncomputable def msum (m:ML):ME:=fun ρ=>match m ρ with |some ds=>(match zy1 ds with |some ns=>some (.int ns.sum)|none=>none)|none=>none
theorem xw2 {p:Pos}{m:ML}(S:X.calm=true)(O:Gl X "sum")(hm:X.mg "sum"=none)(ha:PB X e m)(N:bootBuiltins "sum"=some (.builtin "sum"))(hs:starEach (e::[]) X.env=(false,eval e X.env)::starEach [] X.env:=by rfl)(R:starEach [e] X.env=(false,eval e X.env)::starEach [] X.env:=by rfl)(j:(backTo pos (starEach [] X.env)).any (·.1)=false:=by rfl):PD X (.Call (.Name "sum" p) [e] [] pos) (msum m):=
 (S1 (xz8 S) O hm N (j7 ha pa_nil hs) (by decide) (by decide) R j).imp fun σ H Q i=>by
  obtain⟨F0,H0,F,ρ,g,G,e,q⟩:=i
  unfold msum at e
  cases h1:m ρ with
  |none=>rw[h1]at e;cases e
  |some ds=>
   rw[h1]at e
   cases h2:zy1 ds with
   |none=>simp only[h2]at e;cases e
   |some ns=>
    simp only[h2]at e;cases e
    refine⟨F0,H0,F,ρ,ds,G,h1,fun p xs F1 H1 z s1 I=>⟨p,ns,rfl,?_,q _ F1 H1 z (.int _)⟩⟩
    rw[<-G0 I h2];exact s1
end
end
section
section
variable {prog:Program}{w:World}{A:Around}{E:Value->Shared->Prop}{s:Shared}{l:Addr}{xs:Array (Int×Tok)}
end
section
variable {X:Cx}{a b c e o:Expr}{ma mb mo:ME}{pos:Pos}{st:Stmt}
end
section
variable {X:Cx}{a b c e:Expr}{na nb:MEm}{pos:Pos}{st:Stmt}{es:List Expr}{E:XK}{mf:MF}{m:MLm}
noncomputable abbrev MBm:=Ro->Option (Bool×Ro)
end
end
section
section
variable {X:Cx}{a b c e:Expr}{na nb:MEm}{pos:Pos}{st:Stmt}{es:List Expr}{m:MLm}
end
section
variable {X:Cx}{pos:Pos}
end
end
section
section
variable {X:Cx}{e:Expr}{na:MEm}{pos:Pos}{st:Stmt}{es:List Expr}{m:ML}{mf:MG}{E:XK}
open Classical in
end
end
section
section
variable {X:Cx}
end
end
section
section
variable {X:Cx}{e:Expr}{pos:Pos}
@[irreducible] noncomputable def many (m:ML):ME:=fun ρ=>match m ρ with |some ds=>(match zy1 ds with |some ns=>some (.bl (ns.any fun i=>i != 0))|none=>none)|none=>none
end
end
section
section
variable {X:Cx}{e:Expr}{ma:ME}{pos:Pos}
end
end
section
section
variable {X:Cx}{e:Expr}{ma:ME}{pos:Pos}
end
end
section
section
variable {prog:Program}{w:World}{A:Around}{E:Value->Shared->Prop}{s:Shared}
end
section
variable {X:Cx}
end
end
section
section
variable {X:Cx}{a:Expr}{na:MEm}{pos:Pos}{ca:MBm}
end
end
section
section
variable {X:Cx}{a b:Expr}{m:ML}{pos:Pos}
end
end
end L2
namespace L2
open List
open PySem
section
theorem yr4 {M:Model}{z:Ctx}{p:Pos}{t:Sem Fin}{fs:List Frame}{s s1:Shared}{e1:End}(h:Runs M z p t fs s e1 s1):∀{e2 s2},Runs M z p t fs s e2 s2->e1=e2/\s1=s2:=by
 induction h with
 |done=>intro e2 s2 h';cases h';exact⟨rfl,rfl⟩
 |raise=>intro e2 s2 h';cases h';exact⟨rfl,rfl⟩
 |again _ _ j=>intro e2 s2 h';cases h' with |again _ h2=>exact j h2
 |rule _ j=>intro e2 s2 h';cases h' with |rule h2=>exact j h2
 |«at» _ j=>intro e2 s2 h';cases h' with |«at» h2=>exact j h2
 |load q _ j=>intro e2 s2 h';cases h' with |load i h2=>rw[q]at i;cases i;exact j h2
 |update _ _ j=>intro e2 s2 h';cases h' with |update _ h2=>exact j h2
 |loadIfAlive _ j=>intro e2 s2 h';cases h' with |loadIfAlive h2=>exact j h2
 |point _ j=>intro e2 s2 h';cases h' with |point h2=>exact j h2
 |alloc _ j=>intro e2 s2 h';cases h' with |alloc h2=>exact j h2
 |fresh _ j=>intro e2 s2 h';cases h' with |fresh h2=>exact j h2
 |ask _ j=>intro e2 s2 h';cases h' with |ask h2=>exact j h2
 |choose _ _ j=>intro e2 s2 h';cases h' with |choose _ h2=>exact j h2
 |os _ j=>intro e2 s2 h';cases h' with |os h2=>exact j h2
 |handled _ j=>intro e2 s2 h';cases h' with |handled h2=>exact j h2
 |genState q _ j=>intro e2 s2 h';cases h' with |genState i h2=>rw[q]at i;cases i;exact j h2
 |stack _ j=>intro e2 s2 h';cases h' with |stack h2=>exact j h2
 |thread _ j=>intro e2 s2 h';cases h' with |thread h2=>exact j h2
 |newGen _ j=>intro e2 s2 h';cases h' with |newGen h2=>exact j h2
 |call _ _ i1 i2=>
  intro e2 s2 h'
  cases h' with
  |call a b=>obtain⟨x,y⟩:=i1 a;cases x;cases y;exact i2 b
  |callSusp a=>obtain⟨x,y⟩:=i1 a;cases x
 |callSusp _ i1=>
  intro e2 s2 h'
  cases h' with
  |call a b=>obtain⟨x,y⟩:=i1 a;cases x
  |callSusp a=>obtain⟨x,y⟩:=i1 a;cases x;cases y;exact⟨rfl,rfl⟩
 |yield=>intro e2 s2 h';cases h';exact⟨rfl,rfl⟩
 |resumeFresh q _ _ _ i1 i2=>
  intro e2 s2 h'
  cases h' with
  |resumeFresh i a _ b=>rw[q]at i;cases i;obtain⟨x,y⟩:=i1 a;cases x;cases y;exact i2 b
  |resumeSuspended i=>rw[q]at i;cases i
  |resumeJustStarted i n=>exact absurd rfl n
  |resumeRunning i=>rw[q]at i;cases i
  |resumeFinished i=>rw[q]at i;cases i
 |resumeSuspended q _ _ _ i1 i2=>
  intro e2 s2 h'
  cases h' with
  |resumeFresh i=>rw[q]at i;cases i
  |resumeSuspended i a _ b=>rw[q]at i;cases i;obtain⟨x,y⟩:=i1 a;cases x;cases y;exact i2 b
  |resumeJustStarted i=>rw[q]at i;cases i
  |resumeThrowFresh i=>rw[q]at i;cases i
  |resumeRunning i=>rw[q]at i;cases i
  |resumeFinished i=>rw[q]at i;cases i
 |resumeJustStarted q n _ j=>
  intro e2 s2 h'
  cases h' with
  |resumeFresh=>exact absurd rfl n
  |resumeSuspended i=>rw[q]at i;cases i
  |resumeJustStarted _ _ b=>exact j b
  |resumeRunning i=>rw[q]at i;cases i
  |resumeFinished i=>rw[q]at i;cases i
 |resumeThrowFresh q _ j=>
  intro e2 s2 h'
  cases h' with
  |resumeSuspended i=>rw[q]at i;cases i
  |resumeThrowFresh _ b=>exact j b
  |resumeRunning i=>rw[q]at i;cases i
  |resumeFinished i=>rw[q]at i;cases i
 |resumeRunning q _ j=>
  intro e2 s2 h'
  cases h' with
  |resumeFresh i=>rw[q]at i;cases i
  |resumeSuspended i=>rw[q]at i;cases i
  |resumeJustStarted i=>rw[q]at i;cases i
  |resumeThrowFresh i=>rw[q]at i;cases i
  |resumeRunning _ b=>exact j b
  |resumeFinished i=>rw[q]at i;cases i
 |resumeFinished q _ j=>
  intro e2 s2 h'
  cases h' with
  |resumeFresh i=>rw[q]at i;cases i
  |resumeSuspended i=>rw[q]at i;cases i
  |resumeJustStarted i=>rw[q]at i;cases i
  |resumeThrowFresh i=>rw[q]at i;cases i
  |resumeRunning i=>rw[q]at i;cases i
  |resumeFinished _ b=>exact j b
 |segRet _ _ i1 i2=>
  intro e2 s2 h'
  cases h' with
  |segRet a b=>obtain⟨x,y⟩:=i1 a;cases x;cases y;exact i2 b
  |segSuspOut _ a=>obtain⟨x,y⟩:=i1 a;cases x
  |segSuspGen _ a=>obtain⟨x,y⟩:=i1 a;cases x
 |segGen _ _ i1 i2=>
  intro e2 s2 h'
  cases h' with
  |segGen a b=>obtain⟨x,y⟩:=i1 a;cases x;cases y;exact i2 b
  |segSuspOut _ a=>obtain⟨x,y⟩:=i1 a;cases x
  |segSuspGen _ a=>obtain⟨x,y⟩:=i1 a;cases x
 |segSuspOut q _ i1=>
  intro e2 s2 h'
  cases h' with
  |segRet a b=>obtain⟨x,y⟩:=i1 a;cases x
  |segGen a b=>obtain⟨x,y⟩:=i1 a;cases x
  |segSuspOut _ a=>obtain⟨x,y⟩:=i1 a;cases x;cases y;exact⟨rfl,rfl⟩
  |segSuspGen i=>rw[q]at i;cases i
 |segSuspGen q _ _ _ i1 i2=>
  intro e2 s2 h'
  cases h' with
  |segRet a b=>obtain⟨x,y⟩:=i1 a;cases x
  |segGen a b=>obtain⟨x,y⟩:=i1 a;cases x
  |segSuspOut i=>rw[q]at i;cases i
  |segSuspGen i a _ b=>rw[q]at i;cases i;obtain⟨x,y⟩:=i1 a;cases x;cases y;exact i2 b
theorem yw2 {M:Model}{i:Ctx}{p:Pos}{s s1 s2:Shared}{z j:Result}(h1:Returns M i p s z s1)(h2:Returns M i p s j s2):z=j/\s1=s2:=by
 obtain⟨x,y⟩:=yr4 h1 h2
 cases x
 exact⟨rfl,y⟩
theorem yf5 {M:Model}{R:Ctx}{p:Pos}{g:Nat}{r:Resume}{s s1 s2:Shared}{I G:GenResult}(h1:Wakes M R p g r s I s1)(h2:Wakes M R p g r s G s2):I=G/\s1=s2:=by
 have two:∀{z:Ctx}{O:Pos}{t:Sem Fin}{fs:List Frame}{N:Shared},(∃ i j,Runs M z O t fs N i j/\i.quiet=true/\I=i.result/\s1=j.setGen g i.genState)->(∃ i j,Runs M z O t fs N i j/\i.quiet=true/\G=i.result/\s2=j.setGen g i.genState)->I=G/\s1=s2:=by
  rintro z O t fs N ⟨e1,Z,U,_,b1,c1⟩ ⟨e2,Y,S,_,b2,c2⟩
  obtain⟨x,y⟩:=yr4 U S
  subst x y
  exact⟨b1.trans b2.symm,c1.trans c2.symm⟩
 unfold Wakes at h1 h2
 cases hg:s.gens[g]? with
 |none=>rw[hg]at h1;exact h1.elim
 |some st=>
  rw[hg]at h1 h2
  cases st with
  |fresh c=>
   cases r with
   |throw x=>exact⟨h1.1.trans h2.1.symm,h1.2.trans h2.2.symm⟩
   |send v=>
    cases v with
    |none=>exact two h1 h2
    |_=>exact⟨h1.1.trans h2.1.symm,h1.2.trans h2.2.symm⟩
  |suspended k0 l0 c0 p0 fs cl=>exact two h1 h2
  |running=>exact⟨h1.1.trans h2.1.symm,h1.2.trans h2.2.symm⟩
  |finished=>exact⟨h1.1.trans h2.1.symm,h1.2.trans h2.2.symm⟩
section
open PySem.Sem (wp)
theorem xv7 {U:Type}{M:Model}{O:Ctx}(t:Sem U):∀{z j:U->Pos->Shared->Prop}{I G:Value->Pos->Shared->Prop}{p:Pos}{s:Shared},wp M O t z I p s->wp M O t j G p s->wp M O t (fun a p s=>z a p s/\j a p s) (fun a p s=>I a p s/\G a p s) p s:=by
 induction t with
 |pure a=>intro z j I G p s h1 h2;rw[wp]at h1 h2 ⊢;exact⟨h1,h2⟩
 |raise e=>intro z j I G p s h1 h2;rw[wp]at h1 h2 ⊢;exact⟨h1,h2⟩
 |load a x k i=>
  intro z j I G p s h1 h2
  rw[wp]at h1 h2 ⊢
  obtain⟨o,e,h1⟩:=h1
  obtain⟨o',N,h2⟩:=h2
  rw[e]at N;cases N
  exact⟨o,e,i o h1 h2⟩
 |update a x f k i=>
  intro z j I G p s h1 h2
  rw[wp]at h1 h2 ⊢
  exact⟨h1.1,i () h1.2 h2.2⟩
 |choose src n k i=>
  intro z j I G p s h1 h2
  rw[wp]at h1 h2 ⊢
  exact⟨h1.1,i _ h1.2 h2.2⟩
 |genState g k i=>
  intro z j I G p s h1 h2
  rw[wp]at h1 h2 ⊢
  obtain⟨o,e,h1⟩:=h1
  obtain⟨o',N,h2⟩:=h2
  rw[e]at N;cases N
  exact⟨o,e,i _ h1 h2⟩
 |call c h l x k i=>
  intro z j I G p s h1 h2
  rw[wp]at h1 h2 ⊢
  obtain⟨r,s1,e,h1⟩:=h1
  obtain⟨Y,s2,N,h2⟩:=h2
  obtain⟨S,R⟩:=yw2 e N
  subst S R
  exact⟨r,s1,e,i _ h1 h2⟩
 |resume g r l k i=>
  intro z j I G p s h1 h2
  rw[wp]at h1 h2 ⊢
  obtain⟨r,s1,e,h1⟩:=h1
  obtain⟨Y,s2,N,h2⟩:=h2
  obtain⟨S,R⟩:=yf5 e N
  subst S R
  exact⟨r,s1,e,i _ h1 h2⟩
 |_=>
  intro z j I G p s h1 h2
  rw[wp]at h1 h2 ⊢
  first
   |exact h1.elim
   | (rename_i i _ _ _ _;exact i _ h1 h2)
   | (rename_i i;exact i _ h1 h2)
end
theorem K9 {j:Type}{M:Model}{A:Around}{t:Sem j}{I G:j->Shared->Prop}{O N:Value->Shared->Prop}{s:Shared}(h1:wpAny M A t I O s)(h2:wpAny M A t G N s):wpAny M A t (fun a s=>I a s/\G a s) (fun a s=>O a s/\N a s) s:=fun z p i=>xv7 t (h1 z p i) (h2 z p i)
end
end L2
namespace L2
open List
open PySem PySem.Spec PyProof.Rows
section
def Cz (e:Addr)(h:Heap):Prop:=∃ o vs T oT ts,h.get? e=some o/\o.data= .fields vs/\vs[1]? =some (.ref T)/\vs[2]? =some .none/\T≠e/\h.get? T=some oT/\oT.data= .fields ts/\3<ts.size
section
variable {M:Model}{A:Around}{E:Value->Shared->Prop}{s:Shared}{base:Heap}{env:Env}{outer:List Env}{L e:Addr}
theorem zk7 {fr:Option Addr}(z:Cz e s.heap):wpAny M A (setFlight (.ref e) fr) (fun _ s'=>Cz e s'.heap) E s:=by
 obtain⟨o,vs,T,N,I,j,hd,h1,h2,ne,G,dT,i⟩:=z
 unfold setFlight
 refine wpAny_bind (wpAny_field j hd h1 ?_)
 rw[if_pos (by simp)]
 refine wpAny_setField G dT i ?_
 have q:=Obj.data_mapFields dT (·.setIfInBounds 3 (fr.elim Value.none fun f=>rawInt f))
 exact⟨o,vs,T,_,_,(Heap.get?_update_other _ _ ne).trans j,hd,h1,h2,ne,Heap.get?_update_self _ G (Obj.isFreed_of_fields q),q,by simpa using i⟩
theorem za8 {G:Obj}{vs:Array Value}{head:Value}{b:Bool}(I:A.frames=some (env::outer))(N:s.heap.FunFrames base (env::outer))(Y:env.frame=some L)(O:s.heap.get? e=some G)(hd:G.data= .fields vs)(sz:1<vs.size)(h2:vs[2]? =some .none):
  wpAny M A (do let x ← frameOf env;let y ← entryPlaceOf L b;let z ← EntryCells.newEntry head x .none (rawInt L) .none y;setField (.ref e) 1 z) (fun _ s'=>Cz e s'.heap) E s:=by
 have nf:e∉(env::outer).filterMap (·.frame):=fun m=>by
  obtain⟨_,o',R,n⟩:=N.mem m
  rw[O]at R;cases R
  exact n vs hd
 refine wpAny_bind (wpAny_frameOf_fun I N Y fun j S=>wpAny_bind (wpAny_entryPlaceOf fun y U=>?_))
 have i:j.get? e=some G:=(S.2.1 e nf).trans O
 unfold EntryCells.newEntry newFields
 refine wpAny_bind (wpAny_newObj_type ?_ (U.sizeOk5 _ _ _ _ _))
 refine wpAny_setField (Heap.get?_push_of_some _ i) hd sz ?_
 have q:=Obj.data_mapFields hd (·.setIfInBounds 1 (Value.ref j.objs.size))
 have lt:e<j.objs.size:=Heap.lt_size i
 refine⟨_,_,j.objs.size,_,_,Heap.get?_update_self _ (Heap.get?_push_of_some _ i) (Obj.isFreed_of_fields q),q,by simp[sz],by rw[Array.getElem?_setIfInBounds_ne (by decide)];exact h2,Nat.ne_of_gt lt,(Heap.get?_update_other _ _ (Nat.ne_of_lt lt)).trans (Heap.get?_push_size _ rfl),rfl,?_⟩
 simp only[size_toArray,length_append,length_cons,length_nil];omega
theorem xo7 (G:A.frames=some (env::outer))(Y:s.heap.FunFrames base (env::outer))(O:env.frame=some L)(z:Cz e s.heap):wpAny M A (noteFrame (.ref e) env) (fun _ s'=>Cz e s'.heap) E s:=by
 have S:=z
 obtain⟨o,vs,T,oT,j,R,hd,h1,h2,ne,I,dT,N⟩:=z
 have Z:j[3]? =some j[3]:=Array.getElem?_eq_getElem N
 unfold noteFrame
 simp only[O]
 refine wpAny_bind (wpAny_field R hd h1 ?_)
 rw[if_pos (by simp)]
 refine wpAny_bind (wpAny_field I dT Z ?_)
 split
 .exact wpAny_pure S
 .refine wpAny_bind (wpAny_setField I dT N ?_)
  have U:∀ b u,s.heap.get? b=some u->(∀ ws,u.data≠ .fields ws)->T≠b:=fun b u i n k=>by
   rw[<-k,I]at i;cases i;exact n j dT
  exact za8 (s:={ s with heap:=s.heap.update T _ }) G (Y.of_keeps fun b u i n=>⟨u,(Heap.get?_update_other _ _ (U b u i n)).trans i,rfl⟩) O ((Heap.get?_update_other _ _ ne).trans R) hd (Array.getElem?_eq_some_iff.mp h1).1 h2
theorem xo8 {h:Heap}{C:Addr}{us:List Value}(i:A.frames=some (env::outer))(G:h.FunFrames base (env::outer))(j:env.frame=some L)(x:Heap.MadeExcOf h s.heap e (.ref C) us):wpAny M A (noteFrame (.ref e) env) (fun _ s'=>Cz e s'.heap) E s:=by
 obtain⟨t,z,_,_⟩:=x.there
 unfold noteFrame
 simp only[j]
 refine wpAny_bind (wpAny_field (x:=Value.none) z rfl (by rfl) ?_)
 rw[if_neg (by decide)]
 exact za8 i (G.of_keeps fun b u I _=>⟨u,x.keeps b u I,rfl⟩) j z rfl (by simp) (by rfl)
theorem xv8 {t:Sem Unit}{R:Heap->Prop}{Q:Unit->Shared->Prop}(z:wpAny M A t (fun _ s'=>Cz e s'.heap) E s)(h:wpAny M A t (fun _ s'=>∃ h',s'={ s with heap:=h' }/\R h') E s)(i:∀ h',R h'->Cz e h'->Q () { s with heap:=h' }):wpAny M A t Q E s:=
 wpAny_mono (K9 h z) (fun _ s' ⟨⟨h',q,r⟩,c⟩=>by subst q;exact i h' r c) fun _ _ q=>q.1
theorem Cz.two {h:Heap}(z:Cz e h){o:Obj}{vs:Array Value}(I:h.get? e=some o)(hd:o.data= .fields vs):vs[2]? =some .none:=by
 obtain⟨o',G,T,O,N,i,j,h1,h2,_⟩:=z
 rw[I]at i;cases i
 rw[hd]at j;cases j
 exact h2
end
end
end L2
namespace L2
open List
open PySem PySem.Spec PyProof.Rows PySem.W PySem.Builtin PySem.Builtin.ObjectAttr PySem.Builtin.Getset_descriptor
section
structure XCls (K:W.Frag)(C:Addr):Prop where
 ga:findIn K (.ref C) "__getattribute__"=some (some (.builtin "BaseException.__getattribute__"))
 nog:findIn K (.ref C) "__getattr__"=some none
 cl:findIn K (.ref C) "__class__"=some (some (.builtin "object.__class__"))
 ob:mroIn K C (.type "object")=some true
 be:mroIn K C (.type "BaseException")=some true
section
variable {prog:Program}{w:World}{A:Around}{E:Value->Shared->Prop}{K:W.Frag}{x C:Addr}{ox:Obj}{h:Heap}{g:Array GenState}{d:Drawn}{t:Nat}{os:OsState}
theorem xn7 {tp:Value}{R:Result->Shared->Prop}(X:K.In h)(LT:∀ M:Model,Looks M h (typeOf (.ref x)) (.ref C))(hm:mroIn K C (.type "object")=some true)
  (i:R (.ok (.ret (.ref C))) ⟨h,g,d,t,os⟩):codeAny (model prog w) A (.call (.builtin "getset_descriptor.__get__") ⟨[.builtin "object.__class__",.ref x,tp],[]⟩) R ⟨h,g,d,t,os⟩:=by
 have z:=LT (model prog w)
 have j:=looks_mroIn (M:=model prog w) X hm
 refine codeAny_call_builtin F.slot_gs_get.plain F.entry_gs_get (F.slot_gs_get.check _ _ _ _ _ _ _ _ F.typeOf_object_class (F.args_gs_get _ _ tp) ?_)
 unfold Builtin.«getset_descriptor.__get__» descrGet
 rw[dga_obj]
 refine wpAny_bind (wpAny_pure ?_)
 unfold descrGetter;unfold descrCheckInstance;unfold descrNameAndClass isInstance
 simp only[KF.owner_class]
 repeat lk
 refine And.intro (Code.quiet_builtin _ (by decide +kernel)) (codeAny_builtin F.entry_object_class ?_)
 unfold Builtin.«object.__class__»;unfold shownTypeOf
 repeat lk
 exact i
theorem yf1 {tk:Tok}{Q:PySem.Fin->Shared->Prop}(Z:XCls K C)(X:K.In h)(LT:∀ M:Model,Looks M h (typeOf (.ref x)) (.ref C))(i:Q (.done (.ret (.ref C))) ⟨h,g,d,t,os⟩):
  wpAny (model prog w) A (Builtin.«object.__getattribute__» ⟨[.ref x,.str "__class__" tk],[]⟩) Q E ⟨h,g,d,t,os⟩:=by
 have I:=LT (model prog w)
 have G:=looks_findIn (M:=model prog w) X Z.cl
 have L2:Looks (model prog w) h (typeOf (.builtin "object.__class__")) (.type "getset_descriptor"):=Looks.of_pure F.typeOf_object_class
 have z:Looks (model prog w) h (typeLookup (.type "getset_descriptor") "__get__") (some (.builtin "getset_descriptor.__get__")):=Looks.of_pure F.slot_gs_get.lookup
 have j:Looks (model prog w) h (typeLookup (.type "getset_descriptor") "__set__") (some (.builtin "getset_descriptor.__set__")):=Looks.of_pure F.slot_gs_set.lookup
 repeat (first|with_reducible refine wpAny_call (xn7 X LT Z.ob ?_)|lk)
 exact i
theorem xv6 {tk:Tok}{R:Result->Shared->Prop}(Z:XCls K C)(X:K.In h)(LT:∀ M:Model,Looks M h (typeOf (.ref x)) (.ref C))(i:R (.ok (.ret (.ref C))) ⟨h,g,d,t,os⟩):
  codeAny (model prog w) A (.call (.builtin "BaseException.__getattribute__") ⟨[.ref x,.str "__class__" tk],[]⟩) R ⟨h,g,d,t,os⟩:=by
 have k1:builtinKind "BaseException.__getattribute__"=some .slot:=by decide +kernel
 have k2:splitId "BaseException.__getattribute__"=some ("BaseException","__getattribute__"):=by decide +kernel
 have k3:=F.args_bexc_ga (.ref x) (.str "__class__" tk)
 have z:=LT (model prog w)
 have j:=looks_mroIn (M:=model prog w) X Z.be
 refine codeAny_call_builtin (by decide +kernel) F.entry_bexc_ga ?_
 simp only[checkBuiltinCall,k1,k2]
 refine wpAny_bind ?_
 unfold isInstance
 refine wpAny_bind (z.at (j.at ?_))
 rw[if_neg (by decide)]
 exact wpAny_of_eq (a:=()) k3 (yf1 Z X LT i)
theorem yf2 {Q:Option Value->Shared->Prop}(Z:XCls K C)(X:K.In h)(LT:∀ M:Model,Looks M h (typeOf (.ref x)) (.ref C))(i:Q (some (.ref C)) ⟨h,g,d,t+1,os⟩):
  wpAny (model prog w) A (getAttr? (.ref x) "__class__") Q E ⟨h,g,d,t,os⟩:=by
 have G:=LT (model prog w)
 have j:=looks_findIn (M:=model prog w) X Z.ga
 have L2:=looks_findIn (M:=model prog w) X Z.nog
 unfold getAttr? getAttrBy? getAttrBy
 refine wpAny_bind (wpAny_mkText (wpAny_bind (wpAny_attempt (wpAny_holding (wpAny_bind (G.at (wpAny_bind (j.at ?_))))))))
 dsimp only
 rw[if_neg (by intro z;rw[Bool.and_eq_true]at z;exact absurd z.2 (by decide))]
 unfold getAttrByItsOwn hookBefore
 rw[if_pos (by rfl)]
 refine wpAny_bind (L2.at (wpAny_bind (wpAny_attempt (wpAny_holding ?_))))
 unfold callGetattribute
 rw[if_neg (by decide)]
 unfold boundAndCalled
 have b1:bindSpecial (.builtin "BaseException.__getattribute__") (.ref x)=pure (.builtin "BaseException.__getattribute__",[.ref x]):=F.attr_ValueError.ga.bind _
 refine wpAny_bind (wpAny_of_eq b1 (wpAny_call (xv6 Z X LT ?_)))
 exact handed_on rfl (wpAny_pure i)
theorem XAt.looks {a C:Addr}(p:XAt a C h)(M:Model):Looks M h (typeOf (.ref a)) (.ref C):=by
 obtain⟨o,vs,h1,h2,_⟩:=p
 exact h2 ▸ (Looks.ld h1).andThen .now
theorem ya4 {a C:Addr}(Z:XCls K C):KitX K (.ref a) (.ref C) (XAt a C) where
 ty:=fun M h _ p=>p.looks M
 it:=fun M h X _=>by
  have q:=Z.ob
  unfold mroIn at q
  cases hc:clsIn K C with
  |none=>rw[hc]at q;cases q
  |some N=>
   unfold clsIn at hc
   split at hc
   .rename_i c' d' cd' sl' ho
    intro S O R s1 G j
    unfold isType loadHead
    exact wpAny_bind (wpAny_loadPart (G _ _ (X C _ ho)) (wpAny_pure j))
   .cases hc
 ne:=fun h tp dd its n sl X i=>by
  refine Bool.eq_false_iff.mpr fun z=>?_
  have e:C=tp:=Value.ref.inj (beq_iff_eq.mp z)
  subst e
  have q:=Z.ob
  unfold mroIn at q
  cases hc:clsIn K C with
  |none=>rw[hc]at q;cases q
  |some N=>
   unfold clsIn at hc
   split at hc
   .rename_i c' d' cd' sl' ho
    cases (X _ _ ho).symm.trans i
   .cases hc
 ca:=fun{prog w A E Q s} X p I=>by
  obtain⟨hh,g,d,t,os⟩:=s
  exact yf2 Z X p.looks I
end
end
end L2
namespace L2
open List
open PySem PySem.Spec PyProof.Rows
section
structure Flown (P:Program)(w:World)(outer:List Env)(H:Hp)(s:Shared)(H':Hp)(B h':Heap):Prop where
 un:Un (frs outer) [] H H' s.heap h'
 ok:HOk P w H' h'
 st:B.StaysIn h'
 trk:∀ b o,H' b=some o->∃ ob,B.get? b=some ob
 old:∀ b o,s.heap.get? b=some o->b∉frs outer->∃ ob,B.get? b=some ob
def CXx (P:Program)(w:World):CXT:=fun outer H s E ev s'=>∃(e C:Addr)(a0:Value)(H':Hp)(B:Heap),ev= .ref e/\s'.os=s.os/\AllBare s'.gens/\Flown P w outer H s H' B s'.heap/\
 Heap.FlyingW B outer e (.ref C) a0 s'.heap/\Cz e s'.heap/\E (.ref C) none H'
section
variable {P:Program}{w:World}{outer:List Env}{H H':Hp}{s:Shared}{B h1 h2 base:Heap}
theorem Flown.on (f:Flown P w outer H s H' B h1)(fr:h1.FunFrames base outer)(st:B.StaysIn h2)(up:h1.UpToSlots h2):Flown P w outer H s H' B h2:=by
 have same:∀ b o,h1.get? b=some o->(∃ ob,B.get? b=some ob)->h2.get? b=some o:=fun b o e N=>by
  obtain⟨ob,O⟩:=N
  have:=f.st b ob O
  rw[e]at this;cases this
  exact st b o O
 have i:∀ b o,b∈frs outer->h1.get? b=some o->∃ sl,h2.get? b=some { o with slots:=sl }:=fun b o j e=>by
  obtain⟨_,o',R,hd⟩:=fr.mem j
  rw[e]at R;cases R
  exact up b o e hd
 refine⟨⟨fun b o e n j I=>same b o (f.un.keep b o e n j I) (f.old b o e j),fun b o e n j I=>?_,f.un.free,fun b o e I=>?_,f.un.tups,f.un.frzs,f.un.tbls⟩,fun b u e=>?_,st,f.trk,f.old⟩
 .obtain⟨sl,e1⟩:=f.un.slot b o e n j I
  obtain⟨G,e2⟩:=i b _ j e1
  exact⟨G,e2⟩
 .by_cases j:b∈frs outer
  .obtain⟨o1,e1⟩:=f.un.there b o e I
   obtain⟨G,e2⟩:=i b _ j e1
   exact⟨_,e2⟩
  .obtain⟨ob,O⟩:=f.old b o e j
   exact⟨ob,st b ob O⟩
 .refine(f.ok b u e).stay (fun c v S q=>same c v q ?_) (fun _ q=>q) fun _ _ q=>q
  rcases S with z|z
  .rw[z];exact f.trk b u e
  .exact f.trk c _ z
end
structure Top (X:Cx):Prop where
 stk:X.stack=X.env::X.outer
 frm:X.env.frame=some X.env.locals
 ex:X.ex=[]
section
variable {X:Cx}{pins:List (Addr×Obj)}{σ:St}{H H':Hp}{s:Shared}{B h1:Heap}
theorem Flown.inv {s':Shared}(I:Inv X pins σ H s)(f:Flown X.prog X.w X.stack H s H' B s'.heap)(os:s'.os=s.os)(bare:AllBare s'.gens):Inv X pins σ H' s':=
 I.call' (ch:=[]) os f.un f.ok bare fun b z=>absurd z (by simp)
theorem Flown.out {s':Shared}(T:Top X)(I:Inv X pins σ H s)(f:Flown X.prog X.w X.stack H s H' B s'.heap)(os:s'.os=s.os)(bare:AllBare s'.gens):Flown X.prog X.w X.outer X.H₀ X.s₀ H' B s'.heap:=by
 have G:=f.inv I os bare
 refine⟨by have:=G.base;rw[T.ex]at this;exact this,f.ok,f.st,f.trk,fun b o e j=>?_⟩
 obtain⟨i,e1⟩:=I.base.there b o e (by rw[T.ex];simp)
 refine f.old b i e1 fun z=>?_
 rcases List.mem_cons.mp (I.stkSub b z)with z|z
 .exact absurd (Nat.lt_of_lt_of_le (Heap.lt_size e) I.ok.above) (by rw[z];exact Nat.lt_irrefl _)
 .exact j z
end
theorem ObjOk.there {P:Program}{w:World}{H:Hp}{h:Heap}{a:Addr}{o:HO}(x:ObjOk P w H h a o):∃ ob,h.get? a=some ob:=by
 cases o with
 |lst xs=>obtain⟨_,_,_,_,e⟩:=x;exact⟨_,e⟩
 |tup xs=>obtain⟨_,_,_,⟨_,e,_⟩⟩:=x;exact⟨_,e⟩
 |dK kvs=>obtain⟨_,_,_,_,o,_,_,e,_⟩:=x;exact⟨_,e⟩
 |dT kvs=>obtain⟨_,_,_,_,o,_,_,e,_⟩:=x;exact⟨_,e⟩
 |set S n=>obtain⟨o,_,_,_,e,_⟩:=x;exact⟨_,e⟩
 |ins C dx fs=>obtain⟨_,_,_,e,_⟩:=x;exact⟨_,e⟩
 |own y=>exact x
 |xd fs=>obtain⟨_,⟨_,_,_,e,_⟩,_⟩:=x;exact⟨_,e⟩
 |rng lo hi=>obtain⟨_,_,_,e⟩:=x;exact⟨_,e⟩
 |frz ob u=>exact⟨_,x.1⟩
 |tbl ps=>exact⟨_,show h.get? a=some _ from x⟩
 |met f y=>exact⟨_,show h.get? a=some _ from x⟩
 |ext φ=>exact x.2.1
noncomputable abbrev bmV:List Value:=[.type "ValueError",.type "Exception",.type "BaseException",.type "object"]
theorem xobj {K:W.Frag}{h:Heap}{C:Addr}{j:List Value}{i:String}(X:K.In h)(q:W.excIn K C j i=true):
  ∃ bm N nm Y bs hdct sn sub ab col dd k0 k1 k2 k3 k5 O,h.get? C=some (excClassObj nm Y C N bs bm hdct sn sub ab col dd k0 k1 k2 k3 k5 i)/\h.Ns N O/\O "__init__"=none/\OwnTail h j bm:=by
 unfold W.excIn at q
 split at q
 .rename_i d1 cd sl ho
  split at q
  .rename_i C1 bm k0 k1 k2 k3 n1 k5 hm hs
   simp only[beq_iff_eq,Bool.not_eq_true',Bool.and_eq_true]at q
   obtain⟨⟨⟨⟨⟨U,S⟩,I⟩,R⟩,z⟩,G⟩:=q
   subst U S
   obtain⟨a1,a2,a3,a4,a5,a6,a7,a8,a9,ac,aa⟩:=cd
   dsimp only at hm I z G
   subst hm I
   obtain⟨l⟩:=sl
   have Z:l=[k0,k1,k2,k3,some (.builtin n1),k5]:=hs
   subst Z
   exact⟨bm,_,_,_,_,_,_,_,_,_,_,k0,k1,k2,k3,k5,_,X _ _ ho,.of_isNs (W.isNs_of_in X z),W.nsMap_none_of_in X z G,W.tail_of_in X R⟩
  .cases q
 .cases q
def XC (K:W.Frag)(c:Str)(C:Addr):Prop:=W.nsIn K mainGlobals c=some (some (.ref C))/\yf3 K C=some c
def RXp (X:Cx)(pins:List (Addr×Obj))(W:Str->St->Hp->Prop)(ev:Value)(s3:Shared):Prop:=
 ∃(e C:Addr)(a0:Value)(σ':St)(H1:Hp)(s1:Shared)(H':Hp)(B:Heap)(c:Str),ev= .ref e/\Inv X pins σ' H1 s1/\s3.os=s1.os/\AllBare s3.gens/\Flown X.prog X.w X.stack H1 s1 H' B s3.heap/\
  Heap.FlyingW B X.stack e (.ref C) a0 s3.heap/\Cz e s3.heap/\XC X.K c C/\W c σ' H'
def RX (X:Cx)(pins:List (Addr×Obj))(W:Str->St->Hp->Prop)(ev:Value)(s':Shared):Prop:=
 wpAny (model X.prog X.w) X.A (noteFrame ev X.env) (fun _ s2=>wpAny (model X.prog X.w) X.A (setFlight ev none) (fun _ s3=>RXp X pins W ev s3) noE s2) noE s'
theorem yr3 {X:Cx}{pins:List (Addr×Obj)}{W:Str->St->Hp->Prop}{e:Addr}{s':Shared}
  (h:wpAny (model X.prog X.w) X.A (noteFrame (.ref e) X.env) (fun _ s2=>wpAny (model X.prog X.w) X.A (setFlight (.ref e) none) (fun _ i=>Cz e i.heap->RXp X pins W (.ref e) i) noE s2) noE s')
  (z:wpAny (model X.prog X.w) X.A (noteFrame (.ref e) X.env) (fun _ s2=>Cz e s2.heap) noE s'):RX X pins W (.ref e) s':=
 wpAny_mono (K9 h z) (fun _ _ ⟨a,b⟩=>wpAny_mono (K9 a (zk7 (E:=noE) b)) (fun _ _ ⟨p,q⟩=>p q) fun _ _ q=>q.1.elim) fun _ _ q=>q.1.elim
section
variable {X:Cx}{pins:List (Addr×Obj)}{σ:St}{H:Hp}{s:Shared}{W:Str->St->Hp->Prop}
theorem yr2 {E:XK}{O:Value}{s':Shared}(T:Top X)(I:Inv X pins σ H s)(h:CXx X.prog X.w X.stack H s E O s')(S:∀ v o H',E v o H'->∃ c C,v= .ref C/\XC X.K c C/\W c σ H'):RX X pins W O s':=by
 obtain⟨e,C,a0,H',B,rfl,os,bare,f,fl,Y,q⟩:=h
 obtain⟨c,Z,z,R,w⟩:=S _ _ _ q
 cases z
 have fr:X.A.frames=some (X.env::X.outer):=by rw[<-T.stk];exact I.ok.frames
 have G:=fl
 rw[T.stk]at fl
 refine yr3 (wpAny_looks_onW fr T.frm fl fun h1 hh up=>?_) (xo7 fr fl.2.2.1 T.frm Y)
 have U:=f.on G.2.2.1 hh.1 up
 refine wpAny_landsW hh fun h2 i j=>?_
 rw[<-T.stk]at i hh
 exact fun N=>⟨e,C,a0,σ,H,s,H',B,c,rfl,I,os,bare,U.on hh.2.2.1 i.1 j,i,N,R,w⟩
theorem xt1 {e C:Addr}{c:Str}{us:List Value}{h1:Heap}(T:Top X)(I:Inv X pins σ H s)(hm:Heap.MadeExcOf s.heap h1 e (.ref C) us)(U:XC X.K c C)(q:W c σ H):RX X pins W (.ref e) { s with heap:=h1 }:=by
 have fr:X.A.frames=some (X.env::X.outer):=by rw[<-T.stk];exact I.ok.frames
 have N:∀ env∈X.stack,∀ a,env.frame=some a->a∈frs X.stack:=fun env G a ha=>List.mem_filterMap.mpr ⟨env,G,ha⟩
 have ff:=PySem.W.funFrames_hide I.stack N
 have i:(PySem.W.hideAll s.heap (frs X.stack)).StaysIn s.heap:=fun b o z=>PySem.W.of_hideAll _ z
 have f0:Flown X.prog X.w X.stack H s H (PySem.W.hideAll s.heap (frs X.stack)) s.heap:=
  ⟨Un.refl,I.hok,i,fun b o z=>(by
   obtain⟨ob,eb⟩:=(I.hok b o z).there
   exact⟨ob,PySem.W.hideAll_get _ eb fun y=>by rw[I.stkFree b y]at z;cases z⟩),fun b o z hb=>⟨o,PySem.W.hideAll_get _ z hb⟩⟩
 obtain⟨t,G,Z,ht⟩:=hm.there
 have j:s.heap.FunFrames (PySem.W.hideAll s.heap (frs X.stack)) (X.env::X.outer):=by rw[<-T.stk];exact ff
 have S:(PySem.W.hideAll s.heap (frs X.stack)).get? e=none:=by
  cases z:(PySem.W.hideAll s.heap (frs X.stack)).get? e with
  |none=>rfl
  |some o=>have:=i e o z;rw[hm.new]at this;cases this
 have key:wpAny (model X.prog X.w) X.A (noteFrame (.ref e) X.env) (fun _ s2=>wpAny (model X.prog X.w) X.A (setFlight (.ref e) none) (fun _ R=>Cz e R.heap->RXp X pins W (.ref e) R) noE s2) noE { s with heap:=h1 }:=by
  unfold noteFrame
  simp only[T.frm]
  refine wpAny_bind (wpAny_field (s:={ s with heap:=h1 }) (x:=Value.none) G rfl (by rfl) ?_)
  rw[if_neg (by decide)]
  refine wpAny_newEntryW (s:={ s with heap:=h1 }) (a0:=.ref t) fr (j.of_keeps fun b o z _=>⟨o,hm.keeps b o z,rfl⟩) T.frm G (fun b o z=>hm.keeps b o (i b o z)) S rfl (by simp) (by rfl) fun h2 hL=>?_
  obtain⟨k1,k2,k3,Y⟩:=hL
  rw[<-T.stk]at k2
  exact fun O=>⟨e,C,.ref t,σ,H,s,H,_,c,rfl,I,rfl,I.bare,f0.on I.stack k1 ((Heap.UpToSlots.of_keeps hm.keeps).trans Y),⟨k1,S,k2,k3⟩,O,U,q⟩
 exact yr3 key (xo8 (s:={ s with heap:=h1 }) fr j T.frm hm)
theorem yr1 {E:XK}{j:Value}{s':Shared}(T:Top X)(h:RX X pins (fun c _ H'=>∀ C,XC X.K c C->E (.ref C) none H') j s'):
  wpAny (model X.prog X.w) X.A (leaving X.env j) (fun _ i=>CXx X.prog X.w X.outer X.H₀ X.s₀ E j i) (fun S i=>CXx X.prog X.w X.outer X.H₀ X.s₀ E S i) s':=by
 unfold leaving
 refine wpAny_bind (wpAny_mono h (fun _ s2 h2=>wpAny_mono h2 (fun _ Y R=>?_) fun _ _ z=>z.elim) fun _ _ z=>z.elim)
 obtain⟨e,C,a0,G,H1,s1,H',B,c,rfl,I,os,bare,f,fl,U,N,q⟩:=R
 obtain⟨l1,l2,l3,O⟩:=fl
 rw[T.stk]at l3
 exact⟨e,C,a0,H',B,rfl,by rw[os];exact I.os,bare,f.out T I os bare,⟨l1,l2,l3.2.2,O⟩,U,q C N⟩
end
noncomputable abbrev Cx.bear (X:Cx)(pins:List (Addr×Obj))(E:Value->Shared->Prop):Cx:={ X with pn:=X.pn++pins,xe:=E }
section
variable {X:Cx}{pins pins':List (Addr×Obj)}{σ:St}{H:Hp}{s:Shared}{E:Value->Shared->Prop}
theorem Cx.Ok.bear (ok:X.Ok):(X.bear pins E).Ok:=⟨ok.mod,ok.kind,ok.glob,ok.blt,ok.above,ok.inj,ok.has,ok.cab,ok.hd,ok.frames,ok.stk,ok.exf,ok.bs,ok.bsz,ok.noex,ok.exfs,ok.funs,ok.frf⟩
theorem Cx.Ok.unbear (ok:(X.bear pins E).Ok):X.Ok:=⟨ok.mod,ok.kind,ok.glob,ok.blt,ok.above,ok.inj,ok.has,ok.cab,ok.hd,ok.frames,ok.stk,ok.exf,ok.bs,ok.bsz,ok.noex,ok.exfs,ok.funs,ok.frf⟩
theorem Inv.bear (I:Inv X (pins++pins') σ H s):Inv (X.bear pins E) pins' σ H s:=⟨I.ok.bear,I.os,I.bare,I.base,I.loc,I.cell,I.free,I.freeC,fun p hp=>I.pin p (by rw[<-append_assoc];exact hp),I.hok,I.len⟩
theorem Inv.unbear (I:Inv (X.bear pins E) pins' σ H s):Inv X (pins++pins') σ H s:=⟨I.ok.unbear,I.os,I.bare,I.base,I.loc,I.cell,I.free,I.freeC,fun p hp=>I.pin p (by rw[<-append_assoc]at hp;exact hp),I.hok,I.len⟩
theorem Inv.fewer (I:Inv X (pins++pins') σ H s):Inv X pins σ H s:=⟨I.ok,I.os,I.bare,I.base,I.loc,I.cell,I.free,I.freeC,fun p hp=>I.pin p (by rw[<-append_assoc];exact mem_append_left _ hp),I.hok,I.len⟩
theorem SP.unbear {D:Ends}{f:Flow}{s':Shared}(h:SP (X.bear pins E) pins' D f s'):SP X (pins++pins') D f s':=by
 cases f with
 |next=>obtain⟨i,H',I,q⟩:=h;exact⟨i,H',I.unbear,q⟩
 |brk=>obtain⟨i,H',I,q⟩:=h;exact⟨i,H',I.unbear,q⟩
 |cont=>obtain⟨i,H',I,q⟩:=h;exact⟨i,H',I.unbear,q⟩
 |ret u=>obtain⟨v,i,H',I,r,q⟩:=h;exact⟨v,i,H',I.unbear,r,q⟩
variable (nx:X.xe=noE)
include nx
theorem PE.bear {e:Expr}{t:TE}(h:PE X e t):PE (X.bear pins E) e t:=fun pins' s σ H Q I hw=>
 wpAny_mono (h _ s σ H Q I.unbear hw) (fun _ _ ⟨v,H',i,r,q⟩=>⟨v,H',i.bear,r,q⟩) fun _ _ z=>by rw[nx]at z;exact z.elim
theorem PT.bear {e:Expr}{t:TT}(h:PT X e t):PT (X.bear pins E) e t:=fun pins' s σ H Q I hw=>
 wpAny_mono (h _ s σ H Q I.unbear hw) (fun _ _ ⟨H',i,q⟩=>⟨H',i.bear,q⟩) fun _ _ z=>by rw[nx]at z;exact z.elim
theorem PA.bear {es:List Expr}{t:TA}(h:PA X es t):PA (X.bear pins E) es t:=fun pos pins' s σ H Q I hw=>
 wpAny_mono (h pos _ s σ H Q I.unbear hw) (fun _ _ ⟨v,H',i,r,q⟩=>⟨v,H',i.bear,r,q⟩) fun _ _ z=>by rw[nx]at z;exact z.elim
end
end
section
noncomputable abbrev MXe:=Ro->Option Str
noncomputable abbrev MXs:=Ro->Option (Str×Ro)
noncomputable abbrev WX:=Str->St->Hp->Prop
def TXe (K:PySem.W.Frag)(x:MXe)(W:WX):St->Hp->Prop:=fun σ H=>∃ F0 H0 F ρ c,Rl K F0 H0 F H σ ρ/\x ρ=some c/\∀ F' H',Ext F H F' H'->W c σ H'
def TXs (K:PySem.W.Frag)(x:MXs)(W:WX):St->Hp->Prop:=fun σ H=>∃ F0 H0 F ρ c ρ',Rl K F0 H0 F H σ ρ/\x ρ=some (c,ρ')/\∀ F' H' σ',Rl K F0 H0 F' H' σ' ρ'->Same F F'->W c σ' H'
noncomputable abbrev Cx.rx (X:Cx)(pins:List (Addr×Obj))(W:WX):Cx:=X.bear pins (RX X pins W)
def PEX (X:Cx)(e:Expr)(x:MXe):Prop:=∀ pins W,PE (X.rx pins W) e fun σ H _=>TXe X.K x W σ H
def PSX (X:Cx)(st:Stmt)(x:MXs):Prop:=∀ pins W,PS (X.rx pins W) st fun _ σ H=>TXs X.K x W σ H
def PSsX (X:Cx)(st:List Stmt)(x:MXs):Prop:=∀ pins W,PSs (X.rx pins W) st fun _ σ H=>TXs X.K x W σ H
noncomputable def xE (x:MXe):MXs:=fun ρ=>(x ρ).map fun c=>(c,ρ)
theorem xE_e {K:PySem.W.Frag}{x:MXe}{W:WX}{σ:St}{H:Hp}(h:TXs K (xE x) W σ H):TXe K x W σ H:=by
 obtain⟨F0,H0,F,ρ,c,ρ',j,e,w⟩:=h
 unfold xE at e
 cases h1:x ρ with
 |none=>rw[h1]at e;cases e
 |some z=>
  rw[h1]at e;cases e
  exact⟨F0,H0,F,ρ,c,j,h1,fun F' H' i=>w F' H' σ (j.go i) i.ff⟩
section
variable {X:Cx}{st:Stmt}{rest:List Stmt}{e c:Expr}{pos:Pos}
noncomputable def xv5:MXs:=fun _=>none
theorem A2:PSsX X rest xv5:=fun _ _ _ _ _ _ _ _ i=>by obtain⟨_,_,_,_,_,_,_,z,_⟩:=i;cases z
theorem zo9 {x:MXs}(h:PSX X st x):PSsX X (st::rest) x:=fun pins W=>(M6 (h pins W) (A2 pins W)).imp fun _ _ _ q=>q
theorem zs1 {x:MXs}(h:PSX X st x):PSsX X [st] x:=fun pins W=>zs2 (h pins W)
noncomputable def xif (c:MB)(x y:MXs):MXs:=fun ρ=>match c ρ with |some true=>x ρ|some false=>y ρ|none=>none
theorem xx6 {ca:MB}{a b:List Stmt}{R O:MXs}(nx:X.xe=noE)(S:PC' X c ca)(ha:PSsX X a R)(U:PSsX X b O):PSX X (.If c a b pos) (xif ca R O):=fun pins W=>
 (yq7 (PT.bear nx S) (ha pins W) (U pins W)).imp fun D σ H G=>by
  obtain⟨F0,H0,F,ρ,c,ρ',I,e,w⟩:=G
  unfold xif at e
  split at e
  .rename_i h1
   exact⟨F0,H0,F,ρ,_,I,h1,fun F1 H1 z=>iteT ⟨F0,H0,F1,ρ,c,ρ',I.go z,e,fun F' H' i j N=>w F' H' i j (z.ff.trans N)⟩⟩
  .rename_i h1
   exact⟨F0,H0,F,ρ,_,I,h1,fun F1 H1 z=>iteF ⟨F0,H0,F1,ρ,c,ρ',I.go z,e,fun F' H' i j N=>w F' H' i j (z.ff.trans N)⟩⟩
  .cases e
theorem yd0 {x:MXe}(h:PEX X e x)(hs:swapsWith e none pos.line X.env=pure false:=by rfl):PSX X (.Expr e pos) (xE x):=fun pins W=>(Y8 (h pins W) hs).imp fun _ _ _ q=>xE_e q
noncomputable abbrev MFX:=List D->Option Str
def spX (K:W.Frag)(n:Nat)(x:MFX):Sp:=fun vs H _ E=>vs.length=n/\∃ F ds c,Same F H/\Reps K F vs ds/\x ds=some c/\∀ C F' H',XC K c C->Ext F H F' H'->E (.ref C) none H'
@[irreducible] noncomputable def yt4 (x:MFX)(m:ML):MXe:=fun ρ=>(m ρ).bind x
theorem yd8 {k n:Nat}{f:Addr}{fd:FuncData}{ps:List Str}{N:MFX}{m:ML}{x:Str}{p:Pos}{es:List Expr}(nx:X.xe=noE)(T:Top X)(F:FnOk X.prog X.w X.K X.mg X.base (CXx X.prog X.w) k f fd ps (spX X.K n N))(hr:Room k X.A)(hg:Gl X x)(hm:X.mg x=some (.ref f))
  (hk:PySem.W.keepIn X.K (.ref f)=true) (hb:Binds X.K fd ps []) (hl:(e::es).length=n) (ha:PAs X (e::es) m) (Y:∀ ρ ds,m ρ=some ds->ds.length=(e::es).length)
  (a1:(x==("__debug__":Str))=false:=by decide) (he:starEach (e::es) X.env=(false,eval e X.env)::starEach es X.env:=by rfl) (U:(backTo pos (starEach es X.env)).any (·.1)=false:=by rfl):
  PEX X (.Call (.Name x p) (e::es) [] pos) (yt4 N m):=by
 intro pins W pins' s σ H Q I h
 obtain⟨F0,H0,F1,ρ,c,rl,e1,w⟩:=h
 unfold yt4 at e1
 cases h1:m ρ with
 |none=>rw[h1]at e1;cases e1
 |some ds=>
  rw[h1]at e1
  have e1:N ds=some c:=e1
  have a2:PA (X.rx pins W) (e::es) (TAs X.K m):=PA.bear nx ha
  refine wpAny_Call_Name_kw (N0 I hg hm ?_ a1)
  refine PySem.W.callWith_K (h₀:=X.base) I.ok.mod.kin hk (thn (a2 pos pins' s σ H (fun vs H1=>vs.length=n/\∃ F2,Ext F1 H F2 H1/\Reps X.K F2 vs ds) I ⟨F0,H0,F1,ρ,ds,rl,h1,fun vs F2 H2 O R=>⟨by rw[R.length,Y ρ ds h1,hl],F2,O,R⟩⟩) fun us s1 ⟨vs,H1,S,r,hn,F2,O,R⟩=>⟨S.kIn,?_⟩) he U
  have i:spX X.K n N vs H1 (fun _ _=>False) (fun v _ H'=>∃ c C,v= .ref C/\XC X.K c C/\W c σ H'):=⟨hn,F2,ds,c,O.fh,R,e1,fun C F' H' xc x3=>⟨c,C,rfl,xc,w F' H' (O.trans x3)⟩⟩
  have Z:us.length=ps.length:=by rw[<-r.length];exact F.len _ _ _ _ i
  have G:=hb s1 us S.kIn (by rw[append_nil];exact Z)
  rw[append_nil]at G
  refine wpAny_call (codeAny_mono (F.run X.A X.stack s1 H1 ⟨us,[]⟩ us vs _ _ hr S.env0 G r i) fun r' s' j=>?_)
  cases r' with
  |error ev=>exact yr2 (E:=fun v _ H'=>∃ c C,v= .ref C/\XC X.K c C/\W c σ H') T S.unbear.fewer j fun v o H' z=>z
  |ok fl=>
   cases fl with
   |ret u=>obtain⟨_,_,_,_,_,_,_,z⟩:=j;exact z.elim
   |next=>exact False.elim j
   |brk=>exact False.elim j
   |cont=>exact False.elim j
noncomputable def zw9 (c:Str)(m:ML):MXs:=fun ρ=>(m ρ).map fun _=>(c,ρ)
theorem zo8 {C:Addr}{x:Str}{es:List Expr}{m:ML}{n:Nat}{np cpos:Pos}(nx:X.xe=noE)(T:Top X)(hc:X.calm=true)(hg:Gl X x)(hm:X.mg x=some (.ref C))(xc:XC X.K x C)(q:PySem.W.excIn X.K C bmV "ValueError.__new__"=true)
  (ha:PAs X (e::es) m) (hl:∀ ρ ds,m ρ=some ds->ds.length=n) (hn:n<=sizeLine) (R:(x==("__debug__":Str))=false:=by decide)
  (Z:starEach (e::es) X.env=(false,eval e X.env)::starEach es X.env:=by rfl) (j:(backTo cpos (starEach es X.env)).any (·.1)=false:=by rfl):
  PSX X (.Raise (some (.Call (.Name x np) (e::es) [] cpos)) none pos) (zw9 x m):=by
 intro pins W pins' s σ H D I h
 obtain⟨F0,H0,F1,ρ,c,ρ',Y,e1,w⟩:=h
 unfold zw9 at e1
 cases h1:m ρ with
 |none=>rw[h1]at e1;cases e1
 |some ds=>
  rw[h1]at e1;cases e1
  obtain⟨bm,N,nm,qn,bs,hdct,sn,sub,ab,col,dd,k0,k1,k2,k3,k5,mN,hC,hN,z,TL⟩:=xobj I.mod.kin q
  have S:PA (X.rx pins W) (e::es) (TAs X.K m):=PA.bear nx ha
  have h2:=S cpos pins' s σ H (fun vs H1=>vs.length=n/\W x σ H1) I ⟨F0,H0,F1,ρ,ds,Y,h1,fun vs F2 H2 U r2=>⟨by rw[r2.length];exact hl ρ ds h1,w F2 H2 σ (Y.go U) U.ff⟩⟩
  refine wpAny_Raise_call_subT (C:=C) (N:=N) (bm:=bm) (nm:=nm) (q:=qn) (bs:=bs) (sub:=sub) (sn:=sn) (hdct:=hdct) (col:=col) (ab:=ab) (dd:=dd) (k0:=k0) (k1:=k1) (k2:=k2) (k3:=k3) (k5:=k5) PySem.F.excBase_ValueError (TL.hasType PySem.F.excBase_ValueError.hasBase) (I.ok.hd hc) ?_ z (N0 I hg hm ⟨rfl,?_⟩ R)
  .rw[Z]
   show (false || (backTo cpos (starEach es X.env)).any (·.1))=false
   rw[j];rfl
  .rw[Z]at h2 ⊢
   refine Calls.evalArgs_plain (wpAny_mono h2 (fun us s2 ⟨vs,H1,i,r1,O,q1⟩=>⟨rfl,by rw[<-r1.length,O];exact hn,i.bk _ _ hC,hN.keeps i.bk,TL.keeps i.bk,fun h3 a G=>?_⟩) fun _ _ y=>y)
   exact xt1 T i.unbear.fewer G xc q1
noncomputable def runX (n:Nat)(x:MXs):MFX:=fun ds=>(x (u7 n ds)).map (·.1)
theorem Fun.okX {P:Program}{w:World}{K:PySem.W.Frag}{mg:Str->Option Value}{base:Heap}{x qual:Str}{st:Stmt}{f:Addr}{fd:FuncData}{N ps:List Str}{k:Nat}{m:MXs}(Fn:Fun K x qual st f fd)(Sc:FnScope N ps (y7 st))
  (i:∀(cdv:Value)(A:Around)(outer:List Env)(s:Shared)(H:Hp)(E:XK),Room k (A.deeper (envOfC qual (y7 st) s.heap.objs.size f cdv))->PSsX (cxOf (CXx P w) P w K mg base N qual (y7 st) f cdv A outer s H E).nox (u5 st) m):
  FnOk P w K mg base (CXx P w) (k+1) f fd ps (spX K ps.length (runX N.length m)):=by
 obtain⟨oc,od,kV,doc,pm,an,cdv,ct,osl,rfl,lk,j⟩:=Fn.ex
 refine xf9 lk j Sc (fun vs H Q E h=>h.1) fun A outer s H vs Q E Z h=>?_
 obtain⟨hl,F,ds,c,S,U,e,R⟩:=h
 unfold runX at e
 cases h1:m (u7 N.length ds)with
 |none=>rw[h1]at e;cases e
 |some o=>
  obtain⟨c',ρ'⟩:=o
  rw[h1]at e;cases e
  have hb:=i cdv A outer s H E Z
  let W:WX:=fun c _ H'=>∀ C,XC K c C->E (.ref C) none H'
  refine⟨fun _ σ H=>TXs K m W σ H,fun pins s1 σ H1 D I q=>?_,F,H,F,u7 N.length ds,c',ρ',zt7 S U,h1,fun F' H' G Y _ C O=>R C F' H' O Y.ext⟩
  have I1:Inv (cxOf (CXx P w) P w K mg base N qual (y7 st) f cdv A outer s H E).nox (pins++[]) σ H1 s1:=by rw[append_nil];exact I.wish _
  refine wpAny_mono (hb pins W [] s1 σ H1 D I1.bear q) (fun fl s' z=>?_) fun ev s' z=>?_
  .have:=z.unbear
   rw[append_nil]at this
   exact this.unwish
  .exact yr1 (X:=(cxOf (CXx P w) P w K mg base N qual (y7 st) f cdv A outer s H E).nox) ⟨rfl,rfl,rfl⟩ z
end
end
section
section
variable {X:Cx}{pins:List (Addr×Obj)}{E:Value->Shared->Prop}(nx:X.xe=noE)
include nx
end
section
variable {X:Cx}{e c:Expr}{pos:Pos}{st:Stmt}{rest:List Stmt}
end
end
section
noncomputable abbrev Cx.inX (X:Cx)(a:Addr):Cx:={ X with A:=X.A.mark (some (.ref a)),calm:=false }
section
variable {X:Cx}{pins:List (Addr×Obj)}{σ:St}{H:Hp}{s:Shared}{a C:Addr}
theorem Cx.Ok.inX (ok:X.Ok):(X.inX a).Ok:=⟨ok.mod,ok.kind,ok.glob,ok.blt,ok.above,ok.inj,ok.has,ok.cab,(fun z=>by cases z),ok.frames,ok.stk,ok.exf,ok.bs,ok.bsz,ok.noex,ok.exfs,ok.funs,ok.frf⟩
theorem Inv.inX (I:Inv X pins σ H s):Inv (X.inX a) pins σ H s:=⟨I.ok.inX,I.os,I.bare,I.base,I.loc,I.cell,I.free,I.freeC,I.pin,I.hok,I.len⟩
theorem Inv.outX (ok:X.Ok)(I:Inv (X.inX a) pins σ H s):Inv X pins σ H s:=⟨ok,I.os,I.bare,I.base,I.loc,I.cell,I.free,I.freeC,I.pin,I.hok,I.len⟩
theorem Inv.gone {i:Nat}{n:Str}{h':Heap}{t':Nat}{v:Option Value}{m:Str->Option Value}(I:Inv X pins σ H s)(hN:X.N.Nodup)(hi:X.N[i]? =some n)(hm:s.heap.Ns X.env.locals m)(hn:h'.Ns X.env.locals (fun x=>if x=n then v else m x))(hs:Heap.SameBut X.env.locals s.heap h'):
  Inv X pins (σ.set i none) H { s with heap:=h',toks:=t' }:=by
 have old:∀ b o,X.s₀.heap.get? b=some o->b≠X.env.locals:=fun b o e=>Nat.ne_of_lt (Nat.lt_of_lt_of_le (Heap.lt_size e) I.ok.above)
 refine⟨I.ok,I.os,I.bare,⟨fun b o e n hb G=>(hs.2 b (old b o e)).trans (I.base.keep b o e n hb G),fun b o e n hb G=>?_,I.base.free,fun b o e G=>?_,I.base.tups,I.base.frzs,I.base.tbls⟩,⟨_,hn,fun j y u e1 e2 e3=>?_⟩,fun y c e=>?_,I.free,I.freeC,fun p hp=>?_,fun b ob e=>?_,by rw[length_set];exact I.len⟩
 .obtain⟨sl,e1⟩:=I.base.slot b o e n hb G
  exact⟨sl,(hs.2 b (old b o e)).trans e1⟩
 .obtain⟨o1,e1⟩:=I.base.there b o e G
  exact⟨o1,(hs.2 b (old b o e)).trans e1⟩
 .have hj:j≠i:=fun z=>by
   subst z
   have hl:j<σ.length:=by
    rcases Nat.lt_or_ge j σ.length with z|z
    .exact z
    .rw[getElem?_eq_none (by simpa using z)]at e2;cases e2
   rw[getElem?_set_self hl]at e2;cases e2
  rw[getElem?_set_ne (Ne.symm hj)]at e2
  obtain⟨m0,U,Y⟩:=I.loc
  have S:∀ z,m0 z=m z:=fun z=>by
   obtain⟨oo,es,ep,ho,hd,_,hf⟩:=U
   obtain⟨a1,a2,a3,O,R,_,Z⟩:=hm
   rw[ho]at O;cases O
   rw[hd]at R;cases R
   rw[<-hf,<-Z]
  obtain⟨w,r,l⟩:=Y j y u e1 e2 e3
  refine⟨w,r,?_⟩
  have hy:y≠n:=fun z=>hj (zr4 hN e1 (z ▸ hi))
  rcases l with⟨k,q⟩|⟨k,c,e,z⟩
  .exact .inl ⟨k,by show (if y=n then v else m y)=some w;rw[if_neg hy,<-S];exact q⟩
  .exact .inr ⟨k,c,e,z.sameBut hs (I.cne y c e)⟩
 .obtain⟨w,z⟩:=I.cell y c e
  exact⟨w,z.sameBut hs (I.cne y c e)⟩
 .obtain⟨e,n,ne,nf,d⟩:=I.pin p hp
  exact⟨(hs.2 p.1 ne).trans e,n,ne,nf,d⟩
 .refine(I.hok b ob e).stay (fun c u hc q=>(hs.2 c ?_).trans q) (fun _ q=>q) fun _ _ q=>q
  rintro rfl
  rcases hc with z|z
  .rw[<-z,I.free]at e;cases e
  .rw[I.free]at z;cases z
theorem Inv.track {o:HO}(I:Inv X pins σ H s)(O:X.s₀.heap.get? a=none)(N:a≠X.env.locals)(G:∀ x c,X.env.cells.lookup x=some c->c≠a)(hp:∀ p∈X.pn++pins,p.1≠a)(hn:H a=none)(new:ObjOk X.prog X.w (upd H a o) s.heap a o):
  Inv X pins σ (upd H a o) s:=by
 have nb:∀ b o,X.s₀.heap.get? b=some o->b≠a:=fun b o e z=>by rw[z,O]at e;cases e
 refine⟨I.ok,I.os,I.bare,⟨I.base.keep,I.base.slot,fun b o e n j=>?_,I.base.there,fun b xs e=>?_,fun b o u e=>?_,fun b ps e=>?_⟩,I.loc,I.cell,?_,fun x c e=>?_,fun p i=>?_,fun b u e=>?_,I.len⟩
 .rw[x8 (nb b o e)];exact I.base.free b o e n j
 .have:=I.base.tups b xs e
  rw[x8 (p8 this hn)];exact this
 .have:=I.base.frzs b o u e
  rw[x8 (p8 this hn)];exact this
 .obtain⟨more,this⟩:=I.base.tbls b ps e
  exact⟨more,by rw[x8 (p8 this hn)];exact this⟩
 .rw[x8 (Ne.symm N)];exact I.free
 .rw[x8 (G x c e)];exact I.freeC x c e
 .obtain⟨e,n,r⟩:=I.pin p i
  exact⟨e,by rw[x8 (hp p i)];exact n,r⟩
 .by_cases hb:b=a
  .subst hb;rw[x9]at e;cases e;exact new
  .rw[x8 hb]at e
   exact(I.hok b u e).stay (fun c v _ q=>q) (fun c q=>by rw[x8 (p8 q hn)];exact q) fun c xs q=>by rw[x8 (p8 q hn)];exact q
end
theorem Rl.drop {K:W.Frag}{F0 H0 F H:Hp}{σ:St}{ρ:Ro}(r:Rl K F0 H0 F H σ ρ)(i:Nat):Rl K F0 H0 F H (σ.set i none) (ρ.set i none):=by
 have get:∀(j:Nat) x,(ρ.set i none)[j]? =some (some x)->i≠j/\ρ[j]? =some (some x):=fun j x e=>by
  by_cases G:i=j
  .subst G
   have I:i<ρ.length:=by
    rcases Nat.lt_or_ge i ρ.length with z|z
    .exact z
    .rw[getElem?_eq_none (by simpa using z)]at e;cases e
   rw[getElem?_set_self I]at e;cases e
  .rw[getElem?_set_ne G]at e;exact⟨G,e⟩
 have gs:∀(j:Nat) x,(σ.set i none)[j]? =some (some x)->σ[j]? =some (some x):=fun j x e=>by
  by_cases G:i=j
  .subst G
   have I:i<σ.length:=by
    rcases Nat.lt_or_ge i σ.length with z|z
    .exact z
    .rw[getElem?_eq_none (by simpa using z)]at e;cases e
   rw[getElem?_set_self I]at e;cases e
  .rw[getElem?_set_ne G]at e;exact e
 refine⟨r.ext,by simp[r.len],fun j d e=>?_,fun j ds e=>?_,fun j k p ds es N e1 e2 e3 O=>r.inj j k p ds es N (get j _ e1).2 (get k _ e2).2 (gs j _ e3) (gs k _ O),fun j p ds e=>?_,fun j k p ds es e1 e2 e3=>r.obn j k p ds es (get j _ e1).2 (get k _ e2).2 (gs k _ e3),fun j k p q ds es e1 e2=>r.ob1 j k p q ds es (get j _ e1).2 (get k _ e2).2⟩
 .obtain⟨n,e⟩:=get j _ e
  rw[getElem?_set_ne n];exact r.sh j d e
 .obtain⟨n,e⟩:=get j _ e
  rw[getElem?_set_ne n];exact r.own j ds e
 .obtain⟨n,e⟩:=get j _ e
  rw[getElem?_set_ne n];exact r.ob j p ds e
section
variable {X:Cx}{pos np hpos:Pos}
end
end
section
structure RoomN (k:Nat)(A:Around):Prop where
 dp:A.depth+3*k+5<recursionLimit
 un:A.units+16*k+200<cLine
structure FnOkN (P:Program)(w:World)(K:W.Frag)(mg:Str->Option Value)(base:Heap)(CX:CXT)(k:Nat)(f:Addr)(fd:FuncData)(ps:List Str)(sp:Sp):Prop where
 len:∀ vs H Q E,sp vs H Q E->vs.length=ps.length
 run:∀(A:Around)(outer:List Env)(s:Shared)(H:Hp)(args:Args)(us:List Value)(vs:List V)(Q:VK)(E:XK),RoomN k A->Env0 P w K mg base A outer s H->BindsTo s fd args (ps.zip us)->Vals vs us->sp vs H Q E->
  codeAny (model P w) A (.call (.ref f) args) (CR CX outer P w H s Q E) s
section
variable {X:Cx}{CX:CXT}{k:Nat}{f:Addr}{fd:FuncData}{ps:List Str}{sp:Sp}{dvs:List V}{ds:List Value}{E:XK}{x:Str}{p pos:Pos}{e:Expr}{es:List Expr}{t:TA}
end
@[irreducible] noncomputable def misX (tab:List (Str×Bool))(m:ME):ME:=fun ρ=>match m ρ with |some (.exc c)=>(tab.lookup c).map .bl|_=>none
section
variable {X:Cx}{a:Expr}{ma:ME}{pos:Pos}
def rIsX (K:W.Frag)(cv:Value)(tab:List (Str×Bool))(y:V):List V->Hp->VK->Prop:=fun vs H Q=>∃ b c k,vs=[.ref b,y]/\(∃ C,XC K c C/\H b=some (.ext (XAt b C)))/\tab.lookup c=some k/\Q (.bl k) H
theorem xz9 {cv:Value}{y:V}{tab:List (Str×Bool)}(j:∀ u,RelV y u->u=cv)(hk:∀ c k,tab.lookup c=some k->∀ C,XC X.K c C->XCls X.K C/\W.kitOne X.K (.ref C) cv=some k):D6 X (.builtin "isinstance") (rIsX X.K cv tab y):=by
 intro pins s σ H xs us Q I r h
 obtain⟨b,c,k,rfl,⟨C,i,O⟩,e,q⟩:=h
 obtain⟨u,w,rfl,rx,G⟩:=yf6 r
 cases rx
 cases j w G
 obtain⟨z,N⟩:=hk c k e C i
 exact W.kia_one (ya4 z) I.kIn (I.xat O) N (fun z=>nomatch z) fun tk=>⟨.bl k,H,I.tok _,rfl,q⟩
theorem xp7 {cv:Value}{y:V}{tab:List (Str×Bool)}{ty:TE}(I:∀ σ H Q,Q y H->ty σ H Q){σ:St}{H:Hp}{Q:VK}(h:TD X.K (misX tab ma) σ H Q):tCB (rIsX X.K cv tab y) (zp7 (TD X.K ma) (zp7 ty tNil)) σ H Q:=by
 obtain⟨F0,H0,F,ρ,g,z,e,q⟩:=h
 unfold misX at e
 split at e
 .rename_i c h1
  cases h2:tab.lookup c with
  |none=>rw[h2]at e;cases e
  |some k=>
   rw[h2]at e;cases e
   refine⟨F0,H0,F,ρ,_,z,h1,fun v F1 H1 i G=>?_⟩
   cases G with
   |exc j N=>exact I _ _ _ ⟨_,c,k,rfl,⟨_,j,i.fh _ _ N⟩,h2,q _ F1 H1 i (.bl _)⟩
 .cases e
theorem zc9 {c:Str}{i:Addr}{p p2:Pos}{tab:List (Str×Bool)}(O:Gl X "isinstance")(hm:X.mg "isinstance"=none)(N:Gl X c)(I:X.mg c=some (.ref i))(ha:PD X a ma)
  (hk:∀ c k,tab.lookup c=some k->∀ C,XC X.K c C->XCls X.K C/\W.kitOne X.K (.ref C) (.ref i)=some k) (hd:(c==("__debug__":Str))=false:=by decide)
  (hs:starEach (a::[.Name c p2]) X.env=(false,eval a X.env)::starEach [.Name c p2] X.env:=by rfl) (j:starEach [.Name c p2] X.env=(false,eval (.Name c p2) X.env)::starEach [] X.env:=by rfl)
  (G:(backTo pos (starEach [.Name c p2] X.env)).any (·.1)=false:=by rfl):PD X (.Call (.Name "isinstance" p) [a,.Name c p2] [] pos) (misX tab ma):=
 (S1 (xz9 (y:=.ref i) (cv:=.ref i) (fun u z=>z) hk) O hm PyProof.Rows.boot_isinstance (j7 ha (j7 (zs7 (v:=.ref i) N I rfl hd) pa_nil j) hs) (by decide) (by decide) hs G).imp fun σ H Q h=>xp7 (fun _ _ _ z=>z) h
end
noncomputable def yg9 (K:W.Frag)(C:Addr):Bool:=
 (W.findIn K (.ref C) "__getattribute__"==some (some (.builtin "BaseException.__getattribute__")))&&(W.findIn K (.ref C) "__getattr__"==some none)&&(W.findIn K (.ref C) "__class__"==some (some (.builtin "object.__class__")))&&
  (W.mroIn K C (.type "object")==some true)&&(W.mroIn K C (.type "BaseException")==some true)
theorem zt1 {K:W.Frag}{C:Addr}(h:yg9 K C=true):XCls K C:=by
 unfold yg9 at h
 simp only[Bool.and_eq_true,beq_iff_eq]at h
 exact⟨h.1.1.1.1,h.1.1.1.2,h.1.1.2,h.1.2,h.2⟩
theorem XC.eq {K:W.Frag}{c:Str}{C x:Addr}(h:XC K c C)(e:W.nsIn K mainGlobals c=some (some (.ref x))):C=x:=by
 have:=h.1.symm.trans e
 cases this;rfl
theorem zu2 {P:Str->Bool->Prop}:∀{tab:List (Str×Bool)},(∀ p∈tab,P p.1 p.2)->∀ c k,tab.lookup c=some k->P c k:=fun h c k e=>h (c,k) (PySem.mem_of_lookup e)
end
section
section
variable {X:Cx}{a:Expr}{ma:ME}{pos:Pos}
open PySem.SeqAt in
end
end
section
section
variable {X:Cx}{pos:Pos}
end
end
section
section
variable {X:Cx}{v:Expr}{mv:ME}{pos:Pos}
end
theorem us1 {P:List Value->Prop}(h:∀ a,P [a]):∀ us:List Value,us.length=1->P us
 |[a],_=>h a
theorem us2 {P:List Value->Prop}(h:∀ a b,P [a,b]):∀ us:List Value,us.length=2->P us
 |[a,b],_=>h a b
theorem us3 {P:List Value->Prop}(h:∀ a b c,P [a,b,c]):∀ us:List Value,us.length=3->P us
 |[a,b,c],_=>h a b c
theorem us4 {P:List Value->Prop}(h:∀ a b c d,P [a,b,c,d]):∀ us:List Value,us.length=4->P us
 |[a,b,c,d],_=>h a b c d
end
section
section
variable {X:Cx}{e:Expr}{pos:Pos}
end
end
section
section
variable {X:Cx}{pins:List (Addr×Obj)}{σ:St}
end
end
section
inductive RPs (K:W.Frag)(F H:Hp):List Addr->List (List D)->Prop
 |nil:RPs K F H [] []
 |cons {q:Addr} {xs:List V} {ds:List D} {qs:List Addr} {dss:List (List D)}:H q=some (.lst xs)->Reps K F xs ds->RPs K F H qs dss->RPs K F H (q::qs) (ds::dss)
section
variable {K:W.Frag}{F H F' H':Hp}
end
structure Pots (K:W.Frag)(H F' H':Hp)(p:Addr)(qs:List Addr)(dss:List (List D)):Prop where
 hp:H p=none
 fp:F' p=none
 at':H' p=some (.lst (qs.map V.ref))
 new:∀ q∈qs,H q=none/\F' q=none
 nd:(p::qs).Nodup
 rep:RPs K F' H' qs dss
section
variable {X:Cx}{a b c e:Expr}{pos:Pos}
end
end
section
section
variable {K:W.Frag}{F0 H0 H0' F H:Hp}{σ:St}{ρ:Ro}
end
section
variable {X:Cx}{a b c e:Expr}{pos:Pos}{st:Stmt}
variable {E:XK}{es:List Expr}{m:ML}
end
end
section
section
variable {K:W.Frag}{F0 H0 F H:Hp}{σ:St}{ρ:Ro}
end
end
section
section
variable {X:Cx}{a b:Expr}{ma mb:ME}{pos:Pos}
end
section
variable {X:Cx}{a b:Expr}
open PySem.SeqAt in
end
end
section
section
variable {X:Cx}{a b c e o:Expr}{ma mb mo:ME}{pos:Pos}{st:Stmt}
end
open Classical in
section
variable {X:Cx}{pos:Pos}
end
end
section
section
variable {X:Cx}{st:Stmt}
end
end
section
inductive Fl where
 |v (d:D)|l (ds:List D)
inductive Cell where
 |ins (c:Str) (ns:List Str) (fs:List Fl)
 |row (fs:List Fl)
 |tb (P:Addr) (mw:Str) (pos:Pos) (q:Str)
def xc1 (c:Addr)(q:Str):Heap->Prop:=fun h=>h.CodeRec (.ref c) q
structure CodeT (K:W.Frag)(cdv:Value)(P:Addr):Prop where
 hd:∃ c,cdv= .ref c/\∀ h:Heap,K.In h->W.CodeHd h c P
 ne:mainGlobals≠P
def TabF (K:W.Frag)(mw:Str)(P:Addr):Prop:=∃ f oc od fd sl,W.nsIn K mainGlobals mw=some (some (.ref f))/\K.lookup f=some ⟨oc,od,.func fd,sl⟩/\CodeT K fd.code P
noncomputable abbrev Bx:=List (Addr×Cell)
inductive FlR (K:W.Frag)(F B:Hp):List Addr->List V->List Fl->Prop
 |nil:FlR K F B [] [] []
 |v {fp:List Addr} {x:V} {d:D} {xs:List V} {fs:List Fl}:Rep K F x d->FlR K F B fp xs fs->FlR K F B fp (x::xs) (.v d::fs)
 |l {fp:List Addr} {q:Addr} {ys:List V} {ds:List D} {xs:List V} {fs:List Fl}:B q=some (.lst ys)->Reps K F ys ds->FlR K F B fp xs fs->FlR K F B (q::fp) (.ref q::xs) (.l ds::fs)
inductive CellR (K:W.Frag)(F B:Hp):List Addr->Addr->Cell->Prop
 |ins {fp:List Addr} {p dx C:Addr} {c:Str} {ns:List Str} {xs:List V} {fs:List Fl}:W.nsIn K mainGlobals c=some (some (.ref C))->ns.length=xs.length->B p=some (.ins C dx (ns.zip xs))->B dx=some (.own p)->FlR K F B fp xs fs->
   CellR K F B (p::dx::fp) p (.ins c ns fs)
 |row {fp:List Addr} {p:Addr} {xs:List V} {fs:List Fl}:B p=some (.lst xs)->FlR K F B fp xs fs->CellR K F B (p::fp) p (.row fs)
 |tb {P:Addr} {mw:Str} {pos:Pos} {q:Str} {ps:Array Value}:TabF K mw P->B P=some (.tbl ps)->TriplesOk ps.toList->(codeAmong pos ps.toList=none\/∃ c,codeAmong pos ps.toList=some (.ref c)/\F c=some (.ext (xc1 c q)))->CellR K F B [P] P (.tb P mw pos q)
inductive BxR (K:W.Frag)(F B:Hp):List Addr->Bx->Prop
 |nil:BxR K F B [] []
 |cons {fp fq:List Addr} {p:Addr} {c:Cell} {β:Bx}:CellR K F B fp p c->BxR K F B fq β->BxR K F B (fp++fq) ((p,c)::β)
section
variable {K:W.Frag}{F F' B B':Hp}
theorem FlR.mono (e:Same F F'){fp:List Addr}{xs:List V}{fs:List Fl}(h:FlR K F B fp xs fs)(k:∀ a∈fp,B' a=B a):FlR K F' B' fp xs fs:=by
 induction h with
 |nil=>exact .nil
 |v r _ i=>exact .v (r.mono e) (i k)
 |l b r _ i=>exact .l (by rw[k _ (by simp)];exact b) (r.mono e) (i fun a ha=>k a (mem_cons_of_mem _ ha))
theorem CellR.mono (e:Same F F'){fp:List Addr}{p:Addr}{c:Cell}(h:CellR K F B fp p c)(k:∀ a∈fp,B' a=B a):CellR K F' B' fp p c:=by
 cases h with
 |ins a l b d r=>exact .ins a l (by rw[k _ (by simp)];exact b) (by rw[k _ (by simp)];exact d) (r.mono e fun a ha=>k a (by simp[ha]))
 |row b r=>exact .row (by rw[k _ (by simp)];exact b) (r.mono e fun a ha=>k a (by simp[ha]))
 |tb a b t h=>exact .tb a (by rw[k _ (by simp)];exact b) t (h.imp id fun⟨c,h1,h2⟩=>⟨c,h1,e _ _ h2⟩)
theorem BxR.mono (e:Same F F'){fp:List Addr}{β:Bx}(h:BxR K F B fp β)(k:∀ a∈fp,B' a=B a):BxR K F' B' fp β:=by
 induction h with
 |nil=>exact .nil
 |cons c _ i=>exact .cons (c.mono e fun a ha=>k a (by simp[ha])) (i fun a ha=>k a (by simp[ha]))
theorem FlR.mem {fp:List Addr}{xs:List V}{fs:List Fl}(h:FlR K F B fp xs fs):∀ a∈fp,B a≠none:=by
 induction h with
 |nil=>intro a ha;cases ha
 |v _ _ i=>exact i
 |l b _ _ i=>
  intro a ha
  rcases List.mem_cons.mp ha with rfl|ha
  .rw[b];simp
  .exact i a ha
theorem CellR.mem {fp:List Addr}{p:Addr}{c:Cell}(h:CellR K F B fp p c):∀ a∈fp,B a≠none:=by
 intro a ha
 cases h with
 |ins _ _ b d r=>
  rcases List.mem_cons.mp ha with rfl|ha
  .rw[b];simp
  .rcases List.mem_cons.mp ha with rfl|ha
   .rw[d];simp
   .exact r.mem a ha
 |row b r=>
  rcases List.mem_cons.mp ha with rfl|ha
  .rw[b];simp
  .exact r.mem a ha
 |tb _ b _ _=>rw[List.mem_singleton.mp ha,b];simp
theorem BxR.mem {fp:List Addr}{β:Bx}(h:BxR K F B fp β):∀ a∈fp,B a≠none:=by
 induction h with
 |nil=>intro a ha;cases ha
 |cons c _ i=>
  intro a ha
  rcases List.mem_append.mp ha with ha|ha
  .exact c.mem a ha
  .exact i a ha
end
noncomputable def jn (H0 B:Hp):Hp:=fun a=>match B a with |some o=>some o|none=>H0 a
theorem l8 {H0 B:Hp}{a:Addr}{o:HO}(h:B a=some o):jn H0 B a=some o:=by unfold jn;rw[h]
theorem d8 {H0 B:Hp}{a:Addr}(h:B a=none):jn H0 B a=H0 a:=by unfold jn;rw[h]
theorem g7 {H0 B:Hp}{a:Addr}(h:jn H0 B a=none):B a=none/\H0 a=none:=by
 cases b:B a with
 |none=>rw[d8 b]at h;exact⟨rfl,h⟩
 |some o=>rw[l8 b]at h;cases h
structure BxOk (K:W.Frag)(F0 H0 F B:Hp)(fp:List Addr)(β:Bx):Prop where
 out:∀ a,B a≠none->H0 a=none/\F0 a=none
 bx:BxR K F B fp β
 nd:fp.Nodup
 plain:∀ a o u,B a≠some (.frz o u)
theorem BxOk.mono {K:W.Frag}{F0 H0 F F' B:Hp}{fp:List Addr}{β:Bx}(h:BxOk K F0 H0 F B fp β)(e:Same F F'):BxOk K F0 H0 F' B fp β:=⟨h.out,h.bx.mono e fun _ _=>rfl,h.nd,h.plain⟩
def RlW (K:W.Frag)(F0 H0 F H:Hp)(σ:St)(ρ:Ro)(β:Bx):Prop:=∃ B fp,Rl K F0 (jn H0 B) F H σ ρ/\BxOk K F0 H0 F B fp β
noncomputable abbrev MW:=Ro->Bx->Option (Out×Bx)
noncomputable def okW (K:W.Frag)(F0 H0 Fb:Hp)(Dn:Ends):Out->Bx->Prop
 | .nx ρ,β=>∀ F H σ,RlW K F0 H0 F H σ ρ β->Same Fb F->Dn.nx σ H
 | .bk ρ,β=>∀ F H σ,RlW K F0 H0 F H σ ρ β->Same Fb F->Dn.bk σ H
 | .ct ρ,β=>∀ F H σ,RlW K F0 H0 F H σ ρ β->Same Fb F->Dn.ct σ H
 | .rt d,β=>∀ v F H B fp,Ext F0 (jn H0 B) F H->BxOk K F0 H0 F B fp β->Rep K F v d->Dn.rt v H
 | .rf ds,β=>∀ p xs F H B fp,Ext F0 (jn H0 B) F H->BxOk K F0 H0 F B fp β->jn H0 B p=none->F p=none->H p=some (.lst xs)->Reps K F xs ds->Dn.rt (.ref p) H
 | .rg d p r,β=>∀ v F H xs B fp,Ext F0 (jn H0 B) F H->BxOk K F0 H0 F B fp β->Rep K F v d->jn H0 B p=none->F p=none->H p=some (.lst xs)->Reps K F xs r->Dn.rt v H
 | .rp _ _,_=>False
 | .rgf _ _ _,_=>False
theorem okW.mono {K:W.Frag}{F0 H0 z j:Hp}{G:Ends}(s:Same z j):∀{o:Out}{β:Bx},okW K F0 H0 z G o β->okW K F0 H0 j G o β
 | .nx _,_,h=>fun F H σ i q=>h F H σ i (s.trans q)
 | .bk _,_,h=>fun F H σ i q=>h F H σ i (s.trans q)
 | .ct _,_,h=>fun F H σ i q=>h F H σ i (s.trans q)
 | .rt _,_,h=>h
 | .rf _,_,h=>h
 | .rp _ _,_,h=>h
 | .rg _ _ _,_,h=>h
 | .rgf _ _ _,_,h=>h
def TSw (K:W.Frag)(m:MW):TS:=fun Dn σ H=>∃ F0 H0 F ρ β o β',RlW K F0 H0 F H σ ρ β/\m ρ β=some (o,β')/\okW K F0 H0 F Dn o β'
def TDw (K:W.Frag)(m:Ro->Bx->Option D):TE:=fun σ H Q=>∃ F0 H0 F ρ β d,RlW K F0 H0 F H σ ρ β/\m ρ β=some d/\∀ v F' H',RlW K F0 H0 F' H' σ ρ β->Same F F'->Same H H'->Rep K F' v d->Q v H'
def TCw (K:W.Frag)(m:Ro->Bx->Option Bool):TT:=fun σ H Q=>∃ F0 H0 F ρ β b,RlW K F0 H0 F H σ ρ β/\m ρ β=some b/\∀ F' H',RlW K F0 H0 F' H' σ ρ β->Same F F'->Q b H'
def PSw (X:Cx)(st:Stmt)(m:MW):Prop:=PS X st (TSw X.K m)
def PSsw (X:Cx)(st:List Stmt)(m:MW):Prop:=PSs X st (TSw X.K m)
def PDw (X:Cx)(e:Expr)(m:Ro->Bx->Option D):Prop:=PE X e (TDw X.K m)
def PCw' (X:Cx)(e:Expr)(m:Ro->Bx->Option Bool):Prop:=PT X e (TCw X.K m)
theorem RlW.go {K:W.Frag}{F0 H0 F H F' H':Hp}{σ:St}{ρ:Ro}{β:Bx}(h:RlW K F0 H0 F H σ ρ β)(e:Ext F H F' H'):RlW K F0 H0 F' H' σ ρ β:=let ⟨B,fp,i,ok⟩:=h;⟨B,fp,i.go e,ok.mono e.ff⟩
theorem RlW.fh {K:W.Frag}{F0 H0 F H:Hp}{σ:St}{ρ:Ro}{β:Bx}(h:RlW K F0 H0 F H σ ρ β):Same F H:=let ⟨_,_,i,_⟩:=h;i.fh
section
variable {X:Cx}{a b c e:Expr}{pos:Pos}{st:Stmt}{rest:List Stmt}
noncomputable def wS (m:MS):MW:=fun ρ β=>match m ρ with |some (.nx ρ')=>some (.nx ρ',β)|some (.bk ρ')=>some (.bk ρ',β)|some (.ct ρ')=>some (.ct ρ',β)|_=>none
noncomputable def wE {α:Type}(m:Ro->Option α):Ro->Bx->Option α:=fun ρ _=>m ρ
theorem psw {m:MS}(h:PSd X st m):PSw X st (wS m):=PS.imp h fun I σ H ⟨F0,H0,F,ρ,β,o,β',⟨B,fp,G,ok⟩,e,k⟩=>by
 unfold wS at e
 split at e
 .rename_i ρ' h1
  cases e
  exact⟨F0,jn H0 B,F,ρ,_,G,h1,fun F' H' i j z=>k F' H' i ⟨B,fp,j,ok.mono z⟩ z⟩
 .rename_i ρ' h1
  cases e
  exact⟨F0,jn H0 B,F,ρ,_,G,h1,fun F' H' i j z=>k F' H' i ⟨B,fp,j,ok.mono z⟩ z⟩
 .rename_i ρ' h1
  cases e
  exact⟨F0,jn H0 B,F,ρ,_,G,h1,fun F' H' i j z=>k F' H' i ⟨B,fp,j,ok.mono z⟩ z⟩
 .cases e
theorem pdw {m:ME}(h:PD X e m):PDw X e (wE m):=PE.imp h fun σ H Q ⟨F0,H0,F,ρ,β,d,⟨B,fp,i,ok⟩,e,q⟩=>
 ⟨F0,jn H0 B,F,ρ,d,i,e,fun v F' H' x r=>q v F' H' ⟨B,fp,i.go x,ok.mono x.ff⟩ x.ff x.hh r⟩
theorem pcw {m:MB}(h:PC' X e m):PCw' X e (wE m):=PT.imp h fun σ H Q ⟨F0,H0,F,ρ,β,d,⟨B,fp,i,ok⟩,e,q⟩=>
 ⟨F0,jn H0 B,F,ρ,d,i,e,fun F' H' x=>q F' H' ⟨B,fp,i.go x,ok.mono x.ff⟩ x.ff⟩
noncomputable def m9 (x y:MW):MW:=fun ρ β=>match x ρ β with |some (.nx ρ',β')=>y ρ' β'|o=>o
theorem m3 {m:MW}(h:PSw X st m):PSsw X [st] m:=zs2 h
theorem T9:PSsw X [] (wS Z8):=PSs.imp pss_nil fun j σ H ⟨F0,H0,F,ρ,β,o,β',⟨B,fp,i,ok⟩,e,k⟩=>by
 cases e
 exact k F H σ ⟨B,fp,i,ok⟩ (Same.refl _)
theorem w9 {m1 m2':MW}(h1:PSw X st m1)(h2:PSsw X rest m2'):PSsw X (st::rest) (m9 m1 m2'):=PSs.imp (M6 h1 h2) fun D σ H z=>by
 obtain⟨F0,H0,F,ρ,β,o,β',i,e,ok⟩:=z
 unfold m9 at e
 cases h:m1 ρ β with
 |none=>rw[h]at e;cases e
 |some ob=>
  obtain⟨O,j⟩:=ob
  rw[h]at e
  cases O with
  |nx ρ1=>exact⟨F0,H0,F,ρ,β,_,j,i,h,fun F' H' I G N=>⟨F0,H0,F',ρ1,j,o,β',G,e,ok.mono N⟩⟩
  |bk ρ1=>cases e;exact⟨F0,H0,F,ρ,β,_,_,i,h,ok⟩
  |ct ρ1=>cases e;exact⟨F0,H0,F,ρ,β,_,_,i,h,ok⟩
  |rt d=>cases e;exact⟨F0,H0,F,ρ,β,_,_,i,h,ok⟩
  |rf d=>cases e;exact⟨F0,H0,F,ρ,β,_,_,i,h,ok⟩
  |rp d ds=>cases e;exact⟨F0,H0,F,ρ,β,_,_,i,h,ok⟩
  |rg d p r=>cases e;exact⟨F0,H0,F,ρ,β,_,_,i,h,ok⟩
  |rgf d p r=>cases e;exact⟨F0,H0,F,ρ,β,_,_,i,h,ok⟩
noncomputable def mifW (c:Ro->Bx->Option Bool)(x y:MW):MW:=fun ρ β=>match c ρ β with |some true=>x ρ β|some false=>y ρ β|none=>none
theorem G4 {ca:Ro->Bx->Option Bool}{x y:List Stmt}{mx I:MW}(R:PCw' X c ca)(O:PSsw X x mx)(N:PSsw X y I):PSw X (.If c x y pos) (mifW ca mx I):=PS.imp (yq7 R O N) fun D σ H j=>by
 obtain⟨F0,H0,F,ρ,β,o,β',i,e,ok⟩:=j
 unfold mifW at e
 split at e
 .rename_i h1
  exact⟨F0,H0,F,ρ,β,_,i,h1,fun F1 H1 G z=>iteT ⟨F0,H0,F1,ρ,β,o,β',G,e,ok.mono z⟩⟩
 .rename_i h1
  exact⟨F0,H0,F,ρ,β,_,i,h1,fun F1 H1 G z=>iteF ⟨F0,H0,F1,ρ,β,o,β',G,e,ok.mono z⟩⟩
 .cases e
noncomputable def zx9 (i:Nat)(x:Ro->Bx->Option D):MW:=fun ρ β=>(x ρ β).map fun d=>(.nx (ρ.set i (some (.sh d))),β)
theorem zt9 {i:Nat}{x:Str}{pos':Pos}{ma:Ro->Bx->Option D}(Y:X.N.Nodup)(hi:X.N[i]? =some x)(R:Loc X.env.scope x)(U:PDw X e ma)(hs:swapsWith e (some (.Name x pos')) pos.line X.env=pure false:=by rfl)(S:X.fn x=true\/X.env.scope.names.lookup x=some .local:=by first|exact .inl rfl|exact .inr rfl):
  PSw X (.Assign [.Name x pos'] e pos) (zx9 i ma):=PS.imp (zv5 Y hi R U hs S) fun D σ H j=>by
 obtain⟨F0,H0,F,ρ,β,o,β',z,e,ok⟩:=j
 unfold zx9 at e
 cases h1:ma ρ β with
 |none=>rw[h1]at e;cases e
 |some d=>
  rw[h1]at e;cases e
  refine⟨F0,H0,F,ρ,β,d,z,h1,fun v F1 H1 O G _ rp=>?_⟩
  obtain⟨B,fp,I,k⟩:=O
  exact ok F1 H1 _ ⟨B,fp,I.set rp,k⟩ G
noncomputable def O9 (x:Ro->Bx->Option D):MW:=fun ρ β=>(x ρ β).map fun d=>(.rt d,β)
theorem O4 {ma:Ro->Bx->Option D}(h:PS X st (tRet (TDw X.K ma))):PSw X st (O9 ma):=PS.imp h fun D σ H i=>by
 obtain⟨F0,H0,F,ρ,β,o,β',j,e,ok⟩:=i
 unfold O9 at e
 cases h1:ma ρ β with
 |none=>rw[h1]at e;cases e
 |some d=>
  rw[h1]at e;cases e
  refine⟨F0,H0,F,ρ,β,d,j,h1,fun v F1 H1 G I _ rp=>?_⟩
  obtain⟨B,fp,z,k⟩:=G
  exact ok v F1 H1 B fp z.ext k rp
noncomputable def forW (g:Tg)(body:MW):List D->MW
 |[],ρ,β=>some (.nx ρ,β)
 |d::ds,ρ,β=>match tgD g d ρ with
  |some ρ1=>match body ρ1 β with
   |some (.nx ρ2,β2)=>forW g body ds ρ2 β2
   |some (.ct ρ2,β2)=>forW g body ds ρ2 β2
   |some (.bk ρ2,β2)=>some (.nx ρ2,β2)
   |o=>o
  |none=>none
noncomputable def zw0 (mi:ML)(g:Tg)(body:MW):MW:=fun ρ β=>(mi ρ).bind fun its=>forW g body its ρ β
theorem zh3 {tg iter:Expr}{body:List Stmt}{mi:ML}{g:Tg}{mb:MW}(hp:PassesOwn (model X.prog X.w) X.A X.env X.xe)(hc:X.calm=true)(hi:PId X tg iter mi)(hg:PGd X tg g)(hb:PSsw X body mb)
  (hs:∀ x,foldedSetIterable iter X.env x=pure x:=by intro _;rfl):PSw X (.For tg iter body [] pos) (zw0 mi g mb):=PS.imp (xx7 hp hc hi hg hb hs) fun Dn σ H ⟨F0,H0,F,ρ,β,o,β',⟨B,fp,rl,ok⟩,e,k⟩=>by
 unfold zw0 at e
 cases h1:mi ρ with
 |none=>rw[h1]at e;cases e
 |some its=>
  rw[h1]at e
  have e:forW g mb its ρ β=some (o,β'):=e
  refine⟨F0,jn H0 B,F,ρ,its,rl,h1,fun J F1 H1 O I=>?_⟩
  refine⟨fun i m U H'=>∃ F' ρ' z,RlW X.K F0 H0 F' H' U ρ' z/\Same F1 F'/\i<=its.length/\m=its.length-i/\forW g mb (its.drop i) ρ' z=some (o,β'),⟨_,F1,ρ,β,⟨B,fp,rl.go O,ok.mono O.ff⟩,Same.refl _,Nat.zero_le _,rfl,e⟩,?_⟩
  rintro i m U H' ⟨F',ρ',z,⟨B1,a3,N,a1⟩,sf,a6,rfl,j⟩
  by_cases Y:i<its.length
  .right
   have hd:=getElem?_eq_getElem Y
   refine⟨I.go i F' H' sf N.fh Y,fun Z H2=>∃ F2 ρ2 β2,RlW X.K F0 H0 F2 H2 Z ρ2 β2/\Same F1 F2/\forW g mb (its.drop (i+1)) ρ2 β2=some (o,β'),?_,fun x H2 y=>?_⟩
   .rintro Z H2 ⟨F2,ρ2,β2,rl2,sf2,e2⟩
    exact⟨its.length-(i+1),by omega,F2,ρ2,β2,rl2,sf2,Y,rfl,e2⟩
   .obtain⟨F2,x2,r2⟩:=I.yld i F' H' x H2 _ sf N.fh hd y
    rw[K0 hd]at j
    unfold forW at j
    cases h2:tgD g its[i] ρ' with
    |none=>simp only[h2]at j;cases j
    |some ρ1=>
     simp only[h2]at j
     refine⟨F0,jn H0 B1,F2,ρ',_,ρ1,N.go x2,r2,h2,fun F3 H3 a5 a4 x3=>?_⟩
     have R:Same F1 F3:=(sf.trans x2.ff).trans x3.ff
     cases h3:mb ρ1 z with
     |none=>simp only[h3]at j;cases j
     |some ob=>
      obtain⟨o1,β2⟩:=ob
      simp only[h3]at j
      refine⟨F0,H0,F3,ρ1,z,o1,β2,⟨B1,a3,a4,a1.mono (x2.ff.trans x3.ff)⟩,h3,?_⟩
      cases o1 with
      |nx ρ2=>exact fun F5 H5 S G s5=>⟨F5,ρ2,β2,G,R.trans s5,j⟩
      |ct ρ2=>exact fun F5 H5 S G s5=>⟨F5,ρ2,β2,G,R.trans s5,j⟩
      |bk ρ2=>
       cases j
       exact fun F5 H5 S G s5=>k F5 H5 S G ((O.ff.trans R).trans s5)
      |rt d=>cases j;exact k.mono (O.ff.trans R)
      |rf d=>cases j;exact k.mono (O.ff.trans R)
      |rp d ds=>cases j;exact k.mono (O.ff.trans R)
      |rg d p r=>cases j;exact k.mono (O.ff.trans R)
      |rgf d p r=>cases j;exact k.mono (O.ff.trans R)
  .left
   have a2:i=its.length:=by omega
   subst a2
   rw[drop_length]at j
   have j:some (Out.nx ρ',z)=some (o,β'):=j
   cases j
   exact⟨I.stop F' H' sf N.fh,k F' H' U ⟨B1,a3,N,a1⟩ (O.ff.trans sf)⟩
noncomputable def flD:Fl->D
 | .v d=>d
 | .l ds=>.lst ds
noncomputable def zj2:Cell->D
 | .ins c ns fs=>.obj c ns (fs.map flD)
 | .row fs=>.lst (fs.map flD)
 | .tb P _ _ _=>.ptr P
noncomputable def thawD (β:Bx):D->D
 | .ptr p=>match β.lookup p with |some c=>zj2 c|none=>.ptr p
 |d=>d
noncomputable def M2 (β:Bx):Option S->Option S
 |some (.sh (.ptr p))=>match β.lookup p with |some c=>some (.sh (zj2 c))|none=>some (.sh (.ptr p))
 |some (.sh (.tup ds))=>some (.sh (.tup (ds.map (thawD β))))
 |x=>x
noncomputable def thaw (ρ:Ro)(β:Bx):Ro:=ρ.map (M2 β)
noncomputable def d7 (m:ME):Ro->Bx->Option D:=fun ρ β=>(m (thaw ρ β)).bind fun d=>if isSc d=true then some d else none
noncomputable def zw1 (m:MB):Ro->Bx->Option Bool:=fun ρ β=>m (thaw ρ β)
end
section
variable {K:W.Frag}{F0 H0 F H B:Hp}{σ:St}{ρ:Ro}{β:Bx}{fp:List Addr}
theorem FlR.rep {G:Hp}{xs:List V}{fs:List Fl}(j:Same F G)(z:Same B G)(h:FlR K F B fp xs fs):Reps K G xs (fs.map flD):=by
 induction h with
 |nil=>exact .nil
 |v r _ i=>exact .cons (r.mono j) i
 |l b r _ i=>exact .cons (.lst (SqL.of (z _ _ b)) (r.mono j)) i
theorem CellR.rep {G:Hp}{p:Addr}{c:Cell}(j:Same F G)(i:Same B G)(h:CellR K F B fp p c):Rep K G (.ref p) (zj2 c):=by
 cases h with
 |ins a l b d r=>exact .obj a l (i _ _ b) (i _ _ d) (r.rep j i)
 |row b r=>exact .lst (SqL.of (i _ _ b)) (r.rep j i)
 |tb _ _ _ _=>exact .ptr _
theorem BxR.at' {p:Addr}{c:Cell}:∀{fp:List Addr}{β:Bx},BxR K F B fp β->β.lookup p=some c->∃ fq,CellR K F B fq p c
 |_,_,.nil,e=>by cases e
 |_,_,.cons (p:=q) h r,e=>by
  rw[lookup_cons]at e
  split at e
  .rename_i z
   have z:=beq_iff_eq.mp z
   subst z
   cases e
   exact⟨_,h⟩
  .exact r.at' e
theorem Rep.thawD {G:Hp}{v:V}{d:D}(i:Same F G)(I:Same B G)(z:BxR K F B fp β)(h:Rep K F v d):Rep K G v (L2.thawD β d):=by
 cases d with
 |ptr p=>
  cases h
  cases hc:β.lookup p with
  |none=>simp only[L2.thawD,hc];exact .ptr p
  |some c=>obtain⟨fq,j⟩:=z.at' hc;simp only[L2.thawD,hc];exact j.rep i I
 |_=>exact h.mono i
theorem Reps.thawD {G:Hp}(j:Same F G)(z:Same B G)(i:BxR K F B fp β):∀{xs:List V}{ds:List D},Reps K F xs ds->Reps K G xs (ds.map (L2.thawD β))
 |_,_,.nil=>.nil
 |_,_,.cons h r=>.cons (h.thawD j z i) (Reps.thawD j z i r)
theorem RlW.frozen (z:Rl K F0 (jn H0 B) F H σ ρ)(ok:BxOk K F0 H0 F B fp β):Rl K (jn F0 B) (jn H0 B) (jn F B) H σ (thaw ρ β)/\Same F (jn F B):=by
 have bh:Same B H:=fun a o e=>z.ext.hh a o (l8 e)
 have fn:∀ a,B a≠none->F a=none:=fun a h=>by
  cases q:F a with
  |none=>rfl
  |some o=>
   have:=z.ext.new a (ok.out a h).2 (by rw[q];simp)
   exact absurd (g7 this).1 h
 have fb:Same F (jn F B):=fun a o e=>by
  cases q:B a with
  |none=>rw[d8 q];exact e
  |some u=>rw[fn a (by rw[q];simp)]at e;cases e
 have Y:Same B (jn F B):=fun a o e=>l8 e
 have back:∀(i:Nat) x,(thaw ρ β)[i]? =some x->∃ y,ρ[i]? =some y/\x=M2 β y:=fun i x e=>by
  unfold thaw at e
  rw[getElem?_map]at e
  cases q:ρ[i]? with
  |none=>rw[q]at e;cases e
  |some y=>rw[q]at e;cases e;exact⟨y,rfl,rfl⟩
 have Z:∀{y:Option S}{ds:List D},some (.own ds)=M2 β y->y=some (.own ds):=fun{y ds} e=>by
  unfold M2 at e
  split at e
  .split at e <;> cases e
  .cases e
  .exact e.symm
 have tB:∀{y:Option S}{p:Addr}{ds:List D},some (.ob p ds)=M2 β y->y=some (.ob p ds):=fun{y p ds} e=>by
  unfold M2 at e
  split at e
  .split at e <;> cases e
  .cases e
  .exact e.symm
 have G:∀(i:Nat) ds,(thaw ρ β)[i]? =some (some (.own ds))->ρ[i]? =some (some (.own ds)):=fun i ds e=>by
  obtain⟨y,e1,e2⟩:=back i _ e
  rw[e1,Z e2]
 have N:∀(i:Nat) p ds,(thaw ρ β)[i]? =some (some (.ob p ds))->ρ[i]? =some (some (.ob p ds)):=fun i p ds e=>by
  obtain⟨y,e1,e2⟩:=back i _ e
  rw[e1,tB e2]
 have U:∀ p,F p=none->jn H0 B p=none->jn F B p=none:=fun p h h2=>by rw[d8 (g7 h2).1];exact h
 refine⟨⟨⟨fun a o e=>?_,z.ext.hh,fun a o e=>?_,fun b e n=>?_,fun b o u e=>?_⟩,by unfold thaw;rw[length_map];exact z.len,fun i d e=>?_,fun i ds e=>?_,fun i j p ds es R e1 e2 e3 e4=>z.inj i j p ds es R (G i ds e1) (G j es e2) e3 e4,fun i p ds e=>?_,fun i j p ds es e1 e2 e3=>z.obn i j p ds es (N i p ds e1) (G j es e2) e3,fun i j p q ds es e1 e2=>z.ob1 i j p q ds es (N i p ds e1) (N j q es e2)⟩,fb⟩
 .cases q:B a with
  |none=>rw[d8 q]at e;rw[d8 q];exact z.ext.ff a o e
  |some u=>rw[l8 q]at e;rw[l8 q];exact e
 .cases q:B a with
  |none=>rw[d8 q]at e;exact z.ext.fh a o e
  |some u=>rw[l8 q]at e;cases e;exact bh a _ q
 .obtain⟨e1,e2⟩:=g7 e
  rw[d8 e1]at n
  exact z.ext.new b e2 n
 .cases q:B b with
  |none=>rw[d8 q]at e ⊢;exact z.ext.nf b o u e
  |some w=>rw[l8 q]at e ⊢;exact e
 .obtain⟨y,e1,e2⟩:=back i _ e
  unfold M2 at e2
  split at e2
  .rename_i p
   obtain⟨v,I,O⟩:=z.sh i _ e1
   cases O
   split at e2
   .rename_i c hc
    cases e2
    obtain⟨fq,hq⟩:=ok.bx.at' hc
    exact⟨_,I,hq.rep fb Y⟩
   .cases e2
    exact⟨_,I,.ptr p⟩
  .obtain⟨v,I,O⟩:=z.sh i _ e1
   cases e2
   cases O with
   |tup s r=>exact⟨_,I,.tup (fb.seqT s) (r.thawD fb Y ok.bx)⟩
  .subst e2
   obtain⟨v,I,O⟩:=z.sh i d e1
   exact⟨v,I,O.mono fb⟩
 .obtain⟨p,xs,I,O,a3,a4,a5⟩:=z.own i ds (G i ds e)
  exact⟨p,xs,I,U p O a5,a3,a4.mono fb,a5⟩
 .obtain⟨I,O,a3,xs,a4,a5⟩:=z.ob i p ds (N i p ds e)
  exact⟨I,U p O a3,a3,xs,a4,a5.mono fb⟩
theorem RlW.melt {F2 H2:Hp}(i:Rl K F0 (jn H0 B) F H σ ρ)(ok:BxOk K F0 H0 F B fp β)(x:Ext (jn F B) H F2 H2)(fb:Same F (jn F B)):RlW K F0 H0 F H2 σ ρ β:=
 ⟨B,fp,i.go ⟨Same.refl _,x.hh,i.fh.trans x.hh,fun b e n=>absurd e n,fun _ _ _ z=>z⟩,ok⟩
end
section
variable {X:Cx}{a b c e:Expr}{pos:Pos}
theorem Z1 {m:ME}(h:PD X e m):PDw X e (d7 m):=PE.imp h fun σ H Q ⟨F0,H0,F,ρ,β,d,⟨B,fp,i,ok⟩,e,q⟩=>by
 unfold d7 at e
 cases h1:m (thaw ρ β)with
 |none=>rw[h1]at e;cases e
 |some d'=>
  rw[h1,Option.bind_some]at e
  split at e
  .rename_i hs
   cases e
   obtain⟨j,fb⟩:=RlW.frozen i ok
   exact⟨_,_,_,_,_,j,h1,fun v F' H' x r=>q v F H' (RlW.melt i ok x fb) (Same.refl _) x.hh (ys9 hs r)⟩
  .cases e
theorem zs8 {m:MB}(h:PC' X e m):PCw' X e (zw1 m):=PT.imp h fun σ H Q ⟨F0,H0,F,ρ,β,d,⟨B,fp,i,ok⟩,e,q⟩=>by
 obtain⟨j,fb⟩:=RlW.frozen i ok
 exact⟨_,_,_,_,_,j,e,fun F' H' x=>q F H' (RlW.melt i ok x fb) (Same.refl _)⟩
end
end
section
noncomputable def cut (H B:Hp):Hp:=fun a=>match B a with |some _=>none|none=>H a
theorem xd4 {H B:Hp}{a:Addr}(h:B a≠none):cut H B a=none:=by
 unfold cut
 cases q:B a with
 |none=>exact absurd q h
 |some o=>rfl
theorem G2 {H B:Hp}{a:Addr}(h:B a=none):cut H B a=H a:=by unfold cut;rw[h]
theorem xf5 {H B:Hp}(h:Same B H):jn (cut H B) B=H:=by
 funext a
 cases q:B a with
 |none=>rw[d8 q,G2 q]
 |some o=>rw[l8 q,h a o q]
noncomputable abbrev MFW:=List D->Bx->Option (Rt×Bx)
noncomputable def okTW (K:W.Frag)(F H B:Hp)(Q:VK):Rt->Bx->Prop
 | .sh d,β=>∀ v F' H' B' fp',Ext F (jn (cut H B) B') F' H'->BxOk K F (cut H B) F' B' fp' β->Rep K F' v d->Q v H'
 | .fr ds,β=>∀ p xs F' H' B' fp',Ext F (jn (cut H B) B') F' H'->BxOk K F (cut H B) F' B' fp' β->jn (cut H B) B' p=none->F' p=none->H' p=some (.lst xs)->Reps K F' xs ds->Q (.ref p) H'
 | .pr _ _,_=>False
def spW (K:W.Frag)(n:Nat)(m:MFW):Sp:=fun vs H Q _=>vs.length=n/\∃ F B fp ds β r β',Same F H/\Same B H/\BxOk K F (cut H B) F B fp β/\Reps K F vs ds/\m ds β=some (r,β')/\okTW K F H B Q r β'
noncomputable def runW (n:Nat)(m:MW):MFW:=fun ds β=>match m (u7 n ds) β with
 |some (.nx _,β')=>some (.sh .non,β'.drop (β'.length-β.length))
 |some (.rt d,β')=>some (.sh d,β'.drop (β'.length-β.length))
 |some (.rf es,β')=>some (.fr es,β'.drop (β'.length-β.length))
 |_=>none
theorem BxR.drop {K:W.Frag}{F B:Hp}:∀{fp:List Addr}{β:Bx}(k:Nat),BxR K F B fp β->∃ fq,BxR K F B fq (β.drop k)/\fq.Sublist fp
 |_,_,0,h=>⟨_,h,List.Sublist.refl _⟩
 |_,_,k+1,.nil=>⟨_,.nil,List.Sublist.refl _⟩
 |_,_,k+1,.cons c r=>by
  obtain⟨fq,h,s⟩:=BxR.drop k r
  exact⟨fq,h,s.trans (sublist_append_right _ _)⟩
theorem BxOk.drop {K:W.Frag}{F0 H0 F B:Hp}{fp:List Addr}{β:Bx}(h:BxOk K F0 H0 F B fp β)(k:Nat):∃ fq,BxOk K F0 H0 F B fq (β.drop k):=by
 obtain⟨fq,r,s⟩:=h.bx.drop k
 exact⟨fq,h.out,r,h.nd.sublist s,h.plain⟩
theorem Fun.okW {P:Program}{w:World}{K:W.Frag}{mg:Str->Option Value}{base:Heap}{x qual:Str}{st:Stmt}{f:Addr}{fd:FuncData}{N ps:List Str}{k:Nat}{m:MW}(Fn:Fun K x qual st f fd)(Sc:FnScope N ps (y7 st))
  (i:∀(cdv:Value)(A:Around)(outer:List Env)(s:Shared)(H:Hp)(E:XK),Room k (A.deeper (envOfC qual (y7 st) s.heap.objs.size f cdv))->PSsw (cxOf CX0 P w K mg base N qual (y7 st) f cdv A outer s H E).nox (u5 st) m):
  FnOk P w K mg base CX0 (k+1) f fd ps (spW K ps.length (runW N.length m)):=by
 refine Fn.ok Sc (fun vs H Q E h=>h.1) fun cdv A outer s H vs Q E Y h=>?_
 obtain⟨hl,F,B,fp,ds,β,r,β',O,R,Z,S,e,ok⟩:=h
 unfold runW at e
 refine⟨_,i cdv A outer s H E Y,F,cut H B,F,u7 N.length ds,β,?_⟩
 have start:RlW K F (cut H B) F H (start N vs) (u7 N.length ds) β:=⟨B,fp,by rw[xf5 R];exact zt7 O S,Z⟩
 split at e
 .rename_i ρ β1 h1
  cases e
  refine⟨_,_,start,h1,fun F' H' I U _=>?_⟩
  obtain⟨B',z,G,j⟩:=U
  obtain⟨fq,k2⟩:=j.drop (β1.length-β.length)
  exact ok .non F' H' B' fq G.ext k2 .non
 .rename_i d β1 h1
  cases e
  refine⟨_,_,start,h1,fun v F' H' B' z x j rp=>?_⟩
  obtain⟨fq,k2⟩:=j.drop (β1.length-β.length)
  exact ok v F' H' B' fq x k2 rp
 .rename_i es β1 h1
  cases e
  refine⟨_,_,start,h1,fun p xs F' H' B' z x j a1 a2 a3 a4=>?_⟩
  obtain⟨fq,k2⟩:=j.drop (β1.length-β.length)
  exact ok p xs F' H' B' fq x k2 a1 a2 a3 a4
 .cases e
def TDx (K:W.Frag)(m:Ro->Bx->Option (D×Bx)):TE:=fun σ H Q=>∃ F0 H0 F ρ β d β',RlW K F0 H0 F H σ ρ β/\m ρ β=some (d,β')/\∀ v F' H',RlW K F0 H0 F' H' σ ρ β'->Same F F'->Rep K F' v d->Q v H'
def PDx (X:Cx)(e:Expr)(m:Ro->Bx->Option (D×Bx)):Prop:=PE X e (TDx X.K m)
section
variable {K:W.Frag}{F0 H0 F H B:Hp}{σ:St}{ρ:Ro}{β:Bx}{fp:List Addr}
theorem BxOk.call (i:Rl K F0 (jn H0 B) F H σ ρ)(ok:BxOk K F0 H0 F B fp β):Same B H/\BxOk K F (cut H B) F B fp β:=by
 have j:Same B H:=fun a o e=>i.ext.hh a o (l8 e)
 refine⟨j,fun a h=>⟨xd4 h,?_⟩,ok.bx,ok.nd,ok.plain⟩
 cases q:F a with
 |none=>rfl
 |some o=>
  have:=i.ext.new a (ok.out a h).2 (by rw[q];simp)
  exact absurd (g7 this).1 h
theorem RlW.back' {F' H' B':Hp}{O:List Addr}{β':Bx}(I:Rl K F0 (jn H0 B) F H σ ρ)(ok:BxOk K F0 H0 F B fp β)(x:Ext F (jn (cut H B) B') F' H')(G:BxOk K F (cut H B) F' B' O β'):Rl K F0 (jn H0 B') F' H' σ ρ/\BxOk K F0 H0 F' B' O β':=by
 have R:∀ a o,H0 a=some o->B a=none/\H a=some o/\B' a=none:=fun a o e=>by
  have b:B a=none:=by
   cases q:B a with
   |none=>rfl
   |some u=>have:=(ok.out a (by rw[q];simp)).1;rw[this]at e;cases e
  have h:=I.ext.hh a o (by rw[d8 b];exact e)
  refine⟨b,h,?_⟩
  cases q:B' a with
  |none=>rfl
  |some u=>have:=(G.out a (by rw[q];simp)).1;rw[G2 b,h]at this;cases this
 have N:∀ p xs,jn H0 B p=none->F p=none->H p=some (.lst xs)->F' p=none/\jn H0 B' p=none/\H' p=some (.lst xs):=fun p xs e1 e2 e3=>by
  obtain⟨b,h⟩:=g7 e1
  have c:cut H B p=some (.lst xs):=by rw[G2 b];exact e3
  have b':B' p=none:=by
   cases q:B' p with
   |none=>rfl
   |some u=>have:=(G.out p (by rw[q];simp)).1;rw[c]at this;cases this
  have j:jn (cut H B) B' p=some (.lst xs):=by rw[d8 b'];exact c
  refine⟨?_,by rw[d8 b'];exact h,x.hh p _ j⟩
  cases q:F' p with
  |none=>rfl
  |some u=>have:=x.new p e2 (by rw[q];simp);rw[j]at this;cases this
 refine⟨⟨⟨I.ext.ff.trans x.ff,fun a o e=>?_,x.fh,fun b e n=>?_,fun b o u e=>I.ext.nf b o u (x.nf b o u e)⟩,I.len,fun i d e=>?_,fun i ds e=>?_,I.inj,fun i p ds e=>?_,I.obn,I.ob1⟩,fun a h=>⟨?_,?_⟩,G.bx,G.nd,G.plain⟩
 .cases q:B' a with
  |some u=>rw[l8 q]at e;cases e;exact x.hh a _ (l8 q)
  |none=>
   rw[d8 q]at e
   obtain⟨b,h,_⟩:=R a o e
   exact x.hh a o (by rw[d8 q,G2 b];exact h)
 .cases q1:F b with
  |none=>
   obtain⟨b',c⟩:=g7 (x.new b q1 n)
   rw[d8 b']
   cases q:H0 b with
   |none=>rfl
   |some o=>obtain⟨z,h,_⟩:=R b o q;rw[G2 z,h]at c;cases c
  |some o=>
   have:=I.ext.new b e (by rw[q1];simp)
   obtain⟨_,h⟩:=g7 this
   cases q:B' b with
   |none=>rw[d8 q];exact h
   |some u=>have:=(G.out b (by rw[q];simp)).2;rw[q1]at this;cases this
 .obtain⟨v,a1,a2⟩:=I.sh i d e
  exact⟨v,a1,a2.mono x.ff⟩
 .obtain⟨p,xs,a1,a2,a3,a4,a5⟩:=I.own i ds e
  obtain⟨b1,b2,b3⟩:=N p xs a5 a2 a3
  exact⟨p,xs,a1,b1,b3,a4.mono x.ff,b2⟩
 .obtain⟨a1,a2,a3,xs,a4,a5⟩:=I.ob i p ds e
  obtain⟨b1,b2,b3⟩:=N p xs a3 a2 a4
  exact⟨a1,b1,b2,xs,b3,a5.mono x.ff⟩
 .cases q:H0 a with
  |none=>rfl
  |some o=>exact absurd (R a o q).2.2 h
 .cases q:F0 a with
  |none=>rfl
  |some o=>have:=(G.out a h).2;rw[I.ext.ff a o q]at this;cases this
theorem RlW.back {F' H' B':Hp}{i:List Addr}{β':Bx}(z:Rl K F0 (jn H0 B) F H σ ρ)(ok:BxOk K F0 H0 F B fp β)(x:Ext F (jn (cut H B) B') F' H')(j:BxOk K F (cut H B) F' B' i β'):RlW K F0 H0 F' H' σ ρ β':=let ⟨a,b⟩:=RlW.back' z ok x j;⟨B',i,a,b⟩
end
section
variable {X:Cx}{a b c e o:Expr}{pos:Pos}{st:Stmt}{rest:List Stmt}{E:XK}{es:List Expr}{mf:MFW}{m:ML}
noncomputable def rtW:Option (Rt×Bx)->Option (D×Bx)
 |some (.sh d,β)=>some (d,β)
 |some (.fr es,β)=>some (.lst es,β)
 |_=>none
theorem K5 {K:W.Frag}{F0 H0 F H B:Hp}{σ:St}{ρ:Ro}{β β':Bx}{fp:List Addr}{ds:List D}{d:D}{vs:List V}{n:Nat}{Q:VK}(i:Rl K F0 (jn H0 B) F H σ ρ)(ok:BxOk K F0 H0 F B fp β)(I:vs.length=n)(r:Reps K F vs ds)(e:rtW (mf ds β)=some (d,β'))
  (q:∀ v F' H',RlW K F0 H0 F' H' σ ρ β'->Same F F'->Rep K F' v d->Q v H'):spW K n mf vs H Q E:=by
 obtain⟨G,k⟩:=ok.call i
 refine⟨I,F,B,fp,ds,β,?_⟩
 unfold rtW at e
 split at e
 .rename_i d' β1 h2
  cases e
  exact⟨_,_,i.fh,G,k,r,h2,fun v F' H' B' z x j rp=>q v F' H' (RlW.back i ok x j) x.ff rp⟩
 .rename_i es' β1 h2
  cases e
  refine⟨_,_,i.fh,G,k,r,h2,fun p xs F' H' B' z x j e1 e2 e3 rp=>?_⟩
  have s2:Same F' (upd F' p (.lst xs)):=(Same.refl F').put e2
  exact q _ (upd F' p (.lst xs)) H' (RlW.back i ok (x.freeze e2 e1 e3) (j.mono s2)) (x.ff.trans s2) (.lst (SqL.of x9) (rp.mono s2))
 .cases e
noncomputable def G8 (f:MFW)(m:ML):Ro->Bx->Option (D×Bx):=fun ρ β=>(m ρ).bind fun ds=>rtW (f ds β)
theorem zc8 {n:Nat}(h:∀ t,PA X es t->PE X e (ys3 (spW X.K n mf) [] E t))(N:es.length=n)(ha:PAs X es m)(hm:∀ ρ ds,m ρ=some ds->ds.length=es.length):PDx X e (G8 mf m):=PE.imp (h _ ha) fun σ H Q ⟨F0,H0,F,ρ,β,d,β',⟨B,fp,z,ok⟩,e,q⟩=>by
 unfold G8 at e
 cases h1:m ρ with
 |none=>rw[h1]at e;cases e
 |some ds=>
  rw[h1,Option.bind_some]at e
  refine⟨F0,jn H0 B,F,ρ,ds,z,h1,fun vs F1 H1 i G=>?_⟩
  show spW X.K n mf (vs++[]) H1 Q E
  rw[append_nil]
  exact K5 (z.go i) (ok.mono i.ff) (by rw[G.length,hm ρ ds h1,N]) G e fun v F' H' j I rp=>q v F' H' j (i.ff.trans I) rp
noncomputable def T1 (i:Nat)(c mn:Str)(f:MFW)(m:ML):Ro->Bx->Option (D×Bx):=fun ρ β=>match ρ[i]? with
 |some (some (.sh (.ptr p)))=>(match β.lookup p with
  |some (.ins c' ns fs)=>if c'=c/\mn∉ns then (m ρ).bind fun ds=>rtW (f (.ptr p::ds) β)else none
  |_=>none)
 |_=>none
theorem d6 {ns:List Str}{mn:Str}(h:mn∉ns):∀ xs:List V,(ns.zip xs).lookup mn=none:=by
 induction ns with
 |nil=>intro xs;rfl
 |cons n ns i=>
  intro xs
  cases xs with
  |nil=>rfl
  |cons x xs=>
   rw[zip_cons_cons,lookup_cons]
   have hn:(mn==n)=false:=by
    cases q:mn==n with
    |false=>rfl
    |true=>exact absurd (by rw[beq_iff_eq.mp q];simp) h
   rw[hn]
   exact i (fun z=>h (mem_cons_of_mem _ z)) xs
theorem M9 {n:Nat}{i:Nat}{c mn:Str}{C:Addr}(hC:W.nsIn X.K mainGlobals c=some (some (.ref C)))(Z:PD X o (mvar i))(h:∀ ta t,PE X o ta->PA X es t->PE X e (zx5 C mn (spW X.K n mf) [] E ta t))(hl:es.length+1=n)(ha:PAs X es m)(hm:∀ ρ ds,m ρ=some ds->ds.length=es.length):
  PDx X e (T1 i c mn mf m):=PE.imp (h _ _ Z ha) fun σ H Q ⟨F0,H0,F,ρ,β,d,β',⟨B,fp,z,ok⟩,e,q⟩=>by
 unfold T1 at e
 split at e
 .rename_i p hp
  split at e
  .rename_i c' ns fs hb
   split at e
   .rename_i N
    obtain⟨rfl,N⟩:=N
    cases h1:m ρ with
    |none=>rw[h1]at e;cases e
    |some ds=>
     rw[h1,Option.bind_some]at e
     obtain⟨fq,Y⟩:=ok.bx.at' hb
     refine⟨F0,jn H0 B,F,ρ,.ptr p,z,by unfold mvar;rw[hp],fun v F1 H1 j U=>?_⟩
     cases U
     cases Y with
     |ins R a2 a3 a4 a5=>
      rw[hC]at R
      cases R
      refine⟨p,_,_,rfl,j.hh _ _ (z.ext.hh _ _ (l8 a3)),d6 N _,?_⟩
      refine⟨F0,jn H0 B,F1,ρ,ds,z.go j,h1,fun vs F2 H2 G O=>?_⟩
      show spW X.K n mf (.ref p::(vs++[])) H2 Q E
      rw[append_nil]
      exact K5 ((z.go j).go G) ((ok.mono j.ff).mono G.ff) (by rw[length_cons,O.length,hm ρ ds h1,hl]) (.cons (.ptr p) O) e fun v F' H' I S rp=>q v F' H' I ((j.ff.trans G.ff).trans S) rp
   .cases e
  .cases e
 .cases e
noncomputable def T3 (x:Ro->Bx->Option (D×Bx)):MW:=fun ρ β=>(x ρ β).map fun r=>(.nx ρ,r.2)
theorem R4 {ma:Ro->Bx->Option (D×Bx)}(h:PS X st (xm8 (TDx X.K ma))):PSw X st (T3 ma):=PS.imp h fun D σ H i=>by
 obtain⟨F0,H0,F,ρ,β,o,β',j,e,ok⟩:=i
 unfold T3 at e
 cases h1:ma ρ β with
 |none=>rw[h1]at e;cases e
 |some r=>
  rw[h1]at e;cases e
  exact⟨F0,H0,F,ρ,β,r.1,r.2,j,h1,fun v F1 H1 G z rp=>ok F1 H1 σ G z⟩
end
end
section
noncomputable def fldD (c f:Str):D->Option D
 | .obj c' ns ds=>if c'=c then (ns.zip ds).lookup f else none
 |_=>none
theorem zw6 {K:W.Frag}{F:Hp}{f:Str}{d:D}:∀{ns:List Str}{xs:List V}{ds:List D},ns.length=xs.length->Reps K F xs ds->(ns.zip ds).lookup f=some d->∃ v,(ns.zip xs).lookup f=some v/\Rep K F v d
 |[],_,_,_,_,e=>by cases e
 |n::ns,[],_,l,_,_=>by cases l
 |n::ns,x::xs,_::ds,l,.cons h r,e=>by
  rw[zip_cons_cons,lookup_cons]at e ⊢
  cases q:f==n with
  |true=>rw[q]at e;cases e;exact⟨x,rfl,h⟩
  |false=>rw[q]at e;exact zw6 (by simpa using l) r e
section
variable {X:Cx}{a b c e o:Expr}{pos apos:Pos}{E:XK}{es:List Expr}{m:ML}{mo:ME}
@[irreducible] noncomputable def mfld (c f:Str)(m:ME):ME:=fun ρ=>(m ρ).bind (fldD c f)
theorem W1 {c f:Str}(O:PD X o mo)(R:∀ C,W.nsIn X.K mainGlobals c=some (some (.ref C))->Cls X.K C/\NoAttr X.K C f)(S:attributeBase o f X.env (eval o X.env)=eval o X.env:=by rfl):PD X (.Attribute o f pos) (mfld c f mo):=PE.imp (xw0 O S) fun σ H Q i=>by
 obtain⟨F0,H0,F,ρ,d,I,e,q⟩:=i
 unfold mfld at e
 cases h1:mo ρ with
 |none=>rw[h1]at e;cases e
 |some U=>
  rw[h1,Option.bind_some]at e
  refine⟨F0,H0,F,ρ,U,I,h1,fun v F1 H1 z N=>?_⟩
  cases N with
  |@obj _ _ _ c0 ns0 _ ds0 a1 a2 a3 a4 a5=>
   have j:(if c0=c then (ns0.zip ds0).lookup f else none)=some d:=e
   clear e
   split at j
   .rename_i hz
    subst hz
    obtain⟨G,e1,e2⟩:=zw6 a2 a5 j
    obtain⟨k1,k2⟩:=R _ a1
    exact⟨_,_,_,_,G,rfl,z.fh _ _ a3,k1,k2,e1,q G F1 H1 z e2⟩
   .cases j
  |_=>cases e
@[irreducible] noncomputable def v6 (c mn:Str)(f:MF)(mo:ME)(m:ML):ME:=fun ρ=>match mo ρ with
 |some (.obj c' ns ds0)=>if c'=c/\mn∉ns then (m ρ).bind fun ds=>match f (.obj c' ns ds0::ds)with |some (.sh d)=>some d|some (.fr es)=>some (.lst es)|some (.pr d es)=>some (.tup [d,.lst es])|none=>none else none
 |_=>none
end
noncomputable def updB (p:Addr)(c':Cell):Bx->Bx
 |[]=>[]
 | (q,c)::β=>if q=p then (q,c')::β else (q,c)::updB p c' β
section
variable {K:W.Frag}{F0 H0 F H B:Hp}{σ:St}{ρ:Ro}{β:Bx}{fp:List Addr}
theorem BxR.upd {p:Addr}{c:Cell}:∀{fp:List Addr}{β:Bx},BxR K F B fp β->fp.Nodup->β.lookup p=some c->∃ fq,CellR K F B fq p c/\fq.Nodup/\(∀ a∈fq,a∈fp)/\
  ∀(O:Cell)(i:List Addr)(B' F':Hp),Same F F'->CellR K F' B' i p O->i.Nodup->(∀ a∈fp,a∉fq->B' a=B a)->(∀ a∈i,a∈fq\/a∉fp)->∃ j,BxR K F' B' j (updB p O β)/\j.Nodup/\∀ a∈j,a∈fp\/a∈i
 |_,_,.nil,_,e=>by cases e
 |_,_,.cons (fp:=f0) (fq:=f1) (p:=q) (c:=c0) (β:=β) h r,nd,e=>by
  obtain⟨n0,n1,n2⟩:=List.nodup_append.mp nd
  have N:∀ a,a∈f0->a∈f1->False:=fun a h1 h2=>n2 a h1 a h2 rfl
  rw[lookup_cons]at e
  cases z:p==q with
  |true=>
   rw[z]at e
   have z:=beq_iff_eq.mp z
   subst z
   cases e
   refine⟨f0,h,n0,fun a ha=>mem_append_left _ ha,fun O i B' F' R hc Y S fr=>?_⟩
   unfold updB
   rw[if_pos rfl]
   refine⟨i++f1,.cons hc (r.mono R fun a ha=>S a (mem_append_right _ ha) fun z=>N a z ha),List.nodup_append.mpr ⟨Y,n1,fun a h1 b h2 I=>?_⟩,fun a ha=>?_⟩
   .subst I
    rcases fr a h1 with z|z
    .exact N a z h2
    .exact z (mem_append_right _ h2)
   .rcases List.mem_append.mp ha with z|z
    .exact .inr z
    .exact .inl (mem_append_right _ z)
  |false=>
   rw[z]at e
   have a2:¬ q=p:=fun y=>by rw[y,beq_self_eq_true]at z;cases z
   obtain⟨fq,h1,U,G,a1⟩:=r.upd n1 e
   refine⟨fq,h1,U,fun a ha=>mem_append_right _ (G a ha),fun O i B' F' R hc Y S fr=>?_⟩
   obtain⟨j,r',Z,hm⟩:=a1 O i B' F' R hc Y (fun a ha hn=>S a (mem_append_right _ ha) hn) fun a ha=>(fr a ha).imp id fun z y=>z (mem_append_right _ y)
   unfold updB
   rw[if_neg a2]
   refine⟨f0++j,.cons (h.mono R fun a ha=>S a (mem_append_left _ ha) fun y=>N a ha (G a y)) r',List.nodup_append.mpr ⟨n0,Z,fun a h1 b h2 I=>?_⟩,fun a ha=>?_⟩
   .subst I
    rcases hm a h2 with z|z
    .exact N a h1 z
    .rcases fr a z with y|y
     .exact N a h1 (G a y)
     .exact y (mem_append_left _ h1)
   .rcases List.mem_append.mp ha with z|z
    .exact .inl (mem_append_left _ z)
    .exact(hm a z).imp (mem_append_right _) id
theorem Rl.putB {a:Addr}{o:HO}(j:Rl K F0 (jn H0 B) F H σ ρ)(out:∀ b,B b≠none->H0 b=none/\F0 b=none)(ha:B a≠none\/H a=none):Rl K F0 (jn H0 (upd B a o)) F (upd H a o) σ ρ/\F a=none/\H0 a=none/\F0 a=none:=by
 have N:F a=none/\H0 a=none/\F0 a=none:=by
  rcases ha with h|h
  .refine⟨?_,out a h⟩
   cases q:F a with
   |none=>rfl
   |some u=>exact absurd (g7 (j.ext.new a (out a h).2 (by rw[q];simp))).1 h
  .have f:F a=none:=j.fh.free h
   exact⟨f,(g7 (j.ext.hh.free h)).2,j.ext.ff.free f⟩
 have I:∀ b,b≠a->jn H0 (upd B a o) b=jn H0 B b:=fun b G=>by unfold jn;rw[x8 G]
 have ne:∀ p xs,jn H0 B p=none->H p=some (.lst xs)->p≠a:=fun p xs e1 e2 e3=>by
  subst e3
  rcases ha with h|h
  .exact h (g7 e1).1
  .rw[h]at e2;cases e2
 refine⟨⟨⟨j.ext.ff,fun b u e=>?_,j.ext.fh.put N.1,fun b e n=>?_,j.ext.nf⟩,j.len,j.sh,fun i ds e=>?_,j.inj,fun i p ds e=>?_,j.obn,j.ob1⟩,N⟩
 .by_cases G:b=a
  .subst G
   rw[l8 x9]at e
   rw[x9];exact e
  .rw[I b G]at e
   rw[x8 G]
   exact j.ext.hh b u e
 .have G:b≠a:=fun z=>by subst z;exact n N.1
  rw[I b G]
  exact j.ext.new b e n
 .obtain⟨p,xs,a1,a2,a3,a4,a5⟩:=j.own i ds e
  have hp:=ne p xs a5 a3
  exact⟨p,xs,a1,a2,by rw[x8 hp];exact a3,a4,by rw[I p hp];exact a5⟩
 .obtain⟨a1,a2,a3,xs,a4,a5⟩:=j.ob i p ds e
  have hp:=ne p xs a3 a4
  exact⟨a1,a2,by rw[I p hp];exact a3,xs,by rw[x8 hp];exact a4,a5⟩
end
end
section
noncomputable def putN (f:Str)(w:Fl):List Str->List Fl->List Str×List Fl
 |n::ns,g::gs=>if n=f then (n::ns,w::gs)else (n::(putN f w ns gs).1,g::(putN f w ns gs).2)
 |_,_=>([f],[w])
section
variable {K:W.Frag}{F0 H0 F H B:Hp}{σ:St}{ρ:Ro}{β:Bx}{fp:List Addr}
theorem FlR.length {xs:List V}{fs:List Fl}(h:FlR K F B fp xs fs):xs.length=fs.length:=by
 induction h with
 |nil=>rfl
 |v _ _ i=>simp[i]
 |l _ _ _ i=>simp[i]
theorem FlR.one_cons {i:List Addr}{y:V}{w:Fl}(h:FlR K F B i [y] [w]){fq:List Addr}{xs:List V}{fs:List Fl}(r:FlR K F B fq xs fs):FlR K F B (i++fq) (y::xs) (w::fs):=by
 cases h with
 |v a b=>cases b;exact .v a r
 |l a b c=>cases c;exact .l a b r
theorem FlR.put {f:Str}{y:V}{w:Fl}{G:List Addr}(hw:FlR K F B G [y] [w])(N:G.Nodup):∀{fq:List Addr}{ns:List Str}{xs:List V}{fs:List Fl},FlR K F B fq xs fs->ns.length=xs.length->fq.Nodup->(∀ a∈G,a∉fq)->
  ∃ i j,putF f y (ns.zip xs)=(putN f w ns fs).1.zip i/\(putN f w ns fs).1.length=i.length/\FlR K F B j i (putN f w ns fs).2/\j.Nodup/\∀ a∈j,a∈fq\/a∈G
 |_,[],_,_,.nil,_,_,_=>⟨[y],G,rfl,rfl,hw,N,fun a h=>.inr h⟩
 |_,_::_,_,_,.nil,hl,_,_=>by cases hl
 |_,[],_,_,.v _ _,hl,_,_=>by cases hl
 |_,[],_,_,.l _ _ _,hl,_,_=>by cases hl
 |fq,n::ns,x::xs,_::fs,.v r rr,hl,nd,dj=>by
  have l':ns.length=xs.length:=by simpa using hl
  by_cases hn:n=f
  .refine⟨y::xs,G++fq,?_,?_,?_,?_,?_⟩
   .rw[zip_cons_cons];unfold putF putN;rw[if_pos hn,if_pos hn];rfl
   .unfold putN;rw[if_pos hn];simpa using hl
   .unfold putN;rw[if_pos hn];exact hw.one_cons rr
   .exact List.nodup_append.mpr ⟨N,nd,fun a h1 b h2 e=>by subst e;exact dj a h1 h2⟩
   .intro a ha;exact(List.mem_append.mp ha).symm
  .obtain⟨i,j,e1,e2,e3,e4,e5⟩:=FlR.put (f:=f) hw N rr l' nd dj
   refine⟨x::i,j,?_,?_,?_,e4,e5⟩
   .rw[zip_cons_cons];unfold putF putN;rw[if_neg hn,if_neg hn,e1];rfl
   .unfold putN;rw[if_neg hn];simp[e2]
   .unfold putN;rw[if_neg hn];exact .v r e3
 |_,n::ns,_::xs,_::fs,.l (fp:=fq) (q:=q) b r rr,hl,nd,dj=>by
  have l':ns.length=xs.length:=by simpa using hl
  have I:=List.nodup_cons.mp nd
  have O:∀ a∈G,a∉fq:=fun a h1 h2=>dj a h1 (mem_cons_of_mem _ h2)
  by_cases hn:n=f
  .refine⟨y::xs,G++fq,?_,?_,?_,?_,?_⟩
   .rw[zip_cons_cons];unfold putF putN;rw[if_pos hn,if_pos hn];rfl
   .unfold putN;rw[if_pos hn];simpa using hl
   .unfold putN;rw[if_pos hn];exact hw.one_cons rr
   .exact List.nodup_append.mpr ⟨N,I.2,fun a h1 b h2 e=>by subst e;exact O a h1 h2⟩
   .intro a ha
    rcases List.mem_append.mp ha with z|z
    .exact .inr z
    .exact .inl (mem_cons_of_mem _ z)
  .obtain⟨i,j,e1,e2,e3,e4,e5⟩:=FlR.put (f:=f) hw N rr l' I.2 O
   refine⟨.ref q::i,q::j,?_,?_,?_,?_,?_⟩
   .rw[zip_cons_cons];unfold putF putN;rw[if_neg hn,if_neg hn,e1];rfl
   .unfold putN;rw[if_neg hn];simp[e2]
   .unfold putN;rw[if_neg hn];exact .l b r e3
   .refine List.nodup_cons.mpr ⟨fun h=>?_,e4⟩
    rcases e5 q h with z|z
    .exact I.1 z
    .exact dj q z (by simp)
   .intro a ha
    rcases List.mem_cons.mp ha with rfl|z
    .exact .inl (by simp)
    .exact(e5 a z).imp (mem_cons_of_mem _) id
theorem Rl.takeB {q:Addr}{o:HO}(j:Rl K F0 (jn H0 B) F H σ ρ)(N:H q=some o)(O:F q=none)(R:jn H0 B q=none)(hn:∀(i:Nat) ds,ρ[i]? =some (some (.own ds))->σ[i]? ≠some (some (.ref q)))(I:∀(i:Nat) p ds,ρ[i]? =some (some (.ob p ds))->p≠q):Rl K F0 (jn H0 (upd B q o)) F H σ ρ:=by
 have G:∀ b,b≠q->jn H0 (upd B q o) b=jn H0 B b:=fun b I=>by unfold jn;rw[x8 I]
 refine⟨⟨j.ext.ff,fun b u e=>?_,j.ext.fh,fun b e n=>?_,j.ext.nf⟩,j.len,j.sh,fun i ds e=>?_,j.inj,fun i p ds e=>?_,j.obn,j.ob1⟩
 .by_cases hq:b=q
  .subst hq;rw[l8 x9]at e;cases e;exact N
  .rw[G b hq]at e;exact j.ext.hh b u e
 .have hq:b≠q:=fun z=>by subst z;exact n O
  rw[G b hq];exact j.ext.new b e n
 .obtain⟨p,xs,a1,a2,a3,a4,a5⟩:=j.own i ds e
  exact⟨p,xs,a1,a2,a3,a4,by rw[G p (fun z=>hn i ds e (by rw[<-z];exact a1))];exact a5⟩
 .obtain⟨a1,a2,a3,xs,a4,a5⟩:=j.ob i p ds e
  exact⟨a1,a2,by rw[G p (I i p ds e)];exact a3,xs,a4,a5⟩
theorem J0 {a:Addr}{o:HO}(out:∀ b,B b≠none->H0 b=none/\F0 b=none)(h:H0 a=none/\F0 a=none):∀ b,upd B a o b≠none->H0 b=none/\F0 b=none:=fun b i=>by
 by_cases z:b=a
 .subst z;exact h
 .rw[x8 z]at i;exact out b i
theorem U6 {a:Addr}{o:HO}(pl:∀ b o u,B b≠some (.frz o u))(h:∀ p u,o≠ .frz p u):∀ b p u,upd B a o b≠some (.frz p u):=fun b p u i=>by
 by_cases z:b=a
 .subst z;rw[x9]at i;exact h p u (Option.some.inj i)
 .rw[x8 z]at i;exact pl b p u i
theorem RlW.fld {p:Addr}{c f:Str}{ns:List Str}{fs:List Fl}{y:V}{w:Fl}{Z:List Addr}(rl:Rl K F0 (jn H0 B) F H σ ρ)(ok:BxOk K F0 H0 F B fp β)(hb:β.lookup p=some (.ins c ns fs))(hw:FlR K F B Z [y] [w])(nw:Z.Nodup)(O:∀ a∈Z,a∉fp):
  ∃ C dx xs,W.nsIn K mainGlobals c=some (some (.ref C))/\H p=some (.ins C dx (ns.zip xs))/\RlW K F0 H0 F (upd H p (.ins C dx (putF f y (ns.zip xs)))) σ ρ (updB p (.ins c (putN f w ns fs).1 (putN f w ns fs).2) β):=by
 obtain⟨fq,hc,nq,j,up⟩:=ok.bx.upd ok.nd hb
 cases hc with
 |@ins fq0 _ dx C _ _ xs _ a1 a2 a3 a4 a5=>
  have i:=List.nodup_cons.mp nq
  have N:=List.nodup_cons.mp i.2
  have pin:p∈fp:=j p (by simp)
  have a7:dx∈fp:=j dx (by simp)
  obtain⟨a8,I,e1,e2,e3,e4,e5⟩:=FlR.put (f:=f) hw nw a5 a2 N.2 fun a h1 h2=>O a h1 (j a (by simp[h2]))
  refine⟨C,dx,xs,a1,rl.ext.hh _ _ (l8 a3),?_⟩
  obtain⟨R,fa,Y,U⟩:=rl.putB (a:=p) (o:=.ins C dx (putF f y (ns.zip xs))) ok.out (.inl (by rw[a3];simp))
  have pn:p∉I:=fun h=>by
   rcases e5 p h with z|z
   .exact i.1 (by simp[z])
   .exact O p z pin
  have dn:dx∉I:=fun h=>by
   rcases e5 dx h with z|z
   .exact N.1 z
   .exact O dx z a7
  have pd:dx≠p:=fun z=>i.1 (by simp[z])
  have G:CellR K F (upd B p (.ins C dx (putF f y (ns.zip xs)))) (p::dx::I) p (.ins c (putN f w ns fs).1 (putN f w ns fs).2):=
   .ins a1 e2 (by rw[x9,e1]) (by rw[x8 pd];exact a4) (e3.mono (Same.refl _) fun a ha=>x8 fun z=>pn (z ▸ ha))
  obtain⟨a6,r',S,hm⟩:=up _ _ _ F (Same.refl _) G (List.nodup_cons.mpr ⟨fun h=>by rcases List.mem_cons.mp h with z|z;exact pd z.symm;exact pn z,List.nodup_cons.mpr ⟨dn,e4⟩⟩) (fun a ha hn=>x8 fun z=>hn (by rw[z];simp)) (fun a ha=>by
   rcases List.mem_cons.mp ha with rfl|ha
   .exact .inl (by simp)
   .rcases List.mem_cons.mp ha with rfl|ha
    .exact .inl (by simp)
    .rcases e5 a ha with z|z
     .exact .inl (by simp[z])
     .exact .inr (O a z))
  exact⟨_,a6,R,J0 ok.out ⟨Y,U⟩,r',S,U6 ok.plain fun _ _ z=>by cases z⟩
end
section
variable {X:Cx}{value o:Expr}{pos pos':Pos}{f:Str}
noncomputable def yk0 (i:Nat)(c f:Str)(x:Ro->Bx->Option D):MW:=fun ρ β=>(x ρ β).bind fun d=>match ρ[i]? with
 |some (some (.sh (.ptr p)))=>(match β.lookup p with
  |some (.ins c' ns fs)=>if c'=c/\ns.length<1000 then some (.nx ρ,updB p (.ins c' (putN f (.v d) ns fs).1 (putN f (.v d) ns fs).2) β)else none
  |_=>none)
 |_=>none
theorem xs3 {i:Nat}{c:Str}{mv:Ro->Bx->Option D}(Y:∀ C,W.nsIn X.K mainGlobals c=some (some (.ref C))->Cls X.K C/\NoAttr X.K C f)(U:PD X o (mvar i))(S:PDw X value mv)(hs:swapsWith value (some (.Attribute o f pos')) pos.line X.env=pure false:=by rfl):
  PSw X (.Assign [.Attribute o f pos'] value pos) (yk0 i c f mv):=PS.imp (xx8 U S hs) fun D σ H j=>by
 obtain⟨F0,H0,F,ρ,β,o',β',G,e,k⟩:=j
 unfold yk0 at e
 cases h1:mv ρ β with
 |none=>rw[h1]at e;cases e
 |some d=>
  rw[h1,Option.bind_some]at e
  split at e
  .rename_i p hp
   split at e
   .rename_i c' ns fs hb
    split at e
    .rename_i N
     obtain⟨rfl,N⟩:=N
     cases e
     refine⟨F0,H0,F,ρ,β,d,G,h1,fun v F1 H1 R s1 _ rp=>?_⟩
     obtain⟨B,fp,I,ok⟩:=R
     refine⟨F0,jn H0 B,F1,ρ,.ptr p,I,by unfold mvar;rw[hp],fun x F2 H2 z O=>?_⟩
     cases O
     obtain⟨C,dx,xs,g1,g2,Z⟩:=RlW.fld (f:=f) (I.go z) (ok.mono z.ff) hb (.v (rp.mono z.ff) .nil) nodup_nil (fun a h=>by cases h)
     obtain⟨k1,k2⟩:=Y C g1
     exact⟨p,C,dx,_,rfl,g2,k1,k2,by rw[length_zip];omega,k F2 _ σ Z (s1.trans z.ff)⟩
    .cases e
   .cases e
  .cases e
noncomputable def L7 (i:Nat)(c f:Str)(x:Ro->Bx->Option (List D)):MW:=fun ρ β=>(x ρ β).bind fun ds=>match ρ[i]? with
 |some (some (.sh (.ptr p)))=>(match β.lookup p with
  |some (.ins c' ns fs)=>if c'=c/\ns.length<1000 then some (.nx ρ,updB p (.ins c' (putN f (.l ds) ns fs).1 (putN f (.l ds) ns fs).2) β)else none
  |_=>none)
 |_=>none
def TFw (K:W.Frag)(m:Ro->Bx->Option (List D)):TE:=fun σ H Q=>∃ F0 H0 F ρ β ds,RlW K F0 H0 F H σ ρ β/\m ρ β=some ds/\∀ q ys F' H' B fp,Rl K F0 (jn H0 B) F' H' σ ρ->BxOk K F0 H0 F' B fp β->Same F F'->jn H0 B q=none->H q=none->F' q=none->H' q=some (.lst ys)->Reps K F' ys ds->Q (.ref q) H'
def PFw (X:Cx)(e:Expr)(m:Ro->Bx->Option (List D)):Prop:=PE X e (TFw X.K m)
end
end
section
section
variable {X:Cx}{value e o:Expr}{pos pos' apos cpos:Pos}{f:Str}{st:Stmt}{rest:List Stmt}
theorem pfw {m:ML}(h:PF X e m):PFw X e (wE m):=PE.imp h fun σ H Q ⟨F0,H0,F,ρ,β,ds,⟨B,fp,i,ok⟩,e,q⟩=>
 ⟨F0,jn H0 B,F,ρ,ds,i,e,fun p xs F' H' x hp z j r=>q p xs F' H' B fp (i.go x) (ok.mono x.ff) x.ff (i.ext.hh.free hp) hp z j r⟩
noncomputable def J8 (m:ML):Ro->Bx->Option (List D):=fun ρ β=>(m (thaw ρ β)).bind fun ds=>if ds.all isSc=true then some ds else none
theorem zt4 {K:W.Frag}{F G:Hp}:∀{vs:List V}{ds:List D},ds.all isSc=true->Reps K F vs ds->Reps K G vs ds
 |_,_,_,.nil=>.nil
 |_,_,h,.cons r rr=>by
  rw[all_cons,Bool.and_eq_true]at h
  exact .cons (ys9 h.1 r) (zt4 h.2 rr)
theorem zc5 {m:ML}(h:PF X e m):PFw X e (J8 m):=PE.imp h fun σ H Q ⟨F0,H0,F,ρ,β,ds,⟨B,fp,i,ok⟩,e,q⟩=>by
 unfold J8 at e
 cases h1:m (thaw ρ β)with
 |none=>rw[h1]at e;cases e
 |some d'=>
  rw[h1,Option.bind_some]at e
  split at e
  .rename_i hs
   cases e
   obtain⟨j,fb⟩:=RlW.frozen i ok
   exact⟨_,_,_,_,_,j,h1,fun p xs F' H' x hp I G r=>q p xs F H' B fp (i.go ⟨Same.refl _,x.hh,i.fh.trans x.hh,fun b e n=>absurd e n,fun _ _ _ z=>z⟩) ok (Same.refl _) (i.ext.hh.free hp) hp (i.fh.free hp) G (zt4 hs r)⟩
  .cases e
theorem yc5 {K:W.Frag}{F0 H0 H F' H' B:Hp}{σ:St}{ρ:Ro}{q:Addr}{ys:List V}(j:Rl K F0 (jn H0 B) F' H' σ ρ)(hs:∀ a o,H a=some o->a≠q)(own:∀(i:Nat) ds p,ρ[i]? =some (some (.own ds))->σ[i]? =some (some (.ref p))->∃ o,H p=some o)(ob:∀(i:Nat) p ds,ρ[i]? =some (some (.ob p ds))->∃ o,H p=some o)(G:jn H0 B q=none)(N:F' q=none)(I:H' q=some (.lst ys)):Rl K F0 (jn H0 (upd B q (.lst ys))) F' H' σ ρ:=
 j.takeB I N G (fun i ds e z=>let ⟨o,h⟩:=own i ds q e z;hs q o h rfl) fun i p ds e z=>let ⟨o,h⟩:=ob i p ds e;hs p o h z
theorem M5 {i:Nat}{c:Str}{mv:Ro->Bx->Option (List D)}(hc:∀ C,W.nsIn X.K mainGlobals c=some (some (.ref C))->Cls X.K C/\NoAttr X.K C f)(ho:PD X o (mvar i))(hv:PFw X value mv)(hs:swapsWith value (some (.Attribute o f pos')) pos.line X.env=pure false:=by rfl):
  PSw X (.Assign [.Attribute o f pos'] value pos) (L7 i c f mv):=PS.imp (xx8 ho hv hs) fun D σ H R=>by
 obtain⟨F0,H0,F,ρ,β,o',β',I,e,k⟩:=R
 unfold L7 at e
 cases h1:mv ρ β with
 |none=>rw[h1]at e;cases e
 |some ds=>
  rw[h1,Option.bind_some]at e
  split at e
  .rename_i p hp
   split at e
   .rename_i c' ns fs hb
    split at e
    .rename_i hz
     obtain⟨rfl,hz⟩:=hz
     cases e
     have Y:=I
     obtain⟨B0,ab,O,aa⟩:=Y
     refine⟨F0,H0,F,ρ,β,ds,I,h1,fun q ys F1 H1 B fp rl ok s1 hj hq hF hH rp=>?_⟩
     refine⟨F0,jn H0 B,F1,ρ,.ptr p,rl,by unfold mvar;rw[hp],fun x F2 H2 G r2=>?_⟩
     cases r2
     have S:∀(i:Nat) ds a,ρ[i]? =some (some (.own ds))->σ[i]? =some (some (.ref a))->∃ o,H a=some o:=fun i ds a e1 e2=>by
      obtain⟨z,xs,a1,a2,a3,_⟩:=O.own i ds e1
      rw[a1]at e2;cases e2;exact⟨_,a3⟩
     have a6:∀(i:Nat) a ds,ρ[i]? =some (some (.ob a ds))->∃ o,H a=some o:=fun i a ds e1=>by
      obtain⟨_,_,_,xs,a4,_⟩:=O.ob i a ds e1
      exact⟨_,a4⟩
     have nq:∀ a o,H a=some o->a≠q:=fun a o h z=>by rw[z,hq]at h;cases h
     have N:=rl.go G
     have U:F2 q=none:=by
      cases z:F2 q with
      |none=>rfl
      |some u=>have:=G.new q hF (by rw[z];simp);rw[hH]at this;cases this
     have a7:H2 q=some (.lst ys):=G.hh _ _ hH
     have Z:=yc5 (H:=H) N nq S a6 hj U a7
     obtain⟨bq,a8⟩:=g7 hj
     have j:=ok.mono G.ff
     have qn:q∉fp:=fun z=>ok.bx.mem q z bq
     have a9:F0 q=none:=N.ext.ff.free U
     have a5:BxOk X.K F0 H0 F2 (upd B q (.lst ys)) fp β:=⟨J0 j.out ⟨a8,a9⟩,j.bx.mono (Same.refl _) fun a ha=>x8 fun z=>qn (z ▸ ha),j.nd,U6 j.plain fun _ _ z=>by cases z⟩
     obtain⟨C,dx,xs,g1,g2,g3⟩:=RlW.fld (f:=f) Z a5 hb (.l x9 (rp.mono G.ff) .nil) (by simp) (fun a h=>by rw[mem_singleton]at h;rw[h];exact qn)
     obtain⟨k1,k2⟩:=hc C g1
     exact⟨p,C,dx,_,rfl,g2,k1,k2,by rw[length_zip];omega,k F2 _ σ g3 (s1.trans G.ff)⟩
    .cases e
   .cases e
  .cases e
noncomputable def getN (f:Str):List Str->List Fl->Option Fl
 |n::ns,g::gs=>if n=f then some g else getN f ns gs
 |_,_=>none
theorem FlR.get {K:W.Frag}{F B:Hp}{f:Str}{ds:List D}:∀{fq:List Addr}{ns:List Str}{xs:List V}{fs:List Fl},FlR K F B fq xs fs->ns.length=xs.length->fq.Nodup->getN f ns fs=some (.l ds)->
  ∃ q ys,(ns.zip xs).lookup f=some (.ref q)/\q∈fq/\B q=some (.lst ys)/\Reps K F ys ds/\∀(B' F':Hp) j i,Same F F'->B' q=some (.lst j)->Reps K F' j i->(∀ a∈fq,a≠q->B' a=B a)->FlR K F' B' fq xs (putN f (.l i) ns fs).2/\(putN f (.l i) ns fs).1=ns
 |_,[],_,_,.nil,_,_,e=>by cases e
 |_,_::_,_,_,.nil,hl,_,_=>by cases hl
 |_,[],_,_,.v _ _,hl,_,_=>by cases hl
 |_,[],_,_,.l _ _ _,hl,_,_=>by cases hl
 |fq,n::ns,x::xs,_::fs,.v r rr,hl,nd,e=>by
  have l':ns.length=xs.length:=by simpa using hl
  unfold getN at e
  by_cases hn:n=f
  .rw[if_pos hn]at e;cases e
  .rw[if_neg hn]at e
   obtain⟨q,ys,Y,O,U,S,R⟩:=FlR.get rr l' nd e
   have N:(f==n)=false:=by
    cases z:f==n with
    |false=>rfl
    |true=>exact absurd (beq_iff_eq.mp z).symm hn
   refine⟨q,ys,by rw[zip_cons_cons,lookup_cons,N];exact Y,O,U,S,fun B' F' j i G b1 b2 b3=>?_⟩
   obtain⟨c1,c2⟩:=R B' F' j i G b1 b2 b3
   unfold putN
   rw[if_neg hn]
   exact⟨.v (r.mono G) c1,by simp[c2]⟩
 |_,n::ns,_::xs,_::fs,.l (fp:=fq) (q:=q0) b r rr,hl,nd,e=>by
  have l':ns.length=xs.length:=by simpa using hl
  have I:=List.nodup_cons.mp nd
  unfold getN at e
  by_cases hn:n=f
  .rw[if_pos hn]at e;cases e
   have N:(f==n)=true:=beq_iff_eq.mpr hn.symm
   refine⟨q0,_,by rw[zip_cons_cons,lookup_cons,N],by simp,b,r,fun B' F' j i G b1 b2 b3=>?_⟩
   unfold putN
   rw[if_pos hn]
   exact⟨.l b1 b2 (rr.mono G fun a ha=>b3 a (by simp[ha]) fun z=>I.1 (z ▸ ha)),rfl⟩
  .rw[if_neg hn]at e
   obtain⟨q,ys,Y,O,U,S,R⟩:=FlR.get rr l' I.2 e
   have N:(f==n)=false:=by
    cases z:f==n with
    |false=>rfl
    |true=>exact absurd (beq_iff_eq.mp z).symm hn
   refine⟨q,ys,by rw[zip_cons_cons,lookup_cons,N];exact Y,by simp[O],U,S,fun B' F' j i G b1 b2 b3=>?_⟩
   obtain⟨c1,c2⟩:=R B' F' j i G b1 b2 fun a ha Z=>b3 a (by simp[ha]) Z
   unfold putN
   rw[if_neg hn]
   exact⟨.l (by rw[b3 q0 (by simp) fun z=>I.1 (z ▸ O)];exact b) (r.mono G) c1,by simp[c2]⟩
noncomputable def O2 (i:Nat)(c f:Str)(x:Ro->Bx->Option D):MW:=fun ρ β=>match ρ[i]? with
 |some (some (.sh (.ptr p)))=>(match β.lookup p with
  |some (.ins c' ns fs)=>(match getN f ns fs with
   |some (.l ds)=>if c'=c/\ds.length<sizeLine then (x ρ β).map fun d=>(.nx ρ,updB p (.ins c' ns (putN f (.l (ds++[d])) ns fs).2) β)else none
   |_=>none)
  |_=>none)
 |_=>none
theorem C0 {i:Nat}{c:Str}{mv:Ro->Bx->Option D}(hc:∀ C,W.nsIn X.K mainGlobals c=some (some (.ref C))->Cls X.K C/\NoAttr X.K C f)(ho:PD X o (mvar i))(hv:PDw X e mv)
  (hb:attributeBase o f X.env (eval o X.env)=eval o X.env) (hE:∀ to t,PE X (.Attribute o f pos') to->PA X [e] t->PE X (.Call (.Attribute (.Attribute o f pos') "append" apos) [e] [] cpos) (tBM X.K "list" zt8 to t))
  (ad:starEach (e::[]) X.env=(false,eval e X.env)::starEach [] X.env:=by rfl) (hs:swapsWith (.Call (.Attribute (.Attribute o f pos') "append" apos) [e] [] cpos) none pos.line X.env=pure false:=by rfl):
  PSw X (.Expr (.Call (.Attribute (.Attribute o f pos') "append" apos) [e] [] cpos) pos) (O2 i c f mv):=PS.imp (Y8 (hE _ _ (xw0 ho hb) (j7 hv pa_nil ad)) hs) fun D σ H Z=>by
 obtain⟨F0,H0,F,ρ,β,o',β',a8,e,k⟩:=Z
 unfold O2 at e
 split at e
 .rename_i p hp
  split at e
  .rename_i c' ns fs hb
   split at e
   .rename_i ds hg
    split at e
    .rename_i hz
     obtain⟨rfl,hz⟩:=hz
     cases h1:mv ρ β with
     |none=>rw[h1]at e;cases e
     |some d=>
      rw[h1]at e;cases e
      have a7:=a8
      obtain⟨B,fp,R,ok⟩:=a7
      refine⟨F0,jn H0 B,F,ρ,.ptr p,R,by unfold mvar;rw[hp],fun x F1 H1 O r1=>?_⟩
      cases r1
      obtain⟨fq,ag,nq,al,up⟩:=ok.bx.upd ok.nd hb
      cases ag with
      |@ins fq0 _ dx C _ _ xs _ a1 a2 a3 a4 a5=>
       obtain⟨k1,k2⟩:=hc C a1
       have ab:=List.nodup_cons.mp nq
       have aa:=List.nodup_cons.mp ab.2
       obtain⟨q,ys,b1,b2,b3,b4,_⟩:=FlR.get a5 a2 aa.2 hg
       refine⟨p,C,dx,_,.ref q,rfl,O.hh _ _ (R.ext.hh _ _ (l8 a3)),k1,k2,b1,?_⟩
       refine⟨.inl ⟨rfl,_,SqL.of (O.hh _ _ (R.ext.hh _ _ (l8 b3)))⟩,?_⟩
       refine⟨F0,H0,F1,ρ,β,d,⟨B,fp,R.go O,ok.mono O.ff⟩,h1,fun v F2 H2 r2 s2 h2 rp=>?_⟩
       obtain⟨B2,an,I,G⟩:=r2
       obtain⟨am,af,S,aj,a6⟩:=G.bx.upd G.nd hb
       cases af with
       |@ins fq1 _ dx' C' _ _ xs' _ c1 c2 c3 c4 c5=>
        have e1:H2 p=some (.ins C dx (ns.zip xs)):=h2 _ _ (O.hh _ _ (R.ext.hh _ _ (l8 a3)))
        rw[I.ext.hh _ _ (l8 c3)]at e1
        injection e1 with e1
        injection e1 with z1 z2 z3
        have z4:xs'=xs:=by
         have:=congrArg (List.map Prod.snd) z3
         rwa [map_snd_zip (by omega),map_snd_zip (by omega)]at this
        subst z4
        have Y:=List.nodup_cons.mp S
        have U:=List.nodup_cons.mp Y.2
        obtain⟨q',j,d1,d2,d3,d4,d5⟩:=FlR.get c5 c2 U.2 hg
        rw[d1]at b1
        cases b1
        have hq:H2 q=some (.lst j):=I.ext.hh _ _ (l8 d3)
        refine⟨q,j,v,rfl,rfl,hq,by rw[d4.length];exact hz,?_⟩
        obtain⟨a9,fa,ah,ae⟩:=I.putB (a:=q) (o:=.lst (j++[v])) G.out (.inl (by rw[d3];simp))
        have qp:p≠q:=fun z=>Y.1 (by rw[z];simp[d2])
        have qd:dx'≠q:=fun z=>U.1 (z ▸ d2)
        obtain⟨g1,g2⟩:=d5 (upd B2 q (.lst (j++[v]))) F2 (j++[v]) (ds++[d]) (Same.refl _) x9 (d4.append (.cons rp .nil)) fun a ha hn=>x8 hn
        have N:CellR X.K F2 (upd B2 q (.lst (j++[v]))) (p::dx'::fq1) p (.ins c' ns (putN f (.l (ds++[d])) ns fs).2):=.ins c1 c2 (by rw[x8 qp];exact c3) (by rw[x8 qd];exact c4) g1
        obtain⟨ai,r3,ac,ak⟩:=a6 _ _ _ F2 (Same.refl _) N S (fun a ha hn=>x8 fun z=>hn (by rw[z];simp[d2])) fun a ha=>.inl ha
        exact k F2 _ σ ⟨_,ai,a9,J0 G.out ⟨ah,ae⟩,r3,ac,U6 G.plain fun _ _ z=>by cases z⟩ (O.ff.trans s2)
    .cases e
   .cases e
  .cases e
 .cases e
end
end
section
theorem Rl.forget {K:W.Frag}{F0 H0 F H:Hp}{σ:St}{ρ:Ro}(r:Rl K F0 H0 F H σ ρ)(i:Nat):Rl K F0 H0 F H σ (ρ.set i none):=by
 have back:∀(j:Nat) x,(ρ.set i none)[j]? =some (some x)->ρ[j]? =some (some x):=fun j x e=>by
  by_cases I:i=j
  .subst I
   rcases Nat.lt_or_ge i ρ.length with z|z
   .rw[getElem?_set_self z]at e;cases e
   .rw[getElem?_eq_none (by simpa using z)]at e;cases e
  .rw[getElem?_set_ne I]at e;exact e
 exact⟨r.ext,by simp[r.len],fun j d e=>r.sh j d (back j _ e),fun j ds e=>r.own j ds (back j _ e),fun j k p ds es G e1 e2=>r.inj j k p ds es G (back j _ e1) (back k _ e2),fun j p ds e=>r.ob j p ds (back j _ e),fun j k p ds es e1 e2=>r.obn j k p ds es (back j _ e1) (back k _ e2),fun j k p q ds es e1 e2=>r.ob1 j k p q ds es (back j _ e1) (back k _ e2)⟩
open Classical in
noncomputable def anyN {α:Type}(β:Bx)(f:Addr->Option α):Option α:=if h:∃ r,∀ x,x∉β.map Prod.fst->f x=some r then some (Classical.choose h)else none
theorem K7 {i:Type}{β:Bx}{f:Addr->Option i}{r:i}(h:anyN β f=some r):∀ x,x∉β.map Prod.fst->f x=some r:=by
 unfold anyN at h
 split at h
 .rename_i hx
  cases h
  exact Classical.choose_spec hx
 .cases h
theorem yu1 (l:List Addr):∃ x,x∉l:=by
 have z:∀ l:List Addr,∃ b,∀ a∈l,a<b:=by
  intro l
  induction l with
  |nil=>exact⟨0,fun a h=>by cases h⟩
  |cons a l G=>
   obtain⟨b,j⟩:=G
   refine⟨max b (a+1),fun c i=>?_⟩
   rcases List.mem_cons.mp i with rfl|i
   .have:=Nat.le_max_right b (c+1);exact Nat.lt_of_lt_of_le (Nat.lt_succ_self c) this
   .exact Nat.lt_of_lt_of_le (j c i) (Nat.le_max_left _ _)
 obtain⟨b,j⟩:=z l
 exact⟨b,fun h=>Nat.lt_irrefl _ (j b h)⟩
theorem zx0 {i:Type}{β:Bx}{f:Addr->Option i}{r:i}(h:∀ x,x∉β.map Prod.fst->f x=some r):anyN β f=some r:=by
 unfold anyN
 have j:∃ r,∀ x,x∉β.map Prod.fst->f x=some r:=⟨r,h⟩
 rw[dif_pos j]
 obtain⟨x,hn⟩:=yu1 (β.map Prod.fst)
 have:=Classical.choose_spec j x hn
 rw[h x hn]at this
 exact this.symm
noncomputable def letGo (i:Nat)(k:Nat):Out×Bx->Out×Bx
 | (.nx ρ,β)=>(.nx (ρ.set i none),β.drop (β.length-k))
 | (.bk ρ,β)=>(.bk (ρ.set i none),β.drop (β.length-k))
 | (.ct ρ,β)=>(.ct (ρ.set i none),β.drop (β.length-k))
 | (o,β)=>(o,β.drop (β.length-k))
theorem okW.letGo {K:W.Frag}{F0 H0 I:Hp}{N:Ends}{i k:Nat}:∀{o:Out}{β:Bx},okW K F0 H0 I N (letGo i k (o,β)).1 (letGo i k (o,β)).2->okW K F0 H0 I N o β
 | .nx ρ,β,h=>fun F H σ ⟨B,fp,G,ok⟩ s=>let ⟨fq,z⟩:=ok.drop (β.length-k);h F H σ ⟨B,fq,G.forget i,z⟩ s
 | .bk ρ,β,h=>fun F H σ ⟨B,fp,G,ok⟩ s=>let ⟨fq,z⟩:=ok.drop (β.length-k);h F H σ ⟨B,fq,G.forget i,z⟩ s
 | .ct ρ,β,h=>fun F H σ ⟨B,fp,G,ok⟩ s=>let ⟨fq,z⟩:=ok.drop (β.length-k);h F H σ ⟨B,fq,G.forget i,z⟩ s
 | .rt d,β,h=>fun v F H B fp x ok r=>let ⟨fq,z⟩:=ok.drop (β.length-k);h v F H B fq x z r
 | .rf ds,β,h=>fun p xs F H B fp x ok a b c r=>let ⟨fq,z⟩:=ok.drop (β.length-k);h p xs F H B fq x z a b c r
 | .rg d p r,β,h=>fun v F H xs B fp x ok a j b c e=>let ⟨fq,z⟩:=ok.drop (β.length-k);h v F H xs B fq x z a j b c e
 | .rp _ _,_,h=>h
 | .rgf _ _ _,_,h=>h
noncomputable def yw6 (i:Nat)(c:Str)(f:MFW)(m:ML)(rest:MW):MW:=fun ρ β=>(m ρ).bind fun ds=>anyN β fun x=>match f (.ptr x::ds) ((x,.ins c [] [])::β)with
 |some (.sh .non,β')=>(rest (ρ.set i (some (.sh (.ptr x)))) β').map (letGo i β.length)
 |_=>none
section
variable {X:Cx}{e:Expr}{es:List Expr}{st:Stmt}{rest:List Stmt}{E:XK}{mf:MFW}{m:ML}
theorem BxR.keys {K:W.Frag}{F B:Hp}:∀{fp:List Addr}{β:Bx},BxR K F B fp β->∀ p∈β.map Prod.fst,B p≠none
 |_,_,.nil,p,h=>by cases h
 |_,_,.cons (p:=q) c r,p,h=>by
  rw[map_cons]at h
  rcases List.mem_cons.mp h with z|z
  .subst z
   cases c with
   |ins _ _ b _ _=>rw[b];simp
   |row b _=>rw[b];simp
   |tb _ b _ _=>rw[b];simp
  .exact r.keys p z
theorem zc2 {n i:Nat}{c:Str}{C:Addr}{U:MW}(hC:W.nsIn X.K mainGlobals c=some (some (.ref C)))(hE:∀ t,PA X es t->PE X e (xm7 C (spW X.K n mf) [] E t))(hS:∀ te,PE X e te->PS X st (tAsg te (zy2 i)))(hl:es.length+1=n)(ha:PAs X es m)(hm:∀ ρ ds,m ρ=some ds->ds.length=es.length)(hr:PSsw X rest U):
  PSsw X (st::rest) (yw6 i c mf m U):=PSs.imp (M6 (hS _ (hE _ ha)) hr) fun Dn σ H ⟨F0,H0,F,ρ,β,o,β',⟨B,fp,rl,ok⟩,e,k⟩=>by
 unfold yw6 at e
 cases h1:m ρ with
 |none=>rw[h1]at e;cases e
 |some ds=>
  rw[h1,Option.bind_some]at e
  refine⟨F0,jn H0 B,F,ρ,ds,rl,h1,fun vs F1 H1 Y r1=>?_⟩
  intro x dx hx S I
  have N:=rl.go Y
  have j:=ok.mono Y.ff
  have bh:∀ a,B a≠none->H1 a≠none:=fun a h=>by
   cases q:B a with
   |none=>exact absurd q h
   |some u=>rw[N.ext.hh a u (l8 q)];simp
  have bx:B x=none:=by
   cases q:B x with
   |none=>rfl
   |some u=>exact absurd hx (bh x (by rw[q];simp))
  have ac:B dx=none:=by
   cases q:B dx with
   |none=>rfl
   |some u=>exact absurd S (bh dx (by rw[q];simp))
  have e:=K7 e x fun z=>ok.bx.keys x z bx
  have a6:(upd H1 dx (.own x)) x=none:=by rw[x8 (Ne.symm I)];exact hx
  obtain⟨a2,fa,aa,a8⟩:=N.putB (a:=dx) (o:=.own x) j.out (.inr S)
  have G:=J0 (o:=HO.own x) j.out ⟨aa,a8⟩
  obtain⟨a1,fb,a9,a7⟩:=a2.putB (a:=x) (o:=.ins C dx []) G (.inr a6)
  have O:=J0 (o:=HO.ins C dx []) G ⟨a9,a7⟩
  have nx:x∉fp:=fun z=>ok.bx.mem x z bx
  have R:dx∉fp:=fun z=>ok.bx.mem dx z ac
  have cell:CellR X.K F1 (upd (upd B dx (.own x)) x (.ins C dx [])) [x,dx] x (.ins c [] []):=.ins (xs:=[]) hC rfl (by rw[x9];rfl) (by rw[x8 I,x9]) .nil
  have a4:BxOk X.K F0 H0 F1 (upd (upd B dx (.own x)) x (.ins C dx [])) ([x,dx]++fp) ((x,.ins c [] [])::β):=
   ⟨O,.cons cell (j.bx.mono (Same.refl _) fun a ha=>by
    have q1:a≠x:=fun z=>by subst z;exact nx ha
    have q2:a≠dx:=fun z=>by subst z;exact R ha
    rw[x8 q1,x8 q2]),List.nodup_append.mpr ⟨by simp[Ne.symm I],j.nd,fun a h1 b h2 z=>by
    subst z
    rcases List.mem_cons.mp h1 with y|y
    .exact nx (y ▸ h2)
    .rw[mem_singleton]at y;exact R (y ▸ h2)⟩,U6 (U6 j.plain fun _ _ z=>by cases z) fun _ _ z=>by cases z⟩
  split at e
  .rename_i β1 h2
   show spW X.K n mf (.ref x::(vs++[])) _ _ E
   rw[append_nil]
   refine K5 a1 a4 (by rw[length_cons,r1.length,hm ρ ds h1,hl]) (.cons (.ptr x) r1) (d:=.non) (β':=β1) (by rw[h2];rfl) fun v F' H' Z sf rp=>?_
   cases rp
   refine⟨rfl,?_⟩
   obtain⟨B',ab,a3,a5⟩:=Z
   show TSw X.K U Dn (σ.set i (some (.ref x))) H'
   cases h3:U (ρ.set i (some (.sh (.ptr x)))) β1 with
   |none=>rw[h3]at e;cases e
   |some ob=>
    obtain⟨o1,β2⟩:=ob
    rw[h3]at e
    have e:some (letGo i β.length (o1,β2))=some (o,β'):=e
    have e:=Option.some.inj e
    refine⟨F0,H0,F',_,β1,o1,β2,⟨B',ab,a3.set (.ptr x),a5⟩,h3,okW.letGo (i:=i) (k:=β.length) ?_⟩
    rw[e]
    exact k.mono (Y.ff.trans sf)
  .cases e
end
noncomputable def plainW (mf:MFW):MF:=fun ds=>match mf ds []with |some (.sh d,_)=>some (.sh d)|some (.fr es,_)=>some (.fr es)|_=>none
theorem Ext.unjn {F H B F' H':Hp}(d:∀ a,B a≠none->H a=none)(x:Ext F (jn H B) F' H'):Ext F H F' H':=
 ⟨x.ff,fun a o e=>x.hh a o (by
  cases q:B a with
  |none=>rw[d8 q];exact e
  |some u=>rw[d a (by rw[q];simp)]at e;cases e),x.fh,fun b e n=>(g7 (x.new b e n)).2,x.nf⟩
theorem FnOk.plainW {P:Program}{w:World}{K:W.Frag}{mg:Str->Option Value}{base:Heap}{CX:CXT}{k:Nat}{f:Addr}{fd:FuncData}{ps:List Str}{n:Nat}{mf:MFW}(G:FnOk P w K mg base CX k f fd ps (spW K n mf)):FnOk P w K mg base CX k f fd ps (spR K n (plainW mf)):=G.imp fun vs H Q E j=>by
 obtain⟨S,F,ds,r,I,N,e,ok⟩:=j
 have O:cut H (fun _=>none)=H:=funext fun a=>G2 rfl
 have b0:BxOk K F (cut H fun _=>none) F (fun _=>none) [] []:=⟨fun a h=>absurd rfl h,.nil,nodup_nil,fun a o u h=>by cases h⟩
 refine⟨S,F,fun _=>none,[],ds,[],?_⟩
 unfold L2.plainW at e
 split at e
 .rename_i d β h1
  cases e
  refine⟨_,_,I,fun a o h=>(by cases h),b0,N,h1,fun v F' H' B' z x i r=>?_⟩
  rw[O]at x i
  exact ok v F' H' (x.unjn fun a h=>(i.out a h).1) r
 .rename_i es β h1
  cases e
  refine⟨_,_,I,fun a o h=>(by cases h),b0,N,h1,fun p xs F' H' B' z x i R Z Y U=>?_⟩
  rw[O]at x i R
  exact ok p xs F' H' (x.unjn fun a h=>(i.out a h).1) (g7 R).2 Z Y U
 .cases e
end
section
section
variable {X:Cx}{a b c e o:Expr}{pos:Pos}{st:Stmt}{rest:List Stmt}{E:XK}{es:List Expr}{mf:MFW}
end
end
section
theorem TD.mono {K:W.Frag}{m:ME}{σ:St}{H:Hp}{Q j:VK}(h:TD K m σ H Q)(i:∀ v H',Q v H'->j v H'):TD K m σ H j:=let ⟨F0,H0,F,ρ,d,z,e,q⟩:=h;⟨F0,H0,F,ρ,d,z,e,fun v F' H' x r=>i _ _ (q v F' H' x r)⟩
theorem xu3 {K:W.Frag}{σ:St}{H:Hp}{Q:List V->Hp->Prop}(h:TAs K anil σ H Q):tNil σ H Q:=by
 obtain⟨F0,H0,F,ρ,ds,i,e,q⟩:=h
 cases e
 exact q [] F H (.refl i.fh) .nil
section
variable {X:Cx}{e o:Expr}{E:XK}
theorem xm6 {C:Addr}{mn:Str}{sp:Sp}{mo:ME}{σ:St}{H:Hp}{Q:VK}(h:zx5 C mn sp [] E (TD X.K mo) (TAs X.K anil) σ H Q):zx5 C mn sp [] E (TD X.K mo) tNil σ H Q:=
 TD.mono h fun v H' ⟨a,dx,fs,e1,e2,e3,t⟩=>⟨a,dx,fs,e1,e2,e3,xu3 t⟩
theorem wz3 {C:Addr}{mn:Str}{sp:Sp}{mo:ME}(h:PE X e (zx5 C mn sp [] E (TD X.K mo) tNil)):PE X e (zx5 C mn sp [] E (TD X.K mo) (TAs X.K anil)):=PE.imp h fun _ _ _ q=>xm6 q
theorem u9 {c mn:Str}{C:Addr}{mo:ME}{mf:MF}(hC:W.nsIn X.K mainGlobals c=some (some (.ref C)))(ho:PD X o mo)(h:∀ ta,PE X o ta->PE X e (zx5 C mn (spR X.K 1 mf) [] E ta tNil)):PD X e (v6 c mn mf mo anil):=by
 have h':=wz3 (h _ ho)
 refine PE.imp h' fun σ H Q q=>?_
 obtain⟨F0,H0,F,ρ,d,rl,e,q⟩:=q
 unfold v6 at e
 split at e
 .rename_i c' ns ds0 h0
  split at e
  .rename_i Z
   obtain⟨rfl,Z⟩:=Z
   have e:(match mf [.obj c' ns ds0]with |some (.sh d)=>some d|some (.fr es)=>some (.lst es)|some (.pr d es)=>some (.tup [d,.lst es])|none=>none)=some d:=e
   refine⟨F0,H0,F,ρ,_,rl,h0,fun v F1 H1 S r1=>?_⟩
   cases r1 with
   |obj a1 a2 a3 a4 a5=>
    have a9:=a1
    rw[hC]at a1
    cases a1
    refine⟨_,_,_,rfl,S.fh _ _ a3,d6 Z _,F0,H0,F1,ρ,[],rl.go S,rfl,fun vs F2 H2 I r2=>?_⟩
    cases r2
    have U:=(Rep.obj a9 a2 a3 a4 a5).mono I.ff
    refine⟨rfl,F2,[D.obj c' ns ds0],?_⟩
    have z:=S.trans I
    split at e
    .rename_i d' h2
     cases e
     exact⟨_,I.fh,.cons U .nil,h2,fun v i R G Y=>q v i R (z.trans G) Y⟩
    .rename_i es' h2
     cases e
     exact⟨_,I.fh,.cons U .nil,h2,fun p xs i R G hp hF hH Y=>q _ (upd i p (.lst xs)) R (z.trans (G.freeze hF hp hH)) (.lst (SqL.of x9) (Y.mono ((Same.refl i).put hF)))⟩
    .rename_i d' es' h2
     cases e
     refine⟨_,I.fh,.cons U .nil,h2,fun t v p xs i R G ht hp N a8 O a6 a7 rv rs=>?_⟩
     have y3:=G.freeze O hp a7
     have j:upd i p (.lst xs) t=none:=by rw[x8 N];exact a8
     have s2:Same i (upd i p (.lst xs)):=(Same.refl i).put O
     have s3:Same (upd i p (.lst xs)) (upd (upd i p (.lst xs)) t (.tup [v,.ref p])):=(Same.refl _).put j
     exact q _ (upd (upd i p (.lst xs)) t (.tup [v,.ref p])) R (z.trans (y3.freeze j ht a6)) (.tup (SqT.of x9) (.cons (rv.mono (s2.trans s3)) (.cons (.lst (SqL.of (by rw[x8 (Ne.symm N)];exact x9)) (rs.mono (s2.trans s3))) .nil)))
    .cases e
  .cases e
 .cases e
end
end
section
section
variable {X:Cx}{e:Expr}{pos:Pos}
end
end
section
section
variable {K:W.Frag}{F0 H0 F H B:Hp}{σ:St}{ρ:Ro}{β:Bx}{fp:List Addr}
end
noncomputable abbrev MGW:=Addr->List D->List D->Bx->Option (D×List D×Bx)
section
variable {X:Cx}{e:Expr}{pos:Pos}{st:Stmt}{es:List Expr}{E:XK}{mf:MGW}{m:ML}
end
end
section
end
section
section
variable {P:Program}{w:World}{K:W.Frag}{mg:Str->Option Value}{base h:Heap}{nm ql cn:Str}{st:Stmt}{ps:List Str}{sp:Sp}{n:Nat}{C:Addr}
end
section
variable {X:Cx}{n k:Nat}{nm cn:Str}{ps:List Str}{sp:Sp}{e o:Expr}{es:List Expr}{ta:TE}{t:TA}{p pos apos:Pos}{C:Addr}{pl:Sem Bool}
end
section
variable {a b c d e f:ME}(ρ:Ro)(ds:List D)
end
end
section
section
variable {X:Cx}{a b c e:Expr}{pos:Pos}{st:Stmt}
end
end
section
noncomputable def low (m:MW):MS:=fun ρ=>match m ρ []with |some (o,_)=>some o|none=>none
section
variable {X:Cx}{st:Stmt}{sts:List Stmt}
end
end
section
section
variable {X:Cx}{a b c e k:Expr}{te:TE}{ma mb:ME}{la lb:ML}{pos p2:Pos}{st:Stmt}
end
end
section
section
variable {X:Cx}{P:Addr}{pos:Pos}{q:Str}{params:Arguments}{body:Expr}{sc:Scope}
end
end
section
section
variable {X:Cx}{pins:List (Addr×Obj)}{σ:St}{H:Hp}{s:Shared}
end
end
section
section
variable {X:Cx}{pins:List (Addr×Obj)}{σ:St}
end
end
section
open Classical in
section
variable {X:Cx}
end
section
variable {P:Program}{w:World}{K:W.Frag}{mg:Str->Option Value}{base:Heap}{nm:Str}{st:Stmt}{ps:List Str}{sp:Sp}{n:Nat}
end
end
section
end
section
noncomputable def insB (B H:Hp)(L:List Addr):Hp:=fun a=>if a∈L then H a else B a
theorem zf3 {B H:Hp}{L:List Addr}{a:Addr}(h:a∈L):insB B H L a=H a:=by unfold insB;rw[if_pos h]
theorem C5 {B H:Hp}{L:List Addr}{a:Addr}(h:a∉L):insB B H L a=B a:=by unfold insB;rw[if_neg h]
section
variable {K:W.Frag}{F0 H0 F H B:Hp}{σ:St}{ρ:Ro}{β:Bx}{fp:List Addr}
theorem Rl.takeBs {L:List Addr}(j:Rl K F0 (jn H0 B) F H σ ρ)(N:∀ q∈L,H q≠none)(O:∀ q∈L,F q=none)(R:∀ q∈L,jn H0 B q=none)(hn:∀ q∈L,∀(i:Nat) ds,ρ[i]? =some (some (.own ds))->σ[i]? ≠some (some (.ref q)))(I:∀ q∈L,∀(i:Nat) p ds,ρ[i]? =some (some (.ob p ds))->p≠q):Rl K F0 (jn H0 (insB B H L)) F H σ ρ:=by
 have G:∀ b,b∉L->jn H0 (insB B H L) b=jn H0 B b:=fun b I=>by unfold jn;rw[C5 I]
 refine⟨⟨j.ext.ff,fun b u e=>?_,j.ext.fh,fun b e n=>?_,j.ext.nf⟩,j.len,j.sh,fun i ds e=>?_,j.inj,fun i p ds e=>?_,j.obn,j.ob1⟩
 .by_cases hq:b∈L
  .have:=N b hq
   unfold jn at e
   rw[zf3 hq]at e
   cases z:H b with
   |none=>exact absurd z this
   |some o=>rw[z]at e;exact e
  .rw[G b hq]at e;exact j.ext.hh b u e
 .have hq:b∉L:=fun z=>n (O b z)
  rw[G b hq];exact j.ext.new b e n
 .obtain⟨p,xs,a1,a2,a3,a4,a5⟩:=j.own i ds e
  exact⟨p,xs,a1,a2,a3,a4,by rw[G p (fun z=>hn p z i ds e a1)];exact a5⟩
 .obtain⟨a1,a2,a3,xs,a4,a5⟩:=j.ob i p ds e
  exact⟨a1,a2,by rw[G p (fun z=>I p z i p ds e rfl)];exact a3,xs,a4,a5⟩
end
section
variable {X:Cx}{a b c e:Expr}{pos:Pos}{st:Stmt}{rest:List Stmt}{E:XK}{es:List Expr}{mf:MFW}{m:ML}
def TCx (K:W.Frag)(m:Ro->Bx->Option (Bool×Bx)):TT:=fun σ H Q=>∃ F0 H0 F ρ β b β',RlW K F0 H0 F H σ ρ β/\m ρ β=some (b,β')/\∀ F' H',RlW K F0 H0 F' H' σ ρ β'->Same F F'->Q b H'
noncomputable def mifX (c:Ro->Bx->Option (Bool×Bx))(x y:MW):MW:=fun ρ β=>match c ρ β with |some (true,β')=>x ρ β'|some (false,β')=>y ρ β'|none=>none
theorem xs0 {ca:Ro->Bx->Option (Bool×Bx)}{x y:List Stmt}{mx I:MW}(R:PT X c (TCx X.K ca))(O:PSsw X x mx)(N:PSsw X y I):PSw X (.If c x y pos) (mifX ca mx I):=PS.imp (yq7 R O N) fun D σ H j=>by
 obtain⟨F0,H0,F,ρ,β,o,β',i,e,ok⟩:=j
 unfold mifX at e
 split at e
 .rename_i β1 h1
  exact⟨F0,H0,F,ρ,β,_,β1,i,h1,fun F1 H1 G z=>iteT ⟨F0,H0,F1,ρ,β1,o,β',G,e,ok.mono z⟩⟩
 .rename_i β1 h1
  exact⟨F0,H0,F,ρ,β,_,β1,i,h1,fun F1 H1 G z=>iteF ⟨F0,H0,F1,ρ,β1,o,β',G,e,ok.mono z⟩⟩
 .cases e
end
end
section
section
variable {X:Cx}{pins:List (Addr×Obj)}{σ:St}
end
section
variable {X:Cx}
end
end
section
section
variable {X:Cx}{pins:List (Addr×Obj)}{σ:St}
end
section
variable {X:Cx}{pos:Pos}
end
end
section
section
variable {X:Cx}{e:Expr}{pos:Pos}{es:List Expr}{m:ML}{mf:MF}{E:XK}
end
section
variable {X:Cx}{pos:Pos}
end
end
section
structure BlkC (X:Cx)(sc:Scope)(N:List Str)(src:List (Option Nat)):Prop where
 kind:sc.kind= .function
 cells:∀ y∈sc.names,y.2= .cell->sc.names.lookup y.1=some .cell
 names:∀ y∈sc.names,y.2= .local->sc.names.lookup y.1=some .local
 free:∀ y∈sc.names,y.2= .free->X.env.kindOf y.1=some .cell\/X.env.kindOf y.1=some .free
 fv:∀(j i:Nat),src[j]? =some (some i)->∃ x,N[j]? =some x/\X.N[i]? =some x/\sc.names.lookup x=some .free
 len:src.length=N.length
section
variable {X:Cx}{pins:List (Addr×Obj)}{σ:St}{H:Hp}{s:Shared}
end
section
variable {X:Cx}
end
section
variable {X:Cx}{pos:Pos}
end
end
section
section
variable {X:Cx}{pos:Pos}
end
end
section
noncomputable def delB (p:Addr):Bx->Bx
 |[]=>[]
 | (q,c)::β=>match p==q with |true=>β|false=>(q,c)::delB p β
noncomputable def flS:Fl->D
 | .v d=>d
 | .l ds=>.lst ds
section
variable {K:W.Frag}{F0 H0 F H B:Hp}{σ:St}{ρ:Ro}{β:Bx}{fp:List Addr}
theorem BxR.take {p:Addr}{c:Cell}:∀{fp:List Addr}{β:Bx},BxR K F B fp β->β.lookup p=some c->∃ fq fr,CellR K F B fq p c/\BxR K F B fr (delB p β)/\(fq++fr).Perm fp
 |_,_,.nil,e=>by cases e
 |_,_,.cons (fp:=f1) (fq:=f2) (p:=q) (c:=c') (β:=β) h t,e=>by
  rw[lookup_cons]at e
  unfold delB
  cases hq:p==q with
  |true=>
   rw[hq]at e
   cases e
   have:p=q:=by simpa using hq
   subst this
   exact⟨f1,f2,h,t,List.Perm.refl _⟩
  |false=>
   rw[hq]at e
   obtain⟨fq,fr,z,j,i⟩:=BxR.take t e
   refine⟨fq,f1++fr,z,.cons h j,?_⟩
   rw[<-append_assoc]
   refine(List.Perm.append_right fr perm_append_comm).trans ?_
   rw[append_assoc]
   exact List.Perm.append_left f1 i
theorem FlR.shared {F':Hp}{fq:List Addr}{xs:List V}{fs:List Fl}(h:FlR K F B fq xs fs)(s:Same F F')(k:∀ a∈fq,F' a=B a):Reps K F' xs (fs.map flS):=by
 induction h with
 |nil=>exact .nil
 |v r _ i=>exact .cons (r.mono s) (i k)
 |l b r _ i=>exact .cons (.lst (SqL.of (by rw[k _ (by simp)];exact b)) (r.mono s)) (i fun a ha=>k a (mem_cons_of_mem _ ha))
theorem FlR.memL {fq:List Addr}{xs:List V}{fs:List Fl}(h:FlR K F B fq xs fs):∀ a∈fq,∃ ys,B a=some (.lst ys):=by
 induction h with
 |nil=>intro a ha;cases ha
 |v _ _ i=>exact i
 |l b _ _ i=>
  intro a ha
  rcases List.mem_cons.mp ha with rfl|ha
  .exact⟨_,b⟩
  .exact i a ha
theorem ye2 {σ:St}{i:Nat}{x:Option V}(h:σ[i]? =some x):σ.set i x=σ:=by
 apply ext_getElem?
 intro j
 by_cases z:i=j
 .subst z
  rw[getElem?_set_self (List.getElem?_eq_some_iff.mp h).1,h]
 .rw[getElem?_set_ne z]
theorem RlW.openB {p:Addr}{fs:List Fl}(r:RlW K F0 H0 F H σ ρ β)(S:β.lookup p=some (.row fs)):∃ F',Same F F'/\RlW K F0 H0 F' H σ ρ (delB p β)/\Rep K F' (.ref p) (.lst (fs.map flS)):=by
 obtain⟨B,fp,i,ok⟩:=r
 obtain⟨fq,fr,Z,G,I⟩:=ok.bx.take S
 cases Z with
 |@row fq0 _ xs _ b0 fl=>
  have at':∀ a∈p::fq0,∃ ys,B a=some (.lst ys):=fun a ha=>by
   rcases List.mem_cons.mp ha with rfl|ha
   .exact⟨_,b0⟩
   .exact fl.memL a ha
  have nb:∀ a∈p::fq0,B a≠none:=fun a ha=>by obtain⟨ys,e⟩:=at' a ha;rw[e];simp
  have N:∀ a∈p::fq0,F a=none:=fun a ha=>by
   cases hF:F a with
   |none=>rfl
   |some o=>
    have h1:=i.ext.new a (ok.out a (nb a ha)).2 (by rw[hF];simp)
    exact absurd (g7 h1).1 (nb a ha)
  have nd:(p::fq0++fr).Nodup:=(I.nodup_iff).mpr ok.nd
  have U:∀ a∈fr,a∉p::fq0:=fun a ha S=>(List.nodup_append.mp nd).2.2 a S a ha rfl
  refine⟨fun a=>if a∈p::fq0 then B a else F a,fun a o e=>?_,⟨fun a=>if a∈p::fq0 then none else B a,fr,?_,?_⟩,?_⟩
  .have:a∉p::fq0:=fun z=>by rw[N a z]at e;cases e
   show (if a∈p::fq0 then B a else F a)=some o
   rw[if_neg this];exact e
  .have sF:Same F (fun a=>if a∈p::fq0 then B a else F a):=fun a o e=>by
    have:a∉p::fq0:=fun z=>by rw[N a z]at e;cases e
    show (if a∈p::fq0 then B a else F a)=some o
    rw[if_neg this];exact e
   have O:∀ a,a∉p::fq0->jn H0 (fun a=>if a∈p::fq0 then none else B a) a=jn H0 B a:=fun a ha=>by unfold jn;simp only[if_neg ha]
   have Y:∀ a,a∈p::fq0->jn H0 (fun a=>if a∈p::fq0 then none else B a) a=none:=fun a ha=>by unfold jn;simp only[if_pos ha];exact(ok.out a (nb a ha)).1
   have own:∀ a,jn H0 B a=none->a∉p::fq0:=fun a h z=>nb a z (g7 h).1
   have R:Rl K F0 (jn H0 (fun a=>if a∈p::fq0 then none else B a)) (fun a=>if a∈p::fq0 then B a else F a) H σ ρ:=by
    refine⟨⟨i.ext.ff.trans sF,fun b u e=>?_,fun b u e=>?_,fun b e n=>?_,fun b o u e=>?_⟩,i.len,fun j d e=>?_,fun j ds e=>?_,i.inj,fun j q ds e=>?_,i.obn,i.ob1⟩
    .by_cases z:b∈p::fq0
     .rw[Y b z]at e;cases e
     .rw[O b z]at e;exact i.ext.hh b u e
    .by_cases z:b∈p::fq0
     .have e:B b=some u:=by
       have e:(if b∈p::fq0 then B b else F b)=some u:=e
       rw[if_pos z]at e;exact e
      exact i.ext.hh b u (l8 e)
     .have e:F b=some u:=by
       have e:(if b∈p::fq0 then B b else F b)=some u:=e
       rw[if_neg z]at e;exact e
      exact i.fh b u e
    .by_cases z:b∈p::fq0
     .exact Y b z
     .rw[O b z]
      have n:(if b∈p::fq0 then B b else F b)≠none:=n
      rw[if_neg z]at n
      exact i.ext.new b e n
    .by_cases z:b∈p::fq0
     .have e:(if b∈p::fq0 then B b else F b)=some (.frz o u):=e
      rw[if_pos z]at e
      exact absurd e (ok.plain b o u)
     .have e:(if b∈p::fq0 then B b else F b)=some (.frz o u):=e
      rw[if_neg z]at e
      exact i.ext.nf b o u e
    .obtain⟨v,a1,a2⟩:=i.sh j d e
     exact⟨v,a1,a2.mono sF⟩
    .obtain⟨q,ys,a1,a2,a3,a4,a5⟩:=i.own j ds e
     have z:=own q a5
     exact⟨q,ys,a1,by show (if q∈p::fq0 then B q else F q)=none;rw[if_neg z];exact a2,a3,a4.mono sF,by rw[O q z];exact a5⟩
    .obtain⟨a1,a2,a3,ys,a4,a5⟩:=i.ob j q ds e
     have z:=own q a3
     exact⟨a1,by show (if q∈p::fq0 then B q else F q)=none;rw[if_neg z];exact a2,by rw[O q z];exact a3,ys,a4,a5.mono sF⟩
   exact R
  .have sF:Same F (fun a=>if a∈p::fq0 then B a else F a):=fun a o e=>by
    have:a∉p::fq0:=fun z=>by rw[N a z]at e;cases e
    show (if a∈p::fq0 then B a else F a)=some o
    rw[if_neg this];exact e
   refine⟨fun a h=>?_,G.mono sF fun a ha=>?_,(List.nodup_append.mp nd).2.1,fun a o u e=>?_⟩
   .have h:(if a∈p::fq0 then none else B a)≠none:=h
    by_cases z:a∈p::fq0
    .rw[if_pos z]at h;exact absurd rfl h
    .rw[if_neg z]at h;exact ok.out a h
   .show (if a∈p::fq0 then none else B a)=B a
    rw[if_neg (U a ha)]
   .have e:(if a∈p::fq0 then none else B a)=some (.frz o u):=e
    by_cases z:a∈p::fq0
    .rw[if_pos z]at e;cases e
    .rw[if_neg z]at e;exact ok.plain a o u e
  .have sF:Same F (fun a=>if a∈p::fq0 then B a else F a):=fun a o e=>by
    have:a∉p::fq0:=fun z=>by rw[N a z]at e;cases e
    show (if a∈p::fq0 then B a else F a)=some o
    rw[if_neg this];exact e
   exact .lst (SqL.of (by show (if p∈p::fq0 then B p else F p)=_;rw[if_pos (by simp)];exact b0)) (fl.shared sF fun a ha=>by show (if a∈p::fq0 then B a else F a)=_;rw[if_pos (mem_cons_of_mem _ ha)])
end
end
section
section
variable {K:W.Frag}{F0 J F H:Hp}{σ:St}{ρ:Ro}
theorem Rl.share {q:Addr}{ys:List V}(j:Rl K F0 J F H σ ρ)(N:H q=some (.lst ys))(O:F q=none)(I:J q=none)(hn:∀(i:Nat) ds,ρ[i]? =some (some (.own ds))->σ[i]? ≠some (some (.ref q)))(G:∀(i:Nat) p ds,ρ[i]? =some (some (.ob p ds))->p≠q):Rl K F0 J (upd F q (.lst ys)) H σ ρ:=by
 have s:Same F (upd F q (.lst ys)):=(Same.refl F).put O
 refine⟨⟨j.ext.ff.trans s,j.ext.hh,fun b u e=>?_,fun b e n=>?_,fun b o u e=>?_⟩,j.len,fun i d e=>?_,fun i ds e=>?_,j.inj,fun i p ds e=>?_,j.obn,j.ob1⟩
 .by_cases z:b=q
  .subst z;rw[x9]at e;cases e;exact N
  .rw[x8 z]at e;exact j.fh b u e
 .by_cases z:b=q
  .subst z;exact I
  .rw[x8 z]at n;exact j.ext.new b e n
 .by_cases z:b=q
  .subst z;rw[x9]at e;cases e
  .rw[x8 z]at e;exact j.ext.nf b o u e
 .obtain⟨v,a1,a2⟩:=j.sh i d e
  exact⟨v,a1,a2.mono s⟩
 .obtain⟨p,xs,a1,a2,a3,a4,a5⟩:=j.own i ds e
  have z:p≠q:=fun w=>hn i ds e (by rw[<-w];exact a1)
  exact⟨p,xs,a1,by rw[x8 z];exact a2,a3,a4.mono s,a5⟩
 .obtain⟨a1,a2,a3,xs,a4,a5⟩:=j.ob i p ds e
  exact⟨a1,by rw[x8 (G i p ds e)];exact a2,a3,xs,a4,a5.mono s⟩
end
noncomputable def lsW (m:Ro->Bx->Option (List D)):Ro->Bx->Option D:=fun ρ β=>(m ρ β).map D.lst
section
variable {X:Cx}{a b c e e1 e2:Expr}{pos p1 p2:Pos}{st:Stmt}
theorem yo2 {m:ML}(h:PF X e m):PDw X e (lsW (J8 m)):=PE.imp h fun σ H Q ⟨F0,H0,F,ρ,β,d,⟨B,fp,j,ok⟩,e,q⟩=>by
 unfold lsW J8 at e
 cases h1:m (thaw ρ β)with
 |none=>rw[h1]at e;cases e
 |some d'=>
  rw[h1,Option.bind_some]at e
  split at e
  .rename_i hs
   cases e
   obtain⟨U,fb⟩:=RlW.frozen j ok
   refine⟨_,_,_,_,_,U,h1,fun p xs F' H' x hp Z Y r=>?_⟩
   have I:=j.go ⟨Same.refl F,x.hh,j.fh.trans x.hh,fun b e n=>absurd e n,fun _ _ _ z=>z⟩
   have G:=j.fh.free hp
   have sh:=I.share Y G (j.ext.hh.free hp) (fun i ds e z=>by
    obtain⟨N,xs,S,_,R,_⟩:=j.own i ds e
    rw[z]at S;cases S
    rw[hp]at R;cases R) (fun i N ds e z=>by
    obtain⟨_,_,_,xs,O,_⟩:=j.ob i N ds e
    rw[z,hp]at O;cases O)
   have s:Same F (upd F p (.lst xs)):=(Same.refl F).put G
   exact q (.ref p) (upd F p (.lst xs)) H' ⟨B,fp,sh,ok.mono s⟩ s x.hh (.lst (SqL.of x9) (zt4 hs r))
  .cases e
end
end
section
section
variable {X:Cx}{a b e:Expr}{pos:Pos}{ta tb:TE}{ma mb:Ro->Bx->Option D}
end
end
section
section
variable {X:Cx}{pos:Pos}
end
end
section
def xy4 (X:Cx)(st:List Stmt)(x:MXe):Prop:=∀ pins W,PSs (X.rx pins W) st fun _ σ H=>TXe X.K x W σ H
def PSXe (X:Cx)(st:Stmt)(x:MXe):Prop:=∀ pins W,PS (X.rx pins W) st fun _ σ H=>TXe X.K x W σ H
noncomputable def xifE (c:MB)(x y:MXe):MXe:=fun ρ=>match c ρ with |some true=>x ρ|some false=>y ρ|none=>none
section
variable {X:Cx}{st:Stmt}{rest:List Stmt}{e o c:Expr}{es:List Expr}{pos apos:Pos}{mo:ME}{m:ML}
theorem A0 {x:MXe}(h:PSXe X st x):xy4 X [st] x:=fun pins W=>zs2 (h pins W)
theorem zo7 {x:MXe}(h:PEX X e x)(hs:swapsWith e none pos.line X.env=pure false:=by rfl):PSXe X (.Expr e pos) x:=fun pins W=>Y8 (h pins W) hs
theorem xt9 {ca:MB}{a b:List Stmt}{N I:MXe}(nx:X.xe=noE)(O:PC' X c ca)(ha:xy4 X a N)(R:xy4 X b I):PSXe X (.If c a b pos) (xifE ca N I):=fun pins W=>
 (yq7 (PT.bear nx O) (ha pins W) (R pins W)).imp fun D σ H j=>by
  obtain⟨F0,H0,F,ρ,c,z,e,w⟩:=j
  unfold xifE at e
  split at e
  .rename_i h1
   exact⟨F0,H0,F,ρ,_,z,h1,fun F1 H1 i=>iteT ⟨F0,H0,F1,ρ,c,z.go i,e,fun F' H' G=>w F' H' (i.trans G)⟩⟩
  .rename_i h1
   exact⟨F0,H0,F,ρ,_,z,h1,fun F1 H1 i=>iteF ⟨F0,H0,F1,ρ,c,z.go i,e,fun F' H' G=>w F' H' (i.trans G)⟩⟩
  .cases e
@[irreducible] noncomputable def yy3 (c mn:Str)(xf:MFX)(mo:ME)(m:ML):MXe:=fun ρ=>match mo ρ with
 |some (.obj c' ns ds0)=>if c'=c/\mn∉ns then (m ρ).bind fun ds=>xf (.obj c' ns ds0::ds)else none
 |_=>none
theorem zc7 {pl:Sem Bool}{k n:Nat}{cn mn:Str}{C f:Addr}{fd:FuncData}{ps:List Str}{Z:MFX}(nx:X.xe=noE)(T:Top X)(hC:PySem.W.nsIn X.K mainGlobals cn=some (some (.ref C)))(ho:PD X o mo)(ac:Cls X.K C)(hm:Meth X.K C mn f)
  (F:FnOk X.prog X.w X.K X.mg X.base (CXx X.prog X.w) k f fd ps (spX X.K n Z)) (hr:Room k X.A) (hb:Binds X.K fd ps []) (hl:(e::es).length+1=n) (ha:PAs X (e::es) m) (aa:∀ ρ ds,m ρ=some ds->ds.length=(e::es).length)
  (a7:starEach (e::es) X.env=(false,eval e X.env)::starEach es X.env:=by rfl) (a8:(backTo pos (starEach es X.env)).any (·.1)=false:=by rfl)
  (ht:eval (.Call (.Attribute o mn apos) (e::es) [] pos) X.env=(do
   let ov ← eval o X.env
   standAt apos.atName
   let (f,first) ← holding [ov] (getMethod ov mn pl)
   callWith pos f first (backTo pos (starEach (e::es) X.env)) (backToKw pos (keywordEach [] X.env))):=by rfl):
  PEX X (.Call (.Attribute o mn apos) (e::es) [] pos) (yy3 cn mn Z mo m):=by
 intro pins W pins' s σ H Q I h
 obtain⟨F0,H0,F1,ρ,c,rl,e1,w⟩:=h
 unfold yy3 at e1
 split at e1
 .rename_i c' ns ds0 h0
  split at e1
  .rename_i hz
   obtain⟨rfl,hz⟩:=hz
   cases h1:m ρ with
   |none=>rw[h1]at e1;cases e1
   |some ds=>
    rw[h1,Option.bind_some]at e1
    have a9:PE (X.rx pins W) o (TD X.K mo):=PE.bear nx ho
    have ad:PA (X.rx pins W) (e::es) (TAs X.K m):=PA.bear nx ha
    refine PySem.W.methodCall_KW (pl:=pl) (thn (a9 pins' s σ H (fun v H1=>∃ F2,Ext F1 H F2 H1/\Rep X.K F2 v (.obj c' ns ds0)) I ⟨F0,H0,F1,ρ,_,rl,h0,fun v F2 H2 G r2=>⟨F2,G,r2⟩⟩) fun u s1 R=>?_) ht
    obtain⟨x,H1,I1,rx,F2,G,r2⟩:=R
    cases r2 with
    |@obj a dx C' _ _ xs _ a1 a2 a3 a4 a5=>
     have ae:=a1
     rw[hC]at a1
     cases a1
     obtain rfl:u=Value.ref a:=rx
     refine G1 I1 (G.fh _ _ a3) ac hm (d6 hz _) ?_
     refine PySem.W.callWith_K (first:=[.ref a]) (h₀:=X.base) I.ok.mod.kin hm.kp (thn (ad pos pins' s1 σ H1 (fun vs H2=>vs.length+1=n/\∃ i,Ext F2 H1 i H2/\Reps X.K i vs ds) I1 ⟨F0,H0,F2,ρ,ds,rl.go G,h1,fun vs i H3 j U=>⟨by rw[U.length,aa ρ ds h1,hl],i,j,U⟩⟩) fun us s2 ⟨vs,H2,Y,r,hn,i,j,U⟩=>⟨Y.kIn,?_⟩) a7 a8
     have N:spX X.K n Z (.ref a::vs) H2 (fun _ _=>False) (fun v _ H'=>∃ c C,v= .ref C/\XC X.K c C/\W c σ H'):=⟨hn,i,_,c,j.fh,.cons ((Rep.obj ae a2 a3 a4 a5).mono j.ff) U,e1,fun C F' H' xc x4=>⟨c,C,rfl,xc,w F' H' ((G.trans j).trans x4)⟩⟩
     have r':Vals (V.ref a::vs) (Value.ref a::us):=.cons rfl r
     have ab:(Value.ref a::us).length=ps.length:=by rw[<-r'.length];exact F.len _ _ _ _ N
     have S:=hb s2 (Value.ref a::us) Y.kIn (by rw[append_nil];exact ab)
     rw[append_nil]at S
     refine wpAny_call (codeAny_mono (F.run X.A X.stack s2 H2 ⟨.ref a::us,[]⟩ (.ref a::us) (.ref a::vs) _ _ hr Y.env0 S r' N) fun a6 s' O=>?_)
     cases a6 with
     |error ev=>exact yr2 (E:=fun v _ H'=>∃ c C,v= .ref C/\XC X.K c C/\W c σ H') T Y.unbear.fewer O fun v o H' z=>z
     |ok fl=>
      cases fl with
      |ret u=>obtain⟨_,_,_,_,_,_,_,z⟩:=O;exact z.elim
      |next=>exact False.elim O
      |brk=>exact False.elim O
      |cont=>exact False.elim O
  .cases e1
 .cases e1
end
@[irreducible] noncomputable def ym1 (names:List Str)(mb:MW)(xb:MXe)(i:Nat)(ms:Str->MS):MW:=fun ρ β=>match mb ρ β with
 |some o=>some o
 |none=>match xb (thaw ρ β)with
  |some c=>if c∈names then (match ms c (ρ.set i (some (.sh (.exc c))))with |some (.nx ρ2)=>some (.nx (ρ2.set i none),β)|_=>none)else none
  |none=>none
inductive HSel (X:Cx)(n c:Str)(ms:MS):List ExceptHandler->Prop
 |hit {x:Str} {np hpos:Pos} {Wa:Addr} {b0:Stmt} {suite:List Stmt} {rest:List ExceptHandler}:Gl X x->X.mg x=some (.ref Wa)->(x==("__debug__":Str))=false->(∀ C,XC X.K c C->W.exmOne X.K (.ref C) (.ref Wa)=some true)->(∀ a,PSsd (X.inX a) (b0::suite) ms)->
   HSel X n c ms (.ExceptHandler (some (.Name x np)) (some n) (b0::suite) hpos::rest)
 |skip {x:Str} {np hpos:Pos} {Wa:Addr} {nm:Option Str} {body:List Stmt} {rest:List ExceptHandler}:Gl X x->X.mg x=some (.ref Wa)->(x==("__debug__":Str))=false->(∀ C,XC X.K c C->W.exmOne X.K (.ref C) (.ref Wa)=some false)->HSel X n c ms rest->
   HSel X n c ms (.ExceptHandler (some (.Name x np)) nm body hpos::rest)
section
variable {X:Cx}{pos np hpos:Pos}
theorem yd1 {body:List Stmt}{hd:ExceptHandler}{tl:List ExceptHandler}{mb:MW}{ms:Str->MS}{xb:MXe}{names:List Str}{n:Str}{i:Nat}(nx:X.xe=noE)(T:Top X)(hN:X.N.Nodup)(hi:X.N[i]? =some n)(hl:X.env.scope.names.lookup n=some .local)
  (hb:PSsw X body mb) (hx:xy4 X body xb) (hs:∀ c∈names,HSel X n c (ms c) (hd::tl)):
  PSw X (.Try body (hd::tl) [] [] pos) (ym1 names mb xb i ms):=by
 intro pins s σ H D I ⟨F0,H0,F,ρ,β,o,β',a4,e,ok⟩
 unfold ym1 at e
 refine wpAny_Try_except ?_
 cases h1:mb ρ β with
 |some o1=>
  rw[h1]at e;cases e
  refine wpAny_mono (hb pins s σ H D I ⟨F0,H0,F,ρ,β,o,β',a4,h1,ok⟩) (fun f s1 h=>?_) fun _ _ z=>by rw[nx]at z;exact z.elim
  cases f with
  |next=>
   obtain⟨O,H1,I1,q⟩:=h
   exact pss_nil pins s1 O H1 D I1 q
  |brk=>exact h
  |cont=>exact h
  |ret u=>exact h
 |none=>
  rw[h1]at e
  cases h2:xb (thaw ρ β)with
  |none=>rw[h2]at e;cases e
  |some c=>
   rw[h2]at e
   dsimp only at e
   split at e
   .rename_i hc
    cases h3:ms c (ρ.set i (some (.sh (.exc c))))with
    |none=>rw[h3]at e;cases e
    |some o3=>
     rw[h3]at e
     cases o3 with
     |nx ρ2=>
      cases e
      obtain⟨B,fp,rl,bo⟩:=a4
      obtain⟨r1,fb⟩:=RlW.frozen rl bo
      let W:WX:=fun c' a7 H'=>c'=c/\a7=σ/\∃ F',Ext (jn F B) H F' H'
      have I0:Inv X (pins++[]) σ H s:=by rw[append_nil];exact I
      refine wpAny_mono (hx pins W [] s σ H { nx:=fun _ _=>False,rt:=fun _ _=>False } I0.bear ⟨_,_,_,_,c,r1,h2,fun F' H' x1=>⟨rfl,rfl,F',x1⟩⟩) (fun f s1 h=>?_) fun ev s1 h=>?_
      .cases f with
       |next=>obtain⟨_,_,_,z⟩:=h;exact z.elim
       |brk=>obtain⟨_,_,_,z⟩:=h;exact z.elim
       |cont=>obtain⟨_,_,_,z⟩:=h;exact z.elim
       |ret u=>obtain⟨_,_,_,_,_,z⟩:=h;exact z.elim
      refine wpAny_mono h (fun _ s2 h2=>wpAny_mono h2 (fun _ s3 h3=>?_) fun _ _ z=>z.elim) fun _ _ z=>z.elim
      obtain⟨a,C,a0,O,H1,sa,H',B0,c',rfl,Ia,os,bare,f,fl,cz,xc,rfl,rfl,F1,xf⟩:=h3
      have a5:Rl X.K F0 (jn H0 B) F H' O ρ:=rl.go ⟨Same.refl _,xf.hh,rl.fh.trans xf.hh,fun b e n=>absurd e n,fun _ _ _ z=>z⟩
      have I3:Inv X pins O H' s3:=f.inv Ia os bare
      have LT:∀ M:Model,PySem.W.Looks M s3.heap (typeOf (.ref a)) (.ref C):=fun M=>by
       obtain⟨ob,e1,e2⟩:=fl.there
       exact e2 ▸ (PySem.W.Looks.ld e1).andThen .now
      have U:=hs _ hc
      revert h3
      generalize ms c'=ms' at U
      intro h3
      generalize hd::tl=hds at U ⊢
      induction U with
      |skip hg hm Z a1 _ ih=>exact wpAny_handleBy_cons (codeAny_handlers_test (N0 (X:=X.inX a) I3.inX hg hm ((PySem.W.exm_one I3.kIn (LT _) (a1 C xc)).here ih) Z)) (by intro z;cases z)
      |hit hg hm Z a1 hs=>
      refine wpAny_handleBy_cons (codeAny_handlers_test (N0 (X:=X.inX a) I3.inX hg hm ((PySem.W.exm_one I3.kIn (LT _) (a1 C xc)).here ?_) Z)) (by intro z;cases z)
      refine codeAny_handlers_suite_as ?_
      refine xv8 (zk7 cz) (lands_againW fl fun h4 G S=>⟨h4,rfl,And.intro G S⟩) fun h4 ⟨G,S⟩ aj=>?_
      have f4:=f.on fl.2.2.1 G.1 S
      have I4:Inv X pins O H' { s3 with heap:=h4 }:=f4.inv Ia os bare
      obtain⟨oe,vs,he,ag,Y,_⟩:=G.first
      have ad:a∉frs X.stack:=fun z=>by
       obtain⟨_,o',e',ah⟩:=G.2.2.1.mem z
       rw[he]at e';cases e'
       exact ah vs Y
      have j:sa.heap.get? a=none:=by
       cases z:sa.heap.get? a with
       |none=>rfl
       |some o'=>
        obtain⟨ob,eb⟩:=f4.old a o' z ad
        have:=G.2.1
        rw[eb]at this;cases this
      have Ha:H' a=none:=by
       cases z:H' a with
       |none=>rfl
       |some o'=>
        obtain⟨ob,eb⟩:=f4.trk a o' z
        have:=G.2.1
        rw[eb]at this;cases this
      have y0:X.s₀.heap.get? a=none:=by
       cases z:X.s₀.heap.get? a with
       |none=>rfl
       |some o'=>
        obtain⟨o2,e2⟩:=Ia.base.there a o' z (by rw[T.ex];simp)
        rw[j]at e2;cases e2
      have yL:a≠X.env.locals:=fun z=>by
       obtain⟨m,⟨o',_,_,R,_⟩,_⟩:=Ia.loc
       rw[<-z,j]at R;cases R
      have yC:∀ y c,X.env.cells.lookup y=some c->c≠a:=fun y c e z=>by
       obtain⟨v,o',R,_⟩:=Ia.cell y c e
       rw[z,j]at R;cases R
      have yP:∀ p∈X.pn++pins,p.1≠a:=fun p hp z=>by
       have:=(Ia.pin p hp).1
       rw[z,j]at this;cases this
      have xat:XAt a C h4:=⟨oe,vs,he,ag,Y,aj.two he Y⟩
      have I5:Inv X pins O (upd H' a (.ext (XAt a C))) { s3 with heap:=h4 }:=I4.track y0 yL yC yP Ha ⟨xat,⟨oe,he⟩,fun g1 g2 z k=>by
       obtain⟨o',a8,z1,z2,z3⟩:=z
       exact⟨o',a8,k o' z1,z2,z3⟩⟩
      have x5:Ext F H' (upd F a (.ext (XAt a C))) (upd H' a (.ext (XAt a C))):=Ext.laid a5.fh Ha
      have ab:=(a5.go x5).set (i:=i) (v:=.ref a) (d:=.exc c') (.exc xc x9)
      refine zt2 (X:=X.inX a) I5.inX hN hi (.inl hl) (v:=.ref a) rfl (fun s5 I6=>?_) (.inr hl)
      let D2:Ends:={ nx:=fun a2 H2=>∃ F2,Rl X.K F0 (jn H0 B) F2 H2 a2 ρ2/\Same F F2,rt:=fun _ _=>False }
      refine wpAny_mono (hs a pins s5 _ _ D2 I6 ⟨F0,jn H0 B,_,_,_,ab,h3,fun F2 H2 a2 ac a9=>⟨F2,ac,x5.ff.trans a9⟩⟩) (fun ai s6 h6=>?_) fun _ _ z=>by rw[show (X.inX a).xe=X.xe from rfl,nx]at z;exact z.elim
      cases ai with
      |next=>
       obtain⟨a6,H6,I7,F6,aa,a3⟩:=h6
       have I8:Inv X pins a6 H6 s6:=I7.outX I.ok
       obtain⟨m,hn,ak⟩:=id I8.loc
       refine wpAny_nameGoes_keeps hl hn (by rw[I.ok.kind];rfl) fun h7 v af ae=>?_
       exact⟨_,H6,I8.gone hN hi hn af ae,ok F6 H6 _ ⟨B,fp,aa.drop i,bo.mono a3⟩ a3⟩
      |brk=>obtain⟨_,_,_,z⟩:=h6;exact z.elim
      |cont=>obtain⟨_,_,_,z⟩:=h6;exact z.elim
      |ret u=>obtain⟨_,_,_,_,_,z⟩:=h6;exact z.elim
     |_=>cases e
   .cases e
end
section
variable {X:Cx}{e:Expr}{es:List Expr}{st:Stmt}{E:XK}{mf:MFW}{m:ML}
end
end
section
section
variable {X:Cx}{e:Expr}{es:List Expr}{st:Stmt}{E:XK}{mf:MF}{m:ML}{pos:Pos}
noncomputable def ym3 (mf:MF)(m:ML):MS:=fun ρ=>(m ρ).bind fun ds=>match mf ds with |some (.pr d xs)=>some (.rp d xs)|_=>none
theorem yd2 {n:Nat}(h:∀ t,PA X es t->PE X e (ys3 (spR X.K n mf) [] E t))(O:∀ te,PE X e te->PS X st (tRet te))(ha:PAs X es m)(N:es.length=n)(hm:∀ ρ ds,m ρ=some ds->ds.length=es.length):PSd X st (ym3 mf m):=PS.imp (O _ (h _ ha)) fun Dn σ H i=>by
 obtain⟨F0,H0,F,ρ,o,z,e,ok⟩:=i
 unfold ym3 at e
 cases h1:m ρ with
 |none=>rw[h1]at e;cases e
 |some ds=>
  rw[h1,Option.bind_some]at e
  split at e
  .rename_i d xs h2
   cases e
   refine⟨F0,H0,F,ρ,ds,z,h1,fun vs F1 H1 j G=>?_⟩
   show spR X.K n mf (vs++[]) H1 _ E
   rw[append_nil]
   refine⟨by rw[G.length,hm ρ ds h1,N],F1,ds,_,j.fh,G,h2,fun t v p ys F' H' I a1 a2 a3 a4 Z Y U S R=>?_⟩
   have hh:=z.ext.trans j
   exact ok t v p ys F' H' (hh.trans I) (hh.hh.free a1) (hh.hh.free a2) a3 a4 Z Y U S R
  .cases e
end
def TAw (K:W.Frag)(m:Ro->Bx->Option (List D)):TA:=fun σ H Q=>∃ F0 H0 F ρ β ds,RlW K F0 H0 F H σ ρ β/\m ρ β=some ds/\∀ vs F' H',RlW K F0 H0 F' H' σ ρ β->Same F F'->Same H H'->Reps K F' vs ds->Q vs H'
def PAw (X:Cx)(es:List Expr)(m:Ro->Bx->Option (List D)):Prop:=PA X es (TAw X.K m)
noncomputable def nilW:Ro->Bx->Option (List D):=fun _ _=>some []
noncomputable def X4 (x:Ro->Bx->Option D)(m:Ro->Bx->Option (List D)):Ro->Bx->Option (List D):=fun ρ β=>(x ρ β).bind fun d=>(m ρ β).map fun ds=>d::ds
noncomputable def lstW (m:Ro->Bx->Option (List D)):Ro->Bx->Option D:=fun ρ β=>(m ρ β).bind fun ds=>if ds.length<=sizeLine then some (.lst ds)else none
section
variable {X:Cx}{e:Expr}{es:List Expr}{pos:Pos}{x:Ro->Bx->Option D}{m:Ro->Bx->Option (List D)}
theorem yn0:PAw X [] nilW:=PA.imp pa_nil fun σ H Q i=>by
 obtain⟨F0,H0,F,ρ,β,ds,r,e,q⟩:=i
 cases e
 exact q [] F H r (Same.refl _) (Same.refl _) .nil
theorem V5 (h:PDw X e x)(R:PAw X es m)(hs:starEach (e::es) X.env=(false,eval e X.env)::starEach es X.env:=by rfl):PAw X (e::es) (X4 x m):=PA.imp (j7 h R hs) fun σ H Q i=>by
 obtain⟨F0,H0,F,ρ,β,ds,r,e,q⟩:=i
 unfold X4 at e
 cases h1:x ρ β with
 |none=>rw[h1]at e;cases e
 |some d=>
  rw[h1,Option.bind_some]at e
  cases h2:m ρ β with
  |none=>rw[h2]at e;cases e
  |some j=>
   rw[h2]at e;cases e
   refine⟨F0,H0,F,ρ,β,d,r,h1,fun v F1 H1 O s1 G rp=>⟨F0,H0,F1,ρ,β,j,O,h2,fun vs F2 H2 N s2 z I=>?_⟩⟩
   exact q _ F2 H2 N (s1.trans s2) (G.trans z) (.cons (rp.mono s2) I)
theorem yc1 (h:PAw X es m):PDw X (.List es pos) (lstW m):=PE.imp (xx9 h) fun σ H Q i=>by
 obtain⟨F0,H0,F,ρ,β,d,r,e,q⟩:=i
 unfold lstW at e
 cases h1:m ρ β with
 |none=>rw[h1]at e;cases e
 |some ds=>
  rw[h1,Option.bind_some]at e
  split at e
  .rename_i hz
   cases e
   refine⟨F0,H0,F,ρ,β,ds,r,h1,fun vs F1 H1 G s1 I z=>⟨by rw[z.length];exact hz,fun p hp=>?_⟩⟩
   have j:Ext F1 H1 (upd F1 p (.lst vs)) (upd H1 p (.lst vs)):=Ext.laid G.fh hp
   exact q _ _ _ (G.go j) (s1.trans j.ff) (I.trans j.hh) (.lst (SqL.of x9) (z.mono j.ff))
  .cases e
end
section
variable {K:W.Frag}{F0 J F H:Hp}{σ:St}{ρ:Ro}
theorem Rl.shareO {q:Addr}{o:HO}(j:Rl K F0 J F H σ ρ)(O:H q=some o)(R:F q=none)(N:J q=none)(hn:∀(i:Nat) ds,ρ[i]? =some (some (.own ds))->σ[i]? ≠some (some (.ref q)))(I:∀(i:Nat) p ds,ρ[i]? =some (some (.ob p ds))->p≠q)(G:∀ a u,o≠ .frz a u):Rl K F0 J (upd F q o) H σ ρ:=by
 have s:Same F (upd F q o):=(Same.refl F).put R
 refine⟨⟨j.ext.ff.trans s,j.ext.hh,fun b u e=>?_,fun b e n=>?_,fun b o' u e=>?_⟩,j.len,fun i d e=>?_,fun i ds e=>?_,j.inj,fun i p ds e=>?_,j.obn,j.ob1⟩
 .by_cases z:b=q
  .subst z;rw[x9]at e;cases e;exact O
  .rw[x8 z]at e;exact j.fh b u e
 .by_cases z:b=q
  .subst z;exact N
  .rw[x8 z]at n;exact j.ext.new b e n
 .by_cases z:b=q
  .subst z;rw[x9]at e;exact absurd (Option.some.inj e) (G _ _)
  .rw[x8 z]at e;exact j.ext.nf b o' u e
 .obtain⟨v,a1,a2⟩:=j.sh i d e
  exact⟨v,a1,a2.mono s⟩
 .obtain⟨p,xs,a1,a2,a3,a4,a5⟩:=j.own i ds e
  have z:p≠q:=fun w=>hn i ds e (by rw[<-w];exact a1)
  exact⟨p,xs,a1,by rw[x8 z];exact a2,a3,a4.mono s,a5⟩
 .obtain⟨a1,a2,a3,xs,a4,a5⟩:=j.ob i p ds e
  exact⟨a1,by rw[x8 (I i p ds e)];exact a2,a3,xs,a4,a5.mono s⟩
end
noncomputable def zz1 (i:Nat)(c mn:Str)(mf:MF):Ro->Bx->Option D:=fun ρ β=>match (thaw ρ β)[i]? with
 |some (some (.sh (.obj c' ns ds0)))=>if c'=c/\mn∉ns then (match mf [.obj c' ns ds0]with |some (.pr d es)=>if isSc d=true/\es.all isSc=true then some (.tup [d,.lst es])else none|_=>none)else none
 |_=>none
section
variable {X:Cx}{e:Expr}{E:XK}{mf:MF}
theorem yo1 {i:Nat}{c mn:Str}{C:Addr}(hC:W.nsIn X.K mainGlobals c=some (some (.ref C)))(h:PE X e (zx5 C mn (spR X.K 1 mf) [] E (TD X.K (mvar i)) tNil)):PDw X e (zz1 i c mn mf):=PE.imp h fun σ H Q ⟨F0,H0,F,ρ,β,d,⟨B,fp,j,ok⟩,e,q⟩=>by
 unfold zz1 at e
 split at e
 .rename_i c' ns ds0 h0
  split at e
  .rename_i hz
   obtain⟨rfl,hz⟩:=hz
   split at e
   .rename_i d' es h2
    split at e
    .rename_i hs
     cases e
     obtain⟨r1,fb⟩:=RlW.frozen j ok
     refine⟨_,_,_,_,_,r1,by unfold mvar;rw[h0],fun v F1 H1 I Z=>?_⟩
     cases Z with
     |@obj a dx C' _ _ xs _ a1 a2 a3 a4 a5=>
      have a7:=a1
      rw[hC]at a1
      cases a1
      refine⟨_,_,_,rfl,I.fh _ _ a3,d6 hz _,?_⟩
      refine⟨rfl,F1,_,_,I.fh,.cons (Rep.obj a7 a2 a3 a4 a5) .nil,h2,fun t v p ys F' H' x2 b1 b2 b3 b4 b5 b6 b7 b8 b9=>?_⟩
      have hh:Same H H':=I.hh.trans x2.hh
      have R:H t=none:=I.hh.free b1
      have hp:H p=none:=I.hh.free b2
      have Y:=j.go ⟨Same.refl F,hh,j.fh.trans hh,fun b e n=>absurd e n,fun _ _ _ z=>z⟩
      have own:∀ q,H q=none->∀(i:Nat) ds,ρ[i]? =some (some (.own ds))->σ[i]? ≠some (some (.ref q)):=fun q hq i ds e z=>by
       obtain⟨N,xs,c1,_,c3,_⟩:=j.own i ds e
       rw[z]at c1;cases c1
       rw[hq]at c3;cases c3
      have ob:∀ q,H q=none->∀(i:Nat) N ds,ρ[i]? =some (some (.ob N ds))->N≠q:=fun q hq i N ds e z=>by
       obtain⟨_,_,_,xs,c4,_⟩:=j.ob i N ds e
       rw[z,hq]at c4;cases c4
      have O:=j.fh.free hp
      have a6:=j.fh.free R
      have U:=Y.shareO b7 O (j.ext.hh.free hp) (own p hp) (ob p hp) fun _ _ z=>by cases z
      have G:upd F p (.lst ys) t=none:=by rw[x8 b3];exact a6
      have S:=U.shareO b6 G (j.ext.hh.free R) (own t R) (ob t R) fun _ _ z=>by cases z
      have s1:Same F (upd F p (.lst ys)):=(Same.refl F).put O
      have s2:Same (upd F p (.lst ys)) (upd (upd F p (.lst ys)) t (.tup [v,.ref p])):=(Same.refl _).put G
      refine q (.ref t) _ H' ⟨B,fp,S,ok.mono (s1.trans s2)⟩ (s1.trans s2) hh ?_
      exact .tup (SqT.of x9) (.cons (ys9 hs.1 b8) (.cons (.lst (SqL.of (by rw[x8 (Ne.symm b3)];exact x9)) (zt4 hs.2 b9)) .nil))
    .cases e
   .cases e
  .cases e
 .cases e
end
end
section
section
variable {X:Cx}{e o:Expr}{E:XK}{mf:MF}{mo:ME}
@[irreducible] noncomputable def Q3 (c mn:Str)(mf:MF)(mo:ME):ML:=fun ρ=>match mo ρ with
 |some (.obj c' ns ds0)=>if c'=c/\mn∉ns then (match mf [.obj c' ns ds0]with |some (.fr es)=>some es|_=>none)else none
 |_=>none
theorem yp5 {c mn:Str}{C:Addr}(Z:W.nsIn X.K mainGlobals c=some (some (.ref C)))(S:PD X o mo)(h:∀ ta,PE X o ta->PE X e (zx5 C mn (spR X.K 1 mf) [] E ta tNil)):PF X e (Q3 c mn mf mo):=PE.imp (h _ S) fun σ H Q i=>by
 obtain⟨F0,H0,F,ρ,d,N,e,q⟩:=i
 unfold Q3 at e
 split at e
 .rename_i c' ns ds0 h0
  split at e
  .rename_i z
   obtain⟨rfl,z⟩:=z
   split at e
   .rename_i es h2
    cases e
    refine⟨F0,H0,F,ρ,_,N,h0,fun v F1 H1 j R=>?_⟩
    cases R with
    |@obj a dx C' _ _ xs _ a1 a2 a3 a4 a5=>
     have G:=a1
     rw[Z]at a1
     cases a1
     refine⟨_,_,_,rfl,j.fh _ _ a3,d6 z _,?_⟩
     exact⟨rfl,F1,_,_,j.fh,.cons (Rep.obj G a2 a3 a4 a5) .nil,h2,fun p xs F3 H3 I hp Y U O=>q p xs F3 H3 (j.trans I) (j.hh.free hp) Y U O⟩
   .cases e
  .cases e
 .cases e
end
end
section
section
variable {X:Cx}{e:Expr}{es:List Expr}{st:Stmt}{rest:List Stmt}{E:XK}{mf:MFW}{m:MLm}
end
end
end L2
namespace L2
open List
open PySem PySem.Spec PyProof.Rows PySem.W
section
section
variable {M:Model}{A:Around}{E:Value->Shared->Prop}{s:Shared}
end
section
variable {B h h':Heap}{l:List Env}{e C L:Addr}{cls a0 fl:Value}
end
section
variable {X:Cx}{e:Expr}{es:List Expr}{pos:Pos}
end
section
variable {X:Cx}
end
end
section
section
variable {X:Cx}{e:Expr}{pos:Pos}
end
section
variable {X:Cx}{pins:List (Addr×Obj)}{σ:St}{H:Hp}{s:Shared}
end
end
section
section
variable {X:Cx}{st:Stmt}{rest:List Stmt}{e c:Expr}{es:List Expr}{pos:Pos}
end
open Classical in
section
variable {X:Cx}
end
end
end L2
namespace L2
open List
open PySem PySem.Spec PyProof.Rows
section
section
variable {X:Cx}{pos np hpos:Pos}
end
end
section
section
variable {X:Cx}{a b:Expr}{ma mb:ME}{na nb:MEm}{pos:Pos}
end
section
variable {X:Cx}{a b:Expr}{ca cb:Ro->Bx->Option (Bool×Bx)}{pos:Pos}
end
end
section
section
variable {X:Cx}{e:Expr}{es:List Expr}{st:Stmt}{E:XK}{mf:MFW}{m:ML}
end
end
section
section
variable {X:Cx}{e o:Expr}{pos:Pos}{ma mo:ME}
end
end
section
section
variable {X:Cx}{pos:Pos}{e:Expr}{ma mb:ME}
end
end
section
section
variable {X:Cx}{tg e:Expr}{ma mb:ME}{pos:Pos}
variable {a b:Expr}
end
end
section
section
variable {es:List Expr}{env:Env}
theorem se_c {c:Const}{k:Nat}{p:Pos}:starEach (.Constant c k p::es) env=(false,eval (.Constant c k p) env)::starEach es env:=rfl
theorem se_n {x:Str}{p:Pos}:starEach (.Name x p::es) env=(false,eval (.Name x p) env)::starEach es env:=rfl
theorem se_b {a b:Expr}{o:Operator}{p:Pos}:starEach (.BinOp a o b p::es) env=(false,eval (.BinOp a o b p) env)::starEach es env:=rfl
theorem se_s {a b:Expr}{p:Pos}:starEach (.Subscript a b p::es) env=(false,eval (.Subscript a b p) env)::starEach es env:=rfl
end
end
section
end
section
section
variable {prog:Program}{w:World}{A:Around}{E:Value->Shared->Prop}{s:Shared}
end
section
variable {X:Cx}{a:Addr}{pos:Pos}{e:Expr}
end
end
section
section
variable {K:W.Frag}{F0 H0 F H B:Hp}{σ:St}{ρ:Ro}{β:Bx}{fp:List Addr}
theorem RlW.lists {F' H':Hp}{L:List Addr}(I:Rl K F0 (jn H0 B) F H σ ρ)(ok:BxOk K F0 H0 F B fp β)(x:Ext F H F' H')(nd:L.Nodup)(new:∀ q∈L,H q=none/\F' q=none/\H' q=some (.lst [])):RlW K F0 H0 F' H' σ ρ (L.map (fun q=>(q,Cell.row []))++β):=by
 have O:∀ q∈L,jn H0 B q=none:=fun q j=>I.ext.hh.free (new q j).1
 have hB:∀ q∈L,B q=none:=fun q j=>(g7 (O q j)).1
 have N:=(I.go x).takeBs (L:=L) (fun q j=>by rw[(new q j).2.2];simp) (fun q j=>(new q j).2.1) O (fun q j i ds e z=>by
  obtain⟨R,xs,Y,_,U,_⟩:=I.own i ds e
  rw[z]at Y;cases Y
  rw[(new q j).1]at U;cases U) (fun q j i R ds e z=>by
  obtain⟨_,_,_,xs,S,_⟩:=I.ob i R ds e
  rw[z,(new q j).1]at S;cases S)
 have G:∀ a∈fp,a∉L:=fun a ha z=>ok.bx.mem a ha (hB a z)
 have bx:∀ M:List Addr,(∀ q∈M,q∈L)->BxR K F' (insB B H' L) (M++fp) (M.map (fun q=>(q,Cell.row []))++β):=by
  intro M
  induction M with
  |nil=>intro _;exact ok.bx.mono x.ff fun a ha=>C5 (G a ha)
  |cons q M Z=>intro h;exact .cons (fp:=[q]) (.row (xs:=[]) (by rw[zf3 (h q (by simp))];exact(new q (h q (by simp))).2.2) .nil) (Z fun a ha=>h a (mem_cons_of_mem _ ha))
 refine⟨insB B H' L,L++fp,N,fun a h=>?_,bx L fun _ h=>h,List.nodup_append.mpr ⟨nd,ok.nd,fun a h1 b h2 z=>by subst z;exact G a h2 h1⟩,fun a o u h=>?_⟩
 .by_cases j:a∈L
  .exact⟨(g7 (O a j)).2,I.ext.ff.free (I.fh.free (new a j).1)⟩
  .rw[C5 j]at h;exact ok.out a h
 .by_cases j:a∈L
  .rw[zf3 j,(new a j).2.2]at h;cases h
  .rw[C5 j]at h;exact ok.plain a o u h
end
noncomputable def yc7 (i:Nat)(m:ME)(rest:MW):MW:=fun ρ β=>(m ρ).bind fun d=>anyN β fun p=>anyN ((p,.row [])::β) fun q=>anyN ((q,.row [])::(p,.row [])::β) fun r=>
 (rest (ρ.set i (some (.sh (.tup [.ptr p,.ptr q,.ptr r,d])))) ((r,.row [])::(q,.row [])::(p,.row [])::β)).map (letGo i β.length)
section
variable {X:Cx}{a b c e:Expr}{pos:Pos}{st:Stmt}{rest:List Stmt}
theorem R3 (ρ:Ro):u8 anil ρ=some []:=by unfold u8;exact if_pos (Nat.zero_le _)
theorem yq4 {i:Nat}{m:ME}{mr:MW}(hS:PS X st (tAsg (tTup (zp7 (TF X.K (u8 anil)) (zp7 (TF X.K (u8 anil)) (zp7 (TF X.K (u8 anil)) (zp7 (TD X.K m) tNil))))) (zy2 i)))(hr:PSsw X rest mr):PSsw X (st::rest) (yc7 i m mr):=PSs.imp (M6 hS hr) fun Dn σ H ⟨F0,H0,F,ρ,β,o,β',⟨B,fp,I,ok⟩,e,k⟩=>by
 unfold yc7 at e
 cases h1:m ρ with
 |none=>rw[h1]at e;cases e
 |some d=>
  rw[h1,Option.bind_some]at e
  refine⟨F0,jn H0 B,F,ρ,[],I,R3 ρ,fun p xs F1 H1 G a1 a2 R a4=>?_⟩
  cases a4
  refine⟨F0,jn H0 B,F1,ρ,[],I.go G,R3 ρ,fun q xs F2 H2 N b1 b2 b3 b4=>?_⟩
  cases b4
  refine⟨F0,jn H0 B,F2,ρ,[],(I.go G).go N,R3 ρ,fun r xs F3 H3 Z c1 c2 c3 c4=>?_⟩
  cases c4
  refine⟨F0,jn H0 B,F3,ρ,d,((I.go G).go N).go Z,h1,fun v F4 H4 Y rv=>⟨by show 4<=sizeLine;rw[show sizeLine=2^24 from rfl];decide,fun t ht=>?_⟩⟩
  have S:=Ext.laid (p:=t) (o:=.tup [.ref p,.ref q,.ref r,v]) Y.fh ht
  have U:=((N.trans Z).trans Y).trans S
  have xq:=(Z.trans Y).trans S
  have xr:=Y.trans S
  have np:p≠q:=fun z=>by rw[z,b1]at R;cases R
  have nr:q≠r:=fun z=>by rw[z,c1]at b3;cases b3
  have O:p≠r:=fun z=>by have:=N.hh _ _ R;rw[z,c1]at this;cases this
  have new:∀ y∈[r,q,p],H y=none/\upd F4 t (.tup [.ref p,.ref q,.ref r,v]) y=none/\upd H4 t (.tup [.ref p,.ref q,.ref r,v]) y=some (.lst []):=fun y j=>by
   rcases List.mem_cons.mp j with z|j
   .subst z;exact⟨(G.trans N).hh.free c1,xr.stay c2 c3,xr.hh _ _ c3⟩
   .rcases List.mem_cons.mp j with z|j
    .subst z;exact⟨G.hh.free b1,xq.stay b2 b3,xq.hh _ _ b3⟩
    .rw[mem_singleton]at j;subst j;exact⟨a1,U.stay a2 R,U.hh _ _ R⟩
  have RW:=RlW.lists (L:=[r,q,p]) I ok (G.trans U) (by simp[Ne.symm np,Ne.symm nr,Ne.symm O]) new
  have nk:∀ y∈[r,q,p],y∉β.map Prod.fst:=fun y j z=>ok.bx.keys y z (g7 (I.ext.hh.free (new y j).1)).1
  have e:=K7 e p (nk p (by simp))
  have e:=K7 e q (by rw[map_cons,mem_cons,not_or];exact⟨Ne.symm np,nk q (by simp)⟩)
  have e:=K7 e r (by rw[map_cons,map_cons,mem_cons,mem_cons,not_or,not_or];exact⟨Ne.symm nr,Ne.symm O,nk r (by simp)⟩)
  cases h3:mr (ρ.set i (some (.sh (.tup [.ptr p,.ptr q,.ptr r,d])))) ((r,.row [])::(q,.row [])::(p,.row [])::β)with
  |none=>rw[h3]at e;cases e
  |some ob=>
   obtain⟨o1,β2⟩:=ob
   rw[h3]at e
   have e:some (letGo i β.length (o1,β2))=some (o,β'):=e
   have e:=Option.some.inj e
   obtain⟨B2,a7,a5,a6⟩:=RW
   refine⟨F0,H0,_,_,_,o1,β2,⟨B2,a7,a5.set (.tup (SqT.of x9) (.cons (.ptr p) (.cons (.ptr q) (.cons (.ptr r) (.cons (rv.mono S.ff) .nil))))),a6⟩,h3,okW.letGo (i:=i) (k:=β.length) ?_⟩
   rw[e]
   exact k.mono (G.trans U).ff
theorem FlR.snoc {K:W.Frag}{F B:Hp}{v:V}{d:D}(h:Rep K F v d):∀{fq:List Addr}{xs:List V}{fs:List Fl},FlR K F B fq xs fs->FlR K F B fq (xs++[v]) (fs++[.v d])
 |_,_,_,.nil=>.v h .nil
 |_,_,_,.v r t=>.v r (FlR.snoc h t)
 |_,_,_,.l b r t=>.l b r (FlR.snoc h t)
theorem FlR.unsnoc {K:W.Frag}{F B:Hp}{d:D}:∀{gs:List Fl}{fq:List Addr}{xs:List V},FlR K F B fq xs (gs++[.v d])->∃ ys v,xs=ys++[v]/\FlR K F B fq ys gs
 |[],_,_,.v r .nil=>⟨[],_,rfl,.nil⟩
 |_::gs,_,_,.v r t=>by
  obtain⟨ys,v,e,h⟩:=FlR.unsnoc (gs:=gs) t
  exact⟨_::ys,v,by rw[e];rfl,.v r h⟩
 |_::gs,_,_,.l b r t=>by
  obtain⟨ys,v,e,h⟩:=FlR.unsnoc (gs:=gs) t
  exact⟨_::ys,v,by rw[e];rfl,.l b r h⟩
theorem RlW.rewrite {K:W.Frag}{F0 H0 F H:Hp}{σ:St}{ρ:Ro}{β:Bx}{p:Addr}{fs:List Fl}(r:RlW K F0 H0 F H σ ρ β)(hb:β.lookup p=some (.row fs)):∃ xs fq B,H p=some (.lst xs)/\FlR K F B fq xs fs/\∀ ys gs,FlR K F B fq ys gs->RlW K F0 H0 F (upd H p (.lst ys)) σ ρ (updB p (.row gs) β):=by
 obtain⟨B,fp,U,ok⟩:=r
 obtain⟨fq,hc,Y,a2,up⟩:=ok.bx.upd ok.nd hb
 cases hc with
 |@row fq0 _ xs _ b0 fl=>
  refine⟨xs,fq0,B,U.ext.hh _ _ (l8 b0),fl,fun ys gs S=>?_⟩
  obtain⟨j,_,O,N⟩:=U.putB (a:=p) (o:=.lst ys) ok.out (.inl (by rw[b0];simp))
  have G:=List.nodup_cons.mp Y
  have i:CellR K F (upd B p (.lst ys)) (p::fq0) p (.row gs):=.row x9 (S.mono (Same.refl _) fun a ha=>x8 fun z=>G.1 (z ▸ ha))
  obtain⟨R,Z,I,a1⟩:=up _ _ _ F (Same.refl _) i Y (fun a _ hn=>x8 fun z=>hn (by rw[z];simp)) fun a ha=>.inl ha
  exact⟨_,R,j,J0 ok.out ⟨O,N⟩,Z,I,U6 ok.plain fun _ _ z=>by cases z⟩
noncomputable def zm4 (i:Nat)(x:Ro->Bx->Option D):MW:=fun ρ β=>match ρ[i]? with
 |some (some (.sh (.ptr p)))=>(match β.lookup p with
  |some (.row fs)=>(x ρ β).bind fun d=>if fs.length<sizeLine then some (.nx ρ,updB p (.row (fs++[.v d])) β)else none
  |_=>none)
 |_=>none
theorem zs0 {i:Nat}{x:Str}{R apos cpos:Pos}{mv:Ro->Bx->Option D}(Z:PDw X e mv)
  (hE:∀ t,PA X [e] t->PE X (.Call (.Attribute (.Name x R) "append" apos) [e] [] cpos) (tBM X.K "list" zt8 (tVar i) t)) (S:starEach (e::[]) X.env=(false,eval e X.env)::starEach [] X.env:=by rfl) (hs:swapsWith (.Call (.Attribute (.Name x R) "append" apos) [e] [] cpos) none pos.line X.env=pure false:=by rfl):
  PSw X (.Expr (.Call (.Attribute (.Name x R) "append" apos) [e] [] cpos) pos) (zm4 i mv):=PS.imp (Y8 (hE _ (j7 Z pa_nil S)) hs) fun D σ H z=>by
 obtain⟨F0,H0,F,ρ,β,o,β',j,e,ok⟩:=z
 unfold zm4 at e
 split at e
 .rename_i p h1
  split at e
  .rename_i fs hb
   cases h2:mv ρ β with
   |none=>rw[h2]at e;cases e
   |some d=>
    rw[h2,Option.bind_some]at e
    split at e
    .rename_i hz
     cases e
     obtain⟨xs,fq,B,hH,fl,up⟩:=RlW.rewrite j hb
     have N:=j
     obtain⟨B0,a2,O,k0⟩:=N
     obtain⟨v0,e1,e2⟩:=O.sh i _ h1
     cases e2
     refine⟨_,e1,.inl ⟨rfl,_,SqL.of hH⟩,F0,H0,F,ρ,β,d,j,h2,fun v F1 H1 Y s1 hh rp=>?_⟩
     obtain⟨I,a1,B1,U,G,up1⟩:=RlW.rewrite Y hb
     exact⟨p,I,v,rfl,rfl,U,by rw[G.length];exact hz,ok F1 _ σ (up1 _ _ (G.snoc rp)) s1⟩
    .cases e
  .cases e
 .cases e
noncomputable def yv0 (i:Nat):MW:=fun ρ β=>match ρ[i]? with
 |some (some (.sh (.ptr p)))=>(match β.lookup p with
  |some (.row fs)=>(match fs.getLast? with |some (.v _)=>some (.nx ρ,updB p (.row fs.dropLast) β)|_=>none)
  |_=>none)
 |_=>none
theorem zc1 {i:Nat}{x:Str}{R apos cpos:Pos}(Y:PE X (.Call (.Attribute (.Name x R) "pop" apos) [] [] cpos) (tBM0 X.K "list" rPop (tVar i)))(hs:swapsWith (.Call (.Attribute (.Name x R) "pop" apos) [] [] cpos) none pos.line X.env=pure false:=by rfl):
  PSw X (.Expr (.Call (.Attribute (.Name x R) "pop" apos) [] [] cpos) pos) (yv0 i):=PS.imp (Y8 Y hs) fun D σ H G=>by
 obtain⟨F0,H0,F,ρ,β,o,β',j,e,ok⟩:=G
 unfold yv0 at e
 split at e
 .rename_i p h1
  split at e
  .rename_i fs hb
   split at e
   .rename_i d hl
    cases e
    obtain⟨xs,fq,B,U,fl,up⟩:=RlW.rewrite j hb
    obtain⟨gs,rfl⟩:∃ gs,fs=gs++[.v d]:=⟨fs.dropLast,by
     have I:fs≠[]:=fun z=>by rw[z]at hl;cases hl
     have:=dropLast_concat_getLast I
     rw[getLast?_eq_some_getLast I]at hl
     rw[<-Option.some.inj hl];exact this.symm⟩
    obtain⟨ys,v,rfl,S⟩:=fl.unsnoc
    have N:=j
    obtain⟨B0,Z,O,k0⟩:=N
    obtain⟨v0,e1,e2⟩:=O.sh i _ h1
    cases e2
    refine⟨_,e1,.inl ⟨rfl,_,SqL.of U⟩,p,ys++[v],v,rfl,rfl,U,by simp,?_⟩
    rw[dropLast_concat]
    have:=up _ _ S
    exact ok F _ σ (by rw[dropLast_concat];exact this) (Same.refl F)
   .cases e
  .cases e
 .cases e
noncomputable def D3:List D->Bx->Option (List D×Bx)
 |[],β=>some ([],β)
 | .ptr p::ds,β=>(match β.lookup p with |some (.row fs)=>(D3 ds (delB p β)).map fun x=>(.lst (fs.map flS)::x.1,x.2)|_=>none)
 |d::ds,β=>(D3 ds β).map fun x=>(d::x.1,x.2)
theorem RlW.melts {K:W.Frag}{F0 H0 H:Hp}{σ:St}{ρ:Ro}:∀{ds es:List D}{F:Hp}{β β':Bx}{xs:List V},RlW K F0 H0 F H σ ρ β->Reps K F xs ds->D3 ds β=some (es,β')->∃ F',Same F F'/\RlW K F0 H0 F' H σ ρ β'/\Reps K F' xs es
 |[],_,F,_,_,_,r,.nil,e=>by cases e;exact⟨F,Same.refl _,r,.nil⟩
 |d::ds,es,F,β,β',_,r,.cons h t,e=>by
  have go:∀{F1:Hp}{i:Bx}{d':D}{v:V},Same F F1->RlW K F0 H0 F1 H σ ρ i->Rep K F1 v d'->(D3 ds i).map (fun x=>(d'::x.1,x.2))=some (es,β')->∀{vs:List V},Reps K F vs ds->∃ F',Same F F'/\RlW K F0 H0 F' H σ ρ β'/\Reps K F' (v::vs) es:=fun{F1 i d' v} s1 j G e1 {vs} t=>by
   cases h2:D3 ds i with
   |none=>rw[h2]at e1;cases e1
   |some x=>
    rw[h2]at e1;cases e1
    obtain⟨F',s2,I,z⟩:=RlW.melts (ds:=ds) j (t.mono s1) h2
    exact⟨F',s1.trans s2,I,.cons (G.mono s2) z⟩
  cases d with
  |ptr p=>
   cases h
   unfold D3 at e
   split at e
   .rename_i fs hb
    obtain⟨F1,s1,j,rp⟩:=r.openB hb
    exact go s1 j rp e t
   .cases e
  |_=>exact go (Same.refl _) r h (by unfold D3 at e;exact e) t
noncomputable def C4 (i:Nat)(m:MW):MW:=fun ρ β=>match ρ[i]? with
 |some (some (.sh (.tup ds)))=>(match D3 ds β with |some (es,β')=>m (ρ.set i (some (.sh (.tup es)))) β'|none=>none)
 |_=>none
theorem zn0 {sts:List Stmt}{m:MW}(i:Nat)(h:PSsw X sts m):PSsw X sts (C4 i m):=PSs.imp h fun D σ H j=>by
 obtain⟨F0,H0,F,ρ,β,o,β',r,e,ok⟩:=j
 unfold C4 at e
 split at e
 .rename_i ds h1
  split at e
  .rename_i es β1 h2
   obtain⟨B,fp,O,k⟩:=id r
   obtain⟨v,S,N⟩:=O.sh i _ h1
   cases N with
   |tup s t=>
    obtain⟨F',I,⟨B',G,z,R⟩,t'⟩:=r.melts t h2
    have:=z.set (i:=i) (Rep.tup (I.seqT s) t')
    rw[ye2 S]at this
    exact⟨F0,H0,F',_,_,o,β',⟨B',G,this,R⟩,e,ok.mono I⟩
  .cases e
 .cases e
noncomputable def zg1 (x:Ro->Bx->Option (D×Bx)):MW:=fun ρ β=>(x ρ β).map fun y=>(.rt y.1,y.2)
theorem zc0 {m:Ro->Bx->Option (D×Bx)}(h:PDx X e m):PSw X (.Return (some e) pos) (zg1 m):=PS.imp (U9 h) fun D σ H i=>by
 obtain⟨F0,H0,F,ρ,β,o,β',j,e,ok⟩:=i
 unfold zg1 at e
 cases h1:m ρ β with
 |none=>rw[h1]at e;cases e
 |some y=>
  rw[h1]at e;cases e
  refine⟨F0,H0,F,ρ,β,y.1,y.2,j,h1,fun v F1 H1 G s1 rp=>?_⟩
  obtain⟨B,fp,z,k⟩:=G
  exact ok v F1 H1 B fp z.ext k rp
noncomputable def yh0 (x:Ro->Bx->Option (D×Bx)):Ro->Bx->Option (Bool×Bx):=fun ρ β=>match x ρ β with |some (.bl k,β')=>some (!k,β')|_=>none
theorem xr7 {p2:Pos}{m:Ro->Bx->Option (D×Bx)}(h:PDx X a m)(G:∀ i,isTrue a X.env i=(do let v ← i;standAt a.pos;holding [v] (truthy v)):=by intro _;rfl):PT X (.UnaryOp .Not a p2) (TCx X.K (yh0 m)):=PT.imp (xx5 (zd9 h G)) fun σ H Q j=>by
 obtain⟨F0,H0,F,ρ,β,k,β',r,e,q⟩:=j
 unfold yh0 at e
 split at e
 .rename_i k' β1 h1
  cases e
  refine⟨F0,H0,F,ρ,β,_,_,r,h1,fun v F1 H1 z s1 rp=>⟨k',?_,q F1 H1 z s1⟩⟩
  cases rp
  rfl
 .cases e
noncomputable def zm3 (f:MFW)(m:Ro->Bx->Option (List D)):Ro->Bx->Option (D×Bx):=fun ρ β=>(m ρ β).bind fun ds=>rtW (f ds β)
theorem zy6 {x:Ro->Bx->Option D}{m:Ro->Bx->Option (List D)}{n:Nat}(h:∀ ρ β ds,m ρ β=some ds->ds.length=n):∀ ρ β ds,X4 x m ρ β=some ds->ds.length=n+1:=fun ρ β ds e=>by
 unfold X4 at e
 cases h1:x ρ β with
 |none=>rw[h1]at e;cases e
 |some d=>
  cases h2:m ρ β with
  |none=>rw[h1,h2]at e;cases e
  |some es=>rw[h1,h2]at e;cases e;rw[length_cons,h ρ β es h2]
theorem yc4:∀ ρ β ds,nilW ρ β=some ds->ds.length=0:=fun _ _ _ e=>by cases e;rfl
theorem yo0 {n:Nat}{es:List Expr}{E:XK}{mf:MFW}{m:Ro->Bx->Option (List D)}(h:∀ t,PA X es t->PE X e (ys3 (spW X.K n mf) [] E t))(R:es.length=n)(ha:PAw X es m)(hm:∀ ρ β ds,m ρ β=some ds->ds.length=es.length):PDx X e (zm3 mf m):=PE.imp (h _ ha) fun σ H Q i=>by
 obtain⟨F0,H0,F,ρ,β,d,β',z,e,q⟩:=i
 unfold zm3 at e
 cases h1:m ρ β with
 |none=>rw[h1]at e;cases e
 |some ds=>
  rw[h1,Option.bind_some]at e
  refine⟨F0,H0,F,ρ,β,ds,z,h1,fun vs F1 H1 O s1 S G=>?_⟩
  show spW X.K n mf (vs++[]) H1 Q E
  rw[append_nil]
  obtain⟨B,fp,N,ok⟩:=O
  exact K5 N ok (by rw[G.length,hm ρ β ds h1,R]) G e fun v F' H' j I rp=>q v F' H' j (s1.trans I) rp
end
end
end L2
set_option maxHeartbeats 4000000
namespace Lw
open List
open PySem L2
abbrev k0a (r:List Int):Option S:=some (.sh (.lst (r.map .int)))
abbrev k0b (k:Nat):Option S:=some (.sh (.int (k:Int)))
abbrev k0c (k:Int):Option S:=some (.sh (.int k))
section
noncomputable section
noncomputable abbrev tab_OTHER_KIND:List (Str×Str):=[("up","down"),("down","up")]
noncomputable def b_Z14:MS:=(mif (u4 (m2 ltD (mvar 0) (mc (.int 1)))) zu0 Z8)
noncomputable def J7:MF:=runB 1 b_Z14
noncomputable def yz7:MS:=(mseq (mapp 2 (mlst (T4 [none,some 1,some 5,some 0] (g9 rng2 (z7 (m2 addD (mvar 4) (mc (.int 1))) (z7 (mlen (bvar 0)) anil))) (.nm 0) (u4 (m2 geD (m2 subD (mix (bvar 3) (mvar 0)) (mvar 2)) (mvar 1))) (mvar 0)))) (mapp 3 (mlst (T4 [none,some 1,some 5,some 0] (g9 rng2 (z7 (m2 addD (mvar 4) (mc (.int 1))) (z7 (mlen (bvar 0)) anil))) (.nm 0) (u4 (m2 geD (m2 subD (mvar 2) (mix (bvar 3) (mvar 0))) (mvar 1))) (mvar 0)))))
noncomputable def yz6:MS:=(Z9 3 (Z9 2 (mret (mtup (z7 (mvar 2) (z7 (mvar 3) anil))))))
noncomputable def b_Z16:MS:=(mseq (X3 2 (u8 anil)) (mseq (X3 3 (u8 anil)) (mseq (mfor (g9 yi6 (z7 (mvar 0) anil)) (.tp [4,5]) yz7) yz6)))
noncomputable def zg6:MF:=runB 6 b_Z16
noncomputable def b_Z6:MS:=(mif (u4 (m2 ltD (mvar 0) (mc (.int 0)))) zu0 Z8)
noncomputable def m_Z6:MF:=runB 1 b_Z6
noncomputable def xn1:MXs:=(xif (u4 (m2 ltD (mvar 0) (mc (.int 0)))) (zw9 "NoWeights" (z7 (mc (.str "a weight is 0 or more")) anil)) xv5)
noncomputable def yy4:MFX:=runX 1 xn1
noncomputable def yg3:MS:=(S3 (m7 m_Z6 (z7 (mvar 2) anil)))
noncomputable def b_Z2:MS:=(mseq (mif (u4 (m2 neSD (mlen (bvar 1)) (mlen (bvar 0)))) zu0 Z8) (mfor (p5 (mvar 1)) (.nm 2) yg3))
noncomputable def m_Z2:MF:=runB 3 b_Z2
noncomputable def b_Z5:MS:=(mseq (masg (.tp [1,2]) (mvar 0)) (mret (mtup (z7 (m1 negD (mvar 1)) (z7 (mlen (bvar 2)) (z7 (mvar 2) anil))))))
noncomputable def m_Z5:MF:=runB 3 b_Z5
noncomputable def b_Z4:MS:=(mret (ym6 (fun d=>shOf (m_Z5 [d])) (mcat (u8 (z7 (mtup (z7 (mc (.int 0)) (z7 (mlst (u8 anil)) anil))) anil)) (bvar 0))))
noncomputable def m_Z4:MF:=runB 1 b_Z4
noncomputable def zq7:MS:=(mseq (masg (.tp [8,9]) (m7 m_Z4 (z7 (mlst (Q4 [none,some 6] (p5 (mix (bvar 3) (mvar 7))) (.nm 0) cyes (mix (bvar 1) (mvar 0)))) anil))) (mseq (W4 5 (mvar 7) (mtup (z7 (m2 addD (mix (bvar 2) (mvar 7)) (mvar 8)) (z7 (mlst (mcat (u8 (z7 (mvar 7) anil)) (bvar 9))) anil)))) (mseq (masg (.tp [8,9]) (m7 m_Z4 (z7 (mlst (Q4 [none,some 5] (p5 (mix (bvar 4) (mvar 7))) (.nm 0) cyes (mix (bvar 1) (mvar 0)))) anil))) (W4 6 (mvar 7) (mtup (z7 (m2 addD (mix (bvar 2) (mvar 7)) (mvar 8)) (z7 (mlst (mcat (u8 (z7 (mvar 7) anil)) (bvar 9))) anil)))))))
noncomputable def yy0:MS:=(Z9 5 (Z9 6 (mret (mtup (z7 (mvar 5) (z7 (mvar 6) anil))))))
noncomputable def b_Z12:MS:=(mseq (masg (.tp [3,4]) (m7 zg6 (z7 (mvar 0) (z7 (mvar 1) anil)))) (mseq (X3 5 (mrep (u8 (z7 (mtup (z7 (mc (.int 0)) (z7 (mlst (u8 anil)) anil))) anil)) (mlen (bvar 0)))) (mseq (X3 6 (mrep (u8 (z7 (mtup (z7 (mc (.int 0)) (z7 (mlst (u8 anil)) anil))) anil)) (mlen (bvar 0)))) (mseq (mfor (g9 rngD (z7 (mlen (bvar 0)) anil)) (.nm 7) zq7) yy0))))
noncomputable def ya1:MF:=runB 10 b_Z12
noncomputable def b_Z22:MS:=(mseq (S3 (m7 J7 (z7 (mvar 1) anil))) (mseq (S3 (m7 m_Z2 (z7 (mvar 0) (z7 (mvar 2) anil)))) (mseq (masg (.tp [3,4]) (m7 ya1 (z7 (mvar 0) (z7 (mvar 1) (z7 (mvar 2) anil))))) (mret (m7 m_Z4 (z7 (m2 addD (mvar 3) (mvar 4)) anil))))))
noncomputable def J6:MF:=runB 5 b_Z22
noncomputable def zq6:MS:=(mseq (mset 6 (m2 subD (mix (bvar 0) (mvar 5)) (mix (bvar 0) (mvar 4)))) (mseq (mif (cand (u4 (m2 geD (mvar 6) (mvar 1))) (u4 (m2 geD (mlen (p5 (mix (bvar 3) (mvar 5)))) (mlen (p5 (mix (bvar 2) (mvar 4))))))) (W4 2 (mvar 4) (mlst (mcat (u8 (z7 (mvar 4) anil)) (p5 (mix (bvar 3) (mvar 5)))))) Z8) (mif (cand (u4 (m2 geD (m1 negD (mvar 6)) (mvar 1))) (u4 (m2 geD (mlen (p5 (mix (bvar 2) (mvar 5)))) (mlen (p5 (mix (bvar 3) (mvar 4))))))) (W4 3 (mvar 4) (mlst (mcat (u8 (z7 (mvar 4) anil)) (p5 (mix (bvar 2) (mvar 5)))))) Z8)))
noncomputable def zq5:MS:=(mfor (g9 rng2 (z7 (m2 addD (mvar 4) (mc (.int 1))) (z7 (mlen (bvar 0)) anil))) (.nm 5) zq6)
noncomputable def yz5:MS:=(Z9 2 (Z9 3 (mret (mtup (z7 (mvar 2) (z7 (mvar 3) anil))))))
noncomputable def b_Z24:MS:=(mseq (X3 2 (T4 [none] (g9 rng1 (z7 (mlen (bvar 0)) anil)) (.nm 0) cyes (mlst (u8 (z7 (mvar 0) anil))))) (mseq (X3 3 (T4 [none] (g9 rng1 (z7 (mlen (bvar 0)) anil)) (.nm 0) cyes (mlst (u8 (z7 (mvar 0) anil))))) (mseq (mfor (g9 rngD (z7 (mlen (bvar 0)) anil)) (.nm 4) zq5) yz5)))
noncomputable def ya0:MF:=runB 7 b_Z24
noncomputable def b_Z3:MS:=(mseq (mset 1 (mlst (mcat (u8 (z7 (mtup (z7 (mc (.int 0)) (z7 (mc (.int 1)) anil))) anil)) (bvar 0)))) (mseq (mset 2 (ym7 (T4 [none,none] (p5 (mvar 1)) (.tp [0,1]) cyes (mvar 0)))) (mret (mtup (z7 (m2 addD (mvar 2) (mc (.int 1))) (z7 (msum (T4 [none,none,some 2] (p5 (mvar 1)) (.tp [0,1]) (u4 (m2 eqSD (mvar 0) (mvar 2))) (mvar 1))) anil))))))
noncomputable def m_Z3:MF:=runB 3 b_Z3
noncomputable def ze8:MS:=(mseq (W4 4 (mvar 6) (m7 m_Z3 (z7 (mlst (Q4 [none,some 5] (p5 (mix (bvar 2) (mvar 6))) (.nm 0) cyes (mix (bvar 1) (mvar 0)))) anil))) (W4 5 (mvar 6) (m7 m_Z3 (z7 (mlst (Q4 [none,some 4] (p5 (mix (bvar 3) (mvar 6))) (.nm 0) cyes (mix (bvar 1) (mvar 0)))) anil))))
noncomputable def zy8:MS:=(Z9 4 (Z9 5 (mseq (mset 7 (zm2 (T4 [none,none] (p5 (m2 addD (mvar 4) (mvar 5))) (.tp [0,1]) cyes (mvar 0)) (mc (.int 0)))) (mseq (mif (u4 (m2 ltD (mvar 7) (mc (.int 2)))) (mret (Y7 yb6 (z7 (mc (.int 1)) (z7 (mlen (bvar 0)) anil)))) Z8) (mret (msum (T4 [none,none,some 7] (p5 (m2 addD (mvar 4) (mvar 5))) (.tp [0,1]) (u4 (m2 eqSD (mvar 0) (mvar 2))) (mvar 1))))))))
noncomputable def b_Z0:MS:=(mseq (S3 (m7 J7 (z7 (mvar 1) anil))) (mseq (masg (.tp [2,3]) (m7 zg6 (z7 (mvar 0) (z7 (mvar 1) anil)))) (mseq (X3 4 (mrep (u8 (z7 (mtup (z7 (mc (.int 0)) (z7 (mc (.int 0)) anil))) anil)) (mlen (bvar 0)))) (mseq (X3 5 (mrep (u8 (z7 (mtup (z7 (mc (.int 0)) (z7 (mc (.int 0)) anil))) anil)) (mlen (bvar 0)))) (mseq (mfor (g9 rngD (z7 (mlen (bvar 0)) anil)) (.nm 6) ze8) zy8)))))
noncomputable def m_Z0:MF:=runB 8 b_Z0
noncomputable def b_Z10:MS:=(mret (mtup (z7 (m1 negD (mlen (bvar 0))) (z7 (mvar 0) anil))))
noncomputable def zq0:MF:=runB 1 b_Z10
noncomputable def b_Z23:MS:=(mseq (S3 (m7 J7 (z7 (mvar 1) anil))) (mseq (masg (.tp [2,3]) (m7 ya0 (z7 (mvar 0) (z7 (mvar 1) anil)))) (mret (yw8 (fun d=>shOf (zq0 [d])) (p5 (m2 addD (mvar 2) (mvar 3))) (mlst (u8 anil))))))
noncomputable def yv4:MF:=runB 4 b_Z23
noncomputable def b_Z20:MS:=(mret (mlen (p5 (m7 yv4 (z7 (mvar 0) (z7 (mvar 1) anil))))))
noncomputable def zm5:MF:=runB 2 b_Z20
noncomputable def yz9:MS:=(mseq (mset 6 (m2 subD (mix (bvar 0) (mvar 5)) (mix (bvar 0) (mvar 4)))) (mseq (mif (u4 (m2 eqSD (mvar 2) (mc (.str "down")))) (mset 6 (m1 negD (mvar 6))) Z8) (mseq (mif (u4 (m2 leD (mvar 6) (m1 negD (mvar 1)))) (zm0 5) Z8) (mif (u4 (m2 gtD (mvar 6) (mc (.int 0)))) (mset 4 (mvar 5)) Z8))))
noncomputable def b_Z13:MS:=(mseq (mset 4 (mvar 3)) (mseq (mfor (g9 rng2 (z7 (mvar 3) (z7 (mlen (bvar 0)) anil))) (.nm 5) yz9) (mret (mlen (bvar 0)))))
noncomputable def zm6:MF:=runB 7 b_Z13
noncomputable def B6:MS:=(mseq (mapp 6 (mvar 7)) (mseq (mset 7 (m7 zm6 (z7 (mvar 0) (z7 (mvar 1) (z7 (mvar 5) (z7 (mvar 7) anil)))))) (mset 5 (m1 (tabD tab_OTHER_KIND) (mvar 5)))))
noncomputable def b_Z19:MS:=(mseq (S3 (m7 J7 (z7 (mvar 1) anil))) (mseq (mset 2 (m7 zm6 (z7 (mvar 0) (z7 (mvar 1) (z7 (mc (.str "up")) (z7 (mc (.int 0)) anil)))))) (mseq (mset 3 (m7 zm6 (z7 (mvar 0) (z7 (mvar 1) (z7 (mc (.str "down")) (z7 (mc (.int 0)) anil)))))) (mseq (mset 4 (mite (u4 (m2 ltD (mvar 2) (mvar 3))) (mc (.str "down")) (mc (.str "up")))) (mseq (mset 5 (mvar 4)) (mseq (X3 6 (u8 anil)) (mseq (mset 7 (Y7 ym9 (z7 (mvar 2) (z7 (mvar 3) anil)))) (mseq (N8 (u4 (m2 ltD (mvar 7) (mlen (bvar 0)))) B6 1000) (yc6 (mvar 4) 6)))))))))
noncomputable def D4:MF:=runB 8 b_Z19
noncomputable def b_Grown___init__:MW:=(m9 (wS (S3 (m7 J7 (z7 (mvar 1) anil)))) (m9 (yk0 0 "Grown" "least_step" (wE (mvar 1))) (m9 (L7 0 "Grown" "numbers" (wE (u8 anil))) (m9 (L7 0 "Grown" "weights" (wE (u8 anil))) (L7 0 "Grown" "lengths" (wE (u8 anil)))))))
noncomputable def j4:MFW:=runW 2 b_Grown___init__
noncomputable def b_Z8:MS:=(ym3 D4 (z7 (mfld "Grown" "numbers" (mvar 0)) (z7 (mfld "Grown" "least_step" (mvar 0)) anil)))
noncomputable def m_Z8:MF:=runB 1 b_Z8
noncomputable def b_Z9:MS:=(mseq (masg (.tp [1,2]) (v6 "Grown" "pieces" m_Z8 (mvar 0) anil)) (mret (mite (mtru (mfld "Grown" "numbers" (mvar 0))) (m2 addD (mlen (bvar 2)) (mc (.int 1))) (mc (.int 0)))))
noncomputable def m_Z9:MF:=runB 3 b_Z9
noncomputable def b_Grown_put:MW:=(m9 (wS (S3 (m7 m_Z6 (z7 (mvar 2) anil)))) (m9 (O2 0 "Grown" "numbers" (wE (mvar 1))) (m9 (O2 0 "Grown" "weights" (wE (mvar 2))) (O2 0 "Grown" "lengths" (d7 (v6 "Grown" "length" m_Z9 (mvar 0) anil))))))
noncomputable def m6:MFW:=runW 3 b_Grown_put
noncomputable def Q8:MXs:=(xE (yt4 yy4 (z7 (mvar 2) anil)))
noncomputable def Y2:MFX:=runX 3 Q8
noncomputable def b_Grown_take:MW:=(m9 (mifW (zw1 (cor (u4 (m2 ltD (mvar 1) (mc (.int 0)))) (u4 (m2 gtD (mvar 1) (mlen (p5 (mfld "Grown" "numbers" (mvar 0)))))))) (wS zu0) (wS Z8)) (m9 (zx9 2 (d7 (m2 subD (mlen (p5 (mfld "Grown" "numbers" (mvar 0)))) (mvar 1)))) (m9 (L7 0 "Grown" "numbers" (J8 (mcut (p5 (mfld "Grown" "numbers" (mvar 0))) zr1 (P8 (mvar 2))))) (m9 (L7 0 "Grown" "weights" (J8 (mcut (p5 (mfld "Grown" "weights" (mvar 0))) zr1 (P8 (mvar 2))))) (O2 0 "Grown" "lengths" (d7 (v6 "Grown" "length" m_Z9 (mvar 0) anil)))))))
noncomputable def l7:MFW:=runW 3 b_Grown_take
noncomputable def S4:MXs:=(xif (cor (u4 (m2 ltD (mvar 1) (mc (.int 0)))) (u4 (m2 gtD (mvar 1) (mlen (p5 (mfld "Grown" "numbers" (mvar 0))))))) (zw9 "NoNumber" (z7 (mc (.str "so many can be taken as there are, or fewer, or none")) anil)) xv5)
noncomputable def c9:MFX:=runX 3 S4
noncomputable def b_Z11:MS:=(mseq (masg (.tp [1,2]) (m7 J6 (z7 (mfld "Grown" "numbers" (mvar 0)) (z7 (mfld "Grown" "least_step" (mvar 0)) (z7 (mfld "Grown" "weights" (mvar 0)) anil))))) (zm0 1))
noncomputable def T5:MF:=runB 3 b_Z11
noncomputable def b_Z1:MS:=(mret (m7 m_Z0 (z7 (mfld "Grown" "numbers" (mvar 0)) (z7 (mfld "Grown" "least_step" (mvar 0)) anil))))
noncomputable def m_Z1:MF:=runB 1 b_Z1
noncomputable def b_Z18:MS:=(zg2 (p5 (mfld "Grown" "numbers" (mvar 0))))
noncomputable def Q5:MF:=runB 1 b_Z18
noncomputable def b_Z7:MS:=(zg2 (p5 (mfld "Grown" "lengths" (mvar 0))))
noncomputable def m_Z7:MF:=runB 1 b_Z7
noncomputable def b_Z17:MS:=(mseq (mif (u4 (m2 ltD (mvar 1) (mlen (bvar 0)))) (mret (mix (bvar 0) (mvar 1))) Z8) (mret (mc (.int 0))))
noncomputable def yk6:MF:=runB 2 b_Z17
noncomputable def yz8:MS:=(mif (u4 (m2 geD (Y7 absF (z7 (mvar 0) anil)) (m2 powD (mc (.int 10)) (mc (.int 18))))) (mseq (mapp 2 (m2 modD (mvar 3) (mc (.int 1009)))) (mset 3 (m2 zw3 (mvar 3) (mc (.int 1009))))) (mseq (mset 5 (m2 modD (m2 addD (m2 modD (mvar 3) (mc (.int 2147483629))) (m2 mulD (m2 mulD (mc (.int 7919)) (m2 addD (mvar 4) (mc (.int 1)))) (m2 addD (mvar 4) (mc (.int 3))))) (mc (.int 2147483629)))) (mseq (mset 5 (m2 addD (m2 modD (m2 mulD (mvar 5) (mvar 5)) (mc (.int 2147483587))) (m2 zw3 (mvar 5) (mc (.int 7))))) (mapp 2 (m2 zw3 (m2 modD (m2 mulD (mvar 5) (mc (.int 48271))) (mc (.int 2147483647))) (mc (.int 16)))))))
noncomputable def b_Z15:MS:=(mseq (X3 2 (u8 anil)) (mseq (mset 3 (Y7 absF (z7 (mvar 0) anil))) (mseq (mfor (g9 rng1 (z7 (mvar 1) anil)) (.nm 4) yz8) (zm0 2))))
noncomputable def zr9:MF:=runB 6 b_Z15
noncomputable def b_law_refused:MW:=(m9 (wS (mset 3 (mc .non))) (m9 (ym1 ["NoNumber","NoWeights"] (mifW (wE (u4 (m2 (isND false) (mvar 2) (mc .non)))) (T3 (T1 0 "Grown" "take" l7 (z7 (mvar 1) anil))) (T3 (T1 0 "Grown" "put" m6 (z7 (mvar 1) (z7 (mvar 2) anil))))) (xifE (u4 (m2 (isND false) (mvar 2) (mc .non))) (yy3 "Grown" "take" c9 (mvar 0) (z7 (mvar 1) anil)) (yy3 "Grown" "put" Y2 (mvar 0) (z7 (mvar 1) (z7 (mvar 2) anil)))) 4 (fun _=>(mset 3 (mvar 4)))) (m9 (mifW (wE (u4 (m2 (isND false) (mvar 2) (mc .non)))) (O9 (wE (mand (misX [("NoNumber",true),("NoWeights",false)] (mvar 3)) (m1 notD (misX [("NoNumber",false),("NoWeights",true)] (mvar 3)))))) (wS Z8)) (O9 (wE (mand (misX [("NoNumber",false),("NoWeights",true)] (mvar 3)) (m1 notD (misX [("NoNumber",true),("NoWeights",false)] (mvar 3)))))))))
noncomputable def l5:MFW:=runW 5 b_law_refused
noncomputable def S5:MW:=(m9 (yv0 3) (yv0 4))
noncomputable def b_law_deed:MW:=(m9 (wS (masg (.tp [3,4,5,6]) (mvar 1))) (m9 (wS (mset 7 (m2 modD (mix (bvar 2) (mc (.int 0))) (mc (.int 8))))) (m9 (mifW (wE (u4 (m2 eqSD (mvar 7) (mc (.int 0))))) (zg1 (G8 l5 (z7 (mvar 0) (z7 (mix (bvar 2) (mc (.int 1))) (z7 (m2 subD (m1 negD (mc (.int 1))) (m2 modD (mix (bvar 2) (mc (.int 2))) (mc (.int 3)))) anil))))) (wS Z8)) (m9 (mifW (wE (u4 (m2 eqSD (mvar 7) (mc (.int 1))))) (zg1 (zm3 l5 (X4 (wE (mvar 0)) (X4 (d7 (m2 addD (m2 addD (mlen (bvar 3)) (mc (.int 1))) (m2 modD (mix (bvar 2) (mc (.int 1))) (mc (.int 3))))) (X4 (wE (mc .non)) nilW))))) (wS Z8)) (m9 (mifW (wE (u4 (m2 eqSD (mvar 7) (mc (.int 2))))) (m9 (zx9 8 (d7 (m2 modD (mix (bvar 2) (mc (.int 1))) (mix (u8 (z7 (mc (.int 2)) (z7 (m2 addD (mlen (bvar 3)) (mc (.int 1))) anil))) (m2 modD (mix (bvar 2) (mc (.int 2))) (mc (.int 2))))))) (m9 (zx9 8 (d7 (Y7 ym9 (z7 (mvar 8) (z7 (mlen (bvar 3)) anil))))) (m9 (T3 (T1 0 "Grown" "take" l7 (z7 (mvar 8) anil))) (zw0 (g9 rng1 (z7 (mvar 8) anil)) (.nm 9) S5)))) (m9 (wS (mset 10 (mix (u8 (z7 (mc (.int 3)) (z7 (mc (.int 10)) (z7 (m2 mulD (mc (.int 3)) (mvar 6)) anil)))) (m2 modD (mix (bvar 2) (mc (.int 1))) (mc (.int 3)))))) (m9 (wS (mset 11 (m2 addD (mix (bvar 2) (mc (.int 2))) (m2 mulD (m2 mulD (mix (bvar 2) (mc (.int 2))) (mix (bvar 2) (mc (.int 4)))) (m2 zw3 (mvar 6) (mc (.int 1000))))))) (m9 (wS (mset 11 (m2 subD (m2 modD (mvar 11) (mvar 10)) (m2 zw3 (mvar 10) (mc (.int 2)))))) (m9 (wS (mset 12 (mix (u8 (z7 (m2 modD (mix (bvar 2) (mc (.int 3))) (mc (.int 5))) (z7 (mix (bvar 2) (mc (.int 3))) (z7 (m2 powD (mc (.int 10)) (mc (.int 29))) (z7 (mc (.int 1)) anil))))) (m2 modD (m2 zw3 (mix (bvar 2) (mc (.int 1))) (mc (.int 3))) (mc (.int 4)))))) (m9 (T3 (T1 0 "Grown" "put" m6 (z7 (mvar 11) (z7 (mvar 12) anil)))) (m9 (zm4 3 (wE (mvar 11))) (zm4 4 (wE (mvar 12)))))))))) (m9 (zm4 5 (d7 (m7 zm5 (z7 (mlst (bvar 3)) (z7 (mvar 6) anil))))) (O9 (wE (mc (.bl true))))))))))
noncomputable def X8:MFW:=runW 13 b_law_deed
noncomputable def b_Z21:MS:=(mseq (masg (.tp [2,3,4,5]) (mvar 1)) (mseq (mif (cor (u4 (meqB true (p5 (v6 "Grown" "row" Q5 (mvar 0) anil)) (bvar 2))) (cor (u4 (m2 (eqFD true) (v6 "Grown" "length" m_Z9 (mvar 0) anil) (mix (mcut (bvar 4) (P8 (m1 negD (mc (.int 1)))) zr1) (mc (.int 0))))) (u4 (m2 (eqFD true) (v6 "Grown" "pieces" m_Z8 (mvar 0) anil) (m7 D4 (z7 (mlst (bvar 2)) (z7 (mvar 5) anil))))))) (mret (mc (.bl false))) Z8) (mseq (mif (u4 (m2 (eqFD true) (v6 "Grown" "length" m_Z9 (mvar 0) anil) (m2 addD (mlen (p5 (m2 ixTD (v6 "Grown" "pieces" m_Z8 (mvar 0) anil) (mc (.int 1))))) (Y7 intF (z7 (meqB true (bvar 2) (u8 anil)) anil))))) (mret (mc (.bl false))) Z8) (mseq (mif (u4 (m2 (eqFD true) (v6 "Grown" "weight" T5 (mvar 0) anil) (m2 ixTD (m7 J6 (z7 (mlst (bvar 2)) (z7 (mvar 5) (z7 (mlst (bvar 3)) anil)))) (mc (.int 0))))) (mret (mc (.bl false))) Z8) (mret (mand (m2 (eqFD false) (v6 "Grown" "how_many" m_Z1 (mvar 0) anil) (m7 m_Z0 (z7 (mlst (bvar 2)) (z7 (mvar 5) anil)))) (meqB false (p5 (v6 "Grown" "moments" m_Z7 (mvar 0) anil)) (bvar 4))))))))
noncomputable def yv5:MF:=runB 6 b_Z21
noncomputable def K6:MW:=(m9 (mifX (yh0 (G8 X8 (z7 (mvar 3) (z7 (mvar 4) (z7 (m7 zr9 (z7 (mvar 5) (z7 (mc (.int 5)) anil))) anil))))) (O9 (wE (mc (.bl false)))) (wS Z8)) (mifW (zw1 (cand (u4 (meqB true (p5 (m2 ixTD (mvar 4) (mc (.int 2)))) (u8 anil))) (cnot (mtru (m7 yv5 (z7 (mvar 3) (z7 (mvar 4) anil))))))) (O9 (wE (mc (.bl false)))) (wS Z8)))
noncomputable def B5:MW:=(T3 (T1 6 "Grown" "put" m6 (z7 (mvar 7) (z7 (mvar 8) anil))))
noncomputable def yz4:MW:=(m9 (zx9 9 (lstW (X4 (d7 (v6 "Grown" "length" m_Z9 (mvar 6) anil)) (X4 (d7 (v6 "Grown" "weight" T5 (mvar 6) anil)) (X4 (d7 (v6 "Grown" "how_many" m_Z1 (mvar 6) anil)) (X4 (zz1 6 "Grown" "pieces" m_Z8) (X4 (lsW (J8 (Q3 "Grown" "row" Q5 (mvar 6)))) nilW))))))) (O9 (d7 (meqB false (bvar 9) (u8 (z7 (v6 "Grown" "length" m_Z9 (mvar 3) anil) (z7 (v6 "Grown" "weight" T5 (mvar 3) anil) (z7 (v6 "Grown" "how_many" m_Z1 (mvar 3) anil) (z7 (v6 "Grown" "pieces" m_Z8 (mvar 3) anil) (z7 (v6 "Grown" "row" Q5 (mvar 3) anil) anil))))))))))
noncomputable def B4:MW:=(m9 (zw0 (g9 zip2 (z7 (m2 ixTD (mvar 4) (mc (.int 0))) (z7 (m2 ixTD (mvar 4) (mc (.int 1))) anil))) (.tp [7,8]) B5) yz4)
noncomputable def zq4:MW:=(C4 4 (yw6 6 "Grown" j4 (z7 (mvar 2) anil) B4))
noncomputable def B3:MW:=(m9 (mifW (zw1 (u4 (meqB true (u8 (z7 (v6 "Grown" "length" m_Z9 (mvar 3) anil) (z7 (v6 "Grown" "weight" T5 (mvar 3) anil) (z7 (v6 "Grown" "how_many" m_Z1 (mvar 3) anil) (z7 (v6 "Grown" "row" Q5 (mvar 3) anil) (z7 (v6 "Grown" "moments" m_Z7 (mvar 3) anil) anil)))))) (u8 (z7 (mc (.int 0)) (z7 (mc (.int 0)) (z7 (mc (.int 1)) (z7 (mlst (u8 anil)) (z7 (mlst (u8 anil)) anil))))))))) (O9 (wE (mc (.bl false)))) (wS Z8)) (m9 (zw0 (p5 (mlst (mcut (bvar 0) (P8 (mc (.int 1))) (P8 (mc (.int 41)))))) (.nm 5) K6) zq4))
noncomputable def C9:MW:=(yc7 4 (mvar 2) B3)
noncomputable def xy3:MW:=(m9 (wS (mset 1 (m7 zr9 (z7 (m7 yk6 (z7 (mvar 0) (z7 (mc (.int 0)) anil))) (z7 (mc (.int 3)) anil))))) (m9 (wS (mset 2 (mix (u8 (z7 (m2 addD (mc (.int 1)) (m2 modD (mix (bvar 1) (mc (.int 0))) (mc (.int 6)))) (z7 (m2 subD (m2 powD (mc (.int 10)) (mc (.int 29))) (mix (bvar 1) (mc (.int 1)))) anil))) (Y7 intF (z7 (m2 eqSD (m2 modD (mix (bvar 1) (mc (.int 2))) (mc (.int 5))) (mc (.int 1))) anil))))) (yw6 3 "Grown" j4 (z7 (mvar 2) anil) C9)))
noncomputable def zg5:MF:=plainW (runW 10 xy3)
end
end
section
theorem xe9 (i j:Int):eqS (.int i) (.int j)=some (i==j):=rfl
theorem xd1 (i j:Bool):eqS (.bl i) (.bl j)=some (i==j):=rfl
theorem xe4 (i j:Str):eqS (.str i) (.str j)=some (i==j):=rfl
theorem xe5:eqS .non .non=some true:=rfl
theorem xe7 (j:Bool):eqS .non (.bl j)=some false:=rfl
theorem xd0 (j:Bool):eqS (.bl j) .non=some false:=rfl
theorem xe6 (j:Int):eqS .non (.int j)=some false:=rfl
theorem xe8 (j:Int):eqS (.int j) .non=some false:=rfl
local macro_rules|`(tactic|simp_arith [$ls,*])=>`(tactic|simp(config:={decide:=true,implicitDefEqProofs:=false}) only[runB,u7,map_cons,map_nil,length_cons,length_nil,List.replicate,cons_append,nil_append,mvar,bvar,mc,mlst,p5,m2,u4,subD,mulD,zw3,modD,powD,ltD,leD,gtD,geD,eqSD,neSD,xe9,xd1,xe4,xe5,xe7,xd0,xe6,xe8,m1,negD,notD,mand,mtru,truD,cand,cor,cnot,mite,anil,z7,u8,mtup,mlen,mix,zr1,P8,mcut,mcat,addD,Y7,absF,yb6,ym9,two2,intF,Z8,mseq,mif,zu0,mset,X3,S3,mret,zg2,zm0,mapp,W4,Z9,masg,wz2,g9,zip2,yi6,cyes,m7,meqB,int2,bl2,tgD,zv3,Option.bind_some,Option.map_some,Option.bind_none,Option.map_none,getElem?_cons_zero,getElem?_cons_succ,set_cons_zero,set_cons_succ,isEmpty_cons,isEmpty_nil,Bool.not_true,Bool.not_false,$ls,*])
theorem ym0 (i j:Int)(h1:-(2^64)<j)(h2:j<2^64):O8 i j=true:=by
 unfold O8;simp only[h1,h2,decide_true,Bool.and_self,Bool.or_true]
theorem zz0 (i j:Int)(h1:-(2^64)<i)(h2:i<2^64):O8 i j=true:=by
 unfold O8;simp only[h1,h2,decide_true,Bool.and_self,Bool.true_or]
theorem P4 (i j:Int)(h:0<j):zr5 i j=true:=by unfold zr5;simp only[h,decide_true]
theorem seqI {x y:MS}{ρ ρ':Ro}{o:Option Out}(h:x ρ=some (.nx ρ'))(h2:y ρ'=o):mseq x y ρ=o:=by
 unfold mseq;rw[h];exact h2
noncomputable def xu8 {α:Type}(I:List α->Ro->Prop)(Q:Out->Prop)(ds:List α):Out->Prop
 | .nx ρ=>I ds ρ| .ct ρ=>I ds ρ| .bk ρ=>Q (.nx ρ)| .rt d=>Q (.rt d)| .rf es=>Q (.rf es)| .rp d es=>Q (.rp d es)| .rg d p r=>Q (.rg d p r)| .rgf d p r=>Q (.rgf d p r)
theorem zy3 {j:Type}{g:Tg}{body:MS}{f:j->D}(I:List j->Ro->Prop)(Q:Out->Prop)
  (hs:∀ d ds ρ,I (d::ds) ρ->∃ ρ1 o,tgD g (f d) ρ=some ρ1/\body ρ1=some o/\xu8 I Q ds o) (hd:∀ ρ,I [] ρ->Q (.nx ρ)):
  ∀(ds:List j)(ρ:Ro),I ds ρ->∃ o,forD g body (ds.map f) ρ=some o/\Q o
 |[],ρ,h=>⟨.nx ρ,rfl,hd ρ h⟩
 |d::ds,ρ,h=>by
  obtain⟨ρ1,o,h1,h2,i⟩:=hs d ds ρ h
  rw[map_cons]
  unfold forD
  rw[h1]
  simp only[h2]
  cases o with
  |nx ρ2=>exact zy3 I Q hs hd ds ρ2 i
  |ct ρ2=>exact zy3 I Q hs hd ds ρ2 i
  |bk ρ2=>exact⟨_,rfl,i⟩
  |rt d=>exact⟨_,rfl,i⟩
  |rf d=>exact⟨_,rfl,i⟩
  |rp d es=>exact⟨_,rfl,i⟩
  |rg d p r=>exact⟨_,rfl,i⟩
  |rgf d p r=>exact⟨_,rfl,i⟩
theorem Q7 {j:Type}{g:Tg}{c:MB}{i:ME}{f:j->D}{G:j->D}(I:List j->Ro->Prop)
  (hs:∀ d ds ρ,I (d::ds) ρ->∃ ρ1,tgD g (f d) ρ=some ρ1/\c ρ1=some true/\i ρ1=some (G d)/\I ds ρ1):
  ∀(ds:List j)(ρ:Ro)(acc:List D),I ds ρ->acc.length+ds.length<=sizeLine->T6 g c i (ds.map f) ρ acc=some (acc++ds.map G)
 |[],ρ,acc,h,hl=>by simp[T6]
 |d::ds,ρ,acc,h,hl=>by
  obtain⟨ρ1,h1,h2,N,z⟩:=hs d ds ρ h
  rw[map_cons]
  unfold T6
  rw[h1]
  simp only[h2,N]
  rw[length_cons]at hl
  rw[if_pos (by omega),Q7 I hs ds ρ1 _ z (by simp;omega)]
  simp
noncomputable def cutI {α:Type}(xs:List α)(lo hi:Option Int):List α:=(xs.drop (HT.sIx xs.length 0 lo)).take (HT.sIx xs.length xs.length hi-HT.sIx xs.length 0 lo)
theorem zq1 {i:Type}(f:i->D)(xs:List i)(lo hi:Option Int):cutL (xs.map f) lo hi=(cutI xs lo hi).map f:=by
 unfold cutL cutI;rw[length_map,<-map_drop,<-map_take]
theorem xo9 {i:Type}(xs:List i)(k:Nat):cutI xs none (some (k:Int))=xs.take k:=by
 unfold cutI
 rw[HT.sIx_nat,HT.sIx_none]
 simp
theorem zy9 {i:Type}(f:i->D)(xs:List i)(k:Int)(z:0<=k)(h1:k<xs.length)(dflt:i):atI (xs.map f) k=some (f (xs.getD k.toNat dflt)):=by
 unfold atI ixN
 rw[length_map,if_pos z,if_pos h1]
 have j:k.toNat<xs.length:=by omega
 simp[getElem?_map,j]
theorem j6 {n:Nat}{m:MS}{ds:List D}{d:D}(h:m (u7 n ds)=some (.rt d)):runB n m ds=some (.sh d):=by unfold runB;rw[h]
theorem zi8 {n:Nat}{m:MS}{ds:List D}{d:List D}(h:m (u7 n ds)=some (.rf d)):runB n m ds=some (.fr d):=by unfold runB;rw[h]
theorem xt3 {n:Nat}{m:MS}{ds:List D}{ρ:Ro}(h:m (u7 n ds)=some (.nx ρ)):runB n m ds=some (.sh .non):=by unfold runB;rw[h]
noncomputable def after (rest:MS):Out->Option Out
 | .nx ρ=>rest ρ| .bk ρ=>some (.bk ρ)| .ct ρ=>some (.ct ρ)| .rt d=>some (.rt d)| .rf d=>some (.rf d)| .rp d es=>some (.rp d es)| .rg d p r=>some (.rg d p r)| .rgf d p r=>some (.rgf d p r)
theorem X9 {x y:MS}{ρ:Ro}{o:Out}(h:x ρ=some o):mseq x y ρ=after y o:=by
 unfold mseq;rw[h];cases o <;> rfl
theorem xg7 (i j:Int):(if j<i then j else i)=min i j:=by omega
theorem m5:1000000<=sizeLine:=by rw[show sizeLine=2^24 from rfl];decide
theorem o0 {n:Nat}(h:n<=1000000):n<=sizeLine:=Nat.le_trans h m5
theorem zv4 (j n:Nat)(h:j<n):List.range' j (n-j)=j::List.range' (j+1) (n-(j+1)):=by
 have:n-j=(n-(j+1))+1:=by omega
 rw[this,range'_succ]
theorem i9 {x n:Int}(hn:0<n):0<=x % n/\x % n<n:=⟨Int.emod_nonneg _ (by omega),Int.emod_lt_of_pos _ hn⟩
def Run (m:MS)(ρ:Ro)(R:Out->Prop):Prop:=∃ o,m ρ=some o/\R o
noncomputable def xd9 (rest:MS)(R:Out->Prop):Out->Prop
 | .nx ρ=>Run rest ρ R| .bk ρ=>R (.bk ρ)| .ct ρ=>R (.ct ρ)| .rt d=>R (.rt d)| .rf d=>R (.rf d)| .rp d es=>R (.rp d es)| .rg d p r=>R (.rg d p r)| .rgf d p r=>R (.rgf d p r)
theorem u3 {x y:MS}{ρ ρ':Ro}{R:Out->Prop}(h:x ρ=some (.nx ρ'))(h2:Run y ρ' R):Run (mseq x y) ρ R:=by
 obtain⟨o,e,r⟩:=h2
 exact⟨o,seqI h e,r⟩
theorem Z0 {x y:MS}{ρ:Ro}{R:Out->Prop}(h:Run x ρ (xd9 y R)):Run (mseq x y) ρ R:=by
 obtain⟨o,e,r⟩:=h
 cases o with
 |nx ρ'=>exact u3 e r
 |bk ρ'=>exact⟨_,X9 e,r⟩
 |ct ρ'=>exact⟨_,X9 e,r⟩
 |rt d=>exact⟨_,X9 e,r⟩
 |rf d=>exact⟨_,X9 e,r⟩
 |rp d es=>exact⟨_,X9 e,r⟩
 |rg d j i=>exact⟨_,X9 e,r⟩
 |rgf d j i=>exact⟨_,X9 e,r⟩
theorem yr5 {i:Type}{mi:ML}{g:Tg}{body:MS}{ρ:Ro}{f:i->D}(ds:List i)(hi:mi ρ=some (ds.map f))(I:List i->Ro->Prop)(Q:Out->Prop)(j:I ds ρ)
  (hs:∀ d ds ρ,I (d::ds) ρ->∃ ρ1,tgD g (f d) ρ=some ρ1/\Run body ρ1 (xu8 I Q ds)) (hd:∀ ρ,I [] ρ->Q (.nx ρ)):Run (mfor mi g body) ρ Q:=by
 obtain⟨o,e,q⟩:=zy3 (g:=g) (body:=body) I Q (fun d ds ρ h=>by obtain⟨ρ1,a,o,b,c⟩:=hs d ds ρ h;exact⟨ρ1,o,a,b,c⟩) hd ds ρ j
 exact⟨o,by unfold mfor;rw[hi];exact e,q⟩
theorem W9 {mi:ML}{g:Tg}{body:MS}{ρ:Ro}{f:Nat->D}(n:Nat)(hi:mi ρ=some ((List.range n).map f))(I:Nat->Ro->Prop)(Q:Out->Prop)(R:I 0 ρ)
  (hs:∀ j ρ,j<n->I j ρ->∃ ρ1,tgD g (f j) ρ=some ρ1/\Run body ρ1 (xu8 (fun(_:List Unit) ρ=>I (j+1) ρ) Q [])) (hd:∀ ρ,I n ρ->Q (.nx ρ)):Run (mfor mi g body) ρ Q:=by
 refine yr5 (List.range n) hi (I:=fun ks ρ=>∃ j,j<=n/\ks=List.range' j (n-j)/\I j ρ) (Q:=Q) ⟨0,by omega,by rw[range_eq_range'];rfl,R⟩ ?_ ?_
 .rintro d ds ρ ⟨j,hj,e,h⟩
  have G:j<n:=by
   rcases Nat.lt_or_ge j n with z|z
   .exact z
   .rw[show n-j=0 by omega]at e;cases e
  rw[zv4 j n G]at e
  obtain⟨e1,e2⟩:=List.cons.inj e
  subst e1
  obtain⟨ρ1,U,o,S,i⟩:=hs d ρ G h
  refine⟨ρ1,U,o,S,?_⟩
  cases o with
  |nx r=>exact⟨d+1,by omega,e2,i⟩
  |ct r=>exact⟨d+1,by omega,e2,i⟩
  |bk r=>exact i
  |rt r=>exact i
  |rf r=>exact i
  |rp r N=>exact i
  |rg r N O=>exact i
  |rgf r N O=>exact i
 .rintro ρ ⟨j,hj,e,h⟩
  have:n-j=0:=by
   rcases Nat.eq_zero_or_pos (n-j)with z|z
   .exact z
   .rw[zv4 j n (by omega)]at e;cases e
  have:j=n:=by omega
  subst this
  exact hd ρ h
theorem g5 {i:Nat}{m:MS}{ρ:Ro}{ds:List D}{R:Out->Prop}(h:ρ[i]? =some (some (.own ds)))(h2:Run m (ρ.set i (some (.sh (.lst ds)))) R):Run (Z9 i m) ρ R:=by
 obtain⟨o,e,r⟩:=h2
 exact⟨o,by unfold Z9;rw[h];exact e,r⟩
theorem zd6 {c:MB}{x y:MS}{ρ:Ro}{R:Out->Prop}{b:Bool}(h:c ρ=some b)(h2:Run (if b then x else y) ρ R):Run (mif c x y) ρ R:=by
 obtain⟨o,e,r⟩:=h2
 refine⟨o,?_,r⟩
 unfold mif;rw[h]
 cases b <;> exact e
theorem ye5 {ρ:Ro}{R:Out->Prop}(h:R (.nx ρ)):Run Z8 ρ R:=⟨_,rfl,h⟩
theorem P1 (lo:Int)(n:Nat):X1 lo n=(List.range n).map fun(i:Nat)=>D.int (lo+(i:Int)):=rfl
theorem yq0 (n:Nat):X1 0 n=((List.range n).map fun(i:Nat)=>(i:Int)).map .int:=by
 rw[P1,map_map]
 apply map_congr_left
 intro i _
 simp
theorem T0 {j:Int}(h1:-(2^62)<=j)(h2:j<2^62):okR j=true:=by unfold okR;simp only[h1,h2,decide_true,Bool.and_self]
theorem zh0 {j:Int}(h:okR j=true):rng1 [.int j]=some (X1 0 j.toNat):=by
 unfold rng1
 simp only[h,if_true]
theorem zi9 {i j:Int}(h:okR i=true)(h2:okR j=true):rng2 [.int i,.int j]=some (X1 i (j-i).toNat):=by
 unfold rng2
 simp only[h,h2,Bool.and_self,if_true]
theorem ye7 {n:Nat}{m:MS}{ds:List D}{P:List D->Prop}(h:Run m (u7 n ds) (fun o=>∃ es,o= .rf es/\P es)):∃ es,runB n m ds=some (.fr es)/\P es:=by
 obtain⟨o,e,es,rfl,p⟩:=h
 exact⟨es,zi8 e,p⟩
theorem ye4 {i:Nat}{ρ:Ro}{ds:List D}{R:Out->Prop}(h:ρ[i]? =some (some (.own ds)))(h2:R (.rf ds)):Run (zm0 i) ρ R:=⟨_,by unfold zm0;rw[h],h2⟩
theorem L9 (i j:Int)(h:0<j)(h2:j<1073741824):F8 i j=true:=by unfold F8;simp only[h,h2,decide_true,Bool.and_self]
theorem zk5:∀(j:List Int)(k:Nat),zw4 k (j.map .int)=(List.range j.length).map fun(i:Nat)=>D.tup [.int ((k+i:Nat):Int),.int (j.getD i 0)]
 |[],k=>rfl
 |x::j,k=>by
  rw[map_cons,zw4,zk5 j (k+1),length_cons,range_succ_eq_map,map_cons,map_map]
  congr 1
  apply map_congr_left
  intro i _
  simp only[Function.comp,Nat.succ_eq_add_one,getD_cons_succ]
  rw[show k+1+i=k+(i+1)by omega]
theorem xz6 {i:Type}(xs:List i)(lo hi:Option Int):(cutI xs lo hi).length<=xs.length:=by
 unfold cutI;rw[length_take,length_drop];omega
theorem zd2 (n:Nat):∀ xs:List Int,zipE (eqF (n+1)) (xs.map .int) (xs.map .int)=some true
 |[]=>rfl
 |x::xs=>by
  rw[map_cons,zipE,zd2 n xs]
  show (some (x==x)).bind _=_
  rw[beq_self_eq_true];rfl
theorem yi4 (n:Nat)(xs:List Int):eqF (n+2) (.lst (xs.map .int)) (.lst (xs.map .int))=some true:=by
 show (if _=_ then zipE (eqF (n+1)) (xs.map .int) (xs.map .int)else some false)=_
 rw[if_pos rfl,zd2]
theorem D9 {n:Nat}{m:MS}{ds:List D}{d:D}(h:Run m (u7 n ds) (fun o=>o= .rt d)):runB n m ds=some (.sh d):=by
 obtain⟨o,e,rfl⟩:=h
 exact j6 e
theorem zb7 {f:MF}{m:ML}{ρ:Ro}{ds es:List D}(h:m ρ=some ds)(h2:f ds=some (.fr es)):m7 f m ρ=some (.lst es):=by
 unfold m7;rw[h];show (match f ds with |some (.sh d)=>some d|some (.fr es)=>some (D.lst es)|some (.pr d es)=>some (.tup [d,.lst es])|none=>none)=_;rw[h2]
theorem u6 {f:MF}{m:ML}{ρ:Ro}{ds:List D}{d:D}(h:m ρ=some ds)(h2:f ds=some (.sh d)):m7 f m ρ=some d:=by
 unfold m7;rw[h];show (match f ds with |some (.sh d)=>some d|some (.fr es)=>some (D.lst es)|some (.pr d es)=>some (.tup [d,.lst es])|none=>none)=_;rw[h2]
theorem z6 {x:ME}{r:ML}{ρ:Ro}{d:D}{ds:List D}(h:x ρ=some d)(h2:r ρ=some ds):z7 x r ρ=some (d::ds):=by
 unfold z7;rw[h,h2];rfl
theorem y8 {ρ:Ro}:anil ρ=some []:=rfl
theorem zu7 (j:List Int)(i:Nat)(h:i<j.length):atI (j.map D.int) (i:Int)=some (.int (j.getD i 0)):=by
 have:=zy9 D.int j (i:Int) (by omega) (by omega) 0
 rw[Int.toNat_natCast]at this
 exact this
theorem zy5 (j:List Int)(i:Nat)(h:i<j.length):j.drop i=j.getD i 0::j.drop (i+1):=by
 rw[drop_eq_getElem_cons h]
 simp[h]
theorem yb0 {m:ML}{ρ:Ro}{x:Int}{r:List Int}(h:m ρ=some ((x::r).map .int)):ym7 m ρ=some (.int (maxI (x::r))):=by
 unfold ym7;rw[h];simp only[zy0]
theorem xx1 {x y:ME}{ρ:Ro}{i j:Int}(h1:x ρ=some (.int i))(h2:y ρ=some (.int j)):u4 (m2 ltD x y) ρ=some (decide (i<j)):=by
 unfold u4 m2;rw[h1,h2];rfl
theorem U0 {i:Type}{g:Tg}{c:MB}{j:ME}{f:i->D}{p:i->Bool}{G:i->D}(I:List i->Ro->Prop)
  (hs:∀ d ds ρ,I (d::ds) ρ->∃ ρ1,tgD g (f d) ρ=some ρ1/\c ρ1=some (p d)/\(p d=true->j ρ1=some (G d))/\I ds ρ1):
  ∀(ds:List i)(ρ:Ro)(acc:List D),I ds ρ->acc.length+ds.length<=sizeLine->T6 g c j (ds.map f) ρ acc=some (acc++(ds.filter p).map G)
 |[],ρ,acc,h,hl=>by simp[T6]
 |d::ds,ρ,acc,h,hl=>by
  obtain⟨ρ1,h1,h2,N,z⟩:=hs d ds ρ h
  rw[length_cons]at hl
  rw[map_cons]
  unfold T6
  rw[h1]
  simp only[h2]
  cases hp:p d with
  |false=>
   simp only
   rw[U0 I hs ds ρ1 acc z (by omega),filter_cons,hp]
   rfl
  |true=>
   simp only[N hp]
   rw[if_pos (by omega),U0 I hs ds ρ1 _ z (by simp;omega),filter_cons,hp]
   simp
theorem za9 {x y:MB}{ρ:Ro}{a b:Bool}(h1:x ρ=some a)(h2:y ρ=some b):cor x y ρ=some (a || b):=by
 unfold cor;rw[h1];cases a <;> simp[h2]
theorem ze4 {x y:MB}{ρ:Ro}{a b:Bool}(h1:x ρ=some a)(h2:y ρ=some b):cand x y ρ=some (a&&b):=by
 unfold cand;rw[h1];cases a <;> simp[h2]
theorem j9 {i:Nat}{x:ME}{ρ:Ro}{d:D}(h:x ρ=some d):mset i x ρ=some (.nx (ρ.set i (some (.sh d)))):=by unfold mset;rw[h];rfl
theorem i7 {m:ML}{ρ:Ro}{ds:List D}(h:m ρ=some ds):mlst m ρ=some (.lst ds):=by unfold mlst;rw[h];rfl
theorem t7 {m:ML}{ρ:Ro}{ds:List D}(h:m ρ=some ds)(i:ds.length<=sizeLine):u8 m ρ=some ds:=by
 unfold u8;rw[h];show (if ds.length<=sizeLine then some ds else none)=_;rw[if_pos i]
theorem V6 {m:ML}{i:ME}{ρ:Ro}{ds:List D}{k:Int}{d:D}(h1:m ρ=some ds)(h2:i ρ=some (.int k))(j:atI ds k=some d):mix m i ρ=some d:=by
 unfold mix;rw[h1,h2];exact j
theorem l6 {m:ME}{ρ:Ro}{ds:List D}(h:m ρ=some (.lst ds)):p5 m ρ=some ds:=by unfold p5;rw[h]
theorem zr8 {x y:ML}{ρ:Ro}{ds es:List D}(h1:x ρ=some ds)(h2:y ρ=some es)(i:ds.length+es.length<=sizeLine):mcat x y ρ=some (ds++es):=by
 unfold mcat;rw[h1,h2];show (if ds.length+es.length<=sizeLine then some (ds++es)else none)=_;rw[if_pos i]
theorem R9 {m:ML}{ρ:Ro}{ds:List D}(h:m ρ=some ds)(i:ds.length<=sizeLine):mtup m ρ=some (.tup ds):=by
 unfold mtup;rw[t7 h i];rfl
theorem Z7 {x:ME}{ρ:Ro}{d:D}(h:x ρ=some d):mret x ρ=some (.rt d):=by unfold mret;rw[h];rfl
section
open PySem L2
theorem zb4 {c:MB}{x y:MS}{ρ:Ro}{b:Bool}(h:c ρ=some b):mif c x y ρ=(if b then x else y) ρ:=by unfold mif;rw[h];cases b <;> rfl
theorem xy6 {c:MB}{x y:MXs}{ρ:Ro}{b:Bool}(h:c ρ=some b):xif c x y ρ=(if b then x else y) ρ:=by unfold xif;rw[h];cases b <;> rfl
theorem zb5 {x:ME}{ρ:Ro}{d:D}(h:x ρ=some d):S3 x ρ=some (.nx ρ):=by unfold S3;rw[h];rfl
theorem yb2 {x:ME}{ρ:Ro}(h:x ρ=none):S3 x ρ=none:=by unfold S3;rw[h];rfl
theorem yb4 {f:MF}{m:ML}{ρ:Ro}{ds:List D}(h:m ρ=some ds)(h2:f ds=none):m7 f m ρ=none:=by unfold m7;rw[h];show (match f ds with |some (.sh d)=>some d|some (.fr es)=>some (.lst es)|some (.pr d es)=>some (.tup [d,.lst es])|none=>none)=_;rw[h2]
theorem yf0 {x:MFX}{m:ML}{ρ:Ro}{ds:List D}{c:Str}(h:m ρ=some ds)(h2:x ds=some c):yt4 x m ρ=some c:=by unfold yt4;rw[h];exact h2
theorem xc2 {x:MXe}{ρ:Ro}{c:Str}(h:x ρ=some c):xE x ρ=some (c,ρ):=by unfold xE;rw[h];rfl
theorem zi6 {n:Nat}{x:MXs}{ds:List D}{c:Str}{ρ:Ro}(h:x (u7 n ds)=some (c,ρ)):runX n x ds=some c:=by unfold runX;rw[h];rfl
theorem zp0 {c:Str}{m:ML}{ρ:Ro}{ds:List D}(h:m ρ=some ds):zw9 c m ρ=some (c,ρ):=by unfold zw9;rw[h];rfl
theorem xt4 {n:Nat}{m:MS}{ds:List D}(h:m (u7 n ds)=none):runB n m ds=none:=by unfold runB;rw[h]
theorem ym8 {tab:List (Str×Bool)}{m:ME}{ρ:Ro}{c:Str}{k:Bool}(h:m ρ=some (.exc c))(h2:tab.lookup c=some k):misX tab m ρ=some (.bl k):=by unfold misX;rw[h];simp only[h2];rfl
theorem xc9 {x:ME}{ρ:Ro}{i k:Int}(h:x ρ=some (.int i)):u4 (m2 eqSD x (mc (.int k))) ρ=some (i==k):=by unfold u4 m2 mc;rw[h];rfl
theorem ys1 {x y:ME}{ρ:Ro}{i k:Int}(h:x ρ=some (.int i))(h2:y ρ=some (.int k)):u4 (m2 ltD x y) ρ=some (decide (i<k)):=by unfold u4 m2;rw[h,h2];rfl
end
section
open PySem L2
noncomputable def lx:List Nat->List Nat->Bool
 |[],[]=>false
 |[],_::_=>true
 |_::_,[]=>false
 |a::l,b::m=>decide (a<b) || (a==b&&lx l m)
noncomputable def X5 (l m:List Nat):Bool:=decide (m.length<l.length) || (l.length==m.length&&lx l m)
theorem yk7:∀ l,lx l l=false
 |[]=>rfl
 |a::l=>by unfold lx;simp[yk7 l]
theorem za0:∀{a b c:List Nat},lx a b=true->lx b c=true->lx a c=true
 |[],[],_,h,_=>by cases h
 |[],_::_,[],_,h=>by cases h
 |[],_::_,_::_,_,_=>rfl
 |_::_,[],_,h,_=>by cases h
 |_::_,_::_,[],_,h=>by cases h
 |a::l,b::m,c::k,h1,h2=>by
  unfold lx at*
  simp only[Bool.or_eq_true,Bool.and_eq_true,decide_eq_true_eq,beq_iff_eq]at*
  rcases h1 with h1|⟨rfl,h1⟩ <;> rcases h2 with h2|⟨rfl,h2⟩
  .exact .inl (by omega)
  .exact .inl h1
  .exact .inl h2
  .exact .inr ⟨rfl,za0 h1 h2⟩
theorem xv0:∀(a b:List Nat),a=b\/lx a b=true\/lx b a=true
 |[],[]=>.inl rfl
 |[],_::_=>.inr (.inl rfl)
 |_::_,[]=>.inr (.inr rfl)
 |a::l,b::m=>by
  unfold lx
  simp only[Bool.or_eq_true,Bool.and_eq_true,decide_eq_true_eq,beq_iff_eq]
  rcases Nat.lt_trichotomy a b with h|h|h
  .exact .inr (.inl (.inl h))
  .subst h
   rcases xv0 l m with h|h|h
   .exact .inl (by rw[h])
   .exact .inr (.inl (.inr ⟨rfl,h⟩))
   .exact .inr (.inr (.inr ⟨rfl,h⟩))
  .exact .inr (.inr (.inl h))
theorem W8 (l m:List Nat):X5 l m=true↔m.length<l.length\/(l.length=m.length/\lx l m=true):=by
 unfold X5
 simp only[Bool.or_eq_true,Bool.and_eq_true,decide_eq_true_eq,beq_iff_eq]
theorem N7 {a b c:List Nat}(h1:X5 a b=true)(h2:X5 b c=true):X5 a c=true:=by
 rw[W8]at*
 rcases h1 with h1|⟨h1,j⟩ <;> rcases h2 with h2|⟨h2,i⟩
 .exact .inl (by omega)
 .exact .inl (by omega)
 .exact .inl (by omega)
 .exact .inr ⟨by omega,za0 j i⟩
theorem zi1 (a b:List Nat):a=b\/X5 a b=true\/X5 b a=true:=by
 rw[W8,W8]
 rcases Nat.lt_trichotomy a.length b.length with h|h|h
 .exact .inr (.inr (.inl h))
 .rcases xv0 a b with z|z|z
  .exact .inl z
  .exact .inr (.inl (.inr ⟨h,z⟩))
  .exact .inr (.inr (.inr ⟨h.symm,z⟩))
 .exact .inr (.inl (.inl h))
theorem zi2 (a:List Nat):X5 a a=false:=by
 unfold X5;simp[yk7]
theorem yu7 (p:Nat)(a b:List Nat):X5 (p::a) (p::b)=X5 a b:=by
 unfold X5
 simp[lx]
def Best (P:List Nat->Prop)(l:List Nat):Prop:=P l/\∀ m,P m->X5 m l=false
theorem Best.iff {P Q:List Nat->Prop}{l:List Nat}(a:Best P l)(h:∀ m,P m↔Q m):Best Q l:=⟨(h l).mp a.1,fun m hm=>a.2 m ((h m).mpr hm)⟩
theorem Best.len {P:List Nat->Prop}{l:List Nat}(a:Best P l)(m:List Nat)(h:P m):m.length<=l.length:=by
 have:=a.2 m h
 rcases Nat.lt_or_ge l.length m.length with z|z
 .rw[(W8 m l).mpr (.inl z)]at this;cases this
 .exact z
def far (s:Int)(d:Bool)(a b:Int):Prop:=if d then s<=b-a else s<=a-b
noncomputable instance (s:Int) (d:Bool) (a b:Int):Decidable (far s d a b):=by unfold far;exact inferInstance
noncomputable def Wd (x:Nat->Int)(n:Nat)(s:Int):Bool->List Nat->Prop
 |_,[]=>False
 |_,[p]=>p<n
 |d,p::q::l=>p<q/\far s d (x p) (x q)/\Wd x n s (!d) (q::l)
def Wv (x:Nat->Int)(n:Nat)(s:Int)(l:List Nat):Prop:=l=[]\/∃ d,Wd x n s d l
def From (x:Nat->Int)(n:Nat)(s:Int)(d:Bool)(p t:Nat)(l:List Nat):Prop:=Wd x n s d l/\(l=[p]\/∃ q m,l=p::q::m/\q<=t)
variable {x:Nat->Int}{n:Nat}{s:Int}
theorem Wd.lt:∀{l:List Nat}{d:Bool}{p:Nat},Wd x n s d (p::l)->p<n
 |[],d,p,h=>h
 |q::l,d,p,h=>Nat.lt_trans h.1 h.2.2.lt
theorem Wd.len:∀{l:List Nat}{d:Bool}{p:Nat},Wd x n s d (p::l)->l.length+p<n
 |[],d,p,h=>by have h:p<n:=h;simpa using h
 |q::l,d,p,h=>by
  have:=h.2.2.len
  have:=h.1
  simp;omega
theorem za5 {d:Bool}{p:Nat}(hp:p<n):Best (From x n s d p p) [p]:=by
 refine⟨⟨hp,.inl rfl⟩,?_⟩
 rintro m ⟨h1,h2⟩
 rcases h2 with rfl|⟨q,m,rfl,i⟩
 .exact zi2 _
 .have:=h1.1;omega
theorem zk1 {d:Bool}{p q:Nat}{U T:List Nat}(S:p<q)(i:Best (From x n s d p (q-1)) U)(j:Best (From x n s (!d) q n) T)(R:Decidable (far s d (x p) (x q))):
  Best (From x n s d p q) (if far s d (x p) (x q)/\U.length<=T.length then p::T else U):=by
 have G:∃ m,T=q::m:=by
  rcases j.1.2 with h|⟨r,m,h,_⟩
  .exact⟨_,h⟩
  .exact⟨_,h⟩
 have low:∀ m,From x n s d p (q-1) m->From x n s d p q m:=fun m h=>⟨h.1,h.2.imp id fun⟨r,m,e,O⟩=>⟨r,m,e,by omega⟩⟩
 have split:∀ m,From x n s d p q m->From x n s d p (q-1) m\/∃ k,m=p::k/\far s d (x p) (x q)/\From x n s (!d) q n k:=by
  rintro m ⟨h1,h2⟩
  rcases h2 with rfl|⟨r,m,rfl,O⟩
  .exact .inl ⟨h1,.inl rfl⟩
  .rcases Nat.lt_or_ge r q with z|z
   .exact .inl ⟨h1,.inr ⟨r,m,rfl,by omega⟩⟩
   .have:r=q:=by omega
    subst this
    refine .inr ⟨_,rfl,h1.2.1,h1.2.2,?_⟩
    cases m with
    |nil=>exact .inl rfl
    |cons t m=>exact .inr ⟨t,m,rfl,Nat.le_of_lt h1.2.2.2.2.lt⟩
 obtain⟨Z,I⟩:=G
 split
 .rename_i h
  refine⟨⟨?_,?_⟩,fun m hm=>?_⟩
  .rw[I];exact⟨S,h.1,by rw[<-I];exact j.1.1⟩
  .exact .inr ⟨q,Z,by rw[I],Nat.le_refl _⟩
  .rcases split m hm with z|⟨k,rfl,_,z⟩
   .have:=i.len m z
    cases e:X5 m (p::T)with
    |false=>rfl
    |true=>
     rw[W8]at e
     simp only[length_cons]at e
     omega
   .rw[yu7];exact j.2 k z
 .rename_i h
  refine⟨low _ i.1,fun m hm=>?_⟩
  rcases split m hm with z|⟨k,rfl,Y,z⟩
  .exact i.2 m z
  .have hl:¬ U.length<=T.length:=fun w=>h ⟨Y,w⟩
   have:=j.len k z
   cases e:X5 (p::k) U with
   |false=>rfl
   |true=>
    rw[W8]at e
    simp only[length_cons]at e
    rcases e with e|⟨e1,e2⟩
    .omega
    .rcases i.1.2 with w|⟨r,m,w,O⟩
     .have:k.length=0:=by rw[w]at e1;simpa using e1
      rcases z.2 with y|⟨_,_,y,_⟩ <;> (rw[y]at this;simp at this)
     .have hk:∃ N,k=q::N:=by
       rcases z.2 with y|⟨_,_,y,_⟩
       .exact⟨_,y⟩
       .exact⟨_,y⟩
      obtain⟨N,rfl⟩:=hk
      rw[w]at e2
      unfold lx at e2
      simp only[Nat.lt_irrefl,decide_false,beq_self_eq_true,Bool.true_and,Bool.false_or]at e2
      unfold lx at e2
      simp only[Bool.or_eq_true,Bool.and_eq_true,decide_eq_true_eq,beq_iff_eq]at e2
      omega
theorem za6 {d:Bool}{p t:Nat}{l:List Nat}(h:Best (From x n s d p t) l)(j:n<=t+1):Best (From x n s d p n) l:=
 h.iff fun m=>⟨fun a=>⟨a.1,a.2.imp id fun⟨q,k,e,i⟩=>⟨q,k,e,by rw[e]at a;exact Nat.le_of_lt a.1.2.2.lt⟩⟩,fun a=>⟨a.1,a.2.imp id fun⟨q,k,e,i⟩=>⟨q,k,e,by rw[e]at a;have:=a.1.2.2.lt;omega⟩⟩⟩
theorem zk2 {d:Bool}{p t t':Nat}{l:List Nat}(h:Best (From x n s d p t) l)(i:t=t'):Best (From x n s d p t') l:=i ▸ h
theorem xv9 {d:Bool}{p:Nat}{l:List Nat}(h:Wd x n s d (p::l)):From x n s d p n (p::l):=⟨h,by
 cases l with
 |nil=>exact .inl rfl
 |cons q l=>exact .inr ⟨q,l,rfl,Nat.le_of_lt h.2.2.lt⟩⟩
theorem xy2 {l:List Nat}{ls:List (List Nat)}(hm:l∈ls)(i:∀ m∈ls,X5 m l=false)(hw:∀ m∈ls,Wv x n s m)(j:∀ d p,p<n->∃ m∈ls,Best (From x n s d p n) m)(hn:l≠[]):Best (Wv x n s) l:=by
 refine⟨hw l hm,fun m h=>?_⟩
 rcases h with rfl|⟨d,h⟩
 .cases e:X5 [] l with
  |false=>rfl
  |true=>
   rw[W8]at e
   simp only[length_nil]at e
   rcases e with e|⟨e,_⟩
   .omega
   .exact absurd (List.length_eq_zero_iff.mp e.symm) hn
 .cases m with
  |nil=>exact h.elim
  |cons p m=>
   obtain⟨k,hk,G⟩:=j d p h.lt
   have h1:=G.2 _ (xv9 h)
   have h2:=i k hk
   cases e:X5 (p::m) l with
   |false=>rfl
   |true=>
    rcases zi1 k (p::m)with z|z|z
    .rw[<-z,h2]at e;cases e
    .rw[N7 z e]at h2;cases h2
    .rw[z]at h1;cases h1
theorem yg2 (hn:n=0):Best (Wv x n s) []:=by
 refine⟨.inl rfl,fun m h=>?_⟩
 rcases h with rfl|⟨d,h⟩
 .rfl
 .cases m with
  |nil=>exact h.elim
  |cons p m=>have:=h.lt;omega
end
section
open PySem L2
noncomputable def dN (p:Nat):D:=.int (p:Int)
noncomputable def L (l:List Nat):D:=.lst (l.map dN)
noncomputable def Ky (l:List Nat):D:=.tup [.int (-(l.length:Int)),L l]
theorem xv3 (k:Nat)(a b:Nat):eqF (k+1) (dN a) (dN b)=some (a==b):=by
 show some ((a:Int)==(b:Int))=_
 congr 1
 rw[Bool.eq_iff_iff,beq_iff_eq,beq_iff_eq]
 omega
theorem yt1 (k:Nat):∀(l m:List Nat),l.length=m.length->zipE (eqF (k+1)) (l.map dN) (m.map dN)=some (l==m)
 |[],[],_=>rfl
 |[],_::_,h=>by cases h
 |_::_,[],h=>by cases h
 |a::l,b::m,h=>by
  rw[map_cons,map_cons,zipE,xv3,yt1 k l m (by simpa using h)]
  rfl
theorem yj1 (k:Nat):∀(l m:List Nat),lexF (eqF (k+1)) (ltF (k+1)) (l.map dN) (m.map dN)=some (lx l m)
 |[],[]=>rfl
 |[],_::_=>rfl
 |_::_,[]=>rfl
 |a::l,b::m=>by
  rw[map_cons,map_cons,lexF,xv3]
  unfold lx
  by_cases h:a=b
  .subst h
   simp only[beq_self_eq_true,Nat.lt_irrefl,decide_false,Bool.true_and,Bool.false_or]
   exact yj1 k l m
  .have e:(a==b)=false:=by simpa using h
   rw[e]
   simp only[Bool.false_and,Bool.or_false]
   show some (decide ((a:Int)<(b:Int)))=_
   congr 1
   apply decide_eq_decide.mpr
   omega
theorem xg8 (l m:List Nat):ltF 8 (Ky l) (Ky m)=some (X5 l m):=by
 show lexF (eqF 7) (ltF 7) [.int (-(l.length:Int)),L l] [.int (-(m.length:Int)),L m]=_
 rw[lexF,show eqF 7 (.int (-(l.length:Int))) (.int (-(m.length:Int)))=some (-(l.length:Int)== -(m.length:Int))from rfl]
 unfold X5
 by_cases h:l.length=m.length
 .rw[h]
  simp only[beq_self_eq_true,Nat.lt_irrefl,decide_false,Bool.true_and,Bool.false_or]
  have e:eqF 7 (L l) (L m)=some (l==m):=by
   show (if (l.map dN).length=(m.map dN).length then zipE (eqF 6) (l.map dN) (m.map dN)else some false)=_
   rw[if_pos (by simpa using h),yt1 5 l m h]
  rw[lexF,e]
  by_cases i:l=m
  .subst i
   simp only[beq_self_eq_true]
   rw[yk7];rfl
  .have e2:(l==m)=false:=by simpa using i
   rw[e2]
   exact yj1 5 l m
 .have e:(-(l.length:Int)== -(m.length:Int))=false:=by
   rw[beq_eq_false_iff_ne];omega
  have e2:(l.length==m.length)=false:=by simpa using h
  rw[e,e2]
  simp only[Bool.false_and,Bool.or_false]
  show some (decide (-(l.length:Int) < -(m.length:Int)))=_
  congr 1
  apply decide_eq_decide.mpr
  omega
theorem zr6 {mk:D->Option D}(hk:∀ l,mk (L l)=some (Ky l)):∀(ls:List (List Nat))(b:List Nat),∃ r,minF mk (ls.map L) (L b) (Ky b)=some (L r)/\r∈b::ls/\∀ m∈b::ls,X5 m r=false
 |[],b=>⟨b,rfl,by simp,by simp[zi2]⟩
 |m::ls,b=>by
  rw[map_cons]
  unfold minF
  rw[hk m]
  simp only[xg8 m b]
  cases h:X5 m b with
  |true=>
   obtain⟨r,e,h1,h2⟩:=zr6 hk ls m
   refine⟨r,e,mem_cons_of_mem _ h1,fun k i=>?_⟩
   rcases List.mem_cons.mp i with rfl|i
   .cases z:X5 k r with
    |false=>rfl
    |true=>have:=h2 m (by simp);rw[N7 h z]at this;cases this
   .exact h2 k i
  |false=>
   obtain⟨r,e,h1,h2⟩:=zr6 hk ls b
   refine⟨r,e,?_,fun k i=>?_⟩
   .rcases List.mem_cons.mp h1 with h1|h1
    .simp[h1]
    .simp[h1]
   .have hb:=h2 b (by simp)
    rcases List.mem_cons.mp i with rfl|i
    .exact hb
    .rcases List.mem_cons.mp i with rfl|i
     .cases z:X5 k r with
      |false=>rfl
      |true=>
       rcases zi1 k b with w|w|w
       .rw[w,hb]at z;cases z
       .rw[h]at w;cases w
       .rw[N7 w z]at hb;cases hb
     .exact h2 k (mem_cons_of_mem _ i)
noncomputable abbrev xr (η:List Int):Nat->Int:=fun i=>η.getD i 0
noncomputable def envU (η:List Int)(s:Int)(U V:List (List Nat))(o4 o5 o6:Option S):Ro:=[k0a η,k0c s,some (.own (U.map L)),some (.own (V.map L)),o4,o5,o6]
theorem zv0 {x y:ME}{ρ:Ro}{i j:Int}(h1:x ρ=some (.int i))(h2:y ρ=some (.int j)):u4 (m2 geD x y) ρ=some (decide (j<=i)):=by
 unfold u4 m2;rw[h1,h2];rfl
theorem Z2 {m:ML}{ρ:Ro}{ds:List D}(h:m ρ=some ds):mlen m ρ=some (.int ds.length):=by unfold mlen;rw[h];rfl
theorem at_L (U:List (List Nat))(p:Nat)(h:p<U.length):atI (U.map L) (p:Int)=some (L (U.getD p [])):=by
 have:=zy9 L U (p:Int) (by omega) (by omega) []
 rw[Int.toNat_natCast]at this
 exact this
theorem zf0 (n p:Nat)(h:p<n):ixN n (p:Int)=some p:=by
 unfold ixN
 rw[if_pos (by omega),if_pos (by omega),Int.toNat_natCast]
noncomputable def upU (s:Int)(η:List Int)(d:Bool)(U V:List (List Nat))(p q:Nat):List (List Nat):=
 if (if d then s<=xr η q-xr η p else s<=xr η p-xr η q)/\(U.getD p []).length<=(V.getD q []).length then U.set p (p::V.getD q [])else U
theorem zi4 (s:Int)(i:List Int)(d:Bool)(U V:List (List Nat))(p q:Nat):(upU s i d U V p q).length=U.length:=by
 unfold upU
 by_cases j:((if d then s<=xr i q-xr i p else s<=xr i p-xr i q)/\(U.getD p []).length<=(V.getD q []).length)
 .rw[if_pos j,length_set]
 .rw[if_neg j]
theorem zp2 (s:Int)(i:List Int)(d:Bool)(U V:List (List Nat))(p q r:Nat)(h:p≠r):(upU s i d U V p q).getD r []=U.getD r []:=by
 rw[getD_eq_getElem?_getD,getD_eq_getElem?_getD]
 unfold upU
 by_cases j:((if d then s<=xr i q-xr i p else s<=xr i p-xr i q)/\(U.getD p []).length<=(V.getD q []).length)
 .rw[if_pos j,getElem?_set_ne h]
 .rw[if_neg j]
theorem zf5 (U:List (List Nat))(p:Nat)(l:List Nat)(h:p<U.length):(U.set p l).getD p []=l:=by
 rw[getD_eq_getElem?_getD,getElem?_set_self h];rfl
theorem yy8 (i:List Int)(s:Int)(U V:List (List Nat))(p q:Nat)(I:Option S)(hU:U.length=i.length)(Z:V.length=i.length)(hp:p<i.length)(hq:q<i.length)(bU:(U.getD q []).length<=1000)(bV:(V.getD q []).length<=1000)(R:p≠q):
  ∃ O,zq6 (envU i s U V (k0b p) (k0b q) I)=some (.nx (envU i s (upU s i true U V p q) (upU s i false V U p q) (k0b p) (k0b q) O)):=by
 have a1:=m5
 have ap:=zu7 i p hp
 have aq:=zu7 i q hq
 have i1:0+1<=sizeLine:=o0 (by decide)
 refine⟨some (.sh (.int (xr i q-xr i p))),?_⟩
 unfold zq6
 refine seqI (ρ':=envU i s U V (k0b p) (k0b q) (some (.sh (.int (xr i q-xr i p))))) ?_ ?_
 .unfold envU
  simp_arith [ap,aq]
 have go:∀(G N:Nat)(A B:List (List Nat))(ρ:Ro),ρ[G]? =some (some (.own (A.map L)))->ρ[N]? =some (some (.own (B.map L)))->ρ[4]? =some (k0b p)->ρ[5]? =some (k0b q)->A.length=i.length->B.length=i.length->(B.getD q []).length<=1000->
   (u4 (m2 geD (mlen (p5 (mix (bvar N) (mvar 5)))) (mlen (p5 (mix (bvar G) (mvar 4))))) ρ=some (decide ((A.getD p []).length<=(B.getD q []).length)))/\
   W4 G (mvar 4) (mlst (mcat (u8 (z7 (mvar 4) anil)) (p5 (mix (bvar N) (mvar 5))))) ρ=some (.nx (ρ.set G (some (.own ((A.set p (p::B.getD q [])).map L))))):=by
  intro G N A B ρ hA hB h4 h5 lA lB bB
  have eA:bvar G ρ=some (A.map L):=by unfold bvar;rw[hA]
  have eB:bvar N ρ=some (B.map L):=by unfold bvar;rw[hB]
  have Y:mvar 4 ρ=some (.int (p:Int)):=by unfold mvar;rw[h4]
  have e5:mvar 5 ρ=some (.int (q:Int)):=by unfold mvar;rw[h5]
  have fB:p5 (mix (bvar N) (mvar 5)) ρ=some ((B.getD q []).map dN):=l6 (V6 eB e5 (at_L B q (by omega)))
  have fA:p5 (mix (bvar G) (mvar 4)) ρ=some ((A.getD p []).map dN):=l6 (V6 eA Y (at_L A p (by omega)))
  constructor
  .rw[zv0 (Z2 fB) (Z2 fA)]
   congr 1
   apply decide_eq_decide.mpr
   rw[length_map,length_map]
   omega
  .have ev:mlst (mcat (u8 (z7 (mvar 4) anil)) (p5 (mix (bvar N) (mvar 5)))) ρ=some (L (p::B.getD q [])):=by
    rw[i7 (zr8 (t7 (z6 Y y8) i1) fB (by rw[length_map,length_singleton];omega))]
    rfl
   unfold W4
   rw[ev,hA,Y]
   show ((ixN (A.map L).length (p:Int)).map fun j=>Out.nx (ρ.set G (some (.own ((A.map L).set j (L (p::B.getD q [])))))))=_
   rw[length_map,zf0 _ _ (by omega)]
   show some (Out.nx _)=_
   rw[map_set]
 have t1:∀ A B I,u4 (m2 geD (mvar 6) (mvar 1)) (envU i s A B I (k0b q) (some (.sh (.int (xr i q-xr i p)))))=some (decide (s<=xr i q-xr i p)):=fun A B I=>zv0 rfl rfl
 have t2:∀ A B I,u4 (m2 geD (m1 negD (mvar 6)) (mvar 1)) (envU i s A B I (k0b q) (some (.sh (.int (xr i q-xr i p)))))=some (decide (s<= -(xr i q-xr i p))):=fun A B I=>zv0 rfl rfl
 obtain⟨c1,c2⟩:=go 2 3 U V (envU i s U V (k0b p) (k0b q) (some (.sh (.int (xr i q-xr i p))))) rfl rfl rfl rfl hU Z bV
 refine seqI (ρ':=envU i s (upU s i true U V p q) V (k0b p) (k0b q) (some (.sh (.int (xr i q-xr i p))))) ?_ ?_
 .unfold mif
  rw[ze4 (t1 _ _ _) c1]
  unfold upU
  by_cases h:s<=xr i q-xr i p/\(U.getD p []).length<=(V.getD q []).length
  .rw[if_pos (by simpa using h),decide_eq_true h.1,decide_eq_true h.2]
   exact c2
  .rw[if_neg (by simpa using h)]
   have:(decide (s<=xr i q-xr i p)&&decide ((U.getD p []).length<=(V.getD q []).length))=false:=by
    rw[Bool.eq_false_iff]
    intro z
    rw[Bool.and_eq_true,decide_eq_true_eq,decide_eq_true_eq]at z
    exact h z
   rw[this]
   rfl
 .have hU':(upU s i true U V p q).length=i.length:=by rw[zi4];exact hU
  have gU:(upU s i true U V p q).getD q []=U.getD q []:=zp2 _ _ _ _ _ _ _ _ R
  obtain⟨d1,d2⟩:=go 3 2 V (upU s i true U V p q) (envU i s (upU s i true U V p q) V (k0b p) (k0b q) (some (.sh (.int (xr i q-xr i p))))) rfl rfl rfl rfl Z hU' (by rw[gU];exact bU)
  rw[gU]at d1 d2
  unfold mif
  rw[ze4 (t2 _ _ _) d1]
  have ex:upU s i false V U p q=if s<=xr i p-xr i q/\(V.getD p []).length<=(U.getD q []).length then V.set p (p::U.getD q [])else V:=by
   unfold upU;simp
  rw[ex]
  by_cases h:s<=xr i p-xr i q/\(V.getD p []).length<=(U.getD q []).length
  .rw[if_pos h,decide_eq_true (show s<= -(xr i q-xr i p)by omega),decide_eq_true h.2]
   exact d2
  .rw[if_neg h]
   have:(decide (s<= -(xr i q-xr i p))&&decide ((V.getD p []).length<=(U.getD q []).length))=false:=by
    rw[Bool.eq_false_iff]
    intro z
    rw[Bool.and_eq_true,decide_eq_true_eq,decide_eq_true_eq]at z
    exact h ⟨by omega,z.2⟩
   rw[this]
   rfl
end
section
open PySem L2
theorem g6 (step:Int)(h:1<=step):J7 [.int step]=some (.sh .non):=by
 have:¬ step<1:=by omega
 unfold J7 b_Z14
 simp_arith [this,decide_false]
noncomputable def turn (t:Int×Int×Int):Bool:=decide (max t.1 t.2.2<t.2.1) || decide (t.2.1<min t.1 t.2.2)
noncomputable def NI (cs:List Nat):List Int:=cs.map fun(c:Nat)=>(c:Int)
end
section
open PySem L2
abbrev BT (η:List Int)(s:Int)(d:Bool)(p t:Nat):List Nat->Prop:=Best (From (xr η) η.length s d p t)
theorem BT.len {i:List Int}{s:Int}{d:Bool}{p t:Nat}{l:List Nat}(h:BT i s d p t l):l.length<=i.length:=by
 rcases h.1.2 with e|⟨q,m,e,_⟩
 .rw[e]at h ⊢
  have:=h.1.1.lt
  simp;omega
 .rw[e]at h ⊢
  have:=h.1.1.len
  simp at this ⊢;omega
def Done (η:List Int)(s:Int)(p:Nat)(U V:List (List Nat)):Prop:=∀ q,p<=q->q<η.length->BT η s true q η.length (U.getD q [])/\BT η s false q η.length (V.getD q [])
def Yet (p:Nat)(U V:List (List Nat)):Prop:=∀ q,q<p->U.getD q []=[q]/\V.getD q []=[q]
theorem xy8 (s:Int)(i:List Int)(d:Bool)(U V:List (List Nat))(p q:Nat)(hp:p<U.length):(upU s i d U V p q).getD p []=if far s d (xr i p) (xr i q)/\(U.getD p []).length<=(V.getD q []).length then p::V.getD q []else U.getD p []:=by
 unfold upU far
 by_cases j:((if d then s<=xr i q-xr i p else s<=xr i p-xr i q)/\(U.getD p []).length<=(V.getD q []).length)
 .rw[if_pos j,if_pos j,zf5 _ _ _ hp]
 .rw[if_neg j,if_neg j]
theorem yv8 (i:List Int)(s:Int)(U V:List (List Nat))(p k:Nat)(z:U.length=i.length)(j:V.length=i.length)(hk:p+1+k<i.length)(hd:Done i s (p+1) U V)
  (h1:BT i s true p (p+k) (U.getD p [])) (h2:BT i s false p (p+k) (V.getD p [])):
  BT i s true p (p+(k+1)) ((upU s i true U V p (p+1+k)).getD p [])/\BT i s false p (p+(k+1)) ((upU s i false V U p (p+1+k)).getD p []):=by
 obtain⟨a,b⟩:=hd (p+1+k) (by omega) hk
 rw[xy8 _ _ _ _ _ _ _ (by omega),xy8 _ _ _ _ _ _ _ (by omega)]
 have e:p+(k+1)=p+1+k:=by omega
 rw[e]
 constructor
 .exact zk1 (q:=p+1+k) (by omega) (zk2 h1 (by omega)) b _
 .exact zk1 (q:=p+1+k) (by omega) (zk2 h2 (by omega)) a _
theorem yv9 (G:List Int)(s:Int)(hr:G.length<=300)(U V:List (List Nat))(p:Nat)(hp:p<G.length)(Z:U.length=G.length)(Y:V.length=G.length)(hd:Done G s (p+1) U V)(R:Yet (p+1) U V)(O N:Option S)(Q:Out->Prop)
  (hQ:∀ U V O N,U.length=G.length->V.length=G.length->Done G s p U V->Yet p U V->Q (.nx (envU G s U V (k0b p) O N))):
  Run zq5 (envU G s U V (k0b p) O N) Q:=by
 unfold zq5
 have k1:okR ((p:Int)+1)=true:=T0 (by omega) (by omega)
 have k2:okR (G.length:Int)=true:=T0 (by omega) (by omega)
 have er:X1 ((p:Int)+1) ((G.length:Int)-((p:Int)+1)).toNat=(List.range (G.length-(p+1))).map fun(j:Nat)=>D.int ((p+1+j:Nat):Int):=by
  rw[P1,show ((G.length:Int)-((p:Int)+1)).toNat=G.length-(p+1)by omega]
  apply map_congr_left
  intro i _
  congr 1
 refine W9 (G.length-(p+1)) (f:=fun(j:Nat)=>D.int ((p+1+j:Nat):Int)) (by unfold envU;simp_arith [length_map,zi9 k1 k2,er])
  (I:=fun k ρ=>∃ U V O N,U.length=G.length/\V.length=G.length/\Done G s (p+1) U V/\Yet p U V/\BT G s true p (p+k) (U.getD p [])/\BT G s false p (p+k) (V.getD p [])/\ρ=envU G s U V (k0b p) O N) _
  ⟨U,V,O,N,Z,Y,hd,fun q hq=>R q (by omega),by rw[(R p (by omega)).1];exact za5 hp,by rw[(R p (by omega)).2];exact za5 hp,rfl⟩ ?_ ?_
 .rintro k ρ hk ⟨U,V,O,N,Z,Y,hd,R,h1,h2,rfl⟩
  refine⟨_,rfl,?_⟩
  obtain⟨a,b⟩:=hd (p+1+k) (by omega) (by omega)
  have la:=a.len
  have lb:=b.len
  obtain⟨a1,e⟩:=yy8 G s U V p (p+1+k) N Z Y hp (by omega) (by omega) (by omega) (by omega)
  obtain⟨n1,n2⟩:=yv8 G s U V p k Z Y (by omega) hd h1 h2
  refine⟨_,e,upU s G true U V p (p+1+k),upU s G false V U p (p+1+k),_,_,by rw[zi4];exact Z,by rw[zi4];exact Y,?_,?_,n1,n2,rfl⟩
  .intro q h1 h2
   rw[zp2 _ _ _ _ _ _ _ _ (by omega),zp2 _ _ _ _ _ _ _ _ (by omega)]
   exact hd q h1 h2
  .intro q h1
   rw[zp2 _ _ _ _ _ _ _ _ (by omega),zp2 _ _ _ _ _ _ _ _ (by omega)]
   exact R q h1
 .rintro ρ ⟨U,V,O,N,Z,Y,hd,R,h1,h2,rfl⟩
  refine hQ U V O N Z Y (fun q h3 h4=>?_) R
  rcases Nat.lt_or_ge p q with z|z
  .exact hd q (by omega) h4
  .have:q=p:=by omega
   subst this
   exact⟨za6 h1 (by omega),za6 h2 (by omega)⟩
theorem zt6 {j:Int}(h:okR j=true):rngD [.int j]=some (zw5 j.toNat):=by
 unfold rngD
 simp only[h,if_true]
theorem yn5 (i:List Int)(I:i.length<=300)(ρ:Ro)(z:bvar 0 ρ=some (i.map .int)):T4 [none] (g9 rng1 (z7 (mlen (bvar 0)) anil)) (.nm 0) cyes (mlst (u8 (z7 (mvar 0) anil))) ρ=some (((List.range i.length).map fun j=>[j]).map L):=by
 have k2:okR (i.length:Int)=true:=T0 (by omega) (by omega)
 have i1:0+1<=sizeLine:=o0 (by decide)
 have e1:g9 rng1 (z7 (mlen (bvar 0)) anil) ρ=some ((List.range i.length).map dN):=by
  unfold g9
  rw[z6 (Z2 z) y8,Option.bind_some,length_map,zh0 k2,Int.toNat_natCast,yq0,map_map]
  rfl
 unfold T4
 rw[e1]
 refine(Q7 (f:=dN) (G:=fun j=>L [j]) (fun _ ρ=>∃ x,ρ=[x]) (by
  rintro d ds ρ ⟨x,rfl⟩
  exact⟨[some (.sh (dN d))],rfl,rfl,by rw[i7 (t7 (z6 (x:=mvar 0) (d:=dN d) rfl y8) i1)];rfl,_,rfl⟩) (List.range i.length) _ [] ⟨none,rfl⟩ (o0 (by simp;omega))).trans ?_
 rw[map_map]
 rfl
theorem yf9 (i:List Int)(s:Int)(Y:i.length<=300):∃ U V:List (List Nat),ya0 [.lst (i.map .int),.int s]=some (.sh (.tup [.lst (U.map L),.lst (V.map L)]))/\U.length=i.length/\V.length=i.length/\Done i s 0 U V:=by
 suffices h:∃ d,runB 7 b_Z24 [.lst (i.map .int),.int s]=some (.sh d)/\∃ U V:List (List Nat),d= .tup [.lst (U.map L),.lst (V.map L)]/\U.length=i.length/\V.length=i.length/\Done i s 0 U V by
  obtain⟨d,e,U,V,rfl,a,b,c⟩:=h
  exact⟨U,V,e,a,b,c⟩
 suffices h:Run b_Z24 (u7 7 [.lst (i.map .int),.int s]) (fun o=>∃ U V:List (List Nat),o= .rt (.tup [.lst (U.map L),.lst (V.map L)])/\U.length=i.length/\V.length=i.length/\Done i s 0 U V)by
  obtain⟨o,e,U,V,rfl,r⟩:=h
  exact⟨_,j6 e,U,V,rfl,r⟩
 unfold b_Z24
 have k2:okR (i.length:Int)=true:=T0 (by omega) (by omega)
 have i2:0+1+1<=sizeLine:=o0 (by decide)
 refine u3 (ρ':=[k0a i,k0c s,some (.own (((List.range i.length).map fun j=>[j]).map L)),none,none,none,none]) (by unfold X3;rw[yn5 i Y _ rfl];rfl) ?_
 refine u3 (ρ':=envU i s ((List.range i.length).map fun j=>[j]) ((List.range i.length).map fun j=>[j]) none none none) (by unfold X3;rw[yn5 i Y _ rfl];rfl) ?_
 have ed:zw5 i.length=(List.range i.length).map fun(j:Nat)=>D.int ((i.length:Int)-1-(j:Int)):=rfl
 have one:∀ q,q<i.length->((List.range i.length).map fun j=>[j]).getD q []=[q]:=by
  intro q Z
  rw[getD_eq_getElem?_getD,getElem?_map,getElem?_range Z];rfl
 refine Z0 (W9 i.length (f:=fun(j:Nat)=>D.int ((i.length:Int)-1-(j:Int))) ?_
  (I:=fun j ρ=>∃ U V S G z,U.length=i.length/\V.length=i.length/\Done i s (i.length-j) U V/\Yet (i.length-j) U V/\ρ=envU i s U V S G z) _
  ⟨_,_,_,_,_,by simp,by simp,fun q h1 h2=>by omega,fun q h1=>⟨one q (by omega),one q (by omega)⟩,rfl⟩ ?_ ?_)
 .unfold g9
  rw[z6 (x:=mlen (bvar 0)) (d:=.int ((i.map D.int).length:Int)) (Z2 rfl) y8,Option.bind_some,length_map,zt6 k2,Int.toNat_natCast,ed]
 .rintro j ρ hj ⟨U,V,S,G,z,R,O,hd,N,rfl⟩
  refine⟨_,rfl,?_⟩
  have e:(i.length:Int)-1-(j:Int)=((i.length-1-j:Nat):Int):=by omega
  rw[e]
  have e2:i.length-1-j+1=i.length-j:=by omega
  refine yv9 i s Y U V (i.length-1-j) (by omega) R O (by rw[e2];exact hd) (by rw[e2];exact N) G z _ fun U V G z R O hd N=>?_
  rw[show i.length-1-j=i.length-(j+1)by omega]at hd N
  exact⟨U,V,_,_,_,R,O,hd,N,rfl⟩
 .rintro ρ ⟨U,V,S,G,z,R,O,hd,N,rfl⟩
  rw[Nat.sub_self]at hd
  unfold yz5
  refine g5 (ds:=U.map L) rfl (g5 (ds:=V.map L) rfl ⟨_,?_,U,V,rfl,R,O,hd⟩)
  unfold envU
  simp_arith [i2,if_true]
theorem xf4 (l:List Nat):zq0 [L l]=some (.sh (Ky l)):=by
 unfold zq0 b_Z10
 have i2:0+1+1<=sizeLine:=o0 (by decide)
 refine j6 ?_
 unfold L
 simp_arith [i2,if_true,length_map]
 rfl
theorem zb6 {U:List (List Nat)}{m:List Nat}(h:m∈U):∃ q,q<U.length/\m=U.getD q []:=by
 obtain⟨q,i,e⟩:=getElem_of_mem h
 exact⟨q,i,by rw[getD_eq_getElem?_getD,getElem?_eq_getElem i,<-e];rfl⟩
theorem za4 {U:List (List Nat)}{q:Nat}(h:q<U.length):U.getD q []∈U:=by
 rw[getD_eq_getElem?_getD,getElem?_eq_getElem h];exact getElem_mem h
theorem yv6 (i:List Int)(s:Int)(hs:1<=s)(O:i.length<=300):∃ l,yv4 [.lst (i.map .int),.int s]=some (.sh (L l))/\Best (Wv (xr i) i.length s) l:=by
 obtain⟨U,V,S,Z,Y,hd⟩:=yf9 i s O
 have I:0<=sizeLine:=Nat.zero_le _
 have G:∀ l,shOf (zq0 [L l])=some (Ky l):=fun l=>by rw[xf4];rfl
 have j:∃ l,minD (fun d=>shOf (zq0 [d])) ((U++V).map L) (.lst [])=some (L l)/\Best (Wv (xr i) i.length s) l:=by
  cases hc:U++V with
  |nil=>
   have:i.length=0:=by
    have:=congrArg List.length hc
    rw[length_append,length_nil]at this
    omega
   exact⟨[],rfl,yg2 this⟩
  |cons b ls=>
   obtain⟨r,e,h1,h2⟩:=zr6 (mk:=fun d=>shOf (zq0 [d])) G ls b
   refine⟨r,?_,?_⟩
   .show (match shOf (zq0 [L b])with |some kd=>minF _ (ls.map L) (L b) kd|none=>none)=_
    rw[G b]
    exact e
   .rw[<-hc]at h1 h2
    have all:∀ m∈U++V,∃ d q,BT i s d q i.length m:=by
     intro m hm
     rcases List.mem_append.mp hm with h|h
     .obtain⟨q,hq,rfl⟩:=zb6 h
      exact⟨true,q,(hd q (Nat.zero_le _) (by omega)).1⟩
     .obtain⟨q,hq,rfl⟩:=zb6 h
      exact⟨false,q,(hd q (Nat.zero_le _) (by omega)).2⟩
    refine xy2 h1 h2 (fun m hm=>?_) (fun d p hp=>?_) ?_
    .obtain⟨d,q,h⟩:=all m hm
     exact .inr ⟨d,h.1.1⟩
    .cases d
     .exact⟨_,mem_append_right _ (za4 (q:=p) (by omega)),(hd p (Nat.zero_le _) hp).2⟩
     .exact⟨_,mem_append_left _ (za4 (q:=p) (by omega)),(hd p (Nat.zero_le _) hp).1⟩
    .obtain⟨d,q,h⟩:=all r h1
     intro z
     rw[z]at h
     exact h.1.1
 obtain⟨l,e,R⟩:=j
 refine⟨l,?_,R⟩
 unfold yv4 b_Z23
 refine D9 ?_
 ((apply u3;focus (simp_arith [g6 s hs];rfl)))
 refine u3 (ρ':=[k0a i,k0c s,some (.sh (.lst (U.map L))),some (.sh (.lst (V.map L)))]) ?_ ?_
 .unfold masg
  rw[u6 (z6 (d:=.lst (i.map .int)) rfl (z6 (d:=.int s) rfl y8)) S]
  rfl
 .refine⟨_,?_,rfl⟩
  have e1:p5 (m2 addD (mvar 2) (mvar 3)) [k0a i,k0c s,some (.sh (.lst (U.map L))),some (.sh (.lst (V.map L)))]=some ((U++V).map L):=by
   have N:(U.map L).length+(V.map L).length<=sizeLine:=o0 (by simp;omega)
   refine l6 ?_
   unfold m2
   show (if (U.map L).length+(V.map L).length<=sizeLine then some (D.lst (U.map L++V.map L))else none)=_
   rw[if_pos N,map_append]
  have e2:mlst (u8 anil) [k0a i,k0c s,some (.sh (.lst (U.map L))),some (.sh (.lst (V.map L)))]=some (.lst []):=i7 (t7 y8 I)
  unfold mret
  rw[yc9 e1 e2,e]
  rfl
theorem zf4 (i:List Int)(s:Int)(l:List Nat)(h:yv4 [.lst (i.map .int),.int s]=some (.sh (L l))):zm5 [.lst (i.map .int),.int s]=some (.sh (.int (l.length:Int))):=by
 unfold zm5 b_Z20
 refine j6 ?_
 unfold mret
 rw[Z2 (l6 (ds:=l.map dN) (u6 (z6 (d:=.lst (i.map .int)) rfl (z6 (d:=.int s) rfl y8)) h)),length_map]
 rfl
end
section
open PySem L2
theorem S8 (w:Int)(h:0<=w):m_Z6 [.int w]=some (.sh .non):=by
 have:¬ w<0:=by omega
 unfold m_Z6 b_Z6
 simp_arith [this,decide_false]
theorem J4 (i ws:List Int)(hw:ws.length=i.length)(G:∀ x∈ws,0<=x):m_Z2 [.lst (i.map .int),.lst (ws.map .int)]=some (.sh .non):=by
 unfold m_Z2 b_Z2
 suffices h:Run _ (u7 3 [.lst (i.map .int),.lst (ws.map .int)]) (fun o=>∃ ρ,o= .nx ρ)by
  obtain⟨o,e,ρ,rfl⟩:=h
  exact xt3 e
 ((apply u3;focus (simp_arith [length_map,hw,beq_self_eq_true,Bool.not_true];rfl)))
 refine yr5 ws (f:=D.int) (by simp_arith []) (I:=fun ys ρ=>(∀ x∈ys,0<=x)/\∃ j,ρ=[k0a i,k0a ws,j]) _ ⟨G,_,rfl⟩ ?_ ?_
 .rintro x ys ρ ⟨hx,j,rfl⟩
  refine⟨_,rfl,?_⟩
  unfold yg3
  refine⟨_,by simp_arith [S8 x (hx x (by simp))];rfl,?_⟩
  exact⟨fun y z=>hx y (by simp[z]),_,rfl⟩
 .rintro ρ ⟨_,j,rfl⟩
  exact⟨_,rfl⟩
end
section
open PySem L2
noncomputable def gn (up:Bool)(x b:Int):Int:=if up then x-b else b-x
noncomputable def okP (up:Bool)(s:Int):Int->List Int->Bool
 |_,[]=>true
 |b,x::r=>if gn up x b<= -s then false else okP up s (if 0<gn up x b then x else b) r
noncomputable def fb (up:Bool)(s:Int):Int->List Int->Nat
 |_,[]=>0
 |b,x::r=>if gn up x b<= -s then 0 else fb up s (if 0<gn up x b then x else b) r+1
noncomputable def pr (up:Bool)(s:Int):List Int->Bool
 |[]=>true
 |x::r=>okP up s x r
noncomputable def fbs (up:Bool)(s:Int):List Int->Nat
 |[]=>0
 |x::r=>fb up s x (x::r)
theorem xo0 (up:Bool)(x:Int):gn up x x=0:=by unfold gn;split <;> omega
theorem yi0 (up:Bool)(s x:Int)(r:List Int)(hs:1<=s):fb up s x (x::r)=fb up s x r+1:=by
 rw[fb,xo0,if_neg (by omega),if_neg (by omega)]
theorem xe1 (up:Bool)(s:Int):∀(r:List Int)(b:Int)(k:Nat),k<=r.length->(decide (fb up s b r<k)= !okP up s b (r.take k))
 |r,b,0,_=>by simp[okP]
 |[],b,k+1,h=>by simp at h
 |x::r,b,k+1,h=>by
  rw[fb,take_succ_cons,okP]
  split
  .simp
  .rw[<-xe1 up s r _ k (by simpa using h)]
   simp
theorem xe0 (up:Bool)(s:Int)(hs:1<=s)(xs:List Int)(k:Nat)(h:k<=xs.length):decide (fbs up s xs<k)= !pr up s (xs.take k):=by
 cases xs with
 |nil=>simp at h;subst h;rfl
 |cons x r=>
  cases k with
  |zero=>simp[pr]
  |succ k=>
   rw[take_succ_cons,pr,fbs,yi0 up s x r hs,<-xe1 up s r x k (by simpa using h)]
   simp
def rel (up:Bool)(s a c:Int):Prop:=-(gn up c a)<s
theorem yn6 (up:Bool)(s:Int):∀(r:List Int)(b:Int),okP up s b r=true↔(b::r).Pairwise (rel up s)
 |[],b=>by simp[okP]
 |x::r,b=>by
  rw[okP,pairwise_cons]
  by_cases h:gn up x b<= -s
  .rw[if_pos h]
   refine⟨fun z=>(by cases z),fun z=>?_⟩
   have:=z.1 x (by simp)
   unfold rel at this
   omega
  .rw[if_neg h,yn6 up s r,pairwise_cons,pairwise_cons]
   have key:∀ c,rel up s (if 0<gn up x b then x else b) c↔(rel up s x c/\rel up s b c):=by
    intro c
    unfold rel gn at*
    cases up <;> simp at* <;> split <;> omega
   constructor
   .rintro⟨h1,h2⟩
    refine⟨fun c i=>?_,fun c i=>((key c).mp (h1 c i)).1,h2⟩
    rcases List.mem_cons.mp i with z|z
    .subst z;unfold rel;omega
    .exact((key c).mp (h1 c z)).2
   .rintro⟨h1,h2,h3⟩
    exact⟨fun c i=>(key c).mpr ⟨h2 c i,h1 c (mem_cons_of_mem _ i)⟩,h3⟩
theorem zv6 (up:Bool)(s:Int)(xs:List Int):pr up s xs=true↔xs.Pairwise (rel up s):=by
 cases xs with
 |nil=>simp[pr]
 |cons x r=>exact yn6 up s r x
theorem yz3 (s:Int)(hs:1<=s):∀(xs:List Int),(xs.Pairwise (rel true s)/\xs.Pairwise (rel false s))↔∀ a∈xs,∀ c∈xs,a-c<s
 |[]=>by simp
 |x::r=>by
  rw[pairwise_cons,pairwise_cons]
  have i:=yz3 s hs r
  constructor
  .rintro⟨⟨h1,h2⟩,h3,h4⟩ a ha c j
   have i:=i.mp ⟨h2,h4⟩
   rcases List.mem_cons.mp ha with G|G <;> rcases List.mem_cons.mp j with z|z
   .subst G z;omega
   .subst G;have:=h1 c z;unfold rel gn at this;simp at this;omega
   .subst z;have:=h3 a G;unfold rel gn at this;simp at this;omega
   .exact i a G c z
  .intro h
   have i:=i.mpr fun a ha c j=>h a (mem_cons_of_mem _ ha) c (mem_cons_of_mem _ j)
   refine⟨⟨fun c j=>?_,i.1⟩,fun c j=>?_,i.2⟩
   .have:=h x (by simp) c (mem_cons_of_mem _ j);unfold rel gn;simp;omega
   .have:=h c (mem_cons_of_mem _ j) x (by simp);unfold rel gn;simp;omega
noncomputable def seg (η:List Int)(p:Nat×Nat):List Int:=(η.take p.2).drop p.1
noncomputable def rise (n:Nat):Nat->List Nat->Prop
 |_,[]=>True
 |l,c::cs=>l<c/\c<n/\rise n c cs
noncomputable def alt (s:Int)(η:List Int):Bool->Nat->List Nat->Bool
 |up,st,[]=>pr up s (seg η (st,η.length))
 |up,st,c::cs=>pr up s (seg η (st,c))&&alt s η (!up) c cs
theorem ys7 (up:Bool)(s:Int)(hs:1<=s)(i:List Int)(st e:Nat)(h1:st<=e)(h2:e<=i.length):decide (((st+fbs up s (i.drop st):Nat):Int)<(e:Int))= !pr up s (seg i (st,e)):=by
 unfold seg
 rw[drop_take,<-xe0 up s hs (i.drop st) (e-st) (by simp;omega)]
 apply decide_eq_decide.mpr
 omega
noncomputable def kd (up:Bool):Str:=if up then "up" else "down"
theorem ud:(("up":Str)==("down":Str))=false:=by decide
theorem dd:(("down":Str)==("down":Str))=true:=by decide
theorem xz3 (up:Bool)(s:Int)(i:List Int)(st:Nat):fbs up s (i.drop st)=fb up s (i.getD st 0) (i.drop st):=by
 by_cases h:st<i.length
 .rw[zy5 i st h];rfl
 .rw[drop_eq_nil_of_le (by omega)];rfl
noncomputable def envB (η:List Int)(s:Int)(up:Bool)(st e:Nat)(o5 o6:Option S):Ro:=[k0a η,k0c s,some (.sh (.str (kd up))),k0b st,k0b e,o5,o6]
theorem U5 (z:List Int)(s:Int)(up:Bool)(st:Nat)(a4:st<=z.length)(hr:z.length<=1000):
  zm6 [.lst (z.map .int),.int s,.str (kd up),.int (st:Int)]=some (.sh (.int ((st+fbs up s (z.drop st):Nat):Int))):=by
 unfold zm6 b_Z13
 refine D9 ?_
 ((apply u3;focus (simp_arith [];rfl)))
 have k1:okR (st:Int)=true:=T0 (by omega) (by omega)
 have k2:okR (z.length:Int)=true:=T0 (by omega) (by omega)
 have er:X1 (st:Int) ((z.length:Int)-(st:Int)).toNat=(List.range (z.length-st)).map fun(j:Nat)=>D.int ((st+j:Nat):Int):=by
  rw[P1,show ((z.length:Int)-(st:Int)).toNat=z.length-st by omega]
  apply map_congr_left
  intro i _
  congr 1
 refine Z0 (W9 (z.length-st) (f:=fun(j:Nat)=>D.int ((st+j:Nat):Int)) (by simp_arith [length_map,zi9 k1 k2,er])
  (I:=fun j ρ=>∃(e:Nat)(U R:Option S),(j<z.length-st->e<z.length)/\st+fbs up s (z.drop st)=st+j+fb up s (z.getD e 0) (z.drop (st+j))/\ρ=envB z s up st e U R) _ ⟨st,none,none,by omega,by rw[xz3];rfl,rfl⟩ ?_ ?_)
 .rintro j ρ hj ⟨e,U,R,G,ht,rfl⟩
  have G:=G hj
  have Z:st+j<z.length:=by omega
  have a1:=zu7 z (st+j) Z
  have a2:=zu7 z e G
  rw[zy5 z (st+j) Z,fb]at ht
  generalize Y:z.getD (st+j) 0=x at a1 ht
  generalize a3:z.getD e 0=b at a2 ht
  refine⟨_,rfl,?_⟩
  unfold yz9 envB
  ((apply u3;focus (simp_arith [a1,a2];rfl)))
  refine u3 (ρ':=envB z s up st e (some (.sh (.int ((st+j:Nat):Int)))) (some (.sh (.int (gn up x b))))) ?_ ?_
  .unfold envB
   cases up
   .have:gn false x b= -(x-b):=by unfold gn;simp;omega
    rw[this]
    simp_arith [kd,dd,Bool.false_eq_true,if_false]
   .have:gn true x b=x-b:=rfl
    rw[this]
    simp_arith [kd,ud,if_true]
  unfold envB
  by_cases O:gn up x b<= -s
  .rw[if_pos O]at ht
   refine Z0 ⟨.rt (.int ((st+j:Nat):Int)),by simp_arith [O,decide_true],?_⟩
   show Out.rt _=Out.rt _
   rw[ht];rfl
  .rw[if_neg O]at ht
   ((apply u3;focus (simp_arith [O,decide_false];rfl)))
   by_cases N:0<gn up x b
   .rw[if_pos N]at ht
    refine⟨_,by simp_arith [N,decide_true];rfl,?_⟩
    refine⟨st+j,_,_,fun _=>Z,?_,rfl⟩
    rw[Y,ht,show st+(j+1)=st+j+1 by omega];omega
   .rw[if_neg N]at ht
    refine⟨_,by simp_arith [N,decide_false];rfl,?_⟩
    refine⟨e,_,_,fun _=>G,?_,rfl⟩
    rw[a3,ht,show st+(j+1)=st+j+1 by omega];omega
 .rintro ρ ⟨e,U,R,G,ht,rfl⟩
  refine⟨_,by unfold envB;simp_arith [length_map];rfl,?_⟩
  rw[show st+(z.length-st)=z.length by omega,drop_length,fb]at ht
  rw[ht];rfl
theorem xm3 (up:Bool):tabD tab_OTHER_KIND (.str (kd up))=some (.str (kd (!up))):=by
 have h:tab_OTHER_KIND.lookup (kd up)=some (kd (!up)):=by cases up <;> decide +kernel
 show (tab_OTHER_KIND.lookup (kd up)).map D.str=_
 rw[h];rfl
noncomputable def ent (n:Nat)(cs:List Nat):Nat:=match cs with |[]=>n|c::_=>c
noncomputable def O0 (s:Int)(η:List Int):Nat->Bool->Nat->List Nat
 |0,_,_=>[]
 |f+1,k,c=>if c<η.length then c::O0 s η f (!k) (c+fbs k s (η.drop c))else []
noncomputable def brk (k:Bool)(s:Int)(η:List Int)(st e:Nat):Bool:=(seg η (st,e)).any fun x=>decide (s<= -(gn k (η.getD e 0) x))
theorem ye3 (i:List Int)(st e:Nat)(h1:st<=e)(h2:e<i.length):seg i (st,e+1)=seg i (st,e)++[i.getD e 0]:=by
 unfold seg
 have:i.take (e+1)=i.take e++[i.getD e 0]:=by
  rw[take_succ]
  simp[h2]
 show (i.take (e+1)).drop st=(i.take e).drop st++[i.getD e 0]
 rw[this,drop_append_of_le_length (by simp;omega)]
theorem xs4 (k:Bool)(s:Int)(i:List Int)(st e:Nat)(h1:st<=e)(h2:e<i.length):pr k s (seg i (st,e+1))=(pr k s (seg i (st,e))&& !brk k s i st e):=by
 rw[Bool.eq_iff_iff,Bool.and_eq_true,zv6,zv6,ye3 i st e h1 h2,pairwise_append]
 unfold brk
 constructor
 .rintro⟨a,_,b⟩
  refine⟨a,?_⟩
  rw[Bool.not_eq_true',any_eq_false]
  intro x j z
  have:=b x j _ (List.mem_singleton.mpr rfl)
  unfold rel at this
  have z:=of_decide_eq_true z
  omega
 .rintro⟨a,b⟩
  refine⟨a,pairwise_singleton _ _,fun x j y G=>?_⟩
  rw[List.mem_singleton.mp G]
  rw[Bool.not_eq_true',any_eq_false]at b
  have:=b x j
  unfold rel
  have this:¬ s<= -(gn k (i.getD e 0) x):=fun z=>this (decide_eq_true z)
  omega
theorem N2 (k:Bool)(s:Int)(hs:1<=s)(i:List Int)(c:Nat)(h:c<i.length):1<=fbs k s (i.drop c):=by
 rw[zy5 i c h]
 show 1<=fb k s (i.getD c 0) (i.getD c 0::i.drop (c+1))
 rw[yi0 k s _ _ hs]
 omega
theorem xe2 (k:Bool)(s:Int):∀(r:List Int)(b:Int),fb k s b r<=r.length
 |[],b=>Nat.le_refl _
 |x::r,b=>by
  rw[fb]
  split
  .exact Nat.zero_le _
  .have:=xe2 k s r (if 0<gn k x b then x else b);rw[length_cons];omega
theorem xv2 (k:Bool)(s:Int)(r:List Int):fbs k s r<=r.length:=by
 cases r with
 |nil=>exact Nat.le_refl _
 |cons x r=>exact xe2 k s _ _
noncomputable def envQ (η:List Int)(s fall rise:Int)(k0 k:Bool)(cs:List Nat)(c:Nat):Ro:=[k0a η,k0c s,k0c fall,k0c rise,some (.sh (.str (kd k0))),some (.sh (.str (kd k))),some (.own ((NI cs).map .int)),k0b c]
theorem xq8 (j:List Int)(s:Int)(N:j.length<=300)(i rise:Int)(k0 k:Bool)(z:List Nat)(c:Nat)(R:c<j.length)(O:z.length<=c):
  B6 (envQ j s i rise k0 k z c)=some (.nx (envQ j s i rise k0 (!k) (z++[c]) (c+fbs k s (j.drop c)))):=by
 have I:=m5
 unfold B6
 refine seqI (ρ':=envQ j s i rise k0 k (z++[c]) c) ?_ ?_
 .have l2:((NI z).map D.int).length<sizeLine:=by unfold NI;simp;omega
  unfold envQ
  simp_arith [l2,if_true]
  unfold NI
  simp
 have G:m7 zm6 (z7 (mvar 0) (z7 (mvar 1) (z7 (mvar 5) (z7 (mvar 7) anil)))) (envQ j s i rise k0 k (z++[c]) c)=some (.int ((c+fbs k s (j.drop c):Nat):Int)):=
  u6 (z6 (d:=.lst (j.map .int)) rfl (z6 (d:=.int s) rfl (z6 (d:=.str (kd k)) rfl (z6 (d:=.int (c:Int)) rfl y8)))) (U5 j s k c (by omega) (by omega))
 refine seqI (ρ':=envQ j s i rise k0 k (z++[c]) (c+fbs k s (j.drop c))) ((j9 G).trans rfl) ?_
 unfold envQ
 simp_arith [xm3]
theorem B9 (j:List Int)(s:Int)(hs:1<=s)(O:j.length<=300)(i rise:Int)(k0:Bool):∀(f:Nat)(k:Bool)(z:List Nat)(c:Nat),j.length-c<f->z.length<=c->
  ∃ I N,N8 (u4 (m2 ltD (mvar 7) (mlen (bvar 0)))) B6 f (envQ j s i rise k0 k z c)=some (.nx (envQ j s i rise k0 I (z++O0 s j f k c) N))
 |0,_,_,_,h,_=>by omega
 |f+1,k,z,c,h,hl=>by
  have R:u4 (m2 ltD (mvar 7) (mlen (bvar 0))) (envQ j s i rise k0 k z c)=some (decide ((c:Int)<(j.length:Int))):=xx1 rfl (by unfold envQ;simp_arith [length_map])
  unfold N8
  rw[R]
  by_cases G:c<j.length
  .have hci:((c:Int)<(j.length:Int)):=by omega
   simp only[hci,decide_true]
   rw[xq8 j s O i rise k0 k z c G hl]
   have hp:=N2 k s hs j c G
   obtain⟨I,N,e⟩:=B9 j s hs O i rise k0 f (!k) (z++[c]) (c+fbs k s (j.drop c)) (by omega) (by simp;omega)
   refine⟨I,N,?_⟩
   simp only
   rw[e,O0,if_pos G]
   simp
  .have hci:¬ ((c:Int)<(j.length:Int)):=by omega
   simp only[hci,decide_false]
   refine⟨k,c,?_⟩
   rw[O0,if_neg G,append_nil]
noncomputable def P9 (s:Int)(η:List Int):Nat:=fbs true s η
noncomputable def P7 (s:Int)(η:List Int):Nat:=fbs false s η
noncomputable def Y9 (s:Int)(η:List Int):Bool:=!decide (P9 s η<P7 s η)
noncomputable def cut0 (s:Int)(η:List Int):Nat:=min (P9 s η) (P7 s η)
noncomputable def Z5 (s:Int)(η:List Int):List Nat:=O0 s η 1000 (Y9 s η) (cut0 s η)
theorem xt2 {n:Nat}{m:MS}{ds es:List D}{d:D}(h:Run m (u7 n ds) (fun o=>o= .rp d es)):runB n m ds=some (.pr d es):=by
 obtain⟨o,e,rfl⟩:=h
 unfold runB;rw[e]
theorem zn3 (i:List Int)(s:Int)(hs:1<=s)(I:i.length<=300):D4 [.lst (i.map .int),.int s]=some (.pr (.str (kd (Y9 s i))) ((NI (Z5 s i)).map .int)):=by
 unfold D4 b_Z19
 refine xt2 ?_
 ((apply u3;focus (simp_arith [g6 s hs];rfl)))
 have z:=U5 i s true 0 (Nat.zero_le _) (by omega)
 have j:=U5 i s false 0 (Nat.zero_le _) (by omega)
 rw[drop_zero,Nat.zero_add]at z j
 refine u3 ((j9 (u6 (z6 (d:=.lst (i.map .int)) rfl (z6 (d:=.int s) rfl (z6 (d:=.str (kd true)) rfl (z6 (d:=.int ((0:Nat):Int)) rfl y8)))) z)).trans rfl) ?_
 refine u3 (ρ':=[k0a i,k0c s,some (.sh (.int (P9 s i:Int))),some (.sh (.int (P7 s i:Int))),none,none,none,none]) ((j9 (u6 (z6 (d:=.lst (i.map .int)) rfl (z6 (d:=.int s) rfl (z6 (d:=.str (kd false)) rfl (z6 (d:=.int ((0:Nat):Int)) rfl y8)))) j)).trans rfl) ?_
 refine u3 (ρ':=[k0a i,k0c s,some (.sh (.int (P9 s i:Int))),some (.sh (.int (P7 s i:Int))),some (.sh (.str (kd (Y9 s i)))),none,none,none]) ?_ ?_
 .by_cases h:P9 s i<P7 s i
  .have hi:(P9 s i:Int)<(P7 s i:Int):=by omega
   have hk:Y9 s i=false:=by unfold Y9;simp[h]
   rw[hk]
   simp_arith [hi,decide_true]
   rfl
  .have hi:¬ (P9 s i:Int)<(P7 s i:Int):=by omega
   have hk:Y9 s i=true:=by unfold Y9;simp[h]
   rw[hk]
   simp_arith [hi,decide_false]
   rfl
 ((apply u3;focus (simp_arith [];rfl)))
 have G:0<=sizeLine:=Nat.zero_le _
 ((apply u3;focus (simp_arith [G,if_true];rfl)))
 refine u3 (ρ':=envQ i s (P9 s i) (P7 s i) (Y9 s i) (Y9 s i) [] (cut0 s i)) ?_ ?_
 .have hm:min (P9 s i:Int) (P7 s i:Int)=((cut0 s i:Nat):Int):=by unfold cut0;omega
  simp_arith [xg7,hm]
  rfl
 obtain⟨N,O,e⟩:=B9 i s hs I (P9 s i) (P7 s i) (Y9 s i) 1000 (Y9 s i) [] (cut0 s i) (by omega) (by simp)
 refine u3 e ?_
 refine⟨_,?_,rfl⟩
 unfold yc6
 rfl
section
variable {x y:Nat->Int}{n k:Nat}{s t:Int}
end
section
variable {x y:Nat->Int}{n k:Nat}{s t:Int}
end
theorem K4 (s:Int)(i:List Int)(f:Nat)(k:Bool)(c:Nat)(h:i.length<=c):O0 s i f k c=[]:=by
 cases f with
 |zero=>rfl
 |succ f=>rw[O0,if_neg (by omega)]
theorem R1 (s:Int)(d:Bool)(a b:Int):far s d a b↔s<=gn d b a:=by
 unfold far gn;cases d <;> simp
theorem F7 (d:Bool)(a b:Int):gn (!d) a b= -(gn d a b):=by
 unfold gn;cases d <;> simp <;> omega
theorem J2 (i:List Int)(st e p:Nat)(h1:st<=p)(h2:p<e)(j:e<=i.length):(seg i (st,e))[p-st]? =some (xr i p):=by
 unfold seg
 show ((i.take e).drop st)[p-st]? =some (i.getD p 0)
 rw[getElem?_drop,show st+(p-st)=p by omega,getElem?_take_of_lt h2,getD_eq_getElem?_getD,getElem?_eq_getElem (by omega)]
 rfl
theorem S0 {k:Bool}{s:Int}{i:List Int}{st e p q:Nat}(h:pr k s (seg i (st,e))=true)(h1:st<=p)(h2:p<q)(G:q<e)(j:e<=i.length):¬ far s (!k) (xr i p) (xr i q):=by
 rw[zv6,pairwise_iff_getElem]at h
 have a:=J2 i st e p h1 (by omega) j
 have b:=J2 i st e q (by omega) G j
 obtain⟨ha,N⟩:=List.getElem?_eq_some_iff.mp a
 obtain⟨z,I⟩:=List.getElem?_eq_some_iff.mp b
 have:=h (p-st) (q-st) ha z (by omega)
 rw[N,I]at this
 unfold rel at this
 rw[R1,F7]
 omega
theorem T7 (i:List Int)(s:Int):∀(G:List Nat)(k:Bool)(st:Nat)(d:Bool)(p:Nat)(l:List Nat),rise i.length st G->alt s i k st G=true->st<=p->Wd (xr i) i.length s d (p::l)->(p::l).length<=G.length+1+(if d=k then 1 else 0)
 |[],k,st,d,p,l,hr,h,hp,hw=>by
  have h:pr k s (seg i (st,i.length))=true:=h
  cases l with
  |nil=>simp
  |cons q l=>
   have R:=hw.2.2.lt
   by_cases e:d=k
   .rw[if_pos e]
    cases l with
    |nil=>simp
    |cons r l=>
     exfalso
     have h2:=hw.2.2
     rw[e]at h2
     exact S0 h (by have:=hw.1;omega) h2.1 h2.2.2.lt (Nat.le_refl _) h2.2.1
   .exfalso
    have e2:d= !k:=by cases d <;> cases k <;> simp_all
    rw[e2]at hw
    exact S0 h hp hw.1 R (Nat.le_refl _) hw.2.1
 |c::G,k,st,d,p,l,hr,h,hp,hw=>by
  obtain⟨U,S,I⟩:=hr
  have h:(pr k s (seg i (st,c))&&alt s i (!k) c G)=true:=h
  rw[Bool.and_eq_true]at h
  obtain⟨h1,h2⟩:=h
  rcases Nat.lt_or_ge p c with z|z
  .cases l with
   |nil=>simp;omega
   |cons q l=>
    by_cases e:d=k
    .rw[if_pos e]
     rcases Nat.lt_or_ge q c with w|w
     .cases l with
      |nil=>simp
      |cons r l=>
       have j:=hw.2.2
       have N:c<=r:=by
        rcases Nat.lt_or_ge r c with y|y
        .exfalso
         rw[e]at j
         exact S0 h1 (by have:=hw.1;omega) j.1 y (by omega) j.2.1
        .exact y
       have:=T7 i s G (!k) c (!(!d)) r l I h2 N j.2.2
       rw[e,Bool.not_not,if_neg (by cases k <;> simp)]at this
       simp only[length_cons]at this ⊢
       omega
     .have:=T7 i s G (!k) c (!d) q l I h2 w hw.2.2
      rw[e,if_pos rfl]at this
      simp only[length_cons]at this ⊢
      omega
    .have e2:d= !k:=by cases d <;> cases k <;> simp_all
     have O:c<=q:=by
      rcases Nat.lt_or_ge q c with y|y
      .exfalso
       rw[e2]at hw
       exact S0 h1 hp hw.1 y (by omega) hw.2.1
      .exact y
     have:=T7 i s G (!k) c (!d) q l I h2 O hw.2.2
     rw[e2,Bool.not_not,if_neg (by cases k <;> simp)]at this
     rw[if_neg e]
     simp only[length_cons]at this ⊢
     omega
  .have:=T7 i s G (!k) c d p l I h2 z hw
   simp only[length_cons]at this ⊢
   split at this <;> split <;> omega
theorem zh7 (i:List Int)(s:Int)(k:Bool)(j:List Nat)(N:rise i.length 0 j)(h1:pr (!k) s (i.take (ent i.length j))=true)(h2:alt s i k 0 j.tail=true){l:List Nat}(h:Wv (xr i) i.length s l):l.length<=j.length+1:=by
 rcases h with rfl|⟨d,h⟩
 .simp
 .cases l with
  |nil=>exact h.elim
  |cons p l=>
   cases j with
   |nil=>
    have b:=T7 i s [] k 0 d p l True.intro h2 (Nat.zero_le _) h
    cases l with
    |nil=>simp
    |cons q l=>
     exfalso
     have G:=h.2.2.lt
     have h1:pr (!k) s (seg i (0,i.length))=true:=h1
     have h2:pr k s (seg i (0,i.length))=true:=h2
     by_cases e:d=k
     .rw[e]at h
      have:=S0 h1 (Nat.zero_le _) h.1 G (Nat.le_refl _)
      rw[Bool.not_not]at this
      exact this h.2.1
     .have e2:d= !k:=by cases d <;> cases k <;> simp_all
      rw[e2]at h
      exact S0 h2 (Nat.zero_le _) h.1 G (Nat.le_refl _) h.2.1
   |cons c j=>
    obtain⟨R,O,z⟩:=N
    have I:rise i.length 0 j:=by
     cases j with
     |nil=>exact True.intro
     |cons c2 j=>exact⟨by have:=z.1;omega,z.2.1,z.2.2⟩
    have b:=T7 i s j k 0 d p l I h2 (Nat.zero_le _) h
    simp only[length_cons]at b ⊢
    split at b <;> omega
theorem ze6 {k:Bool}{s:Int}{z:List Int}{st e:Nat}(h:brk k s z st e=true)(h2:e<=z.length):∃ j,st<=j/\j<e/\far s (!k) (xr z j) (xr z e):=by
 unfold brk at h
 obtain⟨x,G,hd⟩:=List.any_eq_true.mp h
 have hd:=of_decide_eq_true hd
 obtain⟨i,hi,I⟩:=getElem_of_mem G
 have N:(seg z (st,e)).length=e-st:=by unfold seg;simp;omega
 have g:=J2 z st e (st+i) (by omega) (by omega) h2
 rw[show st+i-st=i by omega,getElem?_eq_getElem hi,I]at g
 cases g
 refine⟨st+i,by omega,by omega,?_⟩
 rw[R1,F7]
 exact hd
theorem zf9 (k:Bool)(s:Int)(hs:1<=s)(i:List Int)(c e:Nat)(z:c<i.length)(j:c+fbs k s (i.drop c)=e)(hn:e<i.length):c<e/\pr k s (seg i (c,e))=true/\brk k s i c e=true:=by
 have hp:=N2 k s hs i c z
 have a:=ys7 k s hs i c e (by omega) (by omega)
 have b:=ys7 k s hs i c (e+1) (by omega) (by omega)
 rw[j,decide_eq_false (show ¬ ((e:Nat):Int)<(e:Int)by omega)]at a
 rw[j,decide_eq_true (show ((e:Nat):Int)<((e+1:Nat):Int)by omega),xs4 k s i c e (by omega) hn]at b
 cases h:pr k s (seg i (c,e))with
 |false=>rw[h]at a;cases a
 |true=>
  rw[h]at b
  cases h2:brk k s i c e with
  |false=>rw[h2]at b;cases b
  |true=>exact⟨by omega,rfl,rfl⟩
theorem xk7 (i:List Int)(s:Int)(hs:1<=s):∀(f:Nat)(k:Bool)(c p:Nat),p<c->c<i.length->far s k (xr i p) (xr i c)->∃ l,Wd (xr i) i.length s k (p::l)/\l.length=(O0 s i f k c).length
 |0,k,c,p,h1,h2,h3=>⟨[],show p<i.length by omega,rfl⟩
 |f+1,k,c,p,h1,h2,h3=>by
  rw[O0,if_pos h2]
  generalize Z:c+fbs k s (i.drop c)=e
  rcases Nat.lt_or_ge e i.length with z|z
  .obtain⟨g1,g2,g3⟩:=zf9 k s hs i c e h2 Z z
   obtain⟨I,U,S,G⟩:=ze6 g3 (by omega)
   have:∃ j,c<=j/\j<e/\far s (!k) (xr i j) (xr i e)/\far s k (xr i p) (xr i j):=by
    rw[R1,F7]at G
    rw[R1]at h3
    by_cases w:0<=gn k (xr i I) (xr i c)
    .refine⟨I,U,S,by rw[R1,F7];exact G,?_⟩
     rw[R1]
     unfold gn at*
     cases k <;> simp at* <;> omega
    .refine⟨c,Nat.le_refl _,g1,?_,by rw[R1];exact h3⟩
     rw[R1,F7]
     unfold gn at*
     cases k <;> simp at* <;> omega
   obtain⟨j,q1,R,O,N⟩:=this
   obtain⟨l,Y,el⟩:=xk7 i s hs f (!k) e j R z O
   exact⟨j::l,⟨by omega,N,Y⟩,by simp[el]⟩
  .rw[K4 s i f _ e z]
   exact⟨[c],⟨h1,h3,h2⟩,rfl⟩
theorem yr9 (i:List Int)(s:Int)(hs:1<=s)(hn:i≠[]):∃ l,Wv (xr i) i.length s l/\l.length=(Z5 s i).length+1:=by
 have hp:0<i.length:=List.length_pos_iff.mpr hn
 by_cases h:cut0 s i<i.length
 .have fe:∀ k,(if k then P7 s i else P9 s i)=cut0 s i->∃ j,j<cut0 s i/\far s k (xr i j) (xr i (cut0 s i)):=by
   intro k hk
   have e:0+fbs (!k) s (i.drop 0)=cut0 s i:=by
    rw[<-hk,drop_zero,Nat.zero_add]
    cases k <;> rfl
   obtain⟨_,_,O⟩:=zf9 (!k) s hs i 0 _ hp e h
   obtain⟨j,_,z,G⟩:=ze6 O (by omega)
   rw[Bool.not_not]at G
   exact⟨j,z,G⟩
  have hk:(if Y9 s i then P7 s i else P9 s i)=cut0 s i:=by
   unfold Y9 cut0
   by_cases w:P9 s i<P7 s i
   .rw[decide_eq_true w];simp;omega
   .rw[decide_eq_false w];simp;omega
  obtain⟨j,I,z⟩:=fe _ hk
  obtain⟨l,N,R⟩:=xk7 i s hs 1000 (Y9 s i) (cut0 s i) j I h z
  exact⟨j::l,.inr ⟨_,N⟩,by simp only[length_cons];rw[R];rfl⟩
 .refine⟨[0],.inr ⟨true,hp⟩,?_⟩
  unfold Z5
  rw[K4 s i _ _ _ (by omega)];rfl
theorem zh4 {k:Bool}{s:Int}{z:List Int}{st e:Nat}(G:e<=z.length)(h:∀ p q,st<=p->p<q->q<e->¬ far s (!k) (xr z p) (xr z q)):pr k s (seg z (st,e))=true:=by
 rw[zv6,pairwise_iff_getElem]
 have O:(seg z (st,e)).length=e-st:=by unfold seg;simp;omega
 intro i j hi I N
 have a:=J2 z st e (st+i) (by omega) (by omega) G
 have b:=J2 z st e (st+j) (by omega) (by omega) G
 rw[show st+i-st=i by omega,getElem?_eq_getElem hi]at a
 rw[show st+j-st=j by omega,getElem?_eq_getElem I]at b
 have:=h (st+i) (st+j) (by omega) (by omega) (by omega)
 rw[R1,F7,<-Option.some.inj a,<-Option.some.inj b]at this
 unfold rel
 omega
theorem zs4 (k:Bool)(s:Int)(hs:1<=s)(i:List Int)(c e:Nat)(z:c<=e)(j:e<=i.length)(hn:e<=c+fbs k s (i.drop c)):pr k s (seg i (c,e))=true:=by
 have a:=ys7 k s hs i c e z j
 rw[decide_eq_false (by omega)]at a
 cases h:pr k s (seg i (c,e))with
 |true=>rfl
 |false=>rw[h]at a;cases a
theorem zu6 (s:Int)(hs:1<=s)(i:List Int):∀(f:Nat)(k:Bool)(l c:Nat),l<c->rise i.length l (O0 s i f k c)
 |0,_,_,_,_=>True.intro
 |f+1,k,l,c,h=>by
  rw[O0]
  split
  .rename_i hc
   have:=N2 k s hs i c hc
   exact⟨h,hc,zu6 s hs i f _ c _ (by omega)⟩
  .exact True.intro
theorem zj1 (s:Int)(hs:1<=s)(i:List Int):∀(f:Nat)(k:Bool)(st c:Nat),i.length-c<f->st<=c->pr k s (seg i (st,min c i.length))=true->alt s i k st (O0 s i f (!k) c)=true
 |0,_,_,_,h,_,_=>by omega
 |f+1,k,st,c,h,hst,hp=>by
  rw[O0]
  split
  .rename_i hc
   have hpos:=N2 (!k) s hs i c hc
   rw[Nat.min_eq_left (by omega)]at hp
   show (pr k s (seg i (st,c))&&alt s i (!k) c (O0 s i f (!(!k)) (c+fbs (!k) s (i.drop c))))=true
   rw[hp,Bool.true_and]
   exact zj1 s hs i f (!k) c _ (by omega) (by omega) (zs4 _ s hs i c _ (by omega) (by omega) (by omega))
  .rename_i hc
   rw[Nat.min_eq_right (by omega)]at hp
   exact hp
theorem zn2 (i:List Int)(s:Int)(hs:1<=s)(hr:i.length<=300):rise i.length 0 (Z5 s i)/\pr (!(Y9 s i)) s (i.take (ent i.length (Z5 s i)))=true/\alt s i (Y9 s i) 0 (Z5 s i).tail=true:=by
 have a3:P9 s i<=i.length:=xv2 _ _ _
 have a1:P7 s i<=i.length:=xv2 _ _ _
 have O:∀ k,fbs k s (i.drop 0)=if k then P9 s i else P7 s i:=by intro k;rw[drop_zero];cases k <;> rfl
 have G:∀ k,pr k s (seg i (0,cut0 s i))=true:=fun k=>zs4 k s hs i 0 _ (Nat.zero_le _) (by unfold cut0;omega) (by rw[O k];unfold cut0;cases k <;> simp <;> omega)
 by_cases h:cut0 s i<i.length
 .have hp:0<i.length:=by omega
  have e:Z5 s i=cut0 s i::O0 s i 999 (!(Y9 s i)) (cut0 s i+fbs (Y9 s i) s (i.drop (cut0 s i))):=by
   unfold Z5
   rw[show (1000:Nat)=999+1 from rfl,O0,if_pos h]
  have c0:0<cut0 s i:=by
   have a:=N2 true s hs i 0 hp
   have b:=N2 false s hs i 0 hp
   rw[O]at a b
   unfold cut0
   simp at a b
   omega
  have hk:fbs (!(Y9 s i)) s (i.drop 0)=cut0 s i:=by
   rw[O]
   unfold Y9 cut0
   by_cases w:P9 s i<P7 s i
   .rw[decide_eq_true w];simp;omega
   .rw[decide_eq_false w];simp;omega
  obtain⟨_,_,g3⟩:=zf9 (!(Y9 s i)) s hs i 0 (cut0 s i) hp (by rw[hk];omega) h
  obtain⟨j,_,U,S⟩:=ze6 g3 (by omega)
  rw[Bool.not_not]at S
  have R:=(yz3 s hs (seg i (0,cut0 s i))).mp ⟨(zv6 _ _ _).mp (G true),(zv6 _ _ _).mp (G false)⟩
  have mem:∀ p,p<cut0 s i->xr i p∈seg i (0,cut0 s i):=fun p hp=>mem_of_getElem? (J2 i 0 (cut0 s i) p (Nat.zero_le _) hp (by omega))
  generalize a2:Y9 s i=k at*
  generalize a4:cut0 s i=c1 at*
  have hpos:=N2 k s hs i c1 h
  have p2:pr k s (seg i (c1,min (c1+fbs k s (i.drop c1)) i.length))=true:=zs4 k s hs i c1 _ (by omega) (by omega) (by omega)
  have Z:pr k s (seg i (0,min (c1+fbs k s (i.drop c1)) i.length))=true:=by
   refine zh4 (by omega) fun p q _ I Y N=>?_
   rcases Nat.lt_or_ge q c1 with z|z
   .exact S0 (G k) (Nat.zero_le _) I z (by omega) N
   .rcases Nat.lt_or_ge p c1 with y|y
    .have n1:=R _ (mem p y) _ (mem j U)
     have n2:=R _ (mem j U) _ (mem p y)
     rw[R1,F7]at N
     rw[R1]at S
     rcases Nat.lt_or_ge c1 q with x|x
     .have:=S0 p2 (Nat.le_refl _) x Y (by omega)
      rw[R1,F7]at this
      unfold gn at*
      cases k <;> simp at* <;> omega
     .have:q=c1:=by omega
      subst this
      unfold gn at*
      cases k <;> simp at* <;> omega
    .exact S0 p2 y I Y (by omega) N
  rw[e]
  refine⟨⟨c0,h,zu6 s hs i _ _ _ _ (by omega)⟩,G (!k),?_⟩
  exact zj1 s hs i 999 k 0 _ (by omega) (by omega) Z
 .have e:Z5 s i=[]:=K4 s i _ _ _ (by omega)
  have ec:cut0 s i=i.length:=by unfold cut0 at*;omega
  rw[ec]at G
  rw[e]
  exact⟨True.intro,G _,G _⟩
abbrev BW (η:List Int)(s:Int):List Nat->Prop:=Best (Wv (xr η) η.length s)
theorem xd5 {i:List Int}{s:Int}{l:List Nat}(h:BW i s l)(hn:i.isEmpty=true):l.length=0:=by
 have:i=[]:=by simpa using hn
 subst this
 rcases h.1 with rfl|⟨d,hd⟩
 .rfl
 .cases l with
  |nil=>rfl
  |cons p l=>have:=hd.lt;simp at this
theorem yy7 {i:List Int}{s:Int}(hs:1<=s)(G:i.length<=300){l:List Nat}(h:BW i s l):(if i.isEmpty then 0 else 1+(((NI (Z5 s i)).length:Nat):Int))=(l.length:Int):=by
 have I:(NI (Z5 s i)).length=(Z5 s i).length:=by unfold NI;simp
 rw[I]
 cases hn:i.isEmpty with
 |true=>rw[xd5 h hn];rfl
 |false=>
  have j:i≠[]:=by intro z;rw[z]at hn;cases hn
  obtain⟨a,b,c⟩:=zn2 i s hs G
  have u:=zh7 i s _ _ a b c h.1
  obtain⟨m,hm,em⟩:=yr9 i s hs j
  have v:=h.len m hm
  simp only[Bool.false_eq_true,if_false]
  omega
end
section
open PySem L2
theorem k8 {f:D->D->Option D}{x y:ME}{ρ:Ro}{a b:D}(h1:x ρ=some a)(h2:y ρ=some b):m2 f x y ρ=f a b:=by
 unfold m2;rw[h1,h2];rfl
theorem zb9 {i:Type}(f:Nat->i)(j:Nat):(List.range (j+1)).map f=(List.range j).map f++[f j]:=by
 rw[range_succ,map_append];rfl
noncomputable def abv (η:List Int)(s:Int)(d:Bool)(p:Nat):List Nat:=((List.range (η.length-(p+1))).map fun j=>p+1+j).filter fun q=>decide (far s d (xr η p) (xr η q))
theorem abv_mem {i:List Int}{s:Int}{d:Bool}{p q:Nat}:q∈abv i s d p↔p<q/\q<i.length/\far s d (xr i p) (xr i q):=by
 unfold abv
 rw[mem_filter,mem_map,decide_eq_true_eq]
 constructor
 .rintro⟨⟨j,hj,rfl⟩,h⟩
  have:=List.mem_range.mp hj
  exact⟨by omega,by omega,h⟩
 .rintro⟨h1,h2,h3⟩
  exact⟨⟨q-(p+1),List.mem_range.mpr (by omega),by omega⟩,h3⟩
theorem zx1 (i:List Int)(s:Int)(d:Bool)(p:Nat):(abv i s d p).length<=i.length:=by
 unfold abv
 refine Nat.le_trans (length_filter_le _ _) ?_
 rw[length_map,length_range];omega
noncomputable def zk4 (η:List Int)(s:Int)(A B:List (List Nat))(o4 o5:Option S):Ro:=[k0a η,k0c s,some (.own (A.map L)),some (.own (B.map L)),o4,o5]
theorem ye8 (z:List Int)(p:Nat)(G:z.length<=300)(hp:p<z.length):X1 ((p:Int)+1) ((z.length:Int)-((p:Int)+1)).toNat=((List.range (z.length-(p+1))).map fun j=>p+1+j).map dN:=by
 rw[P1,show ((z.length:Int)-((p:Int)+1)).toNat=z.length-(p+1)by omega,map_map]
 apply map_congr_left
 intro i _
 show D.int _=D.int _
 congr 1
theorem yy2 (i:List Int)(s:Int)(d:Bool)(p:Nat)(N:i.length<=300)(hp:p<i.length)(A B:List (List Nat))(z:MB)
  (O:∀ q:Nat,q<i.length->z [some (.sh (dN q)),k0c s,some (.sh (.int (xr i p))),k0a i]=some (decide (far s d (xr i p) (xr i q)))):
  T4 [none,some 1,some 5,some 0] (g9 rng2 (z7 (m2 addD (mvar 4) (mc (.int 1))) (z7 (mlen (bvar 0)) anil))) (.nm 0) z (mvar 0) (zk4 i s A B (k0b p) (some (.sh (.int (xr i p)))))=some ((abv i s d p).map dN):=by
 have k1:okR ((p:Int)+1)=true:=T0 (by omega) (by omega)
 have k2:okR (i.length:Int)=true:=T0 (by omega) (by omega)
 have e1:g9 rng2 (z7 (m2 addD (mvar 4) (mc (.int 1))) (z7 (mlen (bvar 0)) anil)) (zk4 i s A B (k0b p) (some (.sh (.int (xr i p)))))=some (((List.range (i.length-(p+1))).map fun j=>p+1+j).map dN):=by
  unfold zk4
  simp_arith [length_map,zi9 k1 k2,ye8 i p N hp]
 unfold T4
 rw[e1,Option.bind_some]
 show T6 _ _ _ _ [none,k0c s,some (.sh (.int (xr i p))),k0a i] []=_
 rw[U0 (f:=dN) (p:=fun q=>decide (far s d (xr i p) (xr i q))) (G:=dN) (fun qs ρ=>(∀ q∈qs,q<i.length)/\∃ o,ρ=[o,k0c s,some (.sh (.int (xr i p))),k0a i])
  (by
   rintro q qs ρ ⟨I,o,rfl⟩
   exact⟨_,rfl,O q (I q (by simp)),fun _=>rfl,fun r N=>I r (by simp[N]),_,rfl⟩) _ _ [] ⟨fun q I=>by
    obtain⟨j,R,rfl⟩:=List.mem_map.mp I
    have:=List.mem_range.mp R
    omega,_,rfl⟩ (o0 (by simp;omega)),nil_append]
 rfl
theorem U4 (z:List Int)(s:Int)(U:z.length<=300):zg6 [.lst (z.map .int),.int s]=some (.sh (.tup [.lst (((List.range z.length).map (abv z s true)).map L),.lst (((List.range z.length).map (abv z s false)).map L)])):=by
 unfold zg6 b_Z16
 refine D9 ?_
 have a1:=m5
 have S:0<=sizeLine:=Nat.zero_le _
 have i2:2<=sizeLine:=o0 (by decide)
 refine u3 (ρ':=[k0a z,k0c s,some (.own []),none,none,none]) (by unfold X3;rw[t7 y8 S];rfl) ?_
 refine u3 (ρ':=zk4 z s [] [] none none) (by unfold X3;rw[t7 y8 S];rfl) ?_
 have ee:g9 yi6 (z7 (mvar 0) anil) (zk4 z s [] [] none none)=some ((List.range z.length).map fun(i:Nat)=>D.tup [.int (i:Int),.int (xr z i)]):=by
  unfold g9
  rw[z6 (x:=mvar 0) (d:=.lst (z.map .int)) rfl y8,Option.bind_some]
  show some (zw4 0 (z.map .int))=_
  rw[zk5]
  congr 1
  apply map_congr_left
  intro i _
  rw[Nat.zero_add]
 refine Z0 (W9 z.length (f:=fun(i:Nat)=>D.tup [.int (i:Int),.int (xr z i)]) ee
  (I:=fun j ρ=>∃ R O,ρ=zk4 z s ((List.range j).map (abv z s true)) ((List.range j).map (abv z s false)) R O) _ ⟨_,_,rfl⟩ ?_ ?_)
 .rintro j ρ hj ⟨R,O,rfl⟩
  refine⟨zk4 z s ((List.range j).map (abv z s true)) ((List.range j).map (abv z s false)) (k0b j) (some (.sh (.int (xr z j)))),rfl,?_⟩
  unfold yz7
  have Y:∀ q:Nat,q<z.length->mix (bvar 3) (mvar 0) [some (.sh (dN q)),k0c s,some (.sh (.int (xr z j))),k0a z]=some (.int (xr z q)):=fun q G=>V6 rfl rfl (zu7 z q G)
  have c1:=yy2 z s true j U hj ((List.range j).map (abv z s true)) ((List.range j).map (abv z s false)) (u4 (m2 geD (m2 subD (mix (bvar 3) (mvar 0)) (mvar 2)) (mvar 1))) (fun q G=>by
   rw[zv0 ((k8 (Y q G) rfl).trans (show subD (.int (xr z q)) (.int (xr z j))=some (.int (xr z q-xr z j))from rfl)) rfl]
   unfold far;simp)
  have c2:=yy2 z s false j U hj ((List.range (j+1)).map (abv z s true)) ((List.range j).map (abv z s false)) (u4 (m2 geD (m2 subD (mvar 2) (mix (bvar 3) (mvar 0))) (mvar 1))) (fun q G=>by
   rw[zv0 ((k8 (show mvar 2 _=some (.int (xr z j))from rfl) (Y q G)).trans (show subD (.int (xr z j)) (.int (xr z q))=some (.int (xr z j-xr z q))from rfl)) rfl]
   unfold far;simp)
  have N:∀(ρ:Ro)(i:Nat)(M:List (List Nat))(m:ML)(l:List Nat),ρ[i]? =some (some (.own (M.map L)))->m ρ=some (l.map dN)->M.length<sizeLine->mapp i (mlst m) ρ=some (.nx (ρ.set i (some (.own ((M++[l]).map L))))):=by
   intro ρ i M m l h1 h2 Z
   unfold mapp
   rw[h1,i7 h2]
   show (some (D.lst (l.map dN))).bind (fun d=>if (M.map L).length<sizeLine then some (Out.nx (ρ.set i (some (.own (M.map L++[d])))))else none)=_
   rw[Option.bind_some,if_pos (by rw[length_map];exact Z),map_append]
   rfl
  refine u3 (ρ':=zk4 z s ((List.range (j+1)).map (abv z s true)) ((List.range j).map (abv z s false)) (k0b j) (some (.sh (.int (xr z j))))) ?_ ?_
  .rw[N _ 2 _ _ _ rfl c1 (by simp;omega),<-zb9]
   rfl
  .refine⟨_,N _ 3 _ _ _ rfl c2 (by simp;omega),?_⟩
   rw[<-zb9]
   exact⟨_,_,rfl⟩
 .rintro ρ ⟨R,O,rfl⟩
  unfold yz6
  refine g5 (ds:=((List.range z.length).map (abv z s false)).map L) rfl (g5 (ds:=((List.range z.length).map (abv z s true)).map L) rfl ⟨_,Z7 (R9 (z6 (d:=.lst (((List.range z.length).map (abv z s true)).map L)) rfl (z6 (d:=.lst (((List.range z.length).map (abv z s false)).map L)) rfl y8)) i2),rfl⟩)
theorem ye0 (ns:List Nat):(ns.map fun(k:Nat)=>(k:Int)).sum=((ns.sum:Nat):Int):=by
 induction ns with
 |nil=>rfl
 |cons n ns i=>rw[map_cons,sum_cons,sum_cons,i];omega
theorem dns (ns:List Nat):ns.map dN=(ns.map fun(k:Nat)=>(k:Int)).map .int:=by rw[map_map];rfl
theorem ym2 {m:ML}{ρ:Ro}{ns:List Nat}(h:m ρ=some (ns.map dN)):msum m ρ=some (dN ns.sum):=by
 unfold msum
 rw[h,dns]
 simp only[zy0,ye0]
 rfl
end
section
open PySem L2
end
section
open PySem L2
theorem g8 {x:ME}{ρ:Ro}{b:Bool}(h:x ρ=some (.bl b)):u4 x ρ=some b:=by unfold u4;rw[h]
theorem C3 {i:Nat}{x:ML}{ρ:Ro}{ds:List D}(h:x ρ=some ds):X3 i x ρ=some (.nx (ρ.set i (some (.own ds)))):=by unfold X3;rw[h];rfl
end
section
open PySem L2
noncomputable def PN (q:Nat×Nat):D:=.tup [dN q.1,dN q.2]
theorem xp1 (ns:List Nat):∃ v:Nat,maxI (0::ns.map fun(k:Nat)=>(k:Int))=(v:Int)/\(∀ y∈ns,y<=v)/\(v=0\/v∈ns):=by
 have hm:maxI (0::ns.map fun(k:Nat)=>(k:Int))∈0::ns.map fun(k:Nat)=>(k:Int):=zb8 (by simp)
 have j:∀ y∈ns,(y:Int)<=maxI (0::ns.map fun(k:Nat)=>(k:Int)):=fun y i=>yk4 (mem_cons_of_mem _ (List.mem_map.mpr ⟨y,i,rfl⟩))
 generalize maxI (0::ns.map fun(k:Nat)=>(k:Int))=w at hm j
 rcases List.mem_cons.mp hm with h|h
 .exact⟨0,by rw[h];rfl,fun y i=>by have:=j y i;omega,.inl rfl⟩
 .obtain⟨y,i,e⟩:=List.mem_map.mp h
  exact⟨y,e.symm,fun z G=>by have:=j z G;rw[<-e]at this;omega,.inr i⟩
theorem xe3 (a b:Nat):eqSD (.int (a:Int)) (.int (b:Int))=some (.bl (decide (a=b))):=by
 show some (D.bl ((a:Int)==(b:Int)))=_
 by_cases h:a=b
 .rw[h,beq_self_eq_true,decide_eq_true rfl]
 .rw[decide_eq_false h,beq_eq_false_iff_ne.mpr (by omega)]
theorem zy4 {mi:ML}{ρ:Ro}(T:List (Nat×Nat))(h:mi ρ=some (T.map PN))(j:T.length<=1000):T4 [none,none] mi (.tp [0,1]) cyes (mvar 0) ρ=some ((T.map (·.1)).map dN):=by
 have i:=m5
 unfold T4
 rw[h,Option.bind_some]
 show T6 _ _ _ _ [none,none] []=_
 rw[Q7 (f:=PN) (G:=fun q=>dN q.1) (fun _ ρ=>∃ x y,ρ=[x,y]) (by
  rintro q qs ρ ⟨x,y,rfl⟩
  exact⟨[some (.sh (dN q.1)),some (.sh (dN q.2))],rfl,rfl,rfl,_,_,rfl⟩) T _ [] ⟨none,none,rfl⟩ (by simp;omega),nil_append,map_map]
 rfl
theorem zd4 {mi:ML}{ρ:Ro}{i:Nat}(T:List (Nat×Nat))(v:Nat)(h:mi ρ=some (T.map PN))(j:zq3 [none,none,some i] ρ=[none,none,some (.sh (dN v))])(I:T.length<=1000):T4 [none,none,some i] mi (.tp [0,1]) (u4 (m2 eqSD (mvar 0) (mvar 2))) (mvar 1) ρ=some (((T.filter fun q=>decide (q.1=v)).map (·.2)).map dN):=by
 have z:=m5
 unfold T4
 rw[h,Option.bind_some,j]
 show T6 _ _ _ _ [none,none,some (.sh (dN v))] []=_
 rw[U0 (f:=PN) (p:=fun q=>decide (q.1=v)) (G:=fun q=>dN q.2) (fun _ ρ=>∃ x y,ρ=[x,y,some (.sh (dN v))]) (by
  rintro q qs ρ ⟨x,y,rfl⟩
  exact⟨[some (.sh (dN q.1)),some (.sh (dN q.2)),some (.sh (dN v))],rfl,g8 ((k8 (a:=dN q.1) (b:=dN v) rfl rfl).trans (xe3 q.1 v)),fun _=>rfl,_,_,rfl⟩) T _ [] ⟨none,none,rfl⟩ (by simp;omega),nil_append,map_map]
 rfl
theorem J9 (T:List (Nat×Nat))(S:T.length<=300):∃ v:Nat,(∀ q∈T,q.1<=v)/\(v=0\/∃ q∈T,q.1=v)/\m_Z3 [.lst (T.map PN)]=some (.sh (PN (v+1,((((0,1)::T).filter fun q=>decide (q.1=v)).map (·.2)).sum))):=by
 obtain⟨v,e,I,G⟩:=xp1 (T.map (·.1))
 refine⟨v,fun q j=>I _ (List.mem_map.mpr ⟨q,j,rfl⟩),?_,?_⟩
 .rcases G with z|z
  .exact .inl z
  .obtain⟨q,j,z⟩:=List.mem_map.mp z
   exact .inr ⟨q,j,z⟩
 have R:=m5
 have i2:2<=sizeLine:=o0 (by decide)
 have i1:1<=sizeLine:=o0 (by decide)
 unfold m_Z3 b_Z3
 refine j6 ?_
 have c1:=zr8 (t7 (m:=z7 (mtup (z7 (mc (.int 0)) (z7 (mc (.int 1)) anil))) anil) (ρ:=u7 3 [.lst (T.map PN)]) (z6 (R9 (z6 (d:=.int 0) rfl (z6 (d:=.int 1) rfl y8)) i2) y8) i1) (show bvar 0 (u7 3 [.lst (T.map PN)])=some (T.map PN)from rfl) (by simp;omega)
 refine seqI (ρ':=[some (.sh (.lst (T.map PN))),some (.sh (.lst ((((0,1)::T:List (Nat×Nat))).map PN))),none]) ((j9 (i7 c1)).trans rfl) ?_
 have c2:=zy4 (mi:=p5 (mvar 1)) (ρ:=[some (.sh (.lst (T.map PN))),some (.sh (.lst ((((0,1)::T:List (Nat×Nat))).map PN))),none]) ((0,1)::T) (l6 rfl) (by simp;omega)
 have c3:=yb0 (x:=0) (r:=(T.map (·.1)).map fun(k:Nat)=>(k:Int)) (c2.trans (by rw[map_cons,dns];rfl))
 rw[e]at c3
 refine seqI (ρ':=[some (.sh (.lst (T.map PN))),some (.sh (.lst ((((0,1)::T:List (Nat×Nat))).map PN))),some (.sh (dN v))]) ((j9 c3).trans rfl) ?_
 have O:=ym2 (zd4 (mi:=p5 (mvar 1)) (i:=2) (ρ:=[some (.sh (.lst (T.map PN))),some (.sh (.lst ((((0,1)::T:List (Nat×Nat))).map PN))),some (.sh (dN v))]) ((0,1)::T) v (l6 rfl) rfl (by simp;omega))
 have N:m2 addD (mvar 2) (mc (.int 1)) [some (.sh (.lst (T.map PN))),some (.sh (.lst ((((0,1)::T:List (Nat×Nat))).map PN))),some (.sh (dN v))]=some (dN (v+1)):=(k8 (a:=dN v) (b:=.int 1) rfl rfl).trans rfl
 exact Z7 (R9 (z6 N (z6 O y8)) i2)
end
section
open PySem L2
theorem wy1 (T:List (Nat×Nat))(q:Nat)(h:q<T.length):atI (T.map PN) (q:Int)=some (PN (T.getD q (0,0))):=by
 have:=zy9 PN T (q:Int) (by omega) (by omega) (0,0)
 rw[Int.toNat_natCast]at this
 exact this
noncomputable def envX (η:List Int)(s:Int)(A B:List (Nat×Nat))(o6:Option S):Ro:=[k0a η,k0c s,some (.sh (.lst (((List.range η.length).map (abv η s true)).map L))),some (.sh (.lst (((List.range η.length).map (abv η s false)).map L))),some (.own (A.map PN)),some (.own (B.map PN)),o6,none]
theorem xc0 (i:List Int)(s:Int)(d:Bool)(p:Nat)(h:p<i.length):atI (((List.range i.length).map (abv i s d)).map L) (p:Int)=some (L (abv i s d p)):=by
 have:=at_L ((List.range i.length).map (abv i s d)) p (by simp;omega)
 rw[this,getD_eq_getElem?_getD,getElem?_map,getElem?_range h];rfl
theorem xx3 (i:Nat)(A:List (Nat×Nat))(p:Nat)(q:Nat×Nat)(x:ME)(ρ:Ro)(hi:ρ[i]? =some (some (.own (A.map PN))))(hp:mvar 6 ρ=some (.int (p:Int)))(G:x ρ=some (PN q))(z:p<A.length):W4 i (mvar 6) x ρ=some (.nx (ρ.set i (some (.own ((A.set p q).map PN))))):=by
 unfold W4
 rw[G,hi,hp]
 show ((ixN (A.map PN).length (p:Int)).map fun j=>Out.nx (ρ.set i (some (.own ((A.map PN).set j (PN q))))))=_
 rw[length_map,zf0 _ _ z]
 show some (Out.nx _)=_
 rw[map_set]
theorem wz9 (a b:Nat):gtI (dN b) (dN a)=some (decide (a<b)):=by
 show some (decide ((a:Int)<(b:Int)))=_
 congr 1
 apply decide_eq_decide.mpr
 omega
theorem zg4:∀(ns:List Nat)(a:Nat),∃ v,maxP (ns.map dN) (dN a)=some (dN v)/\(∀ y∈a::ns,y<=v)/\v∈a::ns
 |[],a=>⟨a,rfl,by simp,by simp⟩
 |b::ns,a=>by
  rw[map_cons,maxP,wz9]
  by_cases h:a<b
  .rw[decide_eq_true h]
   obtain⟨v,e,i,G⟩:=zg4 ns b
   refine⟨v,e,fun y j=>?_,mem_cons_of_mem _ G⟩
   rcases List.mem_cons.mp j with z|z
   .have:=i b (by simp);omega
   .exact i y z
  .rw[decide_eq_false h]
   obtain⟨v,e,i,G⟩:=zg4 ns a
   refine⟨v,e,fun y j=>?_,?_⟩
   .rcases List.mem_cons.mp j with z|z
    .exact i y (by simp[z])
    .rcases List.mem_cons.mp z with z|z
     .have:=i a (by simp);omega
     .exact i y (by simp[z])
   .rcases List.mem_cons.mp G with z|z
    .simp[z]
    .simp[z]
theorem xp2 (ns:List Nat):∃ v,maxE (ns.map dN) (.int 0)=some (dN v)/\(∀ y∈ns,y<=v)/\(ns=[]/\v=0\/v∈ns):=by
 cases ns with
 |nil=>exact⟨0,rfl,by simp,.inl ⟨rfl,rfl⟩⟩
 |cons a ns=>
  obtain⟨v,e,j,i⟩:=zg4 ns a
  exact⟨v,e,j,.inr i⟩
theorem mmaxE_ev {m:ML}{i:ME}{ρ:Ro}{ds:List D}{d0:D}(h1:m ρ=some ds)(h2:i ρ=some d0):zm2 m i ρ=maxE ds d0:=by
 unfold zm2
 rw[h1,h2];rfl
theorem yt2 (n:Nat):(List.replicate n [D.tup [.int 0,.int 0]]).flatten=((List.range n).map fun _=>((0,0):Nat×Nat)).map PN:=by
 induction n with
 |zero=>rfl
 |succ n i=>rw[replicate_succ',flatten_append,i,range_succ,map_append,map_append];rfl
theorem D7 (i:List Int)(N:i.length<=300)(ρ:Ro)(z:bvar 0 ρ=some (i.map .int)):mrep (u8 (z7 (mtup (z7 (mc (.int 0)) (z7 (mc (.int 0)) anil))) anil)) (mlen (bvar 0)) ρ=some (((List.range i.length).map fun _=>((0,0):Nat×Nat)).map PN):=by
 have I:=m5
 have i2:2<=sizeLine:=o0 (by decide)
 have i1:1<=sizeLine:=o0 (by decide)
 have j:zo6 1 (i.length:Int)=true:=by
  unfold zo6
  rw[decide_eq_true (by omega),decide_eq_true (by omega),decide_eq_true (by rw[Int.toNat_natCast];omega)];rfl
 have G:mlen (bvar 0) ρ=some (.int (i.length:Int)):=by rw[Z2 z,length_map]
 have rp:=ym5 (x:=u8 (z7 (mtup (z7 (mc (.int 0)) (z7 (mc (.int 0)) anil))) anil)) (ρ:=ρ) (t7 (z6 (R9 (z6 (d:=.int 0) rfl (z6 (d:=.int 0) rfl y8)) i2) y8) i1) G j
 rw[Int.toNat_natCast,yt2]at rp
 exact rp
noncomputable def envZ (η:List Int)(s:Int)(A B:List (Nat×Nat))(o6 o7:Option S):Ro:=[k0a η,k0c s,some (.sh (.lst (((List.range η.length).map (abv η s true)).map L))),some (.sh (.lst (((List.range η.length).map (abv η s false)).map L))),some (.sh (.lst (A.map PN))),some (.sh (.lst (B.map PN))),o6,o7]
theorem yh9 (i:List Int)(s:Int)(A B:List (Nat×Nat))(z j:Option S)(N:A.length<=300)(I:B.length<=300):p5 (m2 addD (mvar 4) (mvar 5)) (envZ i s A B z j)=some ((A++B).map PN):=by
 have G:=m5
 refine l6 ((k8 (a:=.lst (A.map PN)) (b:=.lst (B.map PN)) rfl rfl).trans ?_)
 show (if (A.map PN).length+(B.map PN).length<=sizeLine then some (D.lst (A.map PN++B.map PN))else none)=_
 rw[if_pos (by rw[length_map,length_map];omega),map_append]
theorem zd7 {i:List Int}{s:Int}(hr:i.length<=300)(p:Nat)(S:p<i.length)(d:Bool)(j I:Nat)(ρ:Ro)(A:List (Nat×Nat))(N:A.length=i.length)(ha:bvar j ρ=some (((List.range i.length).map (abv i s d)).map L))(hp:mvar 6 ρ=some (.int (p:Int)))
  (U:E5 [none,some I] ρ=[none,some (.own (A.map PN))]):Q4 [none,some I] (p5 (mix (bvar j) (mvar 6))) (.nm 0) cyes (mix (bvar 1) (mvar 0)) ρ=some (((abv i s d p).map fun q=>A.getD q (0,0)).map PN):=by
 have a1:=m5
 have la:=zx1 i s d p
 have Z:p5 (mix (bvar j) (mvar 6)) ρ=some ((abv i s d p).map dN):=l6 (V6 ha hp (xc0 i s d p S))
 unfold Q4
 rw[Z,Option.bind_some,U]
 rw[Q7 (f:=dN) (G:=fun q=>PN (A.getD q (0,0))) (fun es ρ=>(∀ q∈es,q<i.length)/\∃ o,ρ=[o,some (.own (A.map PN))]) (fun q es ρ Y=>by
  obtain⟨h,o,rfl⟩:=Y
  exact⟨[some (.sh (dN q)),some (.own (A.map PN))],rfl,rfl,V6 (ds:=A.map PN) (k:=(q:Int)) rfl rfl (wy1 _ q (by rw[N];exact h q (by simp))),fun z O=>h z (by simp[O]),_,rfl⟩) (abv i s d p) _ [] ⟨fun q R=>(abv_mem.mp R).2.1,none,rfl⟩ (by simp;omega),nil_append,map_map]
 rfl
theorem yb8 {i:List Int}{s:Int}(G:i.length<=300)(A B:List (Nat×Nat))(U:A.length=i.length)(N:B.length=i.length)(p:Nat)(hp:p<i.length):
  ∃ O B':List (Nat×Nat),O.length=i.length/\B'.length=i.length/\ze8 (envX i s A B (k0b p))=some (.nx (envX i s O B' (k0b p))):=by
 unfold ze8
 have jn:∀(d:Bool)(C:List (Nat×Nat)),∃ q,m_Z3 [.lst (((abv i s d p).map fun q=>C.getD q (0,0)).map PN)]=some (.sh (PN q)):=fun d C=>by
  obtain⟨v,_,_,e⟩:=J9 ((abv i s d p).map fun q=>C.getD q (0,0)) (by rw[length_map];exact Nat.le_trans (zx1 i s d p) G)
  exact⟨_,e⟩
 obtain⟨j,Z⟩:=jn true B
 have S:=zd7 (s:=s) G p hp true 2 5 (envX i s A B (k0b p)) B N rfl rfl rfl
 have p1:=xx3 4 A p j _ (envX i s A B (k0b p)) rfl rfl (u6 (z6 (i7 S) y8) Z) (by omega)
 obtain⟨I,Y⟩:=jn false (A.set p j)
 have z:(A.set p j).length=i.length:=by rw[length_set,U]
 have R:=zd7 (s:=s) G p hp false 3 4 (envX i s (A.set p j) B (k0b p)) (A.set p j) z rfl rfl rfl
 have p2:=xx3 5 B p I _ (envX i s (A.set p j) B (k0b p)) rfl rfl (u6 (z6 (i7 R) y8) Y) (by omega)
 exact⟨A.set p j,B.set p I,z,by rw[length_set,N],seqI (p1.trans rfl) (p2.trans rfl)⟩
theorem zu1 (z:List Int)(s:Int)(hs:1<=s)(N:z.length<=300):∃ d:Int,m_Z0 [.lst (z.map .int),.int s]=some (.sh (.int d)):=by
 have a1:=m5
 suffices h:Run b_Z0 (u7 8 [.lst (z.map .int),.int s]) (fun o=>∃ d:Int,o= .rt (.int d))by
  obtain⟨o,e,d,rfl⟩:=h
  exact⟨d,by unfold m_Z0;exact j6 e⟩
 unfold b_Z0
 refine u3 (ρ':=[k0a z,k0c s,none,none,none,none,none,none]) ?_ ?_
 .unfold S3
  rw[u6 (z6 (d:=.int s) rfl y8) (g6 s hs)];rfl
 refine u3 (ρ':=[k0a z,k0c s,some (.sh (.lst (((List.range z.length).map (abv z s true)).map L))),some (.sh (.lst (((List.range z.length).map (abv z s false)).map L))),none,none,none,none]) ?_ ?_
 .have e:=u6 (ρ:=[k0a z,k0c s,none,none,none,none,none,none]) (z6 (x:=mvar 0) (d:=.lst (z.map .int)) rfl (z6 (x:=mvar 1) (d:=.int s) rfl y8)) (U4 z s N)
  unfold masg
  rw[e];rfl
 refine u3 (ρ':=[k0a z,k0c s,some (.sh (.lst (((List.range z.length).map (abv z s true)).map L))),some (.sh (.lst (((List.range z.length).map (abv z s false)).map L))),some (.own (((List.range z.length).map fun _=>((0,0):Nat×Nat)).map PN)),none,none,none]) ((C3 (D7 z N _ rfl)).trans rfl) ?_
 refine u3 (ρ':=envX z s ((List.range z.length).map fun _=>(0,0)) ((List.range z.length).map fun _=>(0,0)) none) ((C3 (D7 z N _ rfl)).trans rfl) ?_
 have k2:okR (z.length:Int)=true:=T0 (by omega) (by omega)
 have ed:zw5 z.length=(List.range z.length).map fun(j:Nat)=>D.int ((z.length:Int)-1-(j:Int)):=rfl
 refine Z0 (W9 z.length (f:=fun(j:Nat)=>D.int ((z.length:Int)-1-(j:Int))) ?_
  (I:=fun j ρ=>∃ A B G,A.length=z.length/\B.length=z.length/\ρ=envX z s A B G) _ ⟨_,_,_,by simp,by simp,rfl⟩ ?_ ?_)
 .unfold g9
  rw[z6 (x:=mlen (bvar 0)) (d:=.int ((z.map D.int).length:Int)) (Z2 rfl) y8,Option.bind_some,length_map,zt6 k2,Int.toNat_natCast,ed]
 .intro j ρ hj S
  obtain⟨A,B,G,Y,U,rfl⟩:=S
  obtain⟨A',B',R,O,e⟩:=yb8 (s:=s) N A B Y U (z.length-1-j) (by omega)
  refine⟨envX z s A B (some (.sh (.int ((z.length-1-j:Nat):Int)))),?_,_,e,A',B',_,R,O,rfl⟩
  rw[show (z.length:Int)-1-(j:Int)=((z.length-1-j:Nat):Int)by omega];rfl
 intro ρ S
 obtain⟨A,B,G,Y,U,rfl⟩:=S
 show Run zy8 _ _
 unfold zy8
 refine g5 (ds:=A.map PN) rfl (g5 (ds:=B.map PN) rfl ?_)
 show Run _ (envZ z s A B G none) _
 have eb:=fun o7=>yh9 z s A B G o7 (by omega) (by omega)
 have ef:=zy4 (ρ:=envZ z s A B G none) _ (eb none) (by rw[length_append];omega)
 obtain⟨v,ev,_,_⟩:=xp2 ((A++B).map (·.1))
 refine u3 (ρ':=envZ z s A B G (some (.sh (dN v)))) ((j9 ((mmaxE_ev (d0:=.int 0) ef rfl).trans ev)).trans rfl) ?_
 have Z:u4 (m2 ltD (mvar 7) (mc (.int 2))) (envZ z s A B G (some (.sh (dN v))))=some (decide ((v:Int)<2)):=g8 ((k8 (a:=dN v) (b:=.int 2) rfl rfl).trans rfl)
 by_cases h:(v:Int)<2
 .refine Z0 (zd6 (b:=true) (by rw[Z,decide_eq_true h]) ?_)
  have em:∃ w:Int,Y7 yb6 (z7 (mc (.int 1)) (z7 (mlen (bvar 0)) anil)) (envZ z s A B G (some (.sh (dN v))))=some (.int w):=by
   unfold Y7
   rw[z6 (x:=mc (.int 1)) (d:=.int 1) rfl (z6 (Z2 (ds:=z.map .int) rfl) y8)]
   exact⟨_,rfl⟩
  obtain⟨w,em⟩:=em
  exact⟨.rt (.int w),Z7 em,w,rfl⟩
 .refine Z0 (zd6 (b:=false) (by rw[Z,decide_eq_false h]) (ye5 ?_))
  show Run _ _ _
  exact⟨_,Z7 (ym2 (zd4 (i:=7) (ρ:=envZ z s A B G (some (.sh (dN v)))) _ v (eb _) rfl (by rw[length_append];omega))),_,rfl⟩
end
section
open PySem L2
noncomputable def wt (w:Nat->Int)(l:List Nat):Int:=(l.map w).sum
theorem yt5 (w:Nat->Int)(p:Nat)(l:List Nat):wt w (p::l)=w p+wt w l:=by unfold wt;rw[map_cons,sum_cons]
noncomputable def HT (w:Nat->Int)(l:List Nat):D:=.tup [.int (wt w l),L l]
noncomputable def KH (w:Nat->Int)(l:List Nat):D:=.tup [.int (-(wt w l)),.int (l.length:Int),L l]
theorem keyH (w:Nat->Int)(l:List Nat):m_Z5 [HT w l]=some (.sh (KH w l)):=by
 unfold m_Z5 b_Z5
 have i3:0+1+1+1<=sizeLine:=o0 (by decide)
 refine j6 ?_
 refine seqI (ρ':=[some (.sh (HT w l)),some (.sh (.int (wt w l))),some (.sh (L l))]) rfl ?_
 unfold HT KH L
 simp_arith [i3,if_true,length_map]
theorem zw7:∀ l m:List Nat,∃ b,zipE (eqF 6) (l.map dN) (m.map dN)=some b
 |[],_=>⟨true,by unfold zipE;rfl⟩
 |_::_,[]=>⟨true,rfl⟩
 |a::l,b::m=>by
  obtain⟨c,e⟩:=zw7 l m
  rw[map_cons,map_cons,zipE,e]
  exact⟨_,rfl⟩
theorem zu3:∀ l m:List Nat,∃ b,lexF (eqF 6) (ltF 6) (l.map dN) (m.map dN)=some b
 |[],[]=>⟨_,rfl⟩
 |[],_::_=>⟨_,rfl⟩
 |_::_,[]=>⟨_,rfl⟩
 |a::l,b::m=>by
  obtain⟨c,e⟩:=zu3 l m
  rw[map_cons,map_cons,lexF,show eqF 6 (dN a) (dN b)=some ((a:Int)==(b:Int))from rfl]
  cases ((a:Int)==(b:Int))with
  |true=>exact⟨c,e⟩
  |false=>exact⟨_,rfl⟩
theorem ya2 (w:Nat->Int)(l m:List Nat):∃ b,ltF 8 (KH w l) (KH w m)=some b:=by
 show ∃ b,lexF (eqF 7) (ltF 7) [.int (-(wt w l)),.int (l.length:Int),L l] [.int (-(wt w m)),.int (m.length:Int),L m]=some b
 rw[lexF,show eqF 7 (.int (-(wt w l))) (.int (-(wt w m)))=some (-(wt w l)== -(wt w m))from rfl]
 cases (-(wt w l)== -(wt w m))with
 |false=>exact⟨_,rfl⟩
 |true=>
  simp only
  rw[lexF,show eqF 7 (.int (l.length:Int)) (.int (m.length:Int))=some ((l.length:Int)==(m.length:Int))from rfl]
  cases ((l.length:Int)==(m.length:Int))with
  |false=>exact⟨_,rfl⟩
  |true=>
   simp only
   obtain⟨b,e⟩:=zw7 l m
   have i:eqF 7 (L l) (L m)=some (if (l.map dN).length=(m.map dN).length then b else false):=by
    show (if (l.map dN).length=(m.map dN).length then zipE (eqF 6) (l.map dN) (m.map dN)else some false)=_
    rw[e];split <;> rfl
   rw[lexF,i]
   cases (if (l.map dN).length=(m.map dN).length then b else false)with
   |true=>exact⟨_,rfl⟩
   |false=>exact zu3 l m
theorem zz3 {w:Nat->Int}{mk:D->Option D}(hk:∀ l,mk (HT w l)=some (KH w l)):∀(ls:List (List Nat))(b:List Nat),∃ r,minF mk (ls.map (HT w)) (HT w b) (KH w b)=some (HT w r)/\r∈b::ls
 |[],b=>⟨b,rfl,by simp⟩
 |m::ls,b=>by
  rw[map_cons]
  unfold minF
  rw[hk m]
  obtain⟨c,e⟩:=ya2 w m b
  simp only[e]
  cases c with
  |true=>
   obtain⟨r,e,h1⟩:=zz3 hk ls m
   exact⟨r,e,mem_cons_of_mem _ h1⟩
  |false=>
   obtain⟨r,e,h1⟩:=zz3 hk ls b
   refine⟨r,e,?_⟩
   rcases List.mem_cons.mp h1 with h1|h1
   .simp[h1]
   .simp[h1]
theorem Y0 (w:Nat->Int)(ls:List (List Nat))(z:ls.length<=1000):∃ r,m_Z4 [.lst (ls.map (HT w))]=some (.sh (HT w r))/\r∈[]::ls:=by
 obtain⟨r,e,h1⟩:=zz3 (w:=w) (mk:=fun d=>shOf (m_Z5 [d])) (fun l=>by rw[keyH];rfl) ls []
 refine⟨r,?_,h1⟩
 have j:=m5
 unfold m_Z4 b_Z4
 refine j6 (Z7 ?_)
 have i1:1<=sizeLine:=o0 (by decide)
 have i2:2<=sizeLine:=o0 (by decide)
 have i:u8 (z7 (mtup (z7 (mc (.int 0)) (z7 (mlst (u8 anil)) anil))) anil) (u7 1 [.lst (ls.map (HT w))])=some [HT w []]:=
  t7 (z6 (R9 (z6 (d:=.int 0) rfl (z6 (i7 (t7 y8 (Nat.zero_le _))) y8)) i2) y8) i1
 have e1:mcat (u8 (z7 (mtup (z7 (mc (.int 0)) (z7 (mlst (u8 anil)) anil))) anil)) (bvar 0) (u7 1 [.lst (ls.map (HT w))])=some (HT w []::ls.map (HT w)):=
  zr8 i (show bvar 0 (u7 1 [.lst (ls.map (HT w))])=some (ls.map (HT w))from rfl) (by rw[length_map,length_singleton];omega)
 rw[yc8 e1]
 show (match shOf (m_Z5 [HT w []])with |some kd=>minF _ (ls.map (HT w)) (HT w []) kd|none=>none)=_
 rw[keyH]
 exact e
noncomputable def envH (η ws:List Int)(s:Int)(U V:List (List Nat))(o7 o8 o9:Option S):Ro:=[k0a η,k0c s,k0a ws,some (.sh (.lst (((List.range η.length).map (abv η s true)).map L))),some (.sh (.lst (((List.range η.length).map (abv η s false)).map L))),some (.own (U.map (HT (xr ws)))),some (.own (V.map (HT (xr ws)))),o7,o8,o9]
theorem wy2 (w:Nat->Int)(U:List (List Nat))(p:Nat)(h:p<U.length):atI (U.map (HT w)) (p:Int)=some (HT w (U.getD p [])):=by
 have:=zy9 (HT w) U (p:Int) (by omega) (by omega) []
 rw[Int.toNat_natCast]at this
 exact this
theorem ye9 {i:Type}(f:Nat->i)(n p:Nat)(h:p<n)(d:i):((List.range n).map f).getD p d=f p:=by
 rw[getD_eq_getElem?_getD,getElem?_map,getElem?_range h];rfl
theorem xv1 (j ws:List Int)(s:Int)(hw:ws.length=j.length)(d:Bool)(i z:Nat)(U V M:List (List Nat))(p:Nat)(hp:p<j.length)(N:j.length<=300)(Z:M.length=j.length)(ρ:Ro)
  (hi:ρ[i]? =some (some (.own (M.map (HT (xr ws)))))) (ha:ρ[z]? =some (some (.sh (.lst (((List.range j.length).map (abv j s d)).map L))))) (O:ρ[7]? =some (k0b p)):
  Q4 [none,some i] (p5 (mix (bvar z) (mvar 7))) (.nm 0) cyes (mix (bvar 1) (mvar 0)) ρ=some (((abv j s d p).map fun q=>M.getD q []).map (HT (xr ws))):=by
 have Y:mvar 7 ρ=some (.int (p:Int)):=by unfold mvar;rw[O]
 have S:bvar z ρ=some (((List.range j.length).map (abv j s d)).map L):=by unfold bvar;rw[ha]
 have e1:p5 (mix (bvar z) (mvar 7)) ρ=some ((abv j s d p).map dN):=by
  refine l6 (V6 S Y ?_)
  rw[at_L _ p (by simp;exact hp),ye9 _ _ _ hp];rfl
 have R:E5 [none,some i] ρ=[none,some (.own (M.map (HT (xr ws))))]:=by
  unfold E5
  simp only[map_cons,map_nil,Option.bind_none,Option.bind_some,hi]
 have al:=zx1 j s d p
 unfold Q4
 rw[e1,Option.bind_some,R]
 rw[Q7 (f:=dN) (G:=fun q=>HT (xr ws) (M.getD q [])) (fun qs ρ=>(∀ q∈qs,q<j.length)/\∃ o,ρ=[o,some (.own (M.map (HT (xr ws))))])
  (by
   rintro q qs ρ ⟨I,o,rfl⟩
   have:=I q (by simp)
   exact⟨_,rfl,rfl,V6 (ds:=M.map (HT (xr ws))) (k:=(q:Int)) rfl rfl (wy2 _ M q (by omega)),fun r N=>I r (by simp[N]),_,rfl⟩) (abv j s d p) _ [] ⟨fun q I=>(abv_mem.mp I).2.1,none,rfl⟩ (o0 (by simp only[length_nil];omega)),nil_append,map_map]
 rfl
theorem xx4 (ws:List Int)(i:Nat)(U:List (List Nat))(p:Nat)(r:List Nat)(hp:p<ws.length)(hU:U.length=ws.length)(hr:r.length<=1000)(ρ:Ro)(hi:ρ[i]? =some (some (.own (U.map (HT (xr ws))))))(h2:ρ[2]? =some (k0a ws))(N:ρ[7]? =some (k0b p))
  (I:ρ[8]? =some (some (.sh (.int (wt (xr ws) r))))) (G:ρ[9]? =some (some (.sh (L r)))):
  W4 i (mvar 7) (mtup (z7 (m2 addD (mix (bvar 2) (mvar 7)) (mvar 8)) (z7 (mlst (mcat (u8 (z7 (mvar 7) anil)) (bvar 9))) anil))) ρ=some (.nx (ρ.set i (some (.own ((U.set p (p::r)).map (HT (xr ws))))))):=by
 have Y:=m5
 have i1:1<=sizeLine:=o0 (by decide)
 have i2:2<=sizeLine:=o0 (by decide)
 have z:mvar 7 ρ=some (.int (p:Int)):=by unfold mvar;rw[N]
 have S:mvar 8 ρ=some (.int (wt (xr ws) r)):=by unfold mvar;rw[I]
 have e2:bvar 2 ρ=some (ws.map .int):=by unfold bvar;rw[h2]
 have R:bvar 9 ρ=some (r.map dN):=by unfold bvar;rw[G];rfl
 have a1:m2 addD (mix (bvar 2) (mvar 7)) (mvar 8) ρ=some (.int (wt (xr ws) (p::r))):=by
  rw[k8 (V6 e2 z (zu7 ws p hp)) S,yt5];rfl
 have Z:mlst (mcat (u8 (z7 (mvar 7) anil)) (bvar 9)) ρ=some (L (p::r)):=by
  rw[i7 (zr8 (t7 (z6 z y8) i1) R (by rw[length_map,length_singleton];omega))];rfl
 have O:mtup (z7 (m2 addD (mix (bvar 2) (mvar 7)) (mvar 8)) (z7 (mlst (mcat (u8 (z7 (mvar 7) anil)) (bvar 9))) anil)) ρ=some (HT (xr ws) (p::r)):=R9 (z6 a1 (z6 Z y8)) i2
 unfold W4
 rw[O,hi,z]
 show ((ixN (U.map (HT (xr ws))).length (p:Int)).map fun j=>Out.nx (ρ.set i (some (.own ((U.map (HT (xr ws))).set j (HT (xr ws) (p::r)))))))=_
 rw[length_map,zf0 _ _ (by omega)]
 show some (Out.nx _)=_
 rw[map_set]
theorem xo2 {i:Type}(l:List i)(q:Nat)(h:q<l.length)(d:i):l.getD q d∈l:=by
 rw[getD_eq_getElem?_getD,getElem?_eq_getElem h];exact getElem_mem h
theorem zo0 {U:List (List Nat)}{p N:Nat}{r:List Nat}(h:∀ l∈U,l.length<=N)(i:r.length<=N):∀ l∈U.set p r,l.length<=N:=fun l j=>by
 rcases mem_or_eq_of_mem_set j with z|z
 .exact h l z
 .rw[z];exact i
theorem zd5 {i:List Int}{s:Int}{d:Bool}{p N:Nat}{M:List (List Nat)}(j:M.length=i.length)(z:∀ l∈M,l.length<=N){r:List Nat}(h:r∈[]::(abv i s d p).map fun q=>M.getD q []):r.length<=N:=by
 rcases List.mem_cons.mp h with rfl|h
 .simp
 .obtain⟨q,hq,rfl⟩:=List.mem_map.mp h
  exact z _ (xo2 M q (by rw[j];exact(abv_mem.mp hq).2.1) [])
def Bd (N:Nat)(U V:List (List Nat)):Prop:=(∀ l∈U,l.length<=N)/\∀ l∈V,l.length<=N
theorem xu0 (i ws:List Int)(s:Int)(hw:ws.length=i.length)(hr:i.length<=300)(U V:List (List Nat))(p N:Nat)(hN:N<=700)(hp:p<i.length)(hU:U.length=i.length)(Z:V.length=i.length)(hd:Bd N U V)(o8 o9:Option S):
  ∃ U' V' Y R,U'.length=i.length/\V'.length=i.length/\Bd (N+2) U' V'/\zq7 (envH i ws s U V (k0b p) o8 o9)=some (.nx (envH i ws s U' V' (k0b p) Y R)):=by
 unfold zq7
 have a2:=zx1 i s true p
 have a1:=zx1 i s false p
 obtain⟨j,e1,m1⟩:=Y0 (xr ws) ((abv i s true p).map fun q=>V.getD q []) (by rw[length_map];omega)
 have c1:=xv1 i ws s hw true 6 3 U V V p hp hr Z (envH i ws s U V (k0b p) o8 o9) rfl rfl rfl
 have l1:=zd5 Z hd.2 m1
 have G:(U.set p (p::j)).length=i.length:=by rw[length_set];exact hU
 have O:∀ l∈U.set p (p::j),l.length<=N+1:=zo0 (fun l I=>Nat.le_succ_of_le (hd.1 l I)) (by simp;omega)
 obtain⟨z,e2,m2'⟩:=Y0 (xr ws) ((abv i s false p).map fun q=>(U.set p (p::j)).getD q []) (by rw[length_map];omega)
 have c2:=xv1 i ws s hw false 5 4 U V (U.set p (p::j)) p hp hr G (envH i ws s (U.set p (p::j)) V (k0b p) (some (.sh (.int (wt (xr ws) j)))) (some (.sh (L j)))) rfl rfl rfl
 have l2:=zd5 G O m2'
 refine⟨U.set p (p::j),V.set p (p::z),some (.sh (.int (wt (xr ws) z))),some (.sh (L z)),G,by rw[length_set];exact Z,⟨fun l I=>Nat.le_succ_of_le (O l I),zo0 (fun l I=>Nat.le_trans (hd.2 l I) (by omega)) (by simp;omega)⟩,?_⟩
 refine seqI (ρ':=envH i ws s U V (k0b p) (some (.sh (.int (wt (xr ws) j)))) (some (.sh (L j)))) (by unfold masg;rw[u6 (z6 (i7 c1) y8) e1];rfl) ?_
 refine seqI (ρ':=envH i ws s (U.set p (p::j)) V (k0b p) (some (.sh (.int (wt (xr ws) j)))) (some (.sh (L j)))) ((xx4 ws 5 U p j (by omega) (by omega) (by omega) (envH i ws s U V (k0b p) (some (.sh (.int (wt (xr ws) j)))) (some (.sh (L j)))) rfl rfl rfl rfl rfl).trans rfl) ?_
 refine seqI (ρ':=envH i ws s (U.set p (p::j)) V (k0b p) (some (.sh (.int (wt (xr ws) z)))) (some (.sh (L z)))) (by unfold masg;rw[u6 (z6 (i7 c2) y8) e2];rfl) ?_
 exact(xx4 ws 6 V p z (by omega) (by omega) (by omega) (envH i ws s (U.set p (p::j)) V (k0b p) (some (.sh (.int (wt (xr ws) z)))) (some (.sh (L z)))) rfl rfl rfl rfl rfl).trans rfl
theorem xt5 (w:Nat->Int)(n:Nat):(List.replicate n [HT w []]).flatten=(List.replicate n ([]:List Nat)).map (HT w):=by
 induction n with
 |zero=>rfl
 |succ n i=>rw[replicate_succ,flatten_cons,i,replicate_succ,map_cons];rfl
theorem zw2 (i ws:List Int)(s:Int)(hw:ws.length=i.length)(Z:i.length<=300):∃ U V:List (List Nat),ya1 [.lst (i.map .int),.int s,.lst (ws.map .int)]=some (.sh (.tup [.lst (U.map (HT (xr ws))),.lst (V.map (HT (xr ws)))]))/\U.length=i.length/\V.length=i.length:=by
 suffices h:Run b_Z12 (u7 10 [.lst (i.map .int),.int s,.lst (ws.map .int)]) (fun o=>∃ U V:List (List Nat),o= .rt (.tup [.lst (U.map (HT (xr ws))),.lst (V.map (HT (xr ws)))])/\U.length=i.length/\V.length=i.length)by
  obtain⟨o,e,U,V,rfl,r⟩:=h
  exact⟨U,V,j6 e,r⟩
 unfold b_Z12
 have a3:=m5
 have i1:1<=sizeLine:=o0 (by decide)
 have i2:2<=sizeLine:=o0 (by decide)
 have k2:okR (i.length:Int)=true:=T0 (by omega) (by omega)
 have rk:zo6 1 (i.length:Int)=true:=by
  unfold zo6
  rw[decide_eq_true (by omega),decide_eq_true (by omega),decide_eq_true (by rw[Int.toNat_natCast];omega)];rfl
 refine u3 (ρ':=[k0a i,k0c s,k0a ws,some (.sh (.lst (((List.range i.length).map (abv i s true)).map L))),some (.sh (.lst (((List.range i.length).map (abv i s false)).map L))),none,none,none,none,none]) ?_ ?_
 .unfold masg
  rw[u6 (z6 (d:=.lst (i.map .int)) rfl (z6 (d:=.int s) rfl y8)) (U4 i s Z)];rfl
 have rep:∀ ρ:Ro,bvar 0 ρ=some (i.map .int)->mrep (u8 (z7 (mtup (z7 (mc (.int 0)) (z7 (mlst (u8 anil)) anil))) anil)) (mlen (bvar 0)) ρ=some ((List.replicate i.length ([]:List Nat)).map (HT (xr ws))):=by
  intro ρ h0
  have e0:u8 (z7 (mtup (z7 (mc (.int 0)) (z7 (mlst (u8 anil)) anil))) anil) ρ=some [HT (xr ws) []]:=
   t7 (z6 (R9 (z6 (d:=.int 0) rfl (z6 (i7 (t7 y8 (Nat.zero_le _))) y8)) i2) y8) i1
  have el:mlen (bvar 0) ρ=some (.int (i.length:Int)):=by rw[Z2 h0,length_map]
  rw[ym5 e0 el rk,Int.toNat_natCast,xt5]
 refine u3 (ρ':=[k0a i,k0c s,k0a ws,some (.sh (.lst (((List.range i.length).map (abv i s true)).map L))),some (.sh (.lst (((List.range i.length).map (abv i s false)).map L))),some (.own ((List.replicate i.length ([]:List Nat)).map (HT (xr ws)))),none,none,none,none]) (by unfold X3;rw[rep _ rfl];rfl) ?_
 refine u3 (ρ':=envH i ws s (List.replicate i.length []) (List.replicate i.length []) none none none) (by unfold X3;rw[rep _ rfl];rfl) ?_
 have ed:zw5 i.length=(List.range i.length).map fun(j:Nat)=>D.int ((i.length:Int)-1-(j:Int)):=rfl
 refine Z0 (W9 i.length (f:=fun(j:Nat)=>D.int ((i.length:Int)-1-(j:Int))) ?_
  (I:=fun j ρ=>∃ U V N G z,U.length=i.length/\V.length=i.length/\Bd (2*j) U V/\ρ=envH i ws s U V N G z) _
  ⟨_,_,_,_,_,by simp,by simp,⟨fun l O=>by rw[(List.mem_replicate.mp O).2];simp,fun l O=>by rw[(List.mem_replicate.mp O).2];simp⟩,rfl⟩ ?_ ?_)
 .unfold g9
  rw[z6 (x:=mlen (bvar 0)) (d:=.int ((i.map D.int).length:Int)) (Z2 rfl) y8,Option.bind_some,length_map,zt6 k2,Int.toNat_natCast,ed]
 .rintro j ρ hj ⟨U,V,N,G,z,hU,hV,hd,rfl⟩
  have e:(i.length:Int)-1-(j:Int)=((i.length-1-j:Nat):Int):=by omega
  refine⟨envH i ws s U V (some (.sh (.int ((i.length-1-j:Nat):Int)))) G z,by rw[e];rfl,?_⟩
  obtain⟨U',V',a2,a1,Y,S,R,e2⟩:=xu0 i ws s hw Z U V (i.length-1-j) (2*j) (by omega) (by omega) hU hV hd G z
  exact⟨_,e2,U',V',_,_,_,Y,S,R,rfl⟩
 .rintro ρ ⟨U,V,N,G,z,hU,hV,hd,rfl⟩
  unfold yy0
  refine g5 (ds:=U.map (HT (xr ws))) rfl (g5 (ds:=V.map (HT (xr ws))) rfl ⟨_,Z7 (R9 (z6 (d:=.lst (U.map (HT (xr ws)))) rfl (z6 (d:=.lst (V.map (HT (xr ws)))) rfl y8)) i2),U,V,rfl,hU,hV⟩)
theorem N1 (i ws:List Int)(s:Int)(hs:1<=s)(hw:ws.length=i.length)(z:∀ x∈ws,0<=x)(j:i.length<=300):∃ l,J6 [.lst (i.map .int),.int s,.lst (ws.map .int)]=some (.sh (HT (xr ws) l)):=by
 obtain⟨U,V,G,O,N⟩:=zw2 i ws s hw j
 obtain⟨r,e,m⟩:=Y0 (xr ws) (U++V) (by rw[length_append];omega)
 have I:=m5
 refine⟨r,?_⟩
 .unfold J6 b_Z22
  refine D9 ?_
  refine u3 (ρ':=[k0a i,k0c s,k0a ws,none,none]) ?_ ?_
  .unfold S3
   rw[u6 (z6 (d:=.int s) rfl y8) (g6 s hs)];rfl
  refine u3 (ρ':=[k0a i,k0c s,k0a ws,none,none]) ?_ ?_
  .unfold S3
   rw[u6 (z6 (d:=.lst (i.map .int)) rfl (z6 (d:=.lst (ws.map .int)) rfl y8)) (J4 i ws hw z)];rfl
  refine u3 (ρ':=[k0a i,k0c s,k0a ws,some (.sh (.lst (U.map (HT (xr ws))))),some (.sh (.lst (V.map (HT (xr ws)))))]) ?_ ?_
  .unfold masg
   rw[u6 (z6 (d:=.lst (i.map .int)) rfl (z6 (d:=.int s) rfl (z6 (d:=.lst (ws.map .int)) rfl y8))) G];rfl
  .have hz:(U.map (HT (xr ws))).length+(V.map (HT (xr ws))).length<=sizeLine:=o0 (by simp;omega)
   have e1:m2 addD (mvar 3) (mvar 4) [k0a i,k0c s,k0a ws,some (.sh (.lst (U.map (HT (xr ws))))),some (.sh (.lst (V.map (HT (xr ws)))))]=some (.lst ((U++V).map (HT (xr ws)))):=by
    refine(k8 (a:=.lst (U.map (HT (xr ws)))) (b:=.lst (V.map (HT (xr ws)))) rfl rfl).trans ?_
    show (if (U.map (HT (xr ws))).length+(V.map (HT (xr ws))).length<=sizeLine then some (D.lst (U.map (HT (xr ws))++V.map (HT (xr ws))))else none)=_
    rw[if_pos hz,map_append]
   exact⟨_,Z7 (u6 (z6 e1 y8) e),rfl⟩
end
section
open PySem L2
noncomputable abbrev Gn:List Str:=["least_step","numbers","weights","lengths"]
noncomputable abbrev Gf (s:Int)(ns ws ls:List Int):List Fl:=[.v (.int s),.l (ns.map .int),.l (ws.map .int),.l (ls.map .int)]
noncomputable abbrev Gc (s:Int)(ns ws ls:List Int):Cell:=.ins "Grown" Gn (Gf s ns ws ls)
noncomputable abbrev Go (s:Int)(ns ws ls:List Int):D:=.obj "Grown" Gn [.int s,.lst (ns.map .int),.lst (ws.map .int),.lst (ls.map .int)]
theorem E4 (s:Int)(ns ws ls:List Int):zj2 (Gc s ns ws ls)=Go s ns ws ls:=rfl
theorem u0 {x y:MW}{ρ ρ':Ro}{β β':Bx}(h:x ρ β=some (.nx ρ',β')):m9 x y ρ β=y ρ' β':=by unfold m9;rw[h]
theorem E7 {m:MS}{ρ ρ':Ro}{β:Bx}(h:m ρ=some (.nx ρ')):wS m ρ β=some (.nx ρ',β):=by unfold wS;rw[h]
theorem i6 (x:Addr)(c:Cell)(β:Bx):List.lookup x ((x,c)::β)=some c:=by rw[lookup_cons,beq_self_eq_true]
theorem X2 (x:Addr)(c i:Cell)(β:Bx):updB x i ((x,c)::β)=(x,i)::β:=by unfold updB;rw[if_pos rfl]
theorem xo3 {i:Nat}{c f:Str}{x:Ro->Bx->Option D}{ρ:Ro}{β:Bx}{d:D}{p:Addr}{ns:List Str}{fs:List Fl}(h:x ρ β=some d)(hp:ρ[i]? =some (some (.sh (.ptr p))))(j:β.lookup p=some (.ins c ns fs))(hn:ns.length<1000):yk0 i c f x ρ β=some (.nx ρ,updB p (.ins c (putN f (.v d) ns fs).1 (putN f (.v d) ns fs).2) β):=by
 unfold yk0;rw[h,Option.bind_some,hp];simp only;rw[j];simp only;rw[if_pos ⟨by trivial,hn⟩]
theorem L8 {i:Nat}{c f:Str}{x:Ro->Bx->Option (List D)}{ρ:Ro}{β:Bx}{ds:List D}{p:Addr}{ns:List Str}{fs:List Fl}(h:x ρ β=some ds)(hp:ρ[i]? =some (some (.sh (.ptr p))))(j:β.lookup p=some (.ins c ns fs))(hn:ns.length<1000):L7 i c f x ρ β=some (.nx ρ,updB p (.ins c (putN f (.l ds) ns fs).1 (putN f (.l ds) ns fs).2) β):=by
 unfold L7;rw[h,Option.bind_some,hp];simp only;rw[j];simp only;rw[if_pos ⟨by trivial,hn⟩]
theorem C6 {i:Nat}{c f:Str}{x:Ro->Bx->Option D}{ρ:Ro}{β:Bx}{d:D}{ds:List D}{p:Addr}{ns:List Str}{fs:List Fl}(h:x ρ β=some d)(hp:ρ[i]? =some (some (.sh (.ptr p))))(G:β.lookup p=some (.ins c ns fs))(z:getN f ns fs=some (.l ds))(j:ds.length<sizeLine):O2 i c f x ρ β=some (.nx ρ,updB p (.ins c ns (putN f (.l (ds++[d])) ns fs).2) β):=by
 unfold O2;rw[hp];simp only;rw[G];simp only;rw[z];simp only;rw[if_pos ⟨by trivial,j⟩,h];rfl
theorem zi7 {n:Nat}{m:MW}{ds:List D}{ρ:Ro}{β β':Bx}(h:m (u7 n ds) β=some (.nx ρ,β'))(i:β'.length=β.length):runW n m ds β=some (.sh .non,β'):=by
 unfold runW;rw[h];simp only[i,Nat.sub_self,drop_zero]
theorem yj5 (x:Addr)(s:Int)(hs:1<=s)(β:Bx):j4 [.ptr x,.int s] ((x,.ins "Grown" [] [])::β)=some (.sh .non,(x,Gc s [] [] [])::β):=by
 unfold j4 b_Grown___init__
 have i:0<=sizeLine:=Nat.zero_le _
 have p1:(putN "least_step" (.v (.int s)) [] [])=((["least_step"]:List Str),[Fl.v (.int s)]):=rfl
 have p2:(putN "numbers" (.l []) ["least_step"] [Fl.v (.int s)])=((["least_step","numbers"]:List Str),[Fl.v (.int s),.l []]):=rfl
 have z:(putN "weights" (.l []) ["least_step","numbers"] [Fl.v (.int s),.l []])=((["least_step","numbers","weights"]:List Str),[Fl.v (.int s),.l [],.l []]):=rfl
 have j:(putN "lengths" (.l []) ["least_step","numbers","weights"] [Fl.v (.int s),.l [],.l []])=(Gn,[Fl.v (.int s),.l [],.l [],.l []]):=rfl
 refine zi7 (ρ:=[some (.sh (.ptr x)),k0c s]) ?_ rfl
 rw[u0 (E7 (zb5 (u6 (z6 (d:=.int s) rfl y8) (g6 s hs))))]
 rw[u0 (xo3 (d:=.int s) (p:=x) (ns:=[]) (fs:=[]) rfl rfl (i6 _ _ _) (by decide)),X2,p1]
 rw[u0 (L8 (ds:=[]) (p:=x) (ns:=["least_step"]) (fs:=[Fl.v (.int s)]) (t7 y8 i) rfl (i6 _ _ _) (by decide)),X2,p2]
 rw[u0 (L8 (ds:=[]) (p:=x) (t7 y8 i) rfl (i6 _ _ _) (by show 2<1000;decide)),X2,z]
 rw[L8 (ds:=[]) (p:=x) (t7 y8 i) rfl (i6 _ _ _) (by show 3<1000;decide),X2,j]
 rfl
theorem d9 {c f:Str}{m:ME}{ρ:Ro}{d e:D}(h:m ρ=some d)(h2:fldD c f d=some e):mfld c f m ρ=some e:=by unfold mfld;rw[h,Option.bind_some,h2]
theorem g0 (s:Int)(ns ws ls:List Int):fldD "Grown" "numbers" (Go s ns ws ls)=some (.lst (ns.map .int)):=rfl
theorem K8 (s:Int)(ns ws ls:List Int):fldD "Grown" "weights" (Go s ns ws ls)=some (.lst (ws.map .int)):=rfl
theorem yg7 (s:Int)(ns ws ls:List Int):fldD "Grown" "lengths" (Go s ns ws ls)=some (.lst (ls.map .int)):=rfl
theorem zx3 (s:Int)(ns ws ls:List Int):fldD "Grown" "least_step" (Go s ns ws ls)=some (.int s):=rfl
theorem Z3 {c mn:Str}{f:MF}{mo:ME}{ρ:Ro}{ns:List Str}{ds0:List D}{d:D}(h:mo ρ=some (.obj c ns ds0))(hn:mn∉ns)(h2:f [.obj c ns ds0]=some (.sh d)):v6 c mn f mo anil ρ=some d:=by
 unfold v6;rw[h];simp only;rw[if_pos ⟨trivial,hn⟩];show (some []).bind _=_;rw[Option.bind_some];rw[h2]
def Pc (s:Int)(ns:List Int)(w:D)(cs:List D):Prop:=D4 [D.lst (ns.map .int),.int s]=some (.pr w cs)
theorem zg3 {c mn:Str}{f:MF}{mo:ME}{ρ:Ro}{ns:List Str}{ds0 es:List D}{d:D}(h:mo ρ=some (.obj c ns ds0))(hn:mn∉ns)(h2:f [.obj c ns ds0]=some (.pr d es)):v6 c mn f mo anil ρ=some (.tup [d,.lst es]):=by
 unfold v6;rw[h];simp only;rw[if_pos ⟨trivial,hn⟩];show (some []).bind _=_;rw[Option.bind_some];rw[h2]
theorem S6 {s:Int}{ns ws ls:List Int}{w:D}{i:List D}(h:Pc s ns w i):m_Z8 [Go s ns ws ls]=some (.pr w i):=by
 have e:ym3 D4 (z7 (mfld "Grown" "numbers" (mvar 0)) (z7 (mfld "Grown" "least_step" (mvar 0)) anil)) (u7 1 [Go s ns ws ls])=some (.rp w i):=by
  unfold ym3
  rw[z6 (d9 (d:=Go s ns ws ls) rfl (g0 s ns ws ls)) (z6 (d9 (d:=Go s ns ws ls) rfl (zx3 s ns ws ls)) y8),Option.bind_some,h]
 unfold m_Z8 b_Z8 runB
 rw[e]
noncomputable def Lg (ns:List Int)(cs:List D):Int:=if ns.isEmpty then 0 else (cs.length:Int)+1
theorem Y1 {s:Int}{ns ws ls:List Int}{w:D}{i:List D}(h:Pc s ns w i):m_Z9 [Go s ns ws ls]=some (.sh (.int (Lg ns i))):=by
 unfold m_Z9 b_Z9
 refine j6 ?_
 have e1:=zg3 (mo:=mvar 0) (mn:="pieces") (ρ:=u7 3 [Go s ns ws ls]) (f:=m_Z8) (d:=w) (es:=i) (c:="Grown") (ns:=Gn) (ds0:=[.int s,.lst (ns.map .int),.lst (ws.map .int),.lst (ls.map .int)]) rfl (by decide +kernel) (S6 h)
 refine seqI (ρ':=[some (.sh (Go s ns ws ls)),some (.sh w),some (.sh (.lst i))]) (by unfold masg;rw[e1];rfl) ?_
 refine Z7 ?_
 have e2:mtru (mfld "Grown" "numbers" (mvar 0)) [some (.sh (Go s ns ws ls)),some (.sh w),some (.sh (.lst i))]=some (!(ns.map D.int).isEmpty):=by
  unfold mtru;rw[d9 (d:=Go s ns ws ls) rfl (g0 s ns ws ls)];rfl
 unfold mite
 rw[e2]
 unfold Lg
 cases ns with
 |nil=>rfl
 |cons a ns=>
  have e3:mlen (bvar 2) [some (.sh (Go s (a::ns) ws ls)),some (.sh w),some (.sh (.lst i))]=some (.int i.length):=by unfold mlen;rfl
  show m2 addD (mlen (bvar 2)) (mc (.int 1)) _=some (.int ((i.length:Int)+1))
  unfold m2
  rw[e3]
  rfl
theorem V7 {x:Addr}{c i:Cell}:∀{β:Bx},β.lookup x=some c->(updB x i β).lookup x=some i
 |[],h=>by cases h
 | (q,d)::β,h=>by
  unfold updB
  by_cases z:q=x
  .rw[if_pos z,lookup_cons,beq_iff_eq.mpr z.symm]
  .have hb:(x==q)=false:=by
    cases w:x==q with
    |false=>rfl
    |true=>exact absurd (beq_iff_eq.mp w).symm z
   rw[if_neg z,lookup_cons,hb]
   rw[lookup_cons,hb]at h
   exact V7 h
theorem M0 {x:Addr}{c j:Cell}:∀{β:Bx},updB x j (updB x c β)=updB x j β
 |[]=>rfl
 | (q,d)::β=>by
  by_cases z:q=x
  .have e:∀(a b:Cell)(i:Bx),updB x a ((q,b)::i)=(q,a)::i:=fun a b i=>by rw[updB,if_pos z]
   rw[e,e,e]
  .have e:∀(a b:Cell)(i:Bx),updB x a ((q,b)::i)=(q,b)::updB x a i:=fun a b i=>by rw[updB,if_neg z]
   rw[e,e,e,M0]
theorem zg9 {x:Addr}{c:Cell}:∀{β:Bx},(updB x c β).length=β.length
 |[]=>rfl
 | (q,d)::β=>by
  unfold updB
  by_cases z:q=x
  .rw[if_pos z];rfl
  .rw[if_neg z,length_cons,zg9,length_cons]
theorem Q9 {x:Addr}{c:Cell}{β:Bx}(i:β.lookup x=some c):M2 β (some (.sh (.ptr x)))=some (.sh (zj2 c)):=by
 unfold M2;simp only;rw[i]
theorem yf8 (x:Addr)(c:Cell)(β:Bx)(i:β.lookup x=some c)(v g:Int):thaw [some (.sh (.ptr x)),k0c v,k0c g] β=[some (.sh (zj2 c)),k0c v,k0c g]:=by
 unfold thaw
 rw[map_cons,map_cons,map_cons,map_nil,Q9 i];rfl
theorem xj5 (x:Addr)(s:Int)(ns ws ls:List Int)(v g:Int)(β:Bx)(j:β.lookup x=some (Gc s ns ws ls)){w:D}{i:List D}(R:0<=g)(h:Pc s (ns++[v]) w i)(l1:ns.length<100000)(l2:ws.length<100000)(l3:ls.length<100000):m6 [.ptr x,.int v,.int g] β=some (.sh .non,updB x (Gc s (ns++[v]) (ws++[g]) (ls++[Lg (ns++[v]) i])) β):=by
 unfold m6 b_Grown_put
 have z:∀{xs:List Int},xs.length<100000->(xs.map D.int).length<sizeLine:=fun{xs} q=>by rw[length_map];exact Nat.lt_of_lt_of_le q (Nat.le_trans (by decide) m5)
 have G:∀(xs:List Int)(y:Int),xs.map D.int++[D.int y]=(xs++[y]).map D.int:=fun xs y=>by rw[map_append];rfl
 have O:(putN "numbers" (.l ((ns++[v]).map .int)) Gn (Gf s ns ws ls)).2=Gf s (ns++[v]) ws ls:=rfl
 have N:(putN "weights" (.l ((ws++[g]).map .int)) Gn (Gf s (ns++[v]) ws ls)).2=Gf s (ns++[v]) (ws++[g]) ls:=rfl
 have I:(putN "lengths" (.l ((ls++[Lg (ns++[v]) i]).map .int)) Gn (Gf s (ns++[v]) (ws++[g]) ls)).2=Gf s (ns++[v]) (ws++[g]) (ls++[Lg (ns++[v]) i]):=rfl
 refine zi7 (ρ:=[some (.sh (.ptr x)),k0c v,k0c g]) ?_ zg9
 rw[u0 (E7 (zb5 (u6 (z6 (d:=.int g) rfl y8) (S8 g R))))]
 rw[u0 (C6 (d:=.int v) (ds:=ns.map .int) (p:=x) rfl rfl j rfl (z l1)),G,O]
 rw[u0 (C6 (d:=.int g) (ds:=ws.map .int) (p:=x) rfl rfl (V7 j) rfl (z l2)),M0,G,N]
 have lk:d7 (v6 "Grown" "length" m_Z9 (mvar 0) anil) [some (.sh (.ptr x)),k0c v,k0c g] (updB x (Gc s (ns++[v]) (ws++[g]) ls) β)=some (.int (Lg (ns++[v]) i)):=by
  unfold d7
  rw[yf8 x _ _ (V7 j) v g,E4,Z3 (mo:=mvar 0) (mn:="length") (f:=m_Z9) (c:="Grown") (ns:=Gn) (ds0:=[.int s,.lst ((ns++[v]).map .int),.lst ((ws++[g]).map .int),.lst (ls.map .int)]) rfl (by decide +kernel) (Y1 h)]
  rfl
 show O2 0 "Grown" "lengths" (d7 (v6 "Grown" "length" m_Z9 (mvar 0) anil)) [some (.sh (.ptr x)),k0c v,k0c g] (updB x (Gc s (ns++[v]) (ws++[g]) ls) β)=_
 rw[C6 (d:=.int (Lg (ns++[v]) i)) (ds:=ls.map .int) (p:=x) lk rfl (V7 j) rfl (z l3),M0,G,I]
theorem M1 (x:Addr)(c:Cell)(β:Bx)(j:β.lookup x=some c)(k:Int)(o:Option S)(i:M2 β o=o):thaw [some (.sh (.ptr x)),k0c k,o] β=[some (.sh (zj2 c)),k0c k,o]:=by
 unfold thaw
 rw[map_cons,map_cons,map_cons,map_nil,Q9 j,i];rfl
theorem zf1 (xs:List Int):(xs.map D.int).all isSc=true:=by
 induction xs with
 |nil=>rfl
 |cons a xs i=>rw[map_cons,all_cons,i];rfl
theorem yj6 {c:Ro->Bx->Option Bool}{x y:MW}{ρ:Ro}{β:Bx}(h:c ρ β=some false):mifW c x y ρ β=y ρ β:=by unfold mifW;rw[h]
theorem xu6 (x:Addr)(s:Int)(ns ws ls:List Int)(k:Nat)(β:Bx)(G:β.lookup x=some (Gc s ns ws ls)){w:D}{N:List D}(hk:k<=ns.length)(hw:ws.length=ns.length)(h:Pc s (ns.take (ns.length-k)) w N)(l3:ls.length<100000):
  l7 [.ptr x,.int (k:Int)] β=some (.sh .non,updB x (Gc s (ns.take (ns.length-k)) (ws.take (ns.length-k)) (ls++[Lg (ns.take (ns.length-k)) N])) β):=by
 unfold l7 b_Grown_take
 have ap:∀(xs:List Int)(y:Int),xs.map D.int++[D.int y]=(xs++[y]).map D.int:=fun xs y=>by rw[map_append];rfl
 have z:(ls.map D.int).length<sizeLine:=by rw[length_map];exact Nat.lt_of_lt_of_le l3 (Nat.le_trans (by decide) m5)
 have len:∀(o:Option S),mlen (p5 (mfld "Grown" "numbers" (mvar 0))) [some (.sh (Go s ns ws ls)),k0b k,o]=some (.int (ns.length:Int)):=fun o=>by
  unfold mlen;rw[l6 (d9 (d:=Go s ns ws ls) rfl (g0 s ns ws ls))];show some (D.int ((ns.map D.int).length:Int))=_;rw[length_map]
 refine zi7 (ρ:=[some (.sh (.ptr x)),k0b k,some (.sh (.int ((ns.length-k:Nat):Int)))]) ?_ zg9
 rw[show u7 3 [D.ptr x,.int (k:Int)]=[some (.sh (.ptr x)),k0b k,none]from rfl]
 have e1:zw1 (cor (u4 (m2 ltD (mvar 1) (mc (.int 0)))) (u4 (m2 gtD (mvar 1) (mlen (p5 (mfld "Grown" "numbers" (mvar 0))))))) [some (.sh (.ptr x)),k0b k,none] β=some false:=by
  unfold zw1
  rw[M1 x _ _ G (k:Int) none rfl,E4]
  refine za9 (a:=false) (b:=false) ?_ ?_
  .rw[xx1 (i:=(k:Int)) (j:=0) rfl rfl,decide_eq_false (by omega)]
  .unfold u4 m2
   rw[len]
   show some (decide ((k:Int)>(ns.length:Int)))=_
   rw[decide_eq_false (by omega)]
 rw[u0 (ρ':=[some (.sh (.ptr x)),k0b k,none]) (β':=β) (by rw[yj6 e1];rfl)]
 have e2:zx9 2 (d7 (m2 subD (mlen (p5 (mfld "Grown" "numbers" (mvar 0)))) (mvar 1))) [some (.sh (.ptr x)),k0b k,none] β=some (.nx [some (.sh (.ptr x)),k0b k,some (.sh (.int ((ns.length-k:Nat):Int)))],β):=by
  unfold zx9 d7
  rw[M1 x _ _ G (k:Int) none rfl,E4]
  have:m2 subD (mlen (p5 (mfld "Grown" "numbers" (mvar 0)))) (mvar 1) [some (.sh (Go s ns ws ls)),k0b k,none]=some (.int ((ns.length-k:Nat):Int)):=by
   unfold m2
   rw[len]
   show some (D.int ((ns.length:Int)-(k:Int)))=_
   rw[show ((ns.length-k:Nat):Int)=(ns.length:Int)-(k:Int)by omega]
  rw[this]
  rfl
 rw[u0 e2]
 have I:∀(f:Str)(ms us vs O:List Int)(R:Bx),R.lookup x=some (Gc s us vs O)->fldD "Grown" f (Go s us vs O)=some (.lst (ms.map .int))->J8 (mcut (p5 (mfld "Grown" f (mvar 0))) zr1 (P8 (mvar 2))) [some (.sh (.ptr x)),k0b k,some (.sh (.int ((ns.length-k:Nat):Int)))] R=some ((ms.take (ns.length-k)).map .int):=fun f ms us vs O R U hf=>by
  unfold J8
  rw[M1 x _ _ U (k:Int) (some (.sh (.int ((ns.length-k:Nat):Int)))) rfl,E4]
  have:mcut (p5 (mfld "Grown" f (mvar 0))) zr1 (P8 (mvar 2)) [some (.sh (Go s us vs O)),k0b k,some (.sh (.int ((ns.length-k:Nat):Int)))]=some ((ms.take (ns.length-k)).map .int):=by
   unfold mcut
   rw[l6 (d9 (d:=Go s us vs O) rfl hf)]
   show some (cutL (ms.map D.int) none (some ((ns.length-k:Nat):Int)))=_
   rw[zq1,xo9]
  rw[this,Option.bind_some,if_pos (zf1 _)]
 have q1:putN "numbers" (.l ((ns.take (ns.length-k)).map .int)) Gn (Gf s ns ws ls)=(Gn,Gf s (ns.take (ns.length-k)) ws ls):=rfl
 have Z:putN "weights" (.l ((ws.take (ns.length-k)).map .int)) Gn (Gf s (ns.take (ns.length-k)) ws ls)=(Gn,Gf s (ns.take (ns.length-k)) (ws.take (ns.length-k)) ls):=rfl
 have Y:(putN "lengths" (.l ((ls++[Lg (ns.take (ns.length-k)) N]).map .int)) Gn (Gf s (ns.take (ns.length-k)) (ws.take (ns.length-k)) ls)).2=Gf s (ns.take (ns.length-k)) (ws.take (ns.length-k)) (ls++[Lg (ns.take (ns.length-k)) N]):=rfl
 rw[u0 (L8 (p:=x) (ns:=Gn) (fs:=Gf s ns ws ls) (I "numbers" ns ns ws ls β G (g0 s ns ws ls)) rfl G (by decide +kernel)),q1]
 rw[u0 (L8 (p:=x) (ns:=Gn) (fs:=Gf s (ns.take (ns.length-k)) ws ls) (I "weights" ws (ns.take (ns.length-k)) ws ls _ (V7 G) (K8 s _ ws ls)) rfl (V7 G) (by decide +kernel)),M0,Z]
 have lk:d7 (v6 "Grown" "length" m_Z9 (mvar 0) anil) [some (.sh (.ptr x)),k0b k,some (.sh (.int ((ns.length-k:Nat):Int)))] (updB x (Gc s (ns.take (ns.length-k)) (ws.take (ns.length-k)) ls) β)=some (.int (Lg (ns.take (ns.length-k)) N)):=by
  unfold d7
  rw[M1 x _ _ (V7 G) (k:Int) (some (.sh (.int ((ns.length-k:Nat):Int)))) rfl,E4,Z3 (mo:=mvar 0) (mn:="length") (f:=m_Z9) (c:="Grown") (ns:=Gn) (ds0:=[.int s,.lst ((ns.take (ns.length-k)).map .int),.lst ((ws.take (ns.length-k)).map .int),.lst (ls.map .int)]) rfl (by decide +kernel) (Y1 h)]
  rfl
 show O2 0 "Grown" "lengths" (d7 (v6 "Grown" "length" m_Z9 (mvar 0) anil)) [some (.sh (.ptr x)),k0b k,some (.sh (.int ((ns.length-k:Nat):Int)))] (updB x (Gc s (ns.take (ns.length-k)) (ws.take (ns.length-k)) ls) β)=_
 rw[C6 (d:=.int (Lg (ns.take (ns.length-k)) N)) (ds:=ls.map .int) (p:=x) lk rfl (V7 G) rfl z,M0,ap,Y]
theorem B7 (s:Int)(ns ws ls:List Int):Q5 [Go s ns ws ls]=some (.fr (ns.map .int)):=by
 unfold Q5 b_Z18
 refine zi8 ?_
 unfold zg2
 rw[l6 (d9 (d:=Go s ns ws ls) rfl (g0 s ns ws ls))]
 rfl
theorem E6 (s:Int)(ns ws ls:List Int):m_Z7 [Go s ns ws ls]=some (.fr (ls.map .int)):=by
 unfold m_Z7 b_Z7
 refine zi8 ?_
 unfold zg2
 rw[l6 (d9 (d:=Go s ns ws ls) rfl (yg7 s ns ws ls))]
 rfl
end
section
open PySem L2
noncomputable def cutD (s:Int)(ns:List Int):List D:=(NI (Z5 s ns)).map .int
noncomputable def zx4 (s:Int)(ns:List Int):D:=.str (kd (Y9 s ns))
theorem zn6 (s:Int)(ns:List Int)(hs:1<=s)(i:ns.length<=300):Pc s ns (zx4 s ns) (cutD s ns):=zn3 ns s hs i
noncomputable def lenG (s:Int)(ns:List Int):Int:=Lg ns (cutD s ns)
theorem zd1 (s:Int)(ns ws ls:List Int)(hs:1<=s)(hw:ws.length=ns.length)(j:∀ x∈ws,0<=x)(i:ns.length<=300):∃ w:Int,∀ ls,T5 [Go s ns ws ls]=some (.sh (.int w)):=by
 obtain⟨l,e⟩:=N1 ns ws s hs hw j i
 refine⟨wt (xr ws) l,fun ls=>?_⟩
 unfold T5 b_Z11
 refine j6 ?_
 have e1:=u6 (f:=J6) (m:=z7 (mfld "Grown" "numbers" (mvar 0)) (z7 (mfld "Grown" "least_step" (mvar 0)) (z7 (mfld "Grown" "weights" (mvar 0)) anil))) (ρ:=u7 3 [Go s ns ws ls]) (z6 (d9 (d:=Go s ns ws ls) rfl (g0 s ns ws ls)) (z6 (d9 (d:=Go s ns ws ls) rfl (zx3 s ns ws ls)) (z6 (d9 (d:=Go s ns ws ls) rfl (K8 s ns ws ls)) y8))) e
 refine seqI (ρ':=[some (.sh (Go s ns ws ls)),some (.sh (.int (wt (xr ws) l))),some (.sh (L l))]) (by unfold masg;rw[e1];rfl) rfl
theorem yg6 (s:Int)(ns ws:List Int)(hs:1<=s)(i:ns.length<=300):∃ w:Int,∀ ls,m_Z1 [Go s ns ws ls]=some (.sh (.int w)):=by
 obtain⟨w,e⟩:=zu1 ns s hs i
 refine⟨w,fun ls=>?_⟩
 unfold m_Z1 b_Z1
 exact j6 (Z7 (u6 (z6 (d9 (d:=Go s ns ws ls) rfl (g0 s ns ws ls)) (z6 (d9 (d:=Go s ns ws ls) rfl (zx3 s ns ws ls)) y8)) e))
theorem zz4 {c mn:Str}{f:MF}{mo:ME}{ρ:Ro}{ns:List Str}{ds0 es:List D}(h:mo ρ=some (.obj c ns ds0))(hn:mn∉ns)(h2:f [.obj c ns ds0]=some (.fr es)):v6 c mn f mo anil ρ=some (.lst es):=by
 unfold v6;rw[h];simp only;rw[if_pos ⟨trivial,hn⟩];show (some []).bind _=_;rw[Option.bind_some];rw[h2]
theorem yi3 (n:Nat)(w:Str)(xs:List Int):eqF (n+3) (.tup [.str w,.lst (xs.map .int)]) (.tup [.str w,.lst (xs.map .int)])=some true:=by
 show ((zipE (eqF (n+2)) [.str w,.lst (xs.map .int)] [.str w,.lst (xs.map .int)]).map fun b=>b&&_)=_
 simp only[zipE,yi4 n,Option.bind_some,Bool.and_self]
 show ((some (w==w)).bind _).map _=_
 rw[show (w==w)=true from beq_self_eq_true w];rfl
theorem yi5 (n:Nat)(i:Int):eqF (n+1) (.int i) (.int i)=some true:=by
 show some (i==i)=_
 rw[beq_self_eq_true]
def same (es:List D):Prop:=∀ neg,eqFD neg (.lst es) (.lst es)=some (.bl (!neg))
theorem yr0 (xs:List Int):same (xs.map .int):=fun i=>by unfold eqFD;rw[yi4 6];cases i <;> rfl
theorem yb3 {c mn:Str}{f:MF}{mo:ME}{ρ:Ro}{ns:List Str}{ds0 es:List D}(h:mo ρ=some (.obj c ns ds0))(hn:mn∉ns)(h2:f [.obj c ns ds0]=some (.fr es)):Q3 c mn f mo ρ=some es:=by
 unfold Q3;rw[h];simp only;rw[if_pos ⟨trivial,hn⟩,h2]
theorem V9 {x:Ro->Bx->Option D}{m:Ro->Bx->Option (List D)}{ρ:Ro}{β:Bx}{d:D}{ds:List D}(h:x ρ β=some d)(h2:m ρ β=some ds):X4 x m ρ β=some (d::ds):=by
 unfold X4;rw[h,Option.bind_some,h2];rfl
theorem xj3 {i:Nat}{m:ML}{ρ:Ro}{β:Bx}{x:Addr}{s:Int}{ns ws ls:List Int}{v g:Int}(hp:ρ[i]? =some (some (.sh (.ptr x))))(j:β.lookup x=some (Gc s ns ws ls))(hm:m ρ=some [.int v,.int g])(z:0<=g)(hs:1<=s)(l1:ns.length<300)(l2:ws.length<300)(l3:ls.length<100000):
  T3 (T1 i "Grown" "put" m6 m) ρ β=some (.nx ρ,updB x (Gc s (ns++[v]) (ws++[g]) (ls++[lenG s (ns++[v])])) β):=by
 unfold T3 T1
 rw[hp];simp only;rw[j];simp only
 rw[if_pos ⟨trivial,by decide +kernel⟩,hm,Option.bind_some,xj5 x s ns ws ls v g β j z (zn6 s (ns++[v]) hs (by simp;omega)) (by omega) (by omega) l3]
 rfl
theorem xm2 {i:Nat}{m:ML}{ρ:Ro}{β:Bx}{x:Addr}{s:Int}{ns ws ls:List Int}{k:Nat}(hp:ρ[i]? =some (some (.sh (.ptr x))))(j:β.lookup x=some (Gc s ns ws ls))(hm:m ρ=some [.int (k:Int)])(hs:1<=s)(hk:k<=ns.length)(hw:ws.length=ns.length)(l1:ns.length<=300)(l3:ls.length<100000):
  T3 (T1 i "Grown" "take" l7 m) ρ β=some (.nx ρ,updB x (Gc s (ns.take (ns.length-k)) (ws.take (ns.length-k)) (ls++[lenG s (ns.take (ns.length-k))])) β):=by
 unfold T3 T1
 rw[hp];simp only;rw[j];simp only
 rw[if_pos ⟨trivial,by decide +kernel⟩,hm,Option.bind_some,xu6 x s ns ws ls k β j hk hw (zn6 s _ hs (by rw[length_take];omega)) l3]
 rfl
end
section
open PySem L2
theorem xv4 {x:ME}{ρ:Ro}{i:Int}(h:x ρ=some (.int i)):Y7 absF (z7 x anil) ρ=some (.int (i.natAbs:Int)):=by
 unfold Y7
 rw[z6 h y8]
 show some (D.int (if i<0 then -i else i))=_
 congr 2
 split <;> omega
theorem yk5 {i:Nat}{x:ME}{ρ:Ro}{ds:List D}{d:D}(h:ρ[i]? =some (some (.own ds)))(h2:x ρ=some d)(j:ds.length<sizeLine):mapp i x ρ=some (.nx (ρ.set i (some (.own (ds++[d]))))):=by
 unfold mapp;rw[h]
 simp only[h2,Option.bind_some,j,if_true]
noncomputable def envN (c m:Int)(f:List Int)(rest:Int)(o4 o5:Option S):Ro:=[k0c c,k0c m,some (.own (f.map .int)),k0c rest,o4,o5]
theorem zv9 (c:Int)(many:Nat)(hm:many<=1000):∃ f:List Int,f.length=many/\(∀ v∈f,0<=v/\v<=2147483647)/\zr9 [.int c,.int many]=some (.fr (f.map .int)):=by
 suffices h:∃ es,zr9 [.int c,.int many]=some (.fr es)/\∃ f:List Int,f.length=many/\(∀ v∈f,0<=v/\v<=2147483647)/\es=f.map .int by
  obtain⟨es,e,f,h1,h2,rfl⟩:=h
  exact⟨f,h1,h2,e⟩
 unfold zr9 b_Z15
 refine ye7 ?_
 have a1:=m5
 have kn:okR (many:Int)=true:=T0 (by omega) (by omega)
 refine u3 (ρ':=[k0c c,k0c many,some (.own []),none,none,none]) (by unfold X3;rw[t7 y8 (Nat.zero_le _)];rfl) ?_
 refine u3 (ρ':=envN c many [] (c.natAbs:Int) none none) ((j9 (xv4 (i:=c) rfl)).trans rfl) ?_
 refine Z0 (W9 many (f:=fun i=>D.int (i:Int)) ?_ (I:=fun k ρ=>∃ f rest S j,ρ=envN c many f rest S j/\f.length=k/\(∀ v∈f,0<=v/\v<=2147483647)/\0<=rest) _ ⟨[],_,_,_,rfl,rfl,by simp,by omega⟩ ?_ ?_)
 .unfold g9
  rw[z6 (d:=.int (many:Int)) rfl y8,Option.bind_some,zh0 kn,Int.toNat_natCast]
  unfold X1
  simp
 .rintro k ρ hk ⟨f,rest,S,j,rfl,hf,hpos,hrest⟩
  refine⟨envN c many f rest (k0b k) j,rfl,?_⟩
  unfold yz8
  have O:m2 powD (mc (.int 10)) (mc (.int 18)) (envN c many f rest (k0b k) j)=some (.int 1000000000000000000):=by
   have U:yq8 10 18=true:=by decide
   have hp:((10:Int)^(18:Int).toNat)=1000000000000000000:=by decide
   simp_arith [U,hp,if_true]
  refine zd6 (zv0 (xv4 (x:=mvar 0) (i:=c) rfl) O) ?_
  have hz:(f.map D.int).length<sizeLine:=by simp;omega
  have z:∀ x,(f.map D.int)++[D.int x]=(f++[x]).map .int:=fun x=>by simp
  split
  .have N:zr5 rest 1009=true:=P4 _ _ (by decide)
   have G:F8 rest 1009=true:=L9 _ _ (by decide) (by decide)
   refine u3 (ρ':=envN c many (f++[rest % 1009]) rest (k0b k) j) ?_ ?_
   .refine(yk5 (ds:=f.map .int) (d:=.int (rest % 1009)) rfl ?_ hz).trans ?_
    .unfold envN;simp_arith [N,if_true]
    .unfold envN;rw[z];rfl
   .refine⟨_,(j9 (d:=.int (rest / 1009)) (by unfold envN;simp_arith [G,if_true])).trans rfl,f++[rest % 1009],rest / 1009,_,_,rfl,by simp[hf],fun v Y=>?_,Int.ediv_nonneg hrest (by decide)⟩
    rcases List.mem_append.mp Y with h|h
    .exact hpos v h
    .rw[List.mem_singleton.mp h];have:=i9 (x:=rest) (show (0:Int)<1009 by decide);omega
  .have U:O8 7919 ((k:Int)+1)=true:=zz0 _ _ (by decide) (by decide)
   have o2:O8 (7919*((k:Int)+1)) ((k:Int)+3)=true:=ym0 _ _ (by omega) (by omega)
   have N:zr5 rest 2147483629=true:=P4 _ _ (by decide)
   have G:∀ i,zr5 i 2147483629=true:=fun i=>P4 _ _ (by decide)
   obtain⟨a,ha⟩:∃ a,(rest % 2147483629+7919*((k:Int)+1)*((k:Int)+3)) % 2147483629=a:=⟨_,rfl⟩
   have Z:=i9 (x:=rest % 2147483629+7919*((k:Int)+1)*((k:Int)+3)) (show (0:Int)<2147483629 by decide)
   rw[ha]at Z
   refine u3 (ρ':=envN c many f rest (k0b k) (k0c a)) ((j9 (d:=.int a) (by unfold envN;simp_arith [N,G,U,o2,if_true,ha])).trans rfl) ?_
   have o3:O8 a a=true:=zz0 _ _ (by omega) (by omega)
   have q3:∀ i,zr5 i 2147483587=true:=fun i=>P4 _ _ (by decide)
   have q4:F8 a 7=true:=L9 _ _ (by decide) (by decide)
   obtain⟨b,hb⟩:∃ b,a*a % 2147483587+a / 7=b:=⟨_,rfl⟩
   refine u3 (ρ':=envN c many f rest (k0b k) (k0c b)) ((j9 (d:=.int b) (by unfold envN;simp_arith [q3,q4,o3,if_true,hb])).trans rfl) ?_
   have R:O8 b 48271=true:=ym0 _ _ (by decide) (by decide)
   have q5:∀ i,zr5 i 2147483647=true:=fun i=>P4 _ _ (by decide)
   have q6:∀ i,F8 i 16=true:=fun i=>L9 _ _ (by decide) (by decide)
   refine⟨_,(yk5 (ds:=f.map .int) (d:=.int (b*48271 % 2147483647 / 16)) rfl (by unfold envN;simp_arith [q5,q6,R,if_true]) hz).trans rfl,f++[b*48271 % 2147483647 / 16],rest,_,_,by unfold envN;rw[<-z];rfl,by simp[hf],fun v Y=>?_,hrest⟩
   rcases List.mem_append.mp Y with h|h
   .exact hpos v h
   .rw[List.mem_singleton.mp h];have:=i9 (x:=b*48271) (show (0:Int)<2147483647 by decide);omega
 .rintro ρ ⟨f,rest,S,j,rfl,hf,hpos,_⟩
  exact ye4 (ds:=f.map .int) rfl ⟨_,rfl,f,hf,hpos,rfl⟩
theorem xn0 (ns:List Int)(k:Int)(hk:0<=k):∃ c:Int,yk6 [.lst (ns.map .int),.int k]=some (.sh (.int c)):=by
 unfold yk6 b_Z17
 by_cases h:k<(ns.length:Int)
 .refine⟨ns.getD k.toNat 0,j6 ?_⟩
  have e:=zy9 D.int ns k hk h 0
  rw[show u7 2 [D.lst (ns.map .int),.int k]=[k0a ns,k0c k]from rfl]
  simp_arith [length_map,h,decide_true,if_true,e]
 .refine⟨0,j6 ?_⟩
  rw[show u7 2 [D.lst (ns.map .int),.int k]=[k0a ns,k0c k]from rfl]
  simp_arith [length_map,h,decide_false,if_false]
end
section
open PySem L2
theorem xz0 (s:Int)(i:List Int)(hs:1<=s)(j:i.length<=300):zm5 [.lst (i.map .int),.int s]=some (.sh (.int (lenG s i))):=by
 obtain⟨l,e,b⟩:=yv6 i s hs j
 rw[zf4 i s l e,<-yy7 hs j b]
 unfold lenG Lg cutD
 cases i with
 |nil=>rfl
 |cons a r=>
  show some (Rt.sh (D.int (1+((NI (Z5 s (a::r))).length:Int))))=some (Rt.sh (D.int ((((NI (Z5 s (a::r))).map D.int).length:Int)+1)))
  rw[length_map,Int.add_comm]
theorem zf6 {g:Tg}{body:MW}{d:D}{ds:List D}{ρ ρ1 ρ2:Ro}{β β2:Bx}(h1:tgD g d ρ=some ρ1)(h2:body ρ1 β=some (.nx ρ2,β2)):forW g body (d::ds) ρ β=forW g body ds ρ2 β2:=by
 rw[forW,h1];simp only;rw[h2]
theorem ys6 {x y:MW}{ρ:Ro}{β:Bx}(h:x ρ β=none):m9 x y ρ β=none:=by unfold m9;rw[h]
theorem xc3 {m:MS}{ρ:Ro}{β:Bx}(h:m ρ=none):wS m ρ β=none:=by unfold wS;rw[h]
theorem yr7 {n:Nat}{m:MW}{ds:List D}{β:Bx}(h:m (u7 n ds) β=none):runW n m ds β=none:=by unfold runW;rw[h]
theorem V8 {c:Ro->Bx->Option Bool}{x y:MW}{ρ:Ro}{β:Bx}{b:Bool}(h:c ρ β=some b):mifW c x y ρ β=(if b then x else y) ρ β:=by unfold mifW;rw[h];cases b <;> rfl
theorem yt3 {c:MB}{x y:MXe}{ρ:Ro}{b:Bool}(h:c ρ=some b):xifE c x y ρ=(if b then x else y) ρ:=by unfold xifE;rw[h];cases b <;> rfl
theorem yt6 (g:Int)(h:g<0):m_Z6 [.int g]=none:=by
 unfold m_Z6 b_Z6
 refine xt4 ?_
 rw[zb4 (ys1 (i:=g) (k:=0) rfl rfl),decide_eq_true h];rfl
theorem yf4 (g:Int)(h:g<0):yy4 [.int g]=some "NoWeights":=by
 unfold yy4 xn1
 refine zi6 (ρ:=u7 1 [.int g]) ?_
 rw[xy6 (ys1 (i:=g) (k:=0) rfl rfl),decide_eq_true h]
 exact zp0 (z6 rfl y8)
theorem xj4 (x:Addr)(v g:Int)(h:g<0)(β:Bx):m6 [.ptr x,.int v,.int g] β=none:=by
 unfold m6 b_Grown_put
 exact yr7 (ys6 (xc3 (yb2 (yb4 (z6 (d:=.int g) rfl y8) (yt6 g h)))))
theorem xj2 (d:D)(v g:Int)(h:g<0):Y2 [d,.int v,.int g]=some "NoWeights":=by
 unfold Y2 Q8
 exact zi6 (xc2 (yf0 (z6 (d:=.int g) rfl y8) (yf4 g h)))
section
variable (s:Int)(ns ws ls:List Int)(k:Int)(hk:k<0\/(ns.length:Int)<k)
include hk
theorem zp4 (o:Option S):cor (u4 (m2 ltD (mvar 1) (mc (.int 0)))) (u4 (m2 gtD (mvar 1) (mlen (p5 (mfld "Grown" "numbers" (mvar 0)))))) [some (.sh (Go s ns ws ls)),k0c k,o]=some true:=by
 have len:mlen (p5 (mfld "Grown" "numbers" (mvar 0))) [some (.sh (Go s ns ws ls)),k0c k,o]=some (.int (ns.length:Int)):=by
  unfold mlen;rw[l6 (d9 (d:=Go s ns ws ls) rfl (g0 s ns ws ls))];show some (D.int ((ns.map D.int).length:Int))=_;rw[length_map]
 have e1:u4 (m2 ltD (mvar 1) (mc (.int 0))) [some (.sh (Go s ns ws ls)),k0c k,o]=some (decide (k<0)):=ys1 rfl rfl
 have e2:u4 (m2 gtD (mvar 1) (mlen (p5 (mfld "Grown" "numbers" (mvar 0))))) [some (.sh (Go s ns ws ls)),k0c k,o]=some (decide (k>(ns.length:Int))):=by
  unfold u4
  rw[k8 (a:=.int k) rfl len];rfl
 refine(za9 e1 e2).trans ?_
 congr 1
 rw[Bool.or_eq_true,decide_eq_true_eq,decide_eq_true_eq]
 omega
theorem xu5 (x:Addr)(β:Bx)(i:β.lookup x=some (Gc s ns ws ls)):l7 [.ptr x,.int k] β=none:=by
 unfold l7 b_Grown_take
 refine yr7 (ys6 ?_)
 rw[show u7 3 [D.ptr x,.int k]=[some (.sh (.ptr x)),k0c k,none]from rfl]
 have e1:zw1 (cor (u4 (m2 ltD (mvar 1) (mc (.int 0)))) (u4 (m2 gtD (mvar 1) (mlen (p5 (mfld "Grown" "numbers" (mvar 0))))))) [some (.sh (.ptr x)),k0c k,none] β=some true:=by
  unfold zw1
  rw[M1 x _ _ i k none rfl,E4]
  exact zp4 s ns ws ls k hk none
 rw[V8 e1]
 rfl
theorem xu4:c9 [Go s ns ws ls,.int k]=some "NoNumber":=by
 unfold c9 S4
 refine zi6 (ρ:=u7 3 [Go s ns ws ls,.int k]) ?_
 rw[xy6 (show cor _ _ (u7 3 [Go s ns ws ls,.int k])=some true from zp4 s ns ws ls k hk none)]
 exact zp0 (z6 rfl y8)
end
theorem yk1 {i:Nat}{c mn:Str}{f:MFW}{m:ML}{ρ:Ro}{β:Bx}{p:Addr}{ns:List Str}{fs:List Fl}{ds:List D}(hp:ρ[i]? =some (some (.sh (.ptr p))))(j:β.lookup p=some (.ins c ns fs))(hn:mn∉ns)(hm:m ρ=some ds)(h:f (.ptr p::ds) β=none):T3 (T1 i c mn f m) ρ β=none:=by
 unfold T3 T1
 rw[hp];simp only;rw[j];simp only
 rw[if_pos ⟨trivial,hn⟩,hm,Option.bind_some,h]
 rfl
theorem zd3 {c mn:Str}{i:MFX}{mo:ME}{m:ML}{ρ:Ro}{ns:List Str}{ds0 ds:List D}{k:Str}(h:mo ρ=some (.obj c ns ds0))(hn:mn∉ns)(hm:m ρ=some ds)(h2:i (.obj c ns ds0::ds)=some k):yy3 c mn i mo m ρ=some k:=by
 unfold yy3;rw[h];simp only;rw[if_pos ⟨trivial,hn⟩,hm,Option.bind_some,h2]
theorem xx0 {names:List Str}{mb:MW}{ms:Str->MS}{j:MXe}{i:Nat}{ρ ρ2:Ro}{β:Bx}{c:Str}(h:mb ρ β=none)(z:j (thaw ρ β)=some c)(G:c∈names)(hs:ms c (ρ.set i (some (.sh (.exc c))))=some (.nx ρ2)):ym1 names mb j i ms ρ β=some (.nx (ρ2.set i none),β):=by
 unfold ym1
 rw[h,z]
 dsimp only
 rw[if_pos G,hs]
noncomputable def eF (x:Addr)(v:Int)(g c:D):Ro:=[some (.sh (.ptr x)),k0c v,some (.sh g),some (.sh c),none]
theorem xx2 {x:Addr}{v:Int}{g:D}{β:Bx}{c:Cell}(j:β.lookup x=some c)(i:M2 β (some (.sh g))=some (.sh g)):thaw (eF x v g .non) β=[some (.sh (zj2 c)),k0c v,some (.sh g),some (.sh .non),none]:=by
 unfold thaw eF
 simp only[map_cons,map_nil]
 rw[Q9 j,i]
 rfl
theorem retB {ρ:Ro}{β:Bx}{j i:List (Str×Bool)}{c:Str}(h:mvar 3 ρ=some (.exc c))(h1:j.lookup c=some true)(h2:i.lookup c=some false):O9 (wE (mand (misX j (mvar 3)) (m1 notD (misX i (mvar 3))))) ρ β=some (.rt (.bl true),β):=by
 have e2:m1 notD (misX i (mvar 3)) ρ=some (.bl true):=by unfold m1;rw[ym8 h h2];rfl
 unfold O9 wE mand
 rw[ym8 h h1]
 simp only
 rw[e2];rfl
theorem zh2 (s:Int)(ns ws ls:List Int)(v g:Int)(h:g<0)(x:Addr)(β:Bx)(i:β.lookup x=some (Gc s ns ws ls)):l5 [.ptr x,.int v,.int g] β=some (.sh (.bl true),β):=by
 have n1:("put":Str)∉Gn:=by decide +kernel
 have tn:∀ d β,wE (u4 (m2 (isND false) (mvar 2) (mc .non))) (eF x v (.int g) d) β=some false:=fun d β=>g8 ((k8 (a:=.int g) (b:=.non) rfl rfl).trans rfl)
 have key:b_law_refused (u7 5 [.ptr x,.int v,.int g]) β=some (.rt (.bl true),β):=by
  unfold b_law_refused
  rw[u0 (ρ':=eF x v (.int g) .non) (E7 ((j9 (d:=.non) rfl).trans rfl))]
  rw[u0 (ρ':=eF x v (.int g) (.exc "NoWeights")) (β':=β)]
  .rw[u0 (ρ':=eF x v (.int g) (.exc "NoWeights")) (β':=β) ((V8 (tn _ β)).trans rfl)]
   exact retB (c:="NoWeights") rfl (by decide +kernel) (by decide +kernel)
  refine(xx0 (c:="NoWeights") (ρ2:=(eF x v (.int g) (.exc "NoWeights")).set 4 (some (.sh (.exc "NoWeights")))) ?_ ?_ (by decide +kernel) rfl).trans rfl
  .rw[V8 (tn _ β)]
   exact yk1 (p:=x) rfl i n1 (z6 (d:=.int v) rfl (z6 (d:=.int g) rfl y8)) (xj4 x v g h β)
  .rw[xx2 i rfl,E4,yt3 (g8 ((k8 (a:=.int g) (b:=.non) rfl rfl).trans rfl))]
   exact zd3 (ns:=Gn) rfl n1 (z6 (d:=.int v) rfl (z6 (d:=.int g) rfl y8)) (xj2 _ v g h)
 unfold l5 runW
 rw[key]
 simp only[Nat.sub_self,drop_zero]
theorem zp5 (s:Int)(ns ws ls:List Int)(v:Int)(h:v<0\/(ns.length:Int)<v)(x:Addr)(β:Bx)(i:β.lookup x=some (Gc s ns ws ls)):l5 [.ptr x,.int v,.non] β=some (.sh (.bl true),β):=by
 have n1:("take":Str)∉Gn:=by decide +kernel
 have tn:∀ d β,wE (u4 (m2 (isND false) (mvar 2) (mc .non))) (eF x v .non d) β=some true:=fun d β=>g8 ((k8 (a:=.non) (b:=.non) rfl rfl).trans rfl)
 have key:b_law_refused (u7 5 [.ptr x,.int v,.non]) β=some (.rt (.bl true),β):=by
  unfold b_law_refused
  rw[u0 (ρ':=eF x v .non .non) (E7 ((j9 (d:=.non) rfl).trans rfl))]
  rw[u0 (ρ':=eF x v .non (.exc "NoNumber")) (β':=β)]
  .have e:mifW (wE (u4 (m2 (isND false) (mvar 2) (mc .non)))) (O9 (wE (mand (misX [("NoNumber",true),("NoWeights",false)] (mvar 3)) (m1 notD (misX [("NoNumber",false),("NoWeights",true)] (mvar 3)))))) (wS Z8) (eF x v .non (.exc "NoNumber")) β=some (.rt (.bl true),β):=
    (V8 (tn _ β)).trans (retB (c:="NoNumber") rfl (by decide +kernel) (by decide +kernel))
   unfold m9
   rw[e]
  refine(xx0 (c:="NoNumber") (ρ2:=(eF x v .non (.exc "NoNumber")).set 4 (some (.sh (.exc "NoNumber")))) ?_ ?_ (by decide +kernel) rfl).trans rfl
  .rw[V8 (tn _ β)]
   exact yk1 (p:=x) rfl i n1 (z6 (d:=.int v) rfl y8) (xu5 s ns ws ls v h x β i)
  .rw[xx2 i rfl,E4,yt3 (g8 ((k8 (a:=.non) (b:=.non) rfl rfl).trans rfl))]
   exact zd3 (ns:=Gn) rfl n1 (z6 (d:=.int v) rfl y8) (xu4 s ns ws ls v h)
 unfold l5 runW
 rw[key]
 simp only[Nat.sub_self,drop_zero]
end
section
open PySem L2
noncomputable abbrev rwC (xs:List Int):Cell:=.row (xs.map fun i=>Fl.v (.int i))
noncomputable def BZ (p q r g:Addr)(c1 c2 c3 c0:Cell):Bx:=[(r,c3),(q,c2),(p,c1),(g,c0)]
structure Dt (p q r g:Addr):Prop where
 qr:q≠r
 pr:p≠r
 gr:g≠r
 pq:p≠q
 gq:g≠q
 gp:g≠p
theorem zm7 {a b:Addr}{c:Cell}{β:Bx}(h:a≠b):List.lookup a ((b,c)::β)=List.lookup a β:=by rw[lookup_cons,beq_eq_false_iff_ne.mpr h]
theorem yy5 {a b:Addr}{c i:Cell}{β:Bx}(h:b≠a):updB a i ((b,c)::β)=(b,c)::updB a i β:=by rw[updB,if_neg h]
section
variable {p q r g:Addr}{c1 c2 c3 c0:Cell}
theorem lk_r:(BZ p q r g c1 c2 c3 c0).lookup r=some c3:=i6 ..
theorem up_r (c:Cell):updB r c (BZ p q r g c1 c2 c3 c0)=BZ p q r g c1 c2 c c0:=X2 ..
variable (d:Dt p q r g)
include d
theorem lk_q:(BZ p q r g c1 c2 c3 c0).lookup q=some c2:=(zm7 d.qr).trans (i6 ..)
theorem lk_p:(BZ p q r g c1 c2 c3 c0).lookup p=some c1:=(zm7 d.pr).trans ((zm7 d.pq).trans (i6 ..))
theorem lk_g:(BZ p q r g c1 c2 c3 c0).lookup g=some c0:=(zm7 d.gr).trans ((zm7 d.gq).trans ((zm7 d.gp).trans (i6 ..)))
theorem up_q (c:Cell):updB q c (BZ p q r g c1 c2 c3 c0)=BZ p q r g c1 c c3 c0:=by unfold BZ;rw[yy5 (Ne.symm d.qr),X2]
theorem up_p (c:Cell):updB p c (BZ p q r g c1 c2 c3 c0)=BZ p q r g c c2 c3 c0:=by unfold BZ;rw[yy5 (Ne.symm d.pr),yy5 (Ne.symm d.pq),X2]
theorem up_g (c:Cell):updB g c (BZ p q r g c1 c2 c3 c0)=BZ p q r g c1 c2 c3 c:=by unfold BZ;rw[yy5 (Ne.symm d.gr),yy5 (Ne.symm d.gq),yy5 (Ne.symm d.gp),X2]
end
theorem xk6 (xs:List Int):(xs.map fun i=>Fl.v (.int i)).map flD=xs.map D.int:=by rw[map_map];rfl
theorem J1 {ρ:Ro}{β:Bx}{i:Nat}{y:Option S}(h:ρ[i]? =some y):(thaw ρ β)[i]? =some (M2 β y):=by unfold thaw;rw[getElem?_map,h];rfl
theorem ze5 {ρ:Ro}{β:Bx}{i:Nat}{a:Addr}{xs:List Int}(h:ρ[i]? =some (some (.sh (.ptr a))))(j:β.lookup a=some (rwC xs)):bvar i (thaw ρ β)=some (xs.map .int):=by
 unfold bvar
 rw[J1 h,Q9 j]
 show some ((xs.map fun i=>Fl.v (.int i)).map flD)=_
 rw[xk6]
theorem yn8 {ρ:Ro}{β:Bx}{i:Nat}{d:D}(h:ρ[i]? =some (some (.sh d)))(hd:M2 β (some (.sh d))=some (.sh d)):mvar i (thaw ρ β)=some d:=by
 unfold mvar;rw[J1 h,hd]
theorem zq2 {ρ:Ro}{β:Bx}{i:Nat}{ds:List D}(h:ρ[i]? =some (some (.sh (.lst ds)))):bvar i (thaw ρ β)=some ds:=by
 unfold bvar;rw[J1 h];rfl
theorem ze7 {ρ:Ro}{β:Bx}{i:Nat}{a:Addr}{xs:List Int}{v:Int}{x:Ro->Bx->Option D}(h:ρ[i]? =some (some (.sh (.ptr a))))(G:β.lookup a=some (rwC xs))(z:x ρ β=some (.int v))(j:xs.length<100000):zm4 i x ρ β=some (.nx ρ,updB a (rwC (xs++[v])) β):=by
 unfold zm4
 rw[h];simp only;rw[G];simp only
 rw[z,Option.bind_some,if_pos (by rw[length_map];exact Nat.lt_of_lt_of_le j (Nat.le_trans (by decide) m5))]
 unfold rwC
 rw[map_append];rfl
theorem yh8 {ρ:Ro}{β:Bx}{i:Nat}{a:Addr}{xs:List Int}(h:ρ[i]? =some (some (.sh (.ptr a))))(z:β.lookup a=some (rwC xs))(j:xs≠[]):yv0 i ρ β=some (.nx ρ,updB a (rwC xs.dropLast) β):=by
 unfold yv0
 rw[h];simp only;rw[z];simp only
 rw[getLast?_map,getLast?_eq_some_getLast j]
 simp only[Option.map_some]
 unfold rwC
 rw[map_dropLast]
theorem W6 {m:ME}{ρ:Ro}{β:Bx}{v:Int}(h:m (thaw ρ β)=some (.int v)):d7 m ρ β=some (.int v):=by unfold d7;rw[h];rfl
theorem zi5 {i:Nat}{x:Ro->Bx->Option D}{ρ:Ro}{β:Bx}{d:D}(h:x ρ β=some d):zx9 i x ρ β=some (.nx (ρ.set i (some (.sh d))),β):=by unfold zx9;rw[h];rfl
theorem yr8 {x:Ro->Bx->Option (D×Bx)}{ρ:Ro}{β β':Bx}{d:D}(h:x ρ β=some (d,β')):zg1 x ρ β=some (.rt d,β'):=by unfold zg1;rw[h];rfl
theorem yz2 {f:MFW}{m:ML}{ρ:Ro}{β β':Bx}{ds:List D}{d:D}(h:m ρ=some ds)(h2:f ds β=some (.sh d,β')):G8 f m ρ β=some (d,β'):=by unfold G8;rw[h,Option.bind_some,h2];rfl
theorem xy1 {f:MFW}{m:Ro->Bx->Option (List D)}{ρ:Ro}{β β':Bx}{ds:List D}{d:D}(h:m ρ β=some ds)(h2:f ds β=some (.sh d,β')):zm3 f m ρ β=some (d,β'):=by unfold zm3;rw[h,Option.bind_some,h2];rfl
theorem ys5 {x y:MW}{ρ:Ro}{β β':Bx}{d:D}(h:x ρ β=some (.rt d,β')):m9 x y ρ β=some (.rt d,β'):=by unfold m9;rw[h]
noncomputable def eD (p q r g:Addr)(s:Int)(nu:List Int)(o7 o8 o9 oa ob oc:Option S):Ro:=[some (.sh (.ptr g)),some (.sh (.tup [.ptr p,.ptr q,.ptr r,.int s])),k0a nu,some (.sh (.ptr p)),some (.sh (.ptr q)),some (.sh (.ptr r)),k0c s,o7,o8,o9,oa,ob,oc]
structure Okk (s:Int)(k:Nat)(ns ws ls:List Int):Prop where
 len:ws.length=ns.length
 pos:∀ w∈ws,0<=w
 nk:ns.length<=k
 lk:ls.length<=k
 last:ls=[]\/ls.getLast? =some (lenG s ns)
theorem five {f:List Int}(h:f.length=5):∃ a b c d e,f=[a,b,c,d,e]:=by
 match f,h with
 |[a,b,c,d,e],_=>exact⟨a,b,c,d,e,rfl⟩
theorem zn9 {m:ML}{ρ:Ro}{nu:List Int}{j v:Int}(h:m ρ=some (nu.map .int))(i:atI (nu.map D.int) j=some (.int v)):mix m (mc (.int j)) ρ=some (.int v):=V6 h rfl i
theorem Q0 {x y:ME}{ρ:Ro}{i k:Int}(h:x ρ=some (.int i))(h2:y ρ=some (.int k))(hk:0<k):m2 modD x y ρ=some (.int (i % k)):=by
 rw[k8 h h2]
 show (if zr5 i k=true then some (D.int (i % k))else none)=_
 rw[if_pos (P4 _ _ hk)]
theorem zf8 {x y:ME}{ρ:Ro}{i k:Int}(h:x ρ=some (.int i))(h2:y ρ=some (.int k))(hk:0<k)(j:k<1073741824):m2 zw3 x y ρ=some (.int (i / k)):=by
 rw[k8 h h2]
 show (if F8 i k=true then some (D.int (i / k))else none)=_
 rw[if_pos (L9 _ _ hk j)]
theorem yn9 {x y:ME}{ρ:Ro}{i k:Int}(h:x ρ=some (.int i))(h2:y ρ=some (.int k))(hk:O8 i k=true):m2 mulD x y ρ=some (.int (i*k)):=by
 rw[k8 h h2]
 show (if O8 i k=true then some (D.int (i*k))else none)=_
 rw[if_pos hk]
theorem zu8 {x y:ME}{ρ:Ro}{i k:Int}(h:x ρ=some (.int i))(h2:y ρ=some (.int k)):m2 addD x y ρ=some (.int (i+k)):=(k8 h h2).trans rfl
theorem ys4 {x y:ME}{ρ:Ro}{i k:Int}(h:x ρ=some (.int i))(h2:y ρ=some (.int k)):m2 subD x y ρ=some (.int (i-k)):=(k8 h h2).trans rfl
theorem yj2 {m:ML}{ρ:Ro}{xs:List Int}(h:m ρ=some (xs.map .int)):mlen m ρ=some (.int (xs.length:Int)):=by rw[Z2 h,length_map]
end
section
open PySem L2
theorem M3 (xs:List Int)(j:Nat)(h:j<xs.length):(xs.take (xs.length-j)).dropLast=xs.take (xs.length-(j+1)):=by
 rw[dropLast_eq_take,length_take,take_take]
 congr 1
 omega
theorem yp0 (p q r g:Addr)(d:Dt p q r g)(s:Int)(nu:List Int)(O N I ob oc:Option S)(ns ws:List Int)(c3 c0:Cell)(hw:ws.length=ns.length):∀(m j:Nat)(R:Option S),j+m<=ns.length->∃ G,∀ p q r g,Dt p q r g->forW (.nm 9) S5 ((List.range m).map fun i=>D.int (((j+i:Nat):Nat):Int)) (eD p q r g s nu O N R I ob oc) (BZ p q r g (rwC (ns.take (ns.length-j))) (rwC (ws.take (ws.length-j))) c3 c0)=some (.nx (eD p q r g s nu O N G I ob oc),BZ p q r g (rwC (ns.take (ns.length-(j+m)))) (rwC (ws.take (ws.length-(j+m)))) c3 c0)
 |0,j,R,h=>⟨R,fun p q r g d=>rfl⟩
 |m+1,j,R,h=>by
  obtain⟨G,U⟩:=yp0 p q r g d s nu O N I ob oc ns ws c3 c0 hw m (j+1) (k0b j) (by omega)
  refine⟨G,fun p q r g d=>?_⟩
  rw[range_succ_eq_map,map_cons,map_map]
  refine(zf6 (ρ1:=eD p q r g s nu O N (k0b j) I ob oc) (ρ2:=eD p q r g s nu O N (k0b j) I ob oc) (β2:=BZ p q r g (rwC (ns.take (ns.length-(j+1)))) (rwC (ws.take (ws.length-(j+1)))) c3 c0) rfl ?_).trans ?_
  .unfold S5
   have n1:ns.take (ns.length-j)≠[]:=fun z=>by have:=congrArg List.length z;simp at this;omega
   have n2:ws.take (ws.length-j)≠[]:=fun z=>by have:=congrArg List.length z;simp at this;omega
   rw[u0 (yh8 (a:=p) rfl (lk_p d) n1),up_p d,yh8 (a:=q) rfl (lk_q d) n2,up_q d,M3 ns j (by omega),M3 ws j (by omega)]
  .have e:(List.map ((fun i=>D.int (((j+i:Nat):Nat):Int))∘Nat.succ) (List.range m))=(List.range m).map fun i=>D.int (((j+1+i:Nat):Nat):Int):=by
    refine map_congr_left fun i _=>?_
    show D.int ((j+(i+1):Nat):Int)=D.int ((j+1+i:Nat):Int)
    rw[show j+(i+1)=j+1+i by omega]
   rw[e,U p q r g d,show j+1+m=j+(m+1)by omega]
section
variable (s:Int)(hs:1<=s)(n0 n1 n2 n3 n4:Int)(b0:0<=n0/\n0<=2147483647)(b1:0<=n1/\n1<=2147483647)(b2:0<=n2/\n2<=2147483647)(b3:0<=n3/\n3<=2147483647)(b4:0<=n4/\n4<=2147483647)
theorem zm1 (p q r g:Addr)(d:Dt p q r g)(nu:List Int)(G z j i ob oc:Option S)(ns ws ls:List Int)(c0:Cell)(hs:1<=s)(hn:ns.length<=300)(I:ls.length<100000):m9 (zm4 5 (d7 (m7 zm5 (z7 (mlst (bvar 3)) (z7 (mvar 6) anil))))) (O9 (wE (mc (.bl true)))) (eD p q r g s nu G z j i ob oc) (BZ p q r g (rwC ns) (rwC ws) (rwC ls) c0)=some (.rt (.bl true),BZ p q r g (rwC ns) (rwC ws) (rwC (ls++[lenG s ns])) c0):=by
 have e:d7 (m7 zm5 (z7 (mlst (bvar 3)) (z7 (mvar 6) anil))) (eD p q r g s nu G z j i ob oc) (BZ p q r g (rwC ns) (rwC ws) (rwC ls) c0)=some (.int (lenG s ns)):=
  W6 (u6 (z6 (i7 (ze5 (a:=p) rfl (lk_p d))) (z6 (yn8 (d:=.int s) rfl rfl) y8)) (xz0 s ns hs hn))
 rw[u0 (ze7 (a:=r) rfl lk_r e I),up_r]
 rfl
include hs b0 b1 b2 b3 b4
theorem xo6 (k:Nat)(hk:k<=100)(ns ws ls:List Int)(ok:Okk s k ns ws ls):∃ I G O,Okk s (k+1) I G O/\∀ p q r g,Dt p q r g->X8 [.ptr g,.tup [.ptr p,.ptr q,.ptr r,.int s],.lst ([n0,n1,n2,n3,n4].map .int)] (BZ p q r g (rwC ns) (rwC ws) (rwC ls) (Gc s ns ws ls))=some (.sh (.bl true),BZ p q r g (rwC I) (rwC G) (rwC O) (Gc s I G O)):=by
 obtain⟨U,o2,o3,o4,o5⟩:=ok
 have hm:=i9 (x:=n0) (show (0:Int)<8 by decide)
 have i2:0+1+1<=sizeLine:=o0 (by decide)
 have i3:0+1+1+1<=sizeLine:=o0 (by decide)
 have i4:0+1+1+1+1<=sizeLine:=o0 (by decide)
 suffices H:∃ I G O,Okk s (k+1) I G O/\∀ p q r g,Dt p q r g->b_law_deed (u7 13 [.ptr g,.tup [.ptr p,.ptr q,.ptr r,.int s],.lst ([n0,n1,n2,n3,n4].map .int)]) (BZ p q r g (rwC ns) (rwC ws) (rwC ls) (Gc s ns ws ls))=some (.rt (.bl true),BZ p q r g (rwC I) (rwC G) (rwC O) (Gc s I G O))by
  obtain⟨a,b,c,h1,h2⟩:=H
  refine⟨a,b,c,h1,fun p q r g d=>?_⟩
  unfold X8 runW
  rw[h2 p q r g d]
  simp only[BZ,length_cons,length_nil,Nat.sub_self,drop_zero]
 have pre:∀ p q r g β,b_law_deed (u7 13 [.ptr g,.tup [.ptr p,.ptr q,.ptr r,.int s],.lst ([n0,n1,n2,n3,n4].map .int)]) β=(m9 (mifW (wE (u4 (m2 eqSD (mvar 7) (mc (.int 0))))) (zg1 (G8 l5 (z7 (mvar 0) (z7 (mix (bvar 2) (mc (.int 1))) (z7 (m2 subD (m1 negD (mc (.int 1))) (m2 modD (mix (bvar 2) (mc (.int 2))) (mc (.int 3)))) anil))))) (wS Z8)) _) (eD p q r g s [n0,n1,n2,n3,n4] (some (.sh (.int (n0 % 8)))) none none none none none) β:=fun p q r g β=>by
  unfold b_law_deed
  rw[u0 (ρ':=eD p q r g s [n0,n1,n2,n3,n4] none none none none none none) (E7 (by unfold masg;rfl))]
  rw[u0 (ρ':=eD p q r g s [n0,n1,n2,n3,n4] (some (.sh (.int (n0 % 8)))) none none none none none) (E7 ((j9 (Q0 (zn9 (nu:=[n0,n1,n2,n3,n4]) (v:=n0) rfl rfl) (i:=n0) (k:=8) rfl (by decide))).trans rfl))]
 have t:∀(j:Int) p q r g β (R Z Y ob oc:Option S),wE (u4 (m2 eqSD (mvar 7) (mc (.int j)))) (eD p q r g s [n0,n1,n2,n3,n4] (some (.sh (.int (n0 % 8)))) R Z Y ob oc) β=some ((n0 % 8)==j):=fun j p q r g β R Z Y ob oc=>xc9 rfl
 by_cases k0:n0 % 8=0
 .refine⟨ns,ws,ls,⟨U,o2,by omega,by omega,o5⟩,fun p q r g d=>?_⟩
  rw[pre]
  refine ys5 ((V8 (t 0 p q r g _ _ _ _ _ _)).trans ?_)
  rw[k0]
  have h3:=i9 (x:=n2) (show (0:Int)<3 by decide)
  exact yr8 (yz2 (z6 (d:=.ptr g) rfl (z6 (zn9 (nu:=[n0,n1,n2,n3,n4]) (v:=n1) rfl rfl) (z6 (ys4 (i:=-1) rfl (Q0 (zn9 (nu:=[n0,n1,n2,n3,n4]) (v:=n2) rfl rfl) (k:=3) rfl (by decide))) y8))) (zh2 s ns ws ls n1 (-1-n2 % 3) (by omega) g _ (lk_g d)))
 have e0:((n0 % 8)==(0:Int))=false:=beq_eq_false_iff_ne.mpr k0
 by_cases k1:n0 % 8=1
 .refine⟨ns,ws,ls,⟨U,o2,by omega,by omega,o5⟩,fun p q r g d=>?_⟩
  rw[pre,u0 (ρ':=eD p q r g s [n0,n1,n2,n3,n4] (some (.sh (.int (n0 % 8)))) none none none none none) (β':=BZ p q r g (rwC ns) (rwC ws) (rwC ls) (Gc s ns ws ls)) ((V8 (t 0 p q r g _ _ _ _ _ _)).trans (by rw[e0];rfl))]
  refine ys5 ((V8 (t 1 p q r g _ _ _ _ _ _)).trans ?_)
  rw[k1]
  have h3:=i9 (x:=n1) (show (0:Int)<3 by decide)
  have ea:d7 (m2 addD (m2 addD (mlen (bvar 3)) (mc (.int 1))) (m2 modD (mix (bvar 2) (mc (.int 1))) (mc (.int 3)))) (eD p q r g s [n0,n1,n2,n3,n4] (some (.sh (.int 1))) none none none none none) (BZ p q r g (rwC ns) (rwC ws) (rwC ls) (Gc s ns ws ls))=some (.int ((ns.length:Int)+1+n1 % 3)):=
   W6 (zu8 (zu8 (yj2 (ze5 (a:=p) rfl (lk_p d))) (k:=1) rfl) (Q0 (zn9 (nu:=[n0,n1,n2,n3,n4]) (v:=n1) (zq2 rfl) rfl) (k:=3) rfl (by decide)))
  exact yr8 (xy1 (V9 (d:=.ptr g) rfl (V9 ea (V9 (d:=.non) rfl (ds:=[]) rfl))) (zp5 s ns ws ls _ (.inr (by omega)) g _ (lk_g d)))
 have e1:((n0 % 8)==(1:Int))=false:=beq_eq_false_iff_ne.mpr k1
 by_cases k2:n0 % 8=2
 ·-- some are taken
  obtain⟨a,ha,a3⟩:∃ a,atI [D.int 2,.int ((ns.length:Int)+1)] (n2 % 2)=some (.int a)/\0<a:=by
   have h3:=i9 (x:=n2) (show (0:Int)<2 by decide)
   have:n2 % 2=0\/n2 % 2=1:=by omega
   rcases this with z|z <;> rw[z]
   .exact⟨2,rfl,by decide⟩
   .exact⟨(ns.length:Int)+1,rfl,by omega⟩
  have hb:=i9 (x:=n1) a3
  obtain⟨j,hj,aa⟩:∃ j:Nat,(if (ns.length:Int)<n1 % a then (ns.length:Int)else n1 % a)=(j:Int)/\j<=ns.length:=by
   split
   .exact⟨ns.length,rfl,Nat.le_refl _⟩
   .exact⟨(n1 % a).toNat,by omega,by omega⟩
  have l1:(ns.take (ns.length-j)).length<=ns.length:=by rw[length_take];omega
  have d0:Dt 0 1 2 3:=⟨by decide,by decide,by decide,by decide,by decide,by decide⟩
  obtain⟨a5,ep⟩:=yp0 0 1 2 3 d0 s [n0,n1,n2,n3,n4] (some (.sh (.int (n0 % 8)))) (k0b j) none none none ns ws (rwC ls) (Gc s (ns.take (ns.length-j)) (ws.take (ns.length-j)) (ls++[lenG s (ns.take (ns.length-j))])) U j 0 none (by omega)
  refine⟨ns.take (ns.length-j),ws.take (ns.length-j),ls++[lenG s (ns.take (ns.length-j))],⟨by rw[length_take,length_take,U],fun w hw=>o2 w (mem_of_mem_take hw),by omega,by rw[length_append,length_singleton];omega,.inr (by rw[getLast?_append];rfl)⟩,fun p q r g d=>?_⟩
  rw[pre,u0 (ρ':=eD p q r g s [n0,n1,n2,n3,n4] (some (.sh (.int (n0 % 8)))) none none none none none) (β':=BZ p q r g (rwC ns) (rwC ws) (rwC ls) (Gc s ns ws ls)) ((V8 (t 0 p q r g _ _ _ _ _ _)).trans (by rw[e0];rfl)),
   u0 (ρ':=eD p q r g s [n0,n1,n2,n3,n4] (some (.sh (.int (n0 % 8)))) none none none none none) (β':=BZ p q r g (rwC ns) (rwC ws) (rwC ls) (Gc s ns ws ls)) ((V8 (t 1 p q r g _ _ _ _ _ _)).trans (by rw[e1];rfl))]
  rw[u0 (ρ':=eD p q r g s [n0,n1,n2,n3,n4] (some (.sh (.int (n0 % 8)))) (k0b j) a5 none none none) (β':=BZ p q r g (rwC (ns.take (ns.length-j))) (rwC (ws.take (ns.length-j))) (rwC ls) (Gc s (ns.take (ns.length-j)) (ws.take (ns.length-j)) (ls++[lenG s (ns.take (ns.length-j))]))) ?_]
  .exact zm1 s p q r g d _ _ _ _ _ _ _ _ _ ls _ hs (by omega) (by omega)
  refine(V8 (t 2 p q r g _ _ _ _ _ _)).trans ?_
  rw[show ((n0 % 8)==(2:Int))=true from beq_iff_eq.mpr k2,if_pos rfl]
  have eL:∀ R,bvar 3 (thaw (eD p q r g s [n0,n1,n2,n3,n4] (some (.sh (.int (n0 % 8)))) R none none none none) (BZ p q r g (rwC ns) (rwC ws) (rwC ls) (Gc s ns ws ls)))=some (ns.map .int):=fun R=>ze5 (a:=p) rfl (lk_p d)
  have ea:d7 (m2 modD (mix (bvar 2) (mc (.int 1))) (mix (u8 (z7 (mc (.int 2)) (z7 (m2 addD (mlen (bvar 3)) (mc (.int 1))) anil))) (m2 modD (mix (bvar 2) (mc (.int 2))) (mc (.int 2))))) (eD p q r g s [n0,n1,n2,n3,n4] (some (.sh (.int (n0 % 8)))) none none none none none) (BZ p q r g (rwC ns) (rwC ws) (rwC ls) (Gc s ns ws ls))=some (.int (n1 % a)):=
   W6 (Q0 (zn9 (nu:=[n0,n1,n2,n3,n4]) (v:=n1) (zq2 rfl) rfl) (V6 (t7 (z6 (d:=.int 2) rfl (z6 (zu8 (yj2 (eL none)) (k:=1) rfl) y8)) i2) (Q0 (zn9 (nu:=[n0,n1,n2,n3,n4]) (v:=n2) (zq2 rfl) rfl) (k:=2) rfl (by decide)) ha) a3)
  rw[u0 (ρ':=eD p q r g s [n0,n1,n2,n3,n4] (some (.sh (.int (n0 % 8)))) (some (.sh (.int (n1 % a)))) none none none none) ((zi5 ea).trans rfl)]
  have em:d7 (Y7 ym9 (z7 (mvar 8) (z7 (mlen (bvar 3)) anil))) (eD p q r g s [n0,n1,n2,n3,n4] (some (.sh (.int (n0 % 8)))) (some (.sh (.int (n1 % a)))) none none none none) (BZ p q r g (rwC ns) (rwC ws) (rwC ls) (Gc s ns ws ls))=some (.int (j:Int)):=by
   refine W6 ?_
   unfold Y7
   rw[z6 (yn8 (d:=.int (n1 % a)) rfl rfl) (z6 (yj2 (eL _)) y8),<-hj]
   rfl
  rw[u0 (ρ':=eD p q r g s [n0,n1,n2,n3,n4] (some (.sh (.int (n0 % 8)))) (k0b j) none none none none) ((zi5 em).trans rfl)]
  rw[u0 (xm2 (x:=g) (s:=s) (ns:=ns) (ws:=ws) (ls:=ls) (k:=j) rfl (lk_g d) (z6 (d:=.int (j:Int)) rfl y8) hs aa U (by omega) (by omega)),up_g d]
  unfold zw0 g9
  rw[z6 (d:=.int (j:Int)) rfl y8,Option.bind_some,zh0 (T0 (by omega) (by omega)),Int.toNat_natCast,Option.bind_some]
  have er:X1 0 j=(List.range j).map fun i=>D.int (((0+i:Nat):Nat):Int):=by
   unfold X1
   refine map_congr_left fun i _=>?_
   rw[Nat.zero_add,Int.zero_add]
  rw[er]
  have ep:=ep p q r g d
  rw[Nat.sub_zero,Nat.sub_zero,take_length,take_length,Nat.zero_add,U]at ep
  exact ep
 have e2:((n0 % 8)==(2:Int))=false:=beq_eq_false_iff_ne.mpr k2
 obtain⟨sp,a9,a2⟩:∃ a,atI [D.int 3,.int 10,.int (3*s)] (n1 % 3)=some (.int a)/\0<a:=by
  have h3:=i9 (x:=n1) (show (0:Int)<3 by decide)
  have:n1 % 3=0\/n1 % 3=1\/n1 % 3=2:=by omega
  rcases this with z|z|z <;> rw[z]
  .exact⟨3,rfl,by decide⟩
  .exact⟨10,rfl,by decide⟩
  .exact⟨3*s,rfl,by omega⟩
 have a4:(10:Int)^(29:Int).toNat=100000000000000000000000000000:=by decide
 have a6:yq8 10 29=true:=by decide
 obtain⟨w,hw,a1⟩:∃ a,atI [D.int (n3 % 5),.int n3,.int 100000000000000000000000000000,.int 1] (n1 / 3 % 4)=some (.int a)/\0<=a:=by
  have h3:=i9 (x:=n1 / 3) (show (0:Int)<4 by decide)
  have h5:=i9 (x:=n3) (show (0:Int)<5 by decide)
  have:n1 / 3 % 4=0\/n1 / 3 % 4=1\/n1 / 3 % 4=2\/n1 / 3 % 4=3:=by omega
  rcases this with z|z|z|z <;> rw[z] <;> exact⟨_,rfl,by omega⟩
 obtain⟨x,hx⟩:∃ x,n2+n2*n4*(s / 1000)=x:=⟨_,rfl⟩
 obtain⟨v,hv⟩:∃ v,x % sp-sp / 2=v:=⟨_,rfl⟩
 have a8:O8 n2 n4=true:=zz0 _ _ (by omega) (by omega)
 have m2':O8 (n2*n4) (s / 1000)=true:=by
  refine zz0 _ _ ?_ ?_
  .have:=Int.mul_nonneg b2.1 b4.1;omega
  .have h:=Int.mul_le_mul b2.2 b4.2 b4.1 (by decide:(0:Int)<=2147483647)
   have:(2147483647:Int)*2147483647<2^64:=by decide
   omega
 have a7:O8 3 s=true:=zz0 _ _ (by decide) (by decide)
 refine⟨ns++[v],ws++[w],ls++[lenG s (ns++[v])],⟨by simp[U],fun y hy=>?_,by simp;omega,by simp;omega,.inr (by rw[getLast?_append];rfl)⟩,fun p q r g d=>?_⟩
 .rcases List.mem_append.mp hy with z|z
  .exact o2 y z
  .rw[List.mem_singleton.mp z];exact a1
 rw[pre,u0 (ρ':=eD p q r g s [n0,n1,n2,n3,n4] (some (.sh (.int (n0 % 8)))) none none none none none) (β':=BZ p q r g (rwC ns) (rwC ws) (rwC ls) (Gc s ns ws ls)) ((V8 (t 0 p q r g _ _ _ _ _ _)).trans (by rw[e0];rfl)),
  u0 (ρ':=eD p q r g s [n0,n1,n2,n3,n4] (some (.sh (.int (n0 % 8)))) none none none none none) (β':=BZ p q r g (rwC ns) (rwC ws) (rwC ls) (Gc s ns ws ls)) ((V8 (t 1 p q r g _ _ _ _ _ _)).trans (by rw[e1];rfl))]
 rw[u0 (ρ':=eD p q r g s [n0,n1,n2,n3,n4] (some (.sh (.int (n0 % 8)))) none none (k0c sp) (k0c v) (k0c w)) (β':=BZ p q r g (rwC (ns++[v])) (rwC (ws++[w])) (rwC ls) (Gc s (ns++[v]) (ws++[w]) (ls++[lenG s (ns++[v])]))) ?_]
 .exact zm1 s p q r g d _ _ _ _ _ _ _ _ _ ls _ hs (by simp;omega) (by omega)
 refine(V8 (t 2 p q r g _ _ _ _ _ _)).trans ?_
 rw[e2]
 show m9 _ _ _ _=_
 have N:∀(j v:Int)(R Z Y ob oc:Option S),atI ([n0,n1,n2,n3,n4].map D.int) j=some (.int v)->mix (bvar 2) (mc (.int j)) (eD p q r g s [n0,n1,n2,n3,n4] (some (.sh (.int (n0 % 8)))) R Z Y ob oc)=some (.int v):=fun j v R Z Y ob oc h=>zn9 (nu:=[n0,n1,n2,n3,n4]) rfl h
 rw[u0 (ρ':=eD p q r g s [n0,n1,n2,n3,n4] (some (.sh (.int (n0 % 8)))) none none (k0c sp) none none) (E7 ((j9 (V6 (t7 (z6 (d:=.int 3) rfl (z6 (d:=.int 10) rfl (z6 (yn9 (i:=3) (k:=s) rfl rfl a7) y8))) i3) (Q0 (N 1 n1 _ _ _ _ _ rfl) (k:=3) rfl (by decide)) a9)).trans rfl))]
 rw[u0 (ρ':=eD p q r g s [n0,n1,n2,n3,n4] (some (.sh (.int (n0 % 8)))) none none (k0c sp) (k0c x) none) (E7 ((j9 (zu8 (N 2 n2 _ _ _ _ _ rfl) (yn9 (yn9 (N 2 n2 _ _ _ _ _ rfl) (N 4 n4 _ _ _ _ _ rfl) a8) (zf8 (i:=s) (k:=1000) rfl rfl (by decide) (by decide)) m2'))).trans (by rw[hx];rfl)))]
 rw[u0 (ρ':=eD p q r g s [n0,n1,n2,n3,n4] (some (.sh (.int (n0 % 8)))) none none (k0c sp) (k0c v) none) (E7 ((j9 (ys4 (Q0 (i:=x) (k:=sp) rfl rfl a2) (zf8 (i:=sp) (k:=2) rfl rfl (by decide) (by decide)))).trans (by rw[hv];rfl)))]
 rw[u0 (ρ':=eD p q r g s [n0,n1,n2,n3,n4] (some (.sh (.int (n0 % 8)))) none none (k0c sp) (k0c v) (k0c w)) (E7 ((j9 (V6 (t7 (z6 (Q0 (N 3 n3 _ _ _ _ _ rfl) (k:=5) rfl (by decide)) (z6 (N 3 n3 _ _ _ _ _ rfl) (z6 (d:=.int 100000000000000000000000000000) (by unfold eD;simp_arith [a4,a6,if_true]) (z6 (d:=.int 1) rfl y8)))) i4) (Q0 (zf8 (N 1 n1 _ _ _ _ _ rfl) (k:=3) rfl (by decide) (by decide)) (k:=4) rfl (by decide)) hw)).trans rfl))]
 rw[u0 (xj3 (x:=g) (s:=s) (ns:=ns) (ws:=ws) (ls:=ls) (v:=v) (g:=w) rfl (lk_g d) (z6 (d:=.int v) rfl (z6 (d:=.int w) rfl y8)) a1 hs (by omega) (by omega) (by omega)),up_g d]
 rw[u0 (ze7 (a:=p) (v:=v) rfl (lk_p d) rfl (by omega)),up_p d,ze7 (a:=q) (v:=w) rfl (lk_q d) rfl (by omega),up_q d]
end
end
section
open PySem L2
theorem xz5 (xs:List Int)(v:Int):cutI (xs++[v]) (some (-1)) none=[v]:=by
 unfold cutI
 have e:_root_.HT.sIx (xs++[v]).length 0 (some (-1))=xs.length:=by
  unfold _root_.HT.sIx
  simp
  omega
 rw[e,drop_left]
 exact take_of_length_le (by rw[_root_.HT.sIx_none];simp)
theorem za7 {i:Bool}{x y:ML}{ρ:Ro}{xs:List Int}(h:x ρ=some (xs.map .int))(h2:y ρ=some (xs.map .int)):meqB i x y ρ=some (.bl (!i)):=by
 unfold meqB;rw[h,h2,Option.bind_some,Option.bind_some,yr0 xs i]
theorem C7 (i:Bool)(a:Int):eqFD i (.int a) (.int a)=some (.bl (!i)):=by unfold eqFD;rw[yi5 7];cases i <;> rfl
theorem xw8 (xs:List Int):eqFD true (.lst (xs.map .int)) (.lst [])=some (.bl (!xs.isEmpty)):=by cases xs <;> rfl
theorem xu2 (s:Int)(ns ws ls:List Int)(v:Int)(hs:1<=s)(hw:ws.length=ns.length)(h0:∀ x∈ws,0<=x)(I:ns.length<=300)(hv:v=lenG s ns):yv5 [Go s ns ws (ls++[v]),.tup [.lst (ns.map .int),.lst (ws.map .int),.lst ((ls++[v]).map .int),.int s]]=some (.sh (.bl true)):=by
 obtain⟨l,Y⟩:=N1 ns ws s hs hw h0 I
 obtain⟨k,R⟩:=zu1 ns s hs I
 have G:=zn6 s ns hs I
 unfold yv5 b_Z21
 refine j6 ?_
 obtain⟨ρ,i⟩:∃ ρ,ρ=[some (S.sh (Go s ns ws (ls++[v]))),some (.sh (.tup [.lst (ns.map .int),.lst (ws.map .int),.lst ((ls++[v]).map .int),.int s])),k0a ns,k0a ws,some (.sh (.lst ((ls++[v]).map .int))),k0c s]:=⟨_,rfl⟩
 refine seqI (ρ':=ρ) (by rw[i];unfold masg;rfl) ?_
 have ob:mvar 0 ρ=some (.obj "Grown" Gn [.int s,.lst (ns.map .int),.lst (ws.map .int),.lst ((ls++[v]).map .int)]):=by rw[i];rfl
 have j:bvar 2 ρ=some (ns.map .int):=by rw[i];rfl
 have v3:bvar 3 ρ=some (ws.map .int):=by rw[i];rfl
 have O:bvar 4 ρ=some ((ls++[v]).map .int):=by rw[i];rfl
 have N:mvar 5 ρ=some (.int s):=by rw[i];rfl
 clear i
 have Z:z7 (mlst (bvar 2)) (z7 (mvar 5) anil) ρ=some [.lst (ns.map .int),.int s]:=z6 (i7 j) (z6 N y8)
 have n1:("row":Str)∉Gn:=by decide +kernel
 have n2:("length":Str)∉Gn:=by decide +kernel
 have n3:("weight":Str)∉Gn:=by decide +kernel
 have n4:("how_many":Str)∉Gn:=by decide +kernel
 have n5:("pieces":Str)∉Gn:=by decide +kernel
 have n6:("moments":Str)∉Gn:=by decide +kernel
 have U:=Z3 ob n2 (Y1 G)
 have ep:=zg3 ob n5 (S6 G)
 have c1:u4 (meqB true (p5 (v6 "Grown" "row" Q5 (mvar 0) anil)) (bvar 2)) ρ=some false:=g8 (za7 (l6 (zz4 ob n1 (B7 s ns ws _))) j)
 have c2:u4 (m2 (eqFD true) (v6 "Grown" "length" m_Z9 (mvar 0) anil) (mix (mcut (bvar 4) (P8 (m1 negD (mc (.int 1)))) zr1) (mc (.int 0)))) ρ=some false:=by
  refine g8 ?_
  have ec:mcut (bvar 4) (P8 (m1 negD (mc (.int 1)))) zr1 ρ=some [.int v]:=by
   unfold mcut
   rw[O]
   show some (cutL ((ls++[v]).map D.int) (some (-1)) none)=_
   rw[zq1,xz5];rfl
  rw[k8 U (V6 ec rfl (d:=.int v) rfl),hv]
  exact C7 true _
 have c3:u4 (m2 (eqFD true) (v6 "Grown" "pieces" m_Z8 (mvar 0) anil) (m7 D4 (z7 (mlst (bvar 2)) (z7 (mvar 5) anil)))) ρ=some false:=by
  refine g8 ?_
  have e2:m7 D4 (z7 (mlst (bvar 2)) (z7 (mvar 5) anil)) ρ=some (.tup [zx4 s ns,.lst (cutD s ns)]):=by
   unfold m7;rw[Z,Option.bind_some,show D4 [D.lst (ns.map .int),.int s]=_ from G]
  rw[k8 ep e2]
  unfold eqFD
  rw[show eqF 8 (.tup [zx4 s ns,.lst (cutD s ns)]) (.tup [zx4 s ns,.lst (cutD s ns)])=some true from yi3 5 (kd (Y9 s ns)) (NI (Z5 s ns))]
  rfl
 refine seqI (ρ':=ρ) (by rw[zb4 (za9 c1 (za9 c2 c3))];rfl) ?_
 have c4:u4 (m2 (eqFD true) (v6 "Grown" "length" m_Z9 (mvar 0) anil) (m2 addD (mlen (p5 (m2 ixTD (v6 "Grown" "pieces" m_Z8 (mvar 0) anil) (mc (.int 1))))) (Y7 intF (z7 (meqB true (bvar 2) (u8 anil)) anil)))) ρ=some false:=by
  refine g8 ?_
  have e1:m2 ixTD (v6 "Grown" "pieces" m_Z8 (mvar 0) anil) (mc (.int 1)) ρ=some (.lst (cutD s ns)):=(k8 ep (b:=.int 1) rfl).trans rfl
  have e2:meqB true (bvar 2) (u8 anil) ρ=some (.bl (!ns.isEmpty)):=by
   unfold meqB;rw[j,t7 y8 (Nat.zero_le _),Option.bind_some,Option.bind_some,xw8]
  have e3:Y7 intF (z7 (meqB true (bvar 2) (u8 anil)) anil) ρ=some (.int (if !ns.isEmpty then 1 else 0)):=by
   unfold Y7;rw[z6 e2 y8];rfl
  rw[k8 U (zu8 (Z2 (l6 e1)) e3)]
  have z:Lg ns (cutD s ns)=((cutD s ns).length:Int)+(if !ns.isEmpty then 1 else 0):=by
   unfold Lg
   cases ns with
   |nil=>
    show (0:Int)=((cutD s []).length:Int)+0
    unfold cutD NI
    rw[show Z5 s []=[]from K4 s [] _ _ _ (Nat.zero_le _)];rfl
   |cons a r=>rfl
  rw[z]
  exact C7 true _
 refine seqI (ρ':=ρ) (by rw[zb4 c4];rfl) ?_
 have eg:T5 [Go s ns ws (ls++[v])]=some (.sh (.int (wt (xr ws) l))):=by
  unfold T5 b_Z11
  refine j6 ?_
  have e1:=u6 (f:=J6) (m:=z7 (mfld "Grown" "numbers" (mvar 0)) (z7 (mfld "Grown" "least_step" (mvar 0)) (z7 (mfld "Grown" "weights" (mvar 0)) anil))) (ρ:=u7 3 [Go s ns ws (ls++[v])]) (z6 (d9 (d:=Go s ns ws (ls++[v])) rfl (g0 s ns ws (ls++[v]))) (z6 (d9 (d:=Go s ns ws (ls++[v])) rfl (zx3 s ns ws (ls++[v]))) (z6 (d9 (d:=Go s ns ws (ls++[v])) rfl (K8 s ns ws (ls++[v]))) y8))) Y
  exact seqI (ρ':=[some (.sh (Go s ns ws (ls++[v]))),some (.sh (.int (wt (xr ws) l))),some (.sh (L l))]) (by unfold masg;rw[e1];rfl) rfl
 have c5:u4 (m2 (eqFD true) (v6 "Grown" "weight" T5 (mvar 0) anil) (m2 ixTD (m7 J6 (z7 (mlst (bvar 2)) (z7 (mvar 5) (z7 (mlst (bvar 3)) anil)))) (mc (.int 0)))) ρ=some false:=by
  refine g8 ?_
  rw[k8 (Z3 ob n3 eg) ((k8 (u6 (f:=J6) (z6 (i7 j) (z6 N (z6 (i7 v3) y8))) Y) (b:=.int 0) rfl).trans (show ixTD (HT (xr ws) l) (.int 0)=some (.int (wt (xr ws) l))from rfl))]
  exact C7 true _
 refine seqI (ρ':=ρ) (by rw[zb4 c5];rfl) ?_
 refine Z7 ?_
 have em:m_Z1 [Go s ns ws (ls++[v])]=some (.sh (.int k)):=by
  unfold m_Z1 b_Z1
  exact j6 (Z7 (u6 (z6 (d9 (d:=Go s ns ws (ls++[v])) rfl (g0 s ns ws (ls++[v]))) (z6 (d9 (d:=Go s ns ws (ls++[v])) rfl (zx3 s ns ws (ls++[v]))) y8)) R))
 unfold mand
 rw[k8 (Z3 ob n4 em) (u6 Z R),C7 false]
 simp only[Bool.not_false]
 exact za7 (l6 (zz4 ob n6 (E6 s ns ws _))) O
end
section
open PySem L2
theorem yb7 (s:Int)(hs:1<=s):m_Z0 [.lst [],.int s]=some (.sh (.int 1)):=by
 have R:=m5
 suffices h:Run b_Z0 (u7 8 [.lst [],.int s]) (fun o=>o= .rt (.int 1))by
  obtain⟨o,e,rfl⟩:=h
  unfold m_Z0;exact j6 e
 unfold b_Z0
 refine u3 (ρ':=[some (.sh (.lst [])),k0c s,none,none,none,none,none,none]) ?_ ?_
 .unfold S3
  rw[u6 (z6 (d:=.int s) rfl y8) (g6 s hs)];rfl
 refine u3 (ρ':=[some (.sh (.lst [])),k0c s,some (.sh (.lst [])),some (.sh (.lst [])),none,none,none,none]) ?_ ?_
 .have e:=u6 (ρ:=[some (.sh (.lst [])),k0c s,none,none,none,none,none,none]) (z6 (x:=mvar 0) (d:=.lst (([]:List Int).map .int)) rfl (z6 (x:=mvar 1) (d:=.int s) rfl y8)) (U4 [] s (by decide))
  unfold masg
  rw[e];rfl
 refine u3 (ρ':=[some (.sh (.lst [])),k0c s,some (.sh (.lst [])),some (.sh (.lst [])),some (.own []),none,none,none]) ((C3 (D7 [] (by decide) _ rfl)).trans rfl) ?_
 refine u3 (ρ':=envX [] s [] [] none) ((C3 (D7 [] (by decide) _ rfl)).trans rfl) ?_
 have k2:okR ((0:Nat):Int)=true:=T0 (by omega) (by omega)
 refine Z0 (W9 0 (f:=fun(j:Nat)=>D.int (0-1-(j:Int))) ?_ (I:=fun j ρ=>ρ=envX [] s [] [] none) _ rfl (fun j ρ z=>absurd z (Nat.not_lt_zero _)) ?_)
 .unfold g9
  rw[z6 (x:=mlen (bvar 0)) (d:=.int ((0:Nat):Int)) (Z2 (ds:=[]) rfl) y8,Option.bind_some,zt6 k2];rfl
 rintro ρ rfl
 show Run zy8 _ _
 unfold zy8
 refine g5 (ds:=[]) rfl (g5 (ds:=[]) rfl ?_)
 show Run _ (envZ [] s [] [] none none) _
 have O:=fun i=>yh9 [] s [] [] none i (by decide) (by decide)
 have N:=zy4 (ρ:=envZ [] s [] [] none none) _ (O none) (by decide)
 refine u3 (ρ':=envZ [] s [] [] none (some (.sh (.int 0)))) ((j9 (mmaxE_ev (d0:=.int 0) N rfl)).trans rfl) ?_
 have G:u4 (m2 ltD (mvar 7) (mc (.int 2))) (envZ [] s [] [] none (some (.sh (.int 0))))=some true:=g8 ((k8 (a:=.int 0) (b:=.int 2) rfl rfl).trans rfl)
 refine Z0 (zd6 G ?_)
 refine⟨_,Z7 (d:=.int 1) ?_,rfl⟩
 unfold Y7
 rw[z6 (x:=mc (.int 1)) (d:=.int 1) rfl (z6 (Z2 (ds:=[]) rfl) y8)]
 rfl
theorem xy7:∀ l:List Nat,wt (xr []) l=0
 |[]=>rfl
 |p::l=>by rw[yt5,xy7 l];rfl
end
section
open PySem L2
noncomputable def eL (scr hd:D)(s:Int)(g p q r:Addr)(o5 o6 o7 o8 o9:Option S):Ro:=[some (.sh scr),some (.sh hd),k0c s,some (.sh (.ptr g)),some (.sh (.tup [.ptr p,.ptr q,.ptr r,.int s])),o5,o6,o7,o8,o9]
theorem xm1 {p q r g:Addr}(d:Dt p q r g)(s:Int)(a b c:List Int)(c0:Cell):M2 (BZ p q r g (rwC a) (rwC b) (rwC c) c0) (some (.sh (.tup [.ptr p,.ptr q,.ptr r,.int s])))=some (.sh (.tup [.lst (a.map .int),.lst (b.map .int),.lst (c.map .int),.int s])):=by
 have t:∀{x:Addr}{xs:List Int},(BZ p q r g (rwC a) (rwC b) (rwC c) c0).lookup x=some (rwC xs)->thawD (BZ p q r g (rwC a) (rwC b) (rwC c) c0) (.ptr x)= .lst (xs.map .int):=fun{x xs} h=>by
  simp only[thawD,h]
  show D.lst ((xs.map fun i=>Fl.v (.int i)).map flD)=_
  rw[xk6]
 show some (S.sh (.tup ([D.ptr p,.ptr q,.ptr r,.int s].map (thawD (BZ p q r g (rwC a) (rwC b) (rwC c) c0)))))=_
 rw[map_cons,map_cons,map_cons,map_cons,map_nil,t (lk_p d),t (lk_q d),t lk_r]
 rfl
theorem zb2 {ρ:Ro}{β:Bx}{i:Nat}{a:Addr}{s:Int}{ns ws ls:List Int}(h:ρ[i]? =some (some (.sh (.ptr a))))(j:β.lookup a=some (Gc s ns ws ls)):mvar i (thaw ρ β)=some (.obj "Grown" Gn [.int s,.lst (ns.map .int),.lst (ws.map .int),.lst (ls.map .int)]):=by
 unfold mvar;rw[J1 h,Q9 j];rfl
theorem xu1 (N hd:D)(s:Int)(hs:1<=s)(c:Int)(k:Nat)(hk:k<=100)(ns ws ls:List Int)(ok:Okk s k ns ws ls)(Z Y U R:Option S):∃ G I j,Okk s (k+1) G I j/\∀ p q r g,Dt p q r g->K6 (eL N hd s g p q r (k0c c) Z Y U R) (BZ p q r g (rwC ns) (rwC ws) (rwC ls) (Gc s ns ws ls))=some (.nx (eL N hd s g p q r (k0c c) Z Y U R),BZ p q r g (rwC G) (rwC I) (rwC j) (Gc s G I j)):=by
 obtain⟨f,hf,hb,ef⟩:=zv9 c 5 (by decide)
 obtain⟨n0,n1,n2,n3,n4,rfl⟩:=five hf
 obtain⟨G,I,j,O,dd⟩:=xo6 s hs n0 n1 n2 n3 n4 (hb _ (by simp)) (hb _ (by simp)) (hb _ (by simp)) (hb _ (by simp)) (hb _ (by simp)) k hk ns ws ls ok
 refine⟨G,I,j,O,fun p q r g d=>?_⟩
 unfold K6
 have ec:=yz2 (m:=z7 (mvar 3) (z7 (mvar 4) (z7 (m7 zr9 (z7 (mvar 5) (z7 (mc (.int 5)) anil))) anil))) (ρ:=eL N hd s g p q r (k0c c) Z Y U R) (z6 (d:=.ptr g) rfl (z6 (d:=.tup [.ptr p,.ptr q,.ptr r,.int s]) rfl (z6 (zb7 (z6 (d:=.int c) rfl (z6 (d:=.int 5) rfl y8)) ef) y8))) (dd p q r g d)
 have e1:mifX (yh0 (G8 X8 (z7 (mvar 3) (z7 (mvar 4) (z7 (m7 zr9 (z7 (mvar 5) (z7 (mc (.int 5)) anil))) anil))))) (O9 (wE (mc (.bl false)))) (wS Z8) (eL N hd s g p q r (k0c c) Z Y U R) (BZ p q r g (rwC ns) (rwC ws) (rwC ls) (Gc s ns ws ls))=some (.nx (eL N hd s g p q r (k0c c) Z Y U R),BZ p q r g (rwC G) (rwC I) (rwC j) (Gc s G I j)):=by
  unfold mifX yh0
  rw[ec];rfl
 rw[u0 e1]
 refine(yj6 ?_).trans rfl
 unfold zw1
 have g3:=zb2 (ρ:=eL N hd s g p q r (k0c c) Z Y U R) (i:=3) (a:=g) rfl (lk_g (c1:=rwC G) (c2:=rwC I) (c3:=rwC j) (c0:=Gc s G I j) d)
 have g4:mvar 4 (thaw (eL N hd s g p q r (k0c c) Z Y U R) (BZ p q r g (rwC G) (rwC I) (rwC j) (Gc s G I j)))=some (.tup [.lst (G.map .int),.lst (I.map .int),.lst (j.map .int),.int s]):=by
  unfold mvar;rw[J1 (i:=4) rfl,xm1 d]
 generalize thaw (eL N hd s g p q r (k0c c) Z Y U R) (BZ p q r g (rwC G) (rwC I) (rwC j) (Gc s G I j))=ρz at g3 g4
 have c1:u4 (meqB true (p5 (m2 ixTD (mvar 4) (mc (.int 2)))) (u8 anil)) ρz=some (!j.isEmpty):=by
  have e2:m2 ixTD (mvar 4) (mc (.int 2)) ρz=some (.lst (j.map .int)):=(k8 g4 (b:=.int 2) rfl).trans rfl
  refine g8 ?_
  unfold meqB;rw[l6 e2,t7 y8 (Nat.zero_le _),Option.bind_some,Option.bind_some,xw8]
 rcases O.last with z|z
 .unfold cand;rw[c1,z];rfl
 .obtain⟨l0,hl0⟩:∃ l0,j=l0++[lenG s G]:=by
   have a1:j≠[]:=fun y=>by rw[y]at z;cases z
   rw[getLast?_eq_some_getLast a1]at z
   exact⟨j.dropLast,by rw[<-Option.some.inj z];exact(dropLast_concat_getLast a1).symm⟩
  have et:=xu2 s G I l0 (lenG s G) hs O.len O.pos (by have:=O.nk;omega) rfl
  rw[<-hl0]at et
  have c2:cnot (mtru (m7 yv5 (z7 (mvar 3) (z7 (mvar 4) anil)))) ρz=some false:=by
   unfold cnot mtru
   rw[u6 (z6 g3 (z6 g4 y8)) et];rfl
  exact(ze4 c1 c2).trans (by rw[Bool.and_false])
theorem yk8 (i hd:D)(s:Int)(hs:1<=s)(Y U R O:Option S):∀(N:List Int)(k:Nat)(ns ws ls:List Int)(Z:Option S),Okk s k ns ws ls->k+N.length<=100->∃ G j I z,Okk s (k+N.length) G j I/\∀ p q r g,Dt p q r g->forW (.nm 5) K6 (N.map .int) (eL i hd s g p q r Z Y U R O) (BZ p q r g (rwC ns) (rwC ws) (rwC ls) (Gc s ns ws ls))=some (.nx (eL i hd s g p q r z Y U R O),BZ p q r g (rwC G) (rwC j) (rwC I) (Gc s G j I))
 |[],k,ns,ws,ls,Z,ok,h=>⟨ns,ws,ls,Z,ok,fun p q r g d=>rfl⟩
 |c::N,k,ns,ws,ls,Z,ok,h=>by
  rw[length_cons]at h
  obtain⟨n1,w1,l1,a2,e1⟩:=xu1 i hd s hs c k (by omega) ns ws ls ok Y U R O
  obtain⟨n2,w2,l2,z,a1,e2⟩:=yk8 i hd s hs Y U R O N (k+1) n1 w1 l1 (k0c c) a2 (by omega)
  refine⟨n2,w2,l2,z,by rw[length_cons,show k+(N.length+1)=k+1+N.length by omega];exact a1,fun p q r g d=>?_⟩
  rw[map_cons]
  exact(zf6 (ρ1:=eL i hd s g p q r (k0c c) Y U R O) rfl (e1 p q r g d)).trans (e2 p q r g d)
noncomputable def eM (scr hd:D)(s:Int)(g o:Addr)(ns ws ls:List Int)(o5 o7 o8 o9:Option S):Ro:=[some (.sh scr),some (.sh hd),k0c s,some (.sh (.ptr g)),some (.sh (.tup [.lst (ns.map .int),.lst (ws.map .int),.lst (ls.map .int),.int s])),o5,some (.sh (.ptr o)),o7,o8,o9]
theorem yq2 (i hd:D)(s:Int)(hs:1<=s)(n1 O l1:List Int)(U R:Option S)(c0:Cell):∀(xs ys us vs j:List Int)(Z Y:Option S),xs.length=ys.length->us.length=vs.length->us.length+xs.length<=200->j.length+xs.length<=300->(∀ y∈ys,0<=y)->∃ G N I,∀ o g,forW (.tp [7,8]) B5 (List.zipWith (fun d e=>D.tup [d,e]) (xs.map .int) (ys.map .int)) (eM i hd s g o n1 O l1 U Z Y R) [(o,Gc s us vs j),(g,c0)]=some (.nx (eM i hd s g o n1 O l1 U N I R),[(o,Gc s (us++xs) (vs++ys) G),(g,c0)])
 |[],[],us,vs,j,Z,Y,_,_,_,_,_=>⟨j,Z,Y,fun o g=>by rw[append_nil,append_nil];rfl⟩
 |[],_::_,_,_,_,_,_,h,_,_,_,_=>by cases h
 |_::_,[],_,_,_,_,_,h,_,_,_,_=>by cases h
 |x::xs,y::ys,us,vs,j,Z,Y,h,h1,h2,h3,h4=>by
  rw[length_cons]at h2 h3
  obtain⟨G,N,I,ih⟩:=yq2 i hd s hs n1 O l1 U R c0 xs ys (us++[x]) (vs++[y]) (j++[lenG s (us++[x])]) (k0c x) (k0c y) (by simpa using h) (by simp[h1]) (by simp;omega) (by simp;omega) fun z hz=>h4 z (mem_cons_of_mem _ hz)
  refine⟨G,N,I,fun o g=>?_⟩
  rw[map_cons,map_cons,zipWith_cons_cons]
  refine(zf6 (ρ1:=eM i hd s g o n1 O l1 U (k0c x) (k0c y) R) (ρ2:=eM i hd s g o n1 O l1 U (k0c x) (k0c y) R) (β2:=[(o,Gc s (us++[x]) (vs++[y]) (j++[lenG s (us++[x])])),(g,c0)]) rfl ?_).trans ?_
  .unfold B5
   rw[xj3 (x:=o) (s:=s) (ns:=us) (ws:=vs) (ls:=j) (v:=x) (g:=y) rfl (i6 _ _ _) (z6 (d:=.int x) rfl (z6 (d:=.int y) rfl y8)) (h4 y (by simp)) hs (by omega) (by omega) (by omega),X2]
  .rw[ih o g,append_assoc,append_assoc];rfl
theorem del_ne {a b:Addr}{c:Cell}{β:Bx}(h:a≠b):delB a ((b,c)::β)=(b,c)::delB a β:=by rw[delB,beq_eq_false_iff_ne.mpr h]
theorem del_self {a:Addr}{c:Cell}{β:Bx}:delB a ((a,c)::β)=β:=by rw[delB,beq_self_eq_true]
theorem xp0 {p q r g:Addr}(d:Dt p q r g)(s:Int)(a b c:List Int)(c0:Cell):D3 [.ptr p,.ptr q,.ptr r,.int s] (BZ p q r g (rwC a) (rwC b) (rwC c) c0)=some ([.lst (a.map .int),.lst (b.map .int),.lst (c.map .int),.int s],[(g,c0)]):=by
 have fl:∀ xs:List Int,(xs.map fun i=>Fl.v (.int i)).map flS=xs.map D.int:=fun xs=>by rw[map_map];rfl
 unfold D3
 rw[lk_p d]
 simp only
 unfold BZ
 rw[del_ne d.pr,del_ne d.pq,del_self]
 unfold D3
 rw[zm7 d.qr,i6]
 simp only
 rw[del_ne d.qr,del_self]
 unfold D3
 rw[i6]
 simp only
 rw[del_self,fl,fl,fl]
 rfl
theorem xo5 (s:Int)(ns ws:List Int)(hs:1<=s)(hw:ws.length=ns.length)(R:∀ x∈ws,0<=x)(z:ns.length<=300):∃ es:List D,es.length=5/\eqFD false (.lst es) (.lst es)=some (.bl true)/\(∀(ls:List Int) i (ρ:Ro) (β:Bx) x,ρ[i]? =some (some (.sh (.ptr x)))->β.lookup x=some (Gc s ns ws ls)->X4 (d7 (v6 "Grown" "length" m_Z9 (mvar i) anil)) (X4 (d7 (v6 "Grown" "weight" T5 (mvar i) anil)) (X4 (d7 (v6 "Grown" "how_many" m_Z1 (mvar i) anil)) (X4 (zz1 i "Grown" "pieces" m_Z8) (X4 (lsW (J8 (Q3 "Grown" "row" Q5 (mvar i)))) nilW)))) ρ β=some es)/\
  (∀(ls:List Int) i (ρ:Ro),mvar i ρ=some (.obj "Grown" Gn [.int s,.lst (ns.map .int),.lst (ws.map .int),.lst (ls.map .int)])->z7 (v6 "Grown" "length" m_Z9 (mvar i) anil) (z7 (v6 "Grown" "weight" T5 (mvar i) anil) (z7 (v6 "Grown" "how_many" m_Z1 (mvar i) anil) (z7 (v6 "Grown" "pieces" m_Z8 (mvar i) anil) (z7 (v6 "Grown" "row" Q5 (mvar i) anil) anil)))) ρ=some es):=by
 obtain⟨w,N⟩:=zd1 s ns ws [] hs hw R z
 obtain⟨v,O⟩:=yg6 s ns ws hs z
 have j:=zn6 s ns hs z
 have n1:("row":Str)∉Gn:=by decide +kernel
 have n2:("length":Str)∉Gn:=by decide +kernel
 have n3:("weight":Str)∉Gn:=by decide +kernel
 have n4:("how_many":Str)∉Gn:=by decide +kernel
 have G:("pieces":Str)∉Gn:=by decide +kernel
 refine⟨[.int (lenG s ns),.int w,.int v,.tup [zx4 s ns,.lst (cutD s ns)],.lst (ns.map .int)],rfl,?_,fun ls i ρ β x hp I=>?_,fun ls i ρ ob=>?_⟩
 .unfold eqFD
  have:eqF 8 (.lst [.int (lenG s ns),.int w,.int v,.tup [zx4 s ns,.lst (cutD s ns)],.lst (ns.map .int)]) (.lst [.int (lenG s ns),.int w,.int v,.tup [zx4 s ns,.lst (cutD s ns)],.lst (ns.map .int)])=some true:=by
   show (if _=_ then zipE (eqF 7) _ _ else some false)=_
   rw[if_pos rfl]
   have t:=yi3 4 (kd (Y9 s ns)) (NI (Z5 s ns))
   simp only[zipE,yi4 5,yi5 6,Option.bind_some,Bool.and_self,zx4,cutD,t]
  rw[this];rfl
 .have ob:=zb2 hp I
  have U:lsW (J8 (Q3 "Grown" "row" Q5 (mvar i))) ρ β=some (.lst (ns.map .int)):=by
   unfold lsW J8
   rw[yb3 ob n1 (B7 s ns ws ls),Option.bind_some,if_pos (zf1 ns)];rfl
  have S:zz1 i "Grown" "pieces" m_Z8 ρ β=some (.tup [zx4 s ns,.lst (cutD s ns)]):=by
   unfold zz1
   rw[J1 hp,Q9 I]
   show (if _ then _ else _)=_
   rw[if_pos ⟨rfl,G⟩,show m_Z8 [.obj "Grown" Gn ((Gf s ns ws ls).map flD)]=some (.pr (zx4 s ns) (cutD s ns))from S6 j]
   simp only
   rw[if_pos ⟨rfl,zf1 _⟩]
  exact V9 (W6 (Z3 ob n2 (Y1 j))) (V9 (W6 (Z3 ob n3 (N ls))) (V9 (W6 (Z3 ob n4 (O ls))) (V9 S (V9 U rfl))))
 .exact z6 (Z3 ob n2 (Y1 j)) (z6 (Z3 ob n3 (N ls)) (z6 (Z3 ob n4 (O ls)) (z6 (zg3 ob G (S6 j)) (z6 (zz4 ob n1 (B7 s ns ws ls)) y8))))
end
section
open PySem L2
theorem xb7 (j hd:D)(s:Int)(hs:1<=s)(k:Nat)(hk:k<=100)(ns ws ls:List Int)(ok:Okk s k ns ws ls)(G:Option S)(p q r g:Addr)(d:Dt p q r g):zq4 (eL j hd s g p q r G none none none none) (BZ p q r g (rwC ns) (rwC ws) (rwC ls) (Gc s ns ws ls))=some (.rt (.bl true),[(g,Gc s ns ws ls)]):=by
 have hn:=ok.nk
 obtain⟨es,Z,R,eW,eA⟩:=xo5 s ns ws hs ok.len ok.pos (by omega)
 obtain⟨I,O,N,ep⟩:=yq2 j hd s hs ns ws ls G none (Gc s ns ws ls) ns ws [] [] [] none none ok.len.symm rfl (by simp;omega) (by simp;omega) ok.pos
 have Y:5<=sizeLine:=o0 (by decide)
 unfold zq4 C4
 rw[show (eL j hd s g p q r G none none none none)[4]? =some (some (.sh (.tup [.ptr p,.ptr q,.ptr r,.int s])))from rfl]
 simp only
 rw[xp0 d]
 simp only
 unfold yw6
 rw[z6 (d:=.int s) rfl y8,Option.bind_some]
 refine zx0 fun o ho=>?_
 have og:g≠o:=fun z=>ho (by rw[z];simp)
 rw[yj5 o s hs]
 simp only
 have key:B4 (eM j hd s g o ns ws ls G none none none) [(o,Gc s [] [] []),(g,Gc s ns ws ls)]=some (.rt (.bl true),[(o,Gc s ns ws I),(g,Gc s ns ws ls)]):=by
  unfold B4
  have el:zw0 (g9 zip2 (z7 (m2 ixTD (mvar 4) (mc (.int 0))) (z7 (m2 ixTD (mvar 4) (mc (.int 1))) anil))) (.tp [7,8]) B5 (eM j hd s g o ns ws ls G none none none) [(o,Gc s [] [] []),(g,Gc s ns ws ls)]=some (.nx (eM j hd s g o ns ws ls G O N none),[(o,Gc s ns ws I),(g,Gc s ns ws ls)]):=by
   unfold zw0 g9
   rw[z6 (d:=.lst (ns.map .int)) ((k8 (a:=.tup [.lst (ns.map .int),.lst (ws.map .int),.lst (ls.map .int),.int s]) (b:=.int 0) rfl rfl).trans rfl) (z6 (d:=.lst (ws.map .int)) ((k8 (a:=.tup [.lst (ns.map .int),.lst (ws.map .int),.lst (ls.map .int),.int s]) (b:=.int 1) rfl rfl).trans rfl) y8),Option.bind_some]
   exact ep o g
  rw[u0 el]
  unfold yz4
  have ew:=eW I 6 (eM j hd s g o ns ws ls G O N none) [(o,Gc s ns ws I),(g,Gc s ns ws ls)] o rfl (i6 _ _ _)
  have e9:lstW (X4 (d7 (v6 "Grown" "length" m_Z9 (mvar 6) anil)) (X4 (d7 (v6 "Grown" "weight" T5 (mvar 6) anil)) (X4 (d7 (v6 "Grown" "how_many" m_Z1 (mvar 6) anil)) (X4 (zz1 6 "Grown" "pieces" m_Z8) (X4 (lsW (J8 (Q3 "Grown" "row" Q5 (mvar 6)))) nilW))))) (eM j hd s g o ns ws ls G O N none) [(o,Gc s ns ws I),(g,Gc s ns ws ls)]=some (.lst es):=by
   unfold lstW
   rw[ew,Option.bind_some,if_pos (by rw[Z];exact Y)]
  rw[u0 (ρ':=eM j hd s g o ns ws ls G O N (some (.sh (.lst es)))) ((zi5 e9).trans rfl)]
  unfold O9 d7
  have U:([(o,Gc s ns ws I),(g,Gc s ns ws ls)]:Bx).lookup g=some (Gc s ns ws ls):=(zm7 og).trans (i6 _ _ _)
  have g3:=zb2 (ρ:=eM j hd s g o ns ws ls G O N (some (.sh (.lst es)))) (i:=3) (a:=g) rfl U
  have b9:=zq2 (ρ:=eM j hd s g o ns ws ls G O N (some (.sh (.lst es)))) (β:=[(o,Gc s ns ws I),(g,Gc s ns ws ls)]) (i:=9) (ds:=es) rfl
  have eb:meqB false (bvar 9) (u8 (z7 (v6 "Grown" "length" m_Z9 (mvar 3) anil) (z7 (v6 "Grown" "weight" T5 (mvar 3) anil) (z7 (v6 "Grown" "how_many" m_Z1 (mvar 3) anil) (z7 (v6 "Grown" "pieces" m_Z8 (mvar 3) anil) (z7 (v6 "Grown" "row" Q5 (mvar 3) anil) anil)))))) (thaw (eM j hd s g o ns ws ls G O N (some (.sh (.lst es)))) [(o,Gc s ns ws I),(g,Gc s ns ws ls)])=some (.bl true):=by
   unfold meqB
   rw[b9,t7 (eA ls 3 _ g3) (by rw[Z];exact Y),Option.bind_some,Option.bind_some,R]
  rw[eb]
  rfl
 show (B4 (eM j hd s g o ns ws ls G none none none) [(o,Gc s [] [] []),(g,Gc s ns ws ls)]).map (letGo 6 1)=_
 rw[key]
 rfl
theorem yp1 {m:MW}{n:Nat}{ds:List D}{d:D}{β:Bx}(e:m (u7 n ds) []=some (.rt d,β)):plainW (runW n m) ds=some (.sh d):=by
 unfold plainW runW
 rw[e]
theorem xc4 {f:List Int}(h:f.length=3):∃ a b c,f=[a,b,c]:=by
 match f,h with
 |[a,b,c],_=>exact⟨a,b,c,rfl⟩
theorem yu2 (s:Int)(hs:1<=s)(ρ:Ro)(i:mvar 3 ρ=some (.obj "Grown" Gn [.int s,.lst (([]:List Int).map .int),.lst (([]:List Int).map .int),.lst (([]:List Int).map .int)])):u4 (meqB true (u8 (z7 (v6 "Grown" "length" m_Z9 (mvar 3) anil) (z7 (v6 "Grown" "weight" T5 (mvar 3) anil) (z7 (v6 "Grown" "how_many" m_Z1 (mvar 3) anil) (z7 (v6 "Grown" "row" Q5 (mvar 3) anil) (z7 (v6 "Grown" "moments" m_Z7 (mvar 3) anil) anil)))))) (u8 (z7 (mc (.int 0)) (z7 (mc (.int 0)) (z7 (mc (.int 1)) (z7 (mlst (u8 anil)) (z7 (mlst (u8 anil)) anil))))))) ρ=some false:=by
 have n1:("row":Str)∉Gn:=by decide +kernel
 have n2:("length":Str)∉Gn:=by decide +kernel
 have n3:("weight":Str)∉Gn:=by decide +kernel
 have n4:("how_many":Str)∉Gn:=by decide +kernel
 have O:("moments":Str)∉Gn:=by decide +kernel
 have G:0+1+1+1+1+1<=sizeLine:=o0 (by decide)
 have N:=zn6 s [] hs (by decide)
 have R:T5 [Go s [] [] []]=some (.sh (.int 0)):=by
  obtain⟨l,j⟩:=N1 [] [] s hs rfl (fun _ h=>by cases h) (by decide)
  have j:J6 [.lst (([]:List Int).map .int),.int s,.lst (([]:List Int).map .int)]=some (.sh (.tup [.int 0,L l])):=by rw[j];unfold HT;rw[xy7]
  unfold T5 b_Z11
  refine j6 ?_
  have e1:=u6 (f:=J6) (m:=z7 (mfld "Grown" "numbers" (mvar 0)) (z7 (mfld "Grown" "least_step" (mvar 0)) (z7 (mfld "Grown" "weights" (mvar 0)) anil))) (ρ:=u7 3 [Go s [] [] []]) (z6 (d9 (d:=Go s [] [] []) rfl (g0 s [] [] [])) (z6 (d9 (d:=Go s [] [] []) rfl (zx3 s [] [] [])) (z6 (d9 (d:=Go s [] [] []) rfl (K8 s [] [] [])) y8))) j
  exact seqI (ρ':=[some (.sh (Go s [] [] [])),some (.sh (.int 0)),some (.sh (L l))]) (by unfold masg;rw[e1];rfl) rfl
 have em:m_Z1 [Go s [] [] []]=some (.sh (.int 1)):=by
  unfold m_Z1 b_Z1
  exact j6 (Z7 (u6 (z6 (d9 (d:=Go s [] [] []) rfl (g0 s [] [] [])) (z6 (d9 (d:=Go s [] [] []) rfl (zx3 s [] [] [])) y8)) (yb7 s hs)))
 have I:=Z3 i n2 (Y1 N)
 have z:Lg [] (cutD s [])=0:=rfl
 rw[z]at I
 refine g8 ?_
 unfold meqB
 rw[t7 (z6 I (z6 (Z3 i n3 R) (z6 (Z3 i n4 em) (z6 (zz4 i n1 (B7 s [] [] [])) (z6 (zz4 i O (E6 s [] [] [])) y8))))) G,
  t7 (z6 (d:=.int 0) rfl (z6 (d:=.int 0) rfl (z6 (d:=.int 1) rfl (z6 (i7 (R3 ρ)) (z6 (i7 (R3 ρ)) y8))))) G,Option.bind_some,Option.bind_some]
 rfl
theorem law_true (ns:List Int)(hn:ns.length<=63):zg5 [.lst (ns.map .int)]=some (.sh (.bl true)):=by
 unfold zg5
 refine yp1 (β:=[]) ?_
 unfold xy3
 rw[show u7 10 [D.lst (ns.map .int)]=[k0a ns,none,none,none,none,none,none,none,none,none]from rfl]
 obtain⟨c,ec⟩:=xn0 ns 0 (by decide)
 obtain⟨f,hf,hb,ef⟩:=zv9 c 3 (by decide)
 obtain⟨a,b,e,rfl⟩:=xc4 hf
 have ha:=hb a (by simp)
 have a1:=hb b (by simp)
 have i2:0+1+1<=sizeLine:=o0 (by decide)
 have R:(10:Int)^(29:Int).toNat=100000000000000000000000000000:=by decide
 have U:yq8 10 29=true:=by decide
 have h6:=i9 (x:=a) (show (0:Int)<6 by decide)
 obtain⟨s,es,hs⟩:∃ s,atI [D.int (1+a % 6),.int (100000000000000000000000000000-b)] (if (e % 5==1)then 1 else 0)=some (.int s)/\1<=s:=by
  cases e % 5==1
  .exact⟨_,rfl,by omega⟩
  .exact⟨_,rfl,by omega⟩
 obtain⟨hd,G⟩:∃ hd,hd=D.lst ([a,b,e].map .int):=⟨_,rfl⟩
 rw[u0 (ρ':=[k0a ns,some (.sh hd),none,none,none,none,none,none,none,none]) (E7 ((j9 (zb7 (z6 (u6 (z6 (d:=.lst (ns.map .int)) rfl (z6 (d:=.int 0) rfl y8)) ec) (z6 (d:=.int 3) rfl y8)) ef)).trans (by rw[G];rfl)))]
 have N:∀(j v:Int),atI ([a,b,e].map D.int) j=some (.int v)->mix (bvar 1) (mc (.int j)) [k0a ns,some (.sh hd),none,none,none,none,none,none,none,none]=some (.int v):=fun j v h=>zn9 (nu:=[a,b,e]) (by rw[G];rfl) h
 have e1:Y7 intF (z7 (m2 eqSD (m2 modD (mix (bvar 1) (mc (.int 2))) (mc (.int 5))) (mc (.int 1))) anil) [k0a ns,some (.sh hd),none,none,none,none,none,none,none,none]=some (.int (if (e % 5==1)then 1 else 0)):=by
  unfold Y7
  rw[z6 ((k8 (Q0 (N 2 e rfl) (k:=5) rfl (by decide)) (b:=.int 1) rfl).trans rfl) y8]
  rfl
 have Z:m2 powD (mc (.int 10)) (mc (.int 29)) [k0a ns,some (.sh hd),none,none,none,none,none,none,none,none]=some (.int 100000000000000000000000000000):=by simp_arith [R,U,if_true]
 rw[u0 (ρ':=[k0a ns,some (.sh hd),k0c s,none,none,none,none,none,none,none]) (E7 ((j9 (V6 (t7 (z6 (zu8 (i:=1) rfl (Q0 (N 0 a rfl) (k:=6) rfl (by decide))) (z6 (ys4 Z (N 1 b rfl)) y8)) i2) e1 es)).trans rfl))]
 have hc:=xz6 ns (some 1) (some 41)
 obtain⟨n2,z,l2,o5,S,lp⟩:=yk8 (.lst (ns.map .int)) hd s hs none none none none (cutI ns (some 1) (some 41)) 0 [] [] [] none ⟨rfl,(fun _ h=>by cases h),Nat.le_refl _,Nat.le_refl _,.inl rfl⟩ (by omega)
 have r5:∀ p q r g,Dt p q r g->B3 (eL (.lst (ns.map .int)) hd s g p q r none none none none none) (BZ p q r g (rwC []) (rwC []) (rwC []) (Gc s [] [] []))=some (.rt (.bl true),[(g,Gc s n2 z l2)]):=fun p q r g d=>by
  unfold B3
  have et:zw1 (u4 (meqB true (u8 (z7 (v6 "Grown" "length" m_Z9 (mvar 3) anil) (z7 (v6 "Grown" "weight" T5 (mvar 3) anil) (z7 (v6 "Grown" "how_many" m_Z1 (mvar 3) anil) (z7 (v6 "Grown" "row" Q5 (mvar 3) anil) (z7 (v6 "Grown" "moments" m_Z7 (mvar 3) anil) anil)))))) (u8 (z7 (mc (.int 0)) (z7 (mc (.int 0)) (z7 (mc (.int 1)) (z7 (mlst (u8 anil)) (z7 (mlst (u8 anil)) anil)))))))) (eL (.lst (ns.map .int)) hd s g p q r none none none none none) (BZ p q r g (rwC []) (rwC []) (rwC []) (Gc s [] [] []))=some false:=yu2 s hs _ (zb2 (i:=3) (a:=g) rfl (lk_g d))
  rw[u0 ((yj6 et).trans rfl)]
  have I:p5 (mlst (mcut (bvar 0) (P8 (mc (.int 1))) (P8 (mc (.int 41))))) (eL (.lst (ns.map .int)) hd s g p q r none none none none none)=some ((cutI ns (some 1) (some 41)).map .int):=by
   refine l6 (i7 ?_)
   unfold mcut
   exact congrArg some (zq1 D.int ns (some 1) (some 41))
  have el:zw0 (p5 (mlst (mcut (bvar 0) (P8 (mc (.int 1))) (P8 (mc (.int 41)))))) (.nm 5) K6 (eL (.lst (ns.map .int)) hd s g p q r none none none none none) (BZ p q r g (rwC []) (rwC []) (rwC []) (Gc s [] [] []))=some (.nx (eL (.lst (ns.map .int)) hd s g p q r o5 none none none none),BZ p q r g (rwC n2) (rwC z) (rwC l2) (Gc s n2 z l2)):=by
   unfold zw0
   rw[I,Option.bind_some]
   exact lp p q r g d
  rw[u0 el]
  exact xb7 (.lst (ns.map .int)) hd s hs (0+(cutI ns (some 1) (some 41)).length) (by omega) n2 z l2 S o5 p q r g d
 have r6:∀ g,C9 [k0a ns,some (.sh hd),k0c s,some (.sh (.ptr g)),none,none,none,none,none,none] [(g,Gc s [] [] [])]=some (.rt (.bl true),[(g,Gc s n2 z l2)]):=fun g=>by
  unfold C9 yc7
  rw[show mvar 2 [k0a ns,some (.sh hd),k0c s,some (.sh (.ptr g)),none,none,none,none,none,none]=some (D.int s)from rfl,Option.bind_some]
  refine zx0 fun p hp=>zx0 fun q Y=>zx0 fun r O=>?_
  simp only[map_cons,map_nil,mem_cons,not_mem_nil,or_false,not_or]at hp Y O
  have d:Dt p q r g:=⟨Ne.symm O.1,Ne.symm O.2.1,Ne.symm O.2.2,Ne.symm Y.1,Ne.symm Y.2,Ne.symm hp⟩
  show (B3 (eL (.lst (ns.map .int)) hd s g p q r none none none none none) (BZ p q r g (rwC []) (rwC []) (rwC []) (Gc s [] [] []))).map (letGo 4 1)=_
  rw[r5 p q r g d]
  rfl
 unfold yw6
 rw[z6 (d:=.int s) rfl y8,Option.bind_some]
 refine zx0 fun g _=>?_
 rw[yj5 g s hs []]
 simp only
 show (C9 [k0a ns,some (.sh hd),k0c s,some (.sh (.ptr g)),none,none,none,none,none,none] [(g,Gc s [] [] [])]).map (letGo 3 0)=_
 rw[r6 g]
 rfl
end
end
end Lw
namespace Lw
open List
open PySem L2
open PyProof.Rows
section
noncomputable def top (i:Nat):Stmt:=PySem.Challenge.pw_wavyrow_k45_whole_grown_rows.main.body.getD i (.Pass ⟨0,0,0,0⟩)
noncomputable def xd6:Stmt->List Stmt
 | .ClassDef _ _ _ b _ _ _ _ _ _ _=>b
 |_=>[]
noncomputable def zr7 (i j:Nat):Stmt:=(xd6 (top i)).getD j (.Pass ⟨0,0,0,0⟩)
noncomputable abbrev yx8:Stmt:=top 6
noncomputable abbrev wx3:List Str:=["step"]
theorem xk4:FnScope wx3 ["step"] (y7 yx8):=⟨rfl,rfl,rfl,by decide +kernel,rfl,by decide +kernel,by decide +kernel⟩
theorem xg2 {P:Program}{w:World}{K:W.Frag}{mg:Str->Option Value}{base:Heap}{f:Addr}{fd:FuncData}(i:Fun K "refuse_step" "refuse_step" yx8 f fd):FnOk P w K mg base CX0 1 f fd ["step"] (spR K 1 J7):=
 i.okD (k:=0) (m:=b_Z14) xk4 fun cdv A outer s H E j=>(w4 (V2 (n9 zs9 L5 (z5 0 (pv 0)) x6 (t9 _)) (w4 M7) c7))
noncomputable abbrev zx6:Stmt:=top 7
noncomputable abbrev yg5:List Str:=["row","step","above","below","place","number"]
theorem sc_Z16:FnScope yg5 ["row","step"] (y7 zx6):=⟨rfl,rfl,rfl,by decide +kernel,rfl,by decide +kernel,by decide +kernel⟩
theorem R0:List.Nodup (["later","step","number","row"]:List Str):=by decide +kernel
theorem S9:List.Nodup (["later","step","number","row"]:List Str):=by decide +kernel
theorem xg0 {P:Program}{w:World}{K:W.Frag}{mg:Str->Option Value}{base:Heap}{f:Addr}{fd:FuncData}(O:Fun K "later_steps" "later_steps" zx6 f fd)(G:mg "enumerate"=none)(z:mg "len"=none)(j:mg "range"=none):FnOk P w K mg base CX0 1 f fd ["row","step"] (spR K 2 zg6):=
 O.okD (k:=0) (m:=b_Z16) sc_Z16 fun cdv A outer s H E R=>(y9 (V1 (i:=2) sc_Z16.nd rfl (by first|exact Or.inl rfl|exact Or.inr rfl) (p9 z9)) (y9 (V1 (i:=3) sc_Z16.nd rfl (by first|exact Or.inl rfl|exact Or.inr rfl) (p9 z9)) (y9 (R5 PassesOwn.never rfl (yd6 rfl G (z0 (z5 0 (pv 0)) z9)) (f9 (is:=[4,5]) (Y4 rfl (v7 (w8 (i:=4) sc_Z16.nd rfl (by first|exact Or.inl rfl|exact Or.inr rfl)) (v7 (w8 (i:=5) sc_Z16.nd rfl (by first|exact Or.inl rfl|exact Or.inr rfl)) f8)))) (y9 (U8 (i:=2) (pv 2) (Z6 (R6 (U1 (N:=["later","step","number","row"]) (src:=[none,some 1,some 5,some 0]) (y7 zx6) yg5 rfl rfl (by decide +kernel)) rfl (X7 rfl j (z0 (e6 (z5 4 (pv 4)) x6) (z0 (t3 rfl z (w5 0 (pv 0))) z9))) (fun C fp I H0=>(m8 (i:=0) (w8 R0 rfl (by first|exact Or.inl rfl|exact Or.inr rfl)))) (fun C fp I H0=>(P2 (n9 zr0 L6 (O1 (k7 (w5 3 (pv 3)) (z5 0 (pv 0))) (z5 2 (pv 2))) (z5 1 (pv 1)) (t9 _)))) (fun C fp I H0=>(z5 0 (pv 0))))) (fun t ha=>E9 PySem.F.plainAttrs_list PySem.F.slot_list_append PySem.F.type_list_append j8 (pv 2) ha) (z0 (Z6 (R6 (U1 (N:=["later","step","number","row"]) (src:=[none,some 1,some 5,some 0]) (y7 zx6) yg5 rfl rfl (by decide +kernel)) rfl (X7 rfl j (z0 (e6 (z5 4 (pv 4)) x6) (z0 (t3 rfl z (w5 0 (pv 0))) z9))) (fun C fp I H0=>(m8 (i:=0) (w8 R0 rfl (by first|exact Or.inl rfl|exact Or.inr rfl)))) (fun C fp I H0=>(P2 (n9 zr0 L6 (O1 (k7 (w5 3 (pv 3)) (z5 0 (pv 0))) (z5 2 (pv 2))) (z5 1 (pv 1)) (t9 _)))) (fun C fp I H0=>(z5 0 (pv 0))))) z9)) (w4 (U8 (i:=3) (pv 3) (Z6 (R6 (U1 (N:=["later","step","number","row"]) (src:=[none,some 1,some 5,some 0]) (y7 zx6) yg5 rfl rfl (by decide +kernel)) rfl (X7 rfl j (z0 (e6 (z5 4 (pv 4)) x6) (z0 (t3 rfl z (w5 0 (pv 0))) z9))) (fun C fp I H0=>(m8 (i:=0) (w8 S9 rfl (by first|exact Or.inl rfl|exact Or.inr rfl)))) (fun C fp I H0=>(P2 (n9 zr0 L6 (O1 (z5 2 (pv 2)) (k7 (w5 3 (pv 3)) (z5 0 (pv 0)))) (z5 1 (pv 1)) (t9 _)))) (fun C fp I H0=>(z5 0 (pv 0))))) (fun t ha=>E9 PySem.F.plainAttrs_list PySem.F.slot_list_append PySem.F.type_list_append j8 (pv 3) ha) (z0 (Z6 (R6 (U1 (N:=["later","step","number","row"]) (src:=[none,some 1,some 5,some 0]) (y7 zx6) yg5 rfl rfl (by decide +kernel)) rfl (X7 rfl j (z0 (e6 (z5 4 (pv 4)) x6) (z0 (t3 rfl z (w5 0 (pv 0))) z9))) (fun C fp I H0=>(m8 (i:=0) (w8 S9 rfl (by first|exact Or.inl rfl|exact Or.inr rfl)))) (fun C fp I H0=>(P2 (n9 zr0 L6 (O1 (z5 2 (pv 2)) (k7 (w5 3 (pv 3)) (z5 0 (pv 0)))) (z5 1 (pv 1)) (t9 _)))) (fun C fp I H0=>(z5 0 (pv 0))))) z9))))) (f7 3 (f7 2 (w4 (j5 (V4 (z0 (z5 2 (pv 2)) (z0 (z5 3 (pv 3)) z9))))))))))
noncomputable abbrev s_Z6:Stmt:=top 12
noncomputable abbrev N_Z6:List Str:=["weight"]
theorem xk0:FnScope N_Z6 ["weight"] (y7 s_Z6):=⟨rfl,rfl,rfl,by decide +kernel,rfl,by decide +kernel,by decide +kernel⟩
theorem xa5 {P:Program}{w:World}{K:W.Frag}{mg:Str->Option Value}{base:Heap}{f:Addr}{fd:FuncData}(G:Fun K "refuse_weight" "refuse_weight" s_Z6 f fd){i:Addr}(z:mg "NoWeights"=some (.ref i))(j:XC K "NoWeights" i)(q_NoWeights:W.excIn K i bmV "ValueError.__new__"=true):FnOk P w K mg base CX0 1 f fd ["weight"] (spR K 1 m_Z6):=
 G.okD (k:=0) (m:=b_Z6) xk0 fun cdv A outer s H E I=>(w4 (V2 (n9 zs9 L5 (z5 0 (pv 0)) x6 (t9 _)) (w4 M7) c7))
theorem xh0 {P:Program}{w:World}{K:W.Frag}{mg:Str->Option Value}{base:Heap}{f:Addr}{fd:FuncData}(G:Fun K "refuse_weight" "refuse_weight" s_Z6 f fd){i:Addr}(z:mg "NoWeights"=some (.ref i))(j:XC K "NoWeights" i)(q_NoWeights:W.excIn K i bmV "ValueError.__new__"=true):FnOk P w K mg base (CXx P w) 1 f fd ["weight"] (spX K 1 yy4):=
 G.okX (k:=0) (m:=xn1) xk0 fun cdv A outer s H E I=>(zs1 (xx6 rfl (n9 zs9 L5 (z5 0 (pv 0)) x6 (t9 _)) (zs1 (zo8 rfl ⟨rfl,rfl,rfl⟩ rfl rfl z j q_NoWeights (z0 A6 z9) (z8 w6) (by decide))) A2))
noncomputable abbrev s_Z2:Stmt:=top 13
noncomputable abbrev N_Z2:List Str:=["row","weights","weight"]
theorem sc_Z2:FnScope N_Z2 ["row","weights"] (y7 s_Z2):=⟨rfl,rfl,rfl,by decide +kernel,rfl,by decide +kernel,by decide +kernel⟩
theorem xa9 {P:Program}{w:World}{K:W.Frag}{mg:Str->Option Value}{base:Heap}{f:Addr}{fd:FuncData}{z:Addr}{G:FuncData}(R:Fun K "refuse_weights" "refuse_weights" s_Z2 f fd)(N:FnOk P w K mg base CX0 1 z G ["weight"] (spR K 1 m_Z6))(b_Z6:Binds K G ["weight"] [])(k_Z6:W.keepIn K (.ref z)=true)(I:mg "refuse_weight"=some (.ref z))(j:mg "len"=none):FnOk P w K mg base CX0 2 f fd ["row","weights"] (spR K 2 m_Z2):=
 R.okD (k:=1) (m:=b_Z2) sc_Z2 fun cdv A outer s H E O=>(y9 (V2 (n9 xa0 xq0 (t3 rfl j (w5 1 (pv 1))) (t3 rfl j (w5 0 (pv 0))) (t9 _)) (w4 M7) c7) (w4 (R5 PassesOwn.never rfl (U2 (z5 1 (pv 1))) (m8 (i:=2) (w8 sc_Z2.nd rfl (by first|exact Or.inl rfl|exact Or.inr rfl))) (w4 (V3 (p6 (fun t ha=>t5 (N.mono (by decide)) O rfl I k_Z6 b_Z6 .nil t6 ha) rfl (z0 (z5 2 (pv 2)) z9) (z8 w6)))))))
noncomputable abbrev s_Z5:Stmt:=top 14
noncomputable abbrev N_Z5:List Str:=["heavy","weight","places"]
theorem sc_Z5:FnScope N_Z5 ["heavy"] (y7 s_Z5):=⟨rfl,rfl,rfl,by decide +kernel,rfl,by decide +kernel,by decide +kernel⟩
theorem xa6 {P:Program}{w:World}{K:W.Frag}{mg:Str->Option Value}{base:Heap}{f:Addr}{fd:FuncData}(z:Fun K "heavier_first" "heavier_first" s_Z5 f fd)(j:mg "len"=none):FnOk P w K mg base CX0 1 f fd ["heavy"] (spR K 1 m_Z5):=
 z.okD (k:=0) (m:=b_Z5) sc_Z5 fun cdv A outer s H E G=>(y9 (W0 (Y3 (z5 0 (pv 0)) (f9 (is:=[1,2]) (Y4 rfl (v7 (w8 (i:=1) sc_Z5.nd rfl (by first|exact Or.inl rfl|exact Or.inr rfl)) (v7 (w8 (i:=2) sc_Z5.nd rfl (by first|exact Or.inl rfl|exact Or.inr rfl)) f8)))))) (w4 (j5 (V4 (z0 (A7 (z5 1 (pv 1))) (z0 (t3 rfl j (w5 2 (pv 2))) (z0 (z5 2 (pv 2)) z9)))))))
noncomputable abbrev s_Z4:Stmt:=top 15
noncomputable abbrev N_Z4:List Str:=["heavies"]
theorem xb3:FnScope N_Z4 ["heavies"] (y7 s_Z4):=⟨rfl,rfl,rfl,by decide +kernel,rfl,by decide +kernel,by decide +kernel⟩
theorem xa7 {P:Program}{w:World}{K:W.Frag}{mg:Str->Option Value}{base:Heap}{f:Addr}{fd:FuncData}{i:Addr}{j:FuncData}(O:Fun K "first_heaviest" "first_heaviest" s_Z4 f fd)(I:FnOk P w K mg base CX0 1 i j ["heavy"] (spR K 1 m_Z5))(b_Z5:Binds K j ["heavy"] [])(k_Z5:W.keepIn K (.ref i)=true)(G:mg "heavier_first"=some (.ref i))(z:mg "min"=none):FnOk P w K mg base CX0 3 f fd ["heavies"] (spR K 1 m_Z4):=
 O.okD (k:=2) (m:=b_Z4) xb3 fun cdv A outer s H E N=>(w4 (j5 (xr2 (za1 (I.mono (by decide)) N.in1 b_Z5) rfl N.units rfl z rfl G (U3 (zv8 (U3 (p9 (z0 (V4 (z0 x6 (z0 (Z6 (p9 z9)) z9))) z9))) (w5 0 (pv 0)))))))
noncomputable abbrev zo2:Stmt:=top 16
noncomputable abbrev xn6:List Str:=["row","step","weights","above","below","ups","downs","place","weight","places"]
theorem sc_Z12:FnScope xn6 ["row","step","weights"] (y7 zo2):=⟨rfl,rfl,rfl,by decide +kernel,rfl,by decide +kernel,by decide +kernel⟩
theorem D1:List.Nodup (["later","downs"]:List Str):=by decide +kernel
theorem D0:List.Nodup (["later","ups"]:List Str):=by decide +kernel
theorem xg4 {P:Program}{w:World}{K:W.Frag}{mg:Str->Option Value}{base:Heap}{f:Addr}{fd:FuncData}{O:Addr}{S:FuncData}{G:Addr}{R:FuncData}(Fn:Fun K "heavy_tails" "heavy_tails" zo2 f fd)(Y:FnOk P w K mg base CX0 3 O S ["heavies"] (spR K 1 m_Z4))(b_Z4:Binds K S ["heavies"] [])(k_Z4:W.keepIn K (.ref O)=true)(U:mg "first_heaviest"=some (.ref O))(a1:FnOk P w K mg base CX0 1 G R ["row","step"] (spR K 2 zg6))(b_Z16:Binds K R ["row","step"] [])(k_Z16:W.keepIn K (.ref G)=true)(Z:mg "later_steps"=some (.ref G))(z:mg "len"=none)(I:mg "range"=none)(j:mg "reversed"=none):FnOk P w K mg base CX0 4 f fd ["row","step","weights"] (spR K 3 ya1):=
 Fn.okD (k:=3) (m:=b_Z12) sc_Z12 fun cdv A outer s H E hr=>(y9 (W0 (Y3 (p6 (fun t ha=>t5 (a1.mono (by decide)) hr rfl Z k_Z16 b_Z16 .nil t6 ha) rfl (z0 (z5 0 (pv 0)) (z0 (z5 1 (pv 1)) z9)) (z8 (z8 w6))) (f9 (is:=[3,4]) (Y4 rfl (v7 (w8 (i:=3) sc_Z12.nd rfl (by first|exact Or.inl rfl|exact Or.inr rfl)) (v7 (w8 (i:=4) sc_Z12.nd rfl (by first|exact Or.inl rfl|exact Or.inr rfl)) f8)))))) (y9 (V1 (i:=5) sc_Z12.nd rfl (by first|exact Or.inl rfl|exact Or.inr rfl) (zc6 (p9 (z0 (V4 (z0 x6 (z0 (Z6 (p9 z9)) z9))) z9)) (t3 rfl z (w5 0 (pv 0))))) (y9 (V1 (i:=6) sc_Z12.nd rfl (by first|exact Or.inl rfl|exact Or.inr rfl) (zc6 (p9 (z0 (V4 (z0 x6 (z0 (Z6 (p9 z9)) z9))) z9)) (t3 rfl z (w5 0 (pv 0))))) (y9 (R5 PassesOwn.never rfl (A3 rfl j rfl I (z0 (t3 rfl z (w5 0 (pv 0))) z9)) (m8 (i:=7) (w8 sc_Z12.nd rfl (by first|exact Or.inl rfl|exact Or.inr rfl))) (y9 (W0 (Y3 (p6 (fun t ha=>t5 (Y.mono (by decide)) hr rfl U k_Z4 b_Z4 .nil t6 ha) rfl (z0 (Z6 (C2 (D8 (by decide)) (U1 (N:=["later","downs"]) (src:=[none,some 6]) (y7 zo2) xn6 rfl rfl (by decide +kernel)) rfl (U2 (k7 (w5 3 (pv 3)) (z5 7 (pv 7)))) (fun C fp s0 H0=>(m8 (i:=0) (w8 D1 rfl (by first|exact Or.inl rfl|exact Or.inr rfl)))) (fun C fp s0 H0=>V0) (fun C fp s0 H0=>(k7 (w5 1 (pv 1)) (z5 0 (pv 0)))))) z9) (z8 w6)) (f9 (is:=[8,9]) (Y4 rfl (v7 (w8 (i:=8) sc_Z12.nd rfl (by first|exact Or.inl rfl|exact Or.inr rfl)) (v7 (w8 (i:=9) sc_Z12.nd rfl (by first|exact Or.inl rfl|exact Or.inr rfl)) f8)))))) (y9 (U7 (i:=5) (Y3 (V4 (z0 (e6 (k7 (w5 2 (pv 2)) (z5 7 (pv 7))) (z5 8 (pv 8))) (z0 (Z6 (zv8 (U3 (p9 (z0 (z5 7 (pv 7)) z9))) (w5 9 (pv 9)))) z9))) (zv7 (pv 5) (z5 7 (pv 7)) P0))) (y9 (W0 (Y3 (p6 (fun t ha=>t5 (Y.mono (by decide)) hr rfl U k_Z4 b_Z4 .nil t6 ha) rfl (z0 (Z6 (C2 (D8 (by decide)) (U1 (N:=["later","ups"]) (src:=[none,some 5]) (y7 zo2) xn6 rfl rfl (by decide +kernel)) rfl (U2 (k7 (w5 4 (pv 4)) (z5 7 (pv 7)))) (fun C fp s0 H0=>(m8 (i:=0) (w8 D0 rfl (by first|exact Or.inl rfl|exact Or.inr rfl)))) (fun C fp s0 H0=>V0) (fun C fp s0 H0=>(k7 (w5 1 (pv 1)) (z5 0 (pv 0)))))) z9) (z8 w6)) (f9 (is:=[8,9]) (Y4 rfl (v7 (w8 (i:=8) sc_Z12.nd rfl (by first|exact Or.inl rfl|exact Or.inr rfl)) (v7 (w8 (i:=9) sc_Z12.nd rfl (by first|exact Or.inl rfl|exact Or.inr rfl)) f8)))))) (w4 (U7 (i:=6) (Y3 (V4 (z0 (e6 (k7 (w5 2 (pv 2)) (z5 7 (pv 7))) (z5 8 (pv 8))) (z0 (Z6 (zv8 (U3 (p9 (z0 (z5 7 (pv 7)) z9))) (w5 9 (pv 9)))) z9))) (zv7 (pv 6) (z5 7 (pv 7)) P0)))))))) (f7 5 (f7 6 (w4 (j5 (V4 (z0 (z5 5 (pv 5)) (z0 (z5 6 (pv 6)) z9)))))))))))
noncomputable abbrev yx1:Stmt:=top 17
noncomputable abbrev wy6:List Str:=["row","step","weights","ups","downs"]
theorem sc_Z22:FnScope wy6 ["row","step","weights"] (y7 yx1):=⟨rfl,rfl,rfl,by decide +kernel,rfl,by decide +kernel,by decide +kernel⟩
theorem xh4 {P:Program}{w:World}{K:W.Frag}{mg:Str->Option Value}{base:Heap}{f:Addr}{fd:FuncData}{G:Addr}{R:FuncData}{z:Addr}{O:FuncData}{j:Addr}{N:FuncData}{I:Addr}{S:FuncData}(Fn:Fun K "heaviest" "heaviest" yx1 f fd)(a4:FnOk P w K mg base CX0 3 G R ["heavies"] (spR K 1 m_Z4))(b_Z4:Binds K R ["heavies"] [])(k_Z4:W.keepIn K (.ref G)=true)(a2:mg "first_heaviest"=some (.ref G))(a1:FnOk P w K mg base CX0 4 z O ["row","step","weights"] (spR K 3 ya1))(b_Z12:Binds K O ["row","step","weights"] [])(k_Z12:W.keepIn K (.ref z)=true)(Y:mg "heavy_tails"=some (.ref z))(Z:FnOk P w K mg base CX0 1 j N ["step"] (spR K 1 J7))(b_Z14:Binds K N ["step"] [])(k_Z14:W.keepIn K (.ref j)=true)(U:mg "refuse_step"=some (.ref j))(a5:FnOk P w K mg base CX0 2 I S ["row","weights"] (spR K 2 m_Z2))(b_Z2:Binds K S ["row","weights"] [])(k_Z2:W.keepIn K (.ref I)=true)(a3:mg "refuse_weights"=some (.ref I)):FnOk P w K mg base CX0 5 f fd ["row","step","weights"] (spR K 3 J6):=
 Fn.okD (k:=4) (m:=b_Z22) sc_Z22 fun cdv A outer s H E hr=>(y9 (V3 (p6 (fun t ha=>t5 (Z.mono (by decide)) hr rfl U k_Z14 b_Z14 .nil t6 ha) rfl (z0 (z5 1 (pv 1)) z9) (z8 w6))) (y9 (V3 (p6 (fun t ha=>t5 (a5.mono (by decide)) hr rfl a3 k_Z2 b_Z2 .nil t6 ha) rfl (z0 (z5 0 (pv 0)) (z0 (z5 2 (pv 2)) z9)) (z8 (z8 w6)))) (y9 (W0 (Y3 (p6 (fun t ha=>t5 (a1.mono (by decide)) hr rfl Y k_Z12 b_Z12 .nil t6 ha) rfl (z0 (z5 0 (pv 0)) (z0 (z5 1 (pv 1)) (z0 (z5 2 (pv 2)) z9))) (z8 (z8 (z8 w6)))) (f9 (is:=[3,4]) (Y4 rfl (v7 (w8 (i:=3) sc_Z22.nd rfl (by first|exact Or.inl rfl|exact Or.inr rfl)) (v7 (w8 (i:=4) sc_Z22.nd rfl (by first|exact Or.inl rfl|exact Or.inr rfl)) f8)))))) (w4 (j5 (p6 (fun t ha=>t5 (a4.mono (by decide)) hr rfl a2 k_Z4 b_Z4 .nil t6 ha) rfl (z0 (e6 (z5 3 (pv 3)) (z5 4 (pv 4))) z9) (z8 w6)))))))
noncomputable abbrev zo1:Stmt:=top 20
noncomputable abbrev xn5:List Str:=["row","step","ups","downs","place","later","rise"]
theorem sc_Z24:FnScope xn5 ["row","step"] (y7 zo1):=⟨rfl,rfl,rfl,by decide +kernel,rfl,by decide +kernel,by decide +kernel⟩
theorem yw5:List.Nodup (["place"]:List Str):=by decide +kernel
theorem yw4:List.Nodup (["place"]:List Str):=by decide +kernel
theorem xh2 {P:Program}{w:World}{K:W.Frag}{mg:Str->Option Value}{base:Heap}{f:Addr}{fd:FuncData}(O:Fun K "tails" "tails" zo1 f fd)(j:mg "len"=none)(z:mg "range"=none)(G:mg "reversed"=none):FnOk P w K mg base CX0 1 f fd ["row","step"] (spR K 2 ya0):=
 O.okD (k:=0) (m:=b_Z24) sc_Z24 fun cdv A outer s H E R=>(y9 (zc3 (yq6 (i:=2) sc_Z24.nd rfl (by first|exact Or.inl rfl|exact Or.inr rfl) (U1 (N:=["place"]) (src:=[none]) (y7 zo1) xn5 rfl rfl (by decide +kernel)) rfl (P3 rfl z (z0 (t3 rfl j (w5 0 (pv 0))) z9)) (fun C fp I H0=>(m8 (i:=0) (w8 yw5 rfl (by first|exact Or.inl rfl|exact Or.inr rfl)))) (fun C fp I H0=>V0) (fun C fp I H0=>(Z6 (p9 (z0 (z5 0 (pv 0)) z9)))))) (y9 (zc3 (yq6 (i:=3) sc_Z24.nd rfl (by first|exact Or.inl rfl|exact Or.inr rfl) (U1 (N:=["place"]) (src:=[none]) (y7 zo1) xn5 rfl rfl (by decide +kernel)) rfl (P3 rfl z (z0 (t3 rfl j (w5 0 (pv 0))) z9)) (fun C fp I H0=>(m8 (i:=0) (w8 yw4 rfl (by first|exact Or.inl rfl|exact Or.inr rfl)))) (fun C fp I H0=>V0) (fun C fp I H0=>(Z6 (p9 (z0 (z5 0 (pv 0)) z9)))))) (y9 (R5 PassesOwn.never rfl (A3 rfl G rfl z (z0 (t3 rfl j (w5 0 (pv 0))) z9)) (m8 (i:=4) (w8 sc_Z24.nd rfl (by first|exact Or.inl rfl|exact Or.inr rfl))) (w4 (R5 PassesOwn.never rfl (X7 rfl z (z0 (e6 (z5 4 (pv 4)) x6) (z0 (t3 rfl j (w5 0 (pv 0))) z9))) (m8 (i:=5) (w8 sc_Z24.nd rfl (by first|exact Or.inl rfl|exact Or.inr rfl))) (y9 (p7 (i:=6) sc_Z24.nd rfl (by first|exact Or.inl rfl|exact Or.inr rfl) (O1 (k7 (w5 0 (pv 0)) (z5 5 (pv 5))) (k7 (w5 0 (pv 0)) (z5 4 (pv 4))))) (y9 (V2 (pc_w (zh6 (n9 zr0 L6 (z5 6 (pv 6)) (z5 1 (pv 1)) (t9 _)) (zh1 (n9 zr0 L6 (t3 rfl j (S2 (k7 (w5 3 (pv 3)) (z5 5 (pv 5))))) (t3 rfl j (S2 (k7 (w5 2 (pv 2)) (z5 4 (pv 4))))) (t9 _))))) (w4 (U7 (i:=2) (Y3 (Z6 (zv8 (U3 (p9 (z0 (z5 4 (pv 4)) z9))) (S2 (k7 (w5 3 (pv 3)) (z5 5 (pv 5)))))) (zv7 (pv 2) (z5 4 (pv 4)) P0)))) c7) (w4 (V2 (pc_w (zh6 (n9 zr0 L6 (A7 (z5 6 (pv 6))) (z5 1 (pv 1)) (t9 _)) (zh1 (n9 zr0 L6 (t3 rfl j (S2 (k7 (w5 2 (pv 2)) (z5 5 (pv 5))))) (t3 rfl j (S2 (k7 (w5 3 (pv 3)) (z5 4 (pv 4))))) (t9 _))))) (w4 (U7 (i:=3) (Y3 (Z6 (zv8 (U3 (p9 (z0 (z5 4 (pv 4)) z9))) (S2 (k7 (w5 2 (pv 2)) (z5 5 (pv 5)))))) (zv7 (pv 3) (z5 4 (pv 4)) P0)))) c7))))))) (f7 2 (f7 3 (w4 (j5 (V4 (z0 (z5 2 (pv 2)) (z0 (z5 3 (pv 3)) z9))))))))))
noncomputable abbrev s_Z3:Stmt:=top 9
noncomputable abbrev N_Z3:List Str:=["tails","known","most"]
theorem sc_Z3:FnScope N_Z3 ["tails"] (y7 s_Z3):=⟨rfl,rfl,rfl,by decide +kernel,rfl,by decide +kernel,by decide +kernel⟩
theorem W3:List.Nodup (["length","many"]:List Str):=by decide +kernel
theorem W2:List.Nodup (["length","many","most"]:List Str):=by decide +kernel
theorem xa8 {P:Program}{w:World}{K:W.Frag}{mg:Str->Option Value}{base:Heap}{f:Addr}{fd:FuncData}(I:Fun K "longest_joined" "longest_joined" s_Z3 f fd)(z:mg "max"=none)(j:mg "sum"=none):FnOk P w K mg base CX0 1 f fd ["tails"] (spR K 1 m_Z3):=
 I.okD (k:=0) (m:=b_Z3) sc_Z3 fun cdv A outer s H E O=>(y9 (p7 (i:=1) sc_Z3.nd rfl (by first|exact Or.inl rfl|exact Or.inr rfl) (Z6 (zv8 (U3 (p9 (z0 (V4 (z0 x6 (z0 x6 z9))) z9))) (w5 0 (pv 0))))) (y9 (p7 (i:=2) sc_Z3.nd rfl (by first|exact Or.inl rfl|exact Or.inr rfl) (xr4 rfl rfl z (U3 (R6 (U1 (N:=["length","many"]) (src:=[none,none]) (y7 s_Z3) N_Z3 rfl rfl (by decide +kernel)) rfl (U2 (z5 1 (pv 1))) (fun C fp G H0=>(f9 (is:=[0,1]) (Y4 rfl (v7 (w8 (i:=0) W3 rfl (by first|exact Or.inl rfl|exact Or.inr rfl)) (v7 (w8 (i:=1) W3 rfl (by first|exact Or.inl rfl|exact Or.inr rfl)) f8))))) (fun C fp G H0=>V0) (fun C fp G H0=>(z5 0 (pv 0))))))) (w4 (j5 (V4 (z0 (e6 (z5 2 (pv 2)) x6) (z0 (xw2 rfl rfl j (U3 (R6 (U1 (N:=["length","many","most"]) (src:=[none,none,some 2]) (y7 s_Z3) N_Z3 rfl rfl (by decide +kernel)) rfl (U2 (z5 1 (pv 1))) (fun C fp G H0=>(f9 (is:=[0,1]) (Y4 rfl (v7 (w8 (i:=0) W2 rfl (by first|exact Or.inl rfl|exact Or.inr rfl)) (v7 (w8 (i:=1) W2 rfl (by first|exact Or.inl rfl|exact Or.inr rfl)) f8))))) (fun C fp G H0=>(P2 (n9 zh9 O7 (z5 0 (pv 0)) (z5 2 (pv 2)) (t9 _)))) (fun C fp G H0=>(z5 1 (pv 1))))) PyProof.Rows.boot_sum) z9)))))))
noncomputable abbrev s_Z0:Stmt:=top 10
noncomputable abbrev N_Z0:List Str:=["row","step","above","below","ups","downs","place","most"]
theorem sc_Z0:FnScope N_Z0 ["row","step"] (y7 s_Z0):=⟨rfl,rfl,rfl,by decide +kernel,rfl,by decide +kernel,by decide +kernel⟩
theorem R8:List.Nodup (["later","downs"]:List Str):=by decide +kernel
theorem R7:List.Nodup (["later","ups"]:List Str):=by decide +kernel
theorem Y6:List.Nodup (["length","many"]:List Str):=by decide +kernel
theorem Y5:List.Nodup (["length","many","most"]:List Str):=by decide +kernel
theorem wz1 {P:Program}{w:World}{K:W.Frag}{mg:Str->Option Value}{base:Heap}{f:Addr}{fd:FuncData}{G:Addr}{Y:FuncData}{S:Addr}{a1:FuncData}{I:Addr}{Z:FuncData}(Fn:Fun K "how_many_longest" "how_many_longest" s_Z0 f fd)(a7:FnOk P w K mg base CX0 1 G Y ["row","step"] (spR K 2 zg6))(b_Z16:Binds K Y ["row","step"] [])(k_Z16:W.keepIn K (.ref G)=true)(a5:mg "later_steps"=some (.ref G))(a3:FnOk P w K mg base CX0 1 S a1 ["tails"] (spR K 1 m_Z3))(b_Z3:Binds K a1 ["tails"] [])(k_Z3:W.keepIn K (.ref S)=true)(a2:mg "longest_joined"=some (.ref S))(a8:FnOk P w K mg base CX0 1 I Z ["step"] (spR K 1 J7))(b_Z14:Binds K Z ["step"] [])(k_Z14:W.keepIn K (.ref I)=true)(a6:mg "refuse_step"=some (.ref I))(j:mg "len"=none)(R:mg "max"=none)(O:mg "range"=none)(z:mg "reversed"=none)(a4:mg "sum"=none):FnOk P w K mg base CX0 2 f fd ["row","step"] (spR K 2 m_Z0):=
 Fn.okD (k:=1) (m:=b_Z0) sc_Z0 fun cdv A outer s H E hr=>(y9 (V3 (p6 (fun t ha=>t5 (a8.mono (by decide)) hr rfl a6 k_Z14 b_Z14 .nil t6 ha) rfl (z0 (z5 1 (pv 1)) z9) (z8 w6))) (y9 (W0 (Y3 (p6 (fun t ha=>t5 (a7.mono (by decide)) hr rfl a5 k_Z16 b_Z16 .nil t6 ha) rfl (z0 (z5 0 (pv 0)) (z0 (z5 1 (pv 1)) z9)) (z8 (z8 w6))) (f9 (is:=[2,3]) (Y4 rfl (v7 (w8 (i:=2) sc_Z0.nd rfl (by first|exact Or.inl rfl|exact Or.inr rfl)) (v7 (w8 (i:=3) sc_Z0.nd rfl (by first|exact Or.inl rfl|exact Or.inr rfl)) f8)))))) (y9 (V1 (i:=4) sc_Z0.nd rfl (by first|exact Or.inl rfl|exact Or.inr rfl) (zc6 (p9 (z0 (V4 (z0 x6 (z0 x6 z9))) z9)) (t3 rfl j (w5 0 (pv 0))))) (y9 (V1 (i:=5) sc_Z0.nd rfl (by first|exact Or.inl rfl|exact Or.inr rfl) (zc6 (p9 (z0 (V4 (z0 x6 (z0 x6 z9))) z9)) (t3 rfl j (w5 0 (pv 0))))) (y9 (R5 PassesOwn.never rfl (A3 rfl z rfl O (z0 (t3 rfl j (w5 0 (pv 0))) z9)) (m8 (i:=6) (w8 sc_Z0.nd rfl (by first|exact Or.inl rfl|exact Or.inr rfl))) (y9 (U7 (i:=4) (Y3 (p6 (fun t ha=>t5 (a3.mono (by decide)) hr rfl a2 k_Z3 b_Z3 .nil t6 ha) rfl (z0 (Z6 (C2 (D8 (by decide)) (U1 (N:=["later","downs"]) (src:=[none,some 5]) (y7 s_Z0) N_Z0 rfl rfl (by decide +kernel)) rfl (U2 (k7 (w5 2 (pv 2)) (z5 6 (pv 6)))) (fun C fp U H0=>(m8 (i:=0) (w8 R8 rfl (by first|exact Or.inl rfl|exact Or.inr rfl)))) (fun C fp U H0=>V0) (fun C fp U H0=>(k7 (w5 1 (pv 1)) (z5 0 (pv 0)))))) z9) (z8 w6)) (zv7 (pv 4) (z5 6 (pv 6)) P0))) (w4 (U7 (i:=5) (Y3 (p6 (fun t ha=>t5 (a3.mono (by decide)) hr rfl a2 k_Z3 b_Z3 .nil t6 ha) rfl (z0 (Z6 (C2 (D8 (by decide)) (U1 (N:=["later","ups"]) (src:=[none,some 4]) (y7 s_Z0) N_Z0 rfl rfl (by decide +kernel)) rfl (U2 (k7 (w5 3 (pv 3)) (z5 6 (pv 6)))) (fun C fp U H0=>(m8 (i:=0) (w8 R7 rfl (by first|exact Or.inl rfl|exact Or.inr rfl)))) (fun C fp U H0=>V0) (fun C fp U H0=>(k7 (w5 1 (pv 1)) (z5 0 (pv 0)))))) z9) (z8 w6)) (zv7 (pv 5) (z5 6 (pv 6)) P0)))))) (f7 4 (f7 5 (y9 (p7 (i:=7) sc_Z0.nd rfl (by first|exact Or.inl rfl|exact Or.inr rfl) (xr5 rfl hr.units rfl R (U3 (R6 (U1 (N:=["length","many"]) (src:=[none,none]) (y7 s_Z0) N_Z0 rfl rfl (by decide +kernel)) rfl (U2 (e6 (z5 4 (pv 4)) (z5 5 (pv 5)))) (fun C fp U H0=>(f9 (is:=[0,1]) (Y4 rfl (v7 (w8 (i:=0) Y6 rfl (by first|exact Or.inl rfl|exact Or.inr rfl)) (v7 (w8 (i:=1) Y6 rfl (by first|exact Or.inl rfl|exact Or.inr rfl)) f8))))) (fun C fp U H0=>V0) (fun C fp U H0=>(z5 0 (pv 0))))) x6)) (y9 (V2 (n9 zs9 L5 (z5 7 (pv 7)) x6 (t9 _)) (w4 (j5 (xr6 rfl rfl R (z0 x6 (z0 (t3 rfl j (w5 0 (pv 0))) z9))))) c7) (w4 (j5 (xw2 rfl rfl a4 (U3 (R6 (U1 (N:=["length","many","most"]) (src:=[none,none,some 7]) (y7 s_Z0) N_Z0 rfl rfl (by decide +kernel)) rfl (U2 (e6 (z5 4 (pv 4)) (z5 5 (pv 5)))) (fun C fp U H0=>(f9 (is:=[0,1]) (Y4 rfl (v7 (w8 (i:=0) Y5 rfl (by first|exact Or.inl rfl|exact Or.inr rfl)) (v7 (w8 (i:=1) Y5 rfl (by first|exact Or.inl rfl|exact Or.inr rfl)) f8))))) (fun C fp U H0=>(P2 (n9 zh9 O7 (z5 0 (pv 0)) (z5 2 (pv 2)) (t9 _)))) (fun C fp U H0=>(z5 1 (pv 1))))) PyProof.Rows.boot_sum))))))))))))
noncomputable abbrev yw1:Stmt:=top 21
noncomputable abbrev wx6:List Str:=["places"]
theorem xk5:FnScope wx6 ["places"] (y7 yw1):=⟨rfl,rfl,rfl,by decide +kernel,rfl,by decide +kernel,by decide +kernel⟩
theorem xg6 {P:Program}{w:World}{K:W.Frag}{mg:Str->Option Value}{base:Heap}{f:Addr}{fd:FuncData}(j:Fun K "longer_first" "longer_first" yw1 f fd)(i:mg "len"=none):FnOk P w K mg base CX0 1 f fd ["places"] (spR K 1 zq0):=
 j.okD (k:=0) (m:=b_Z10) xk5 fun cdv A outer s H E z=>(w4 (j5 (V4 (z0 (A7 (t3 rfl i (w5 0 (pv 0)))) (z0 (z5 0 (pv 0)) z9)))))
noncomputable abbrev yx0:Stmt:=top 22
noncomputable abbrev wy5:List Str:=["row","step","ups","downs"]
theorem sc_Z23:FnScope wy5 ["row","step"] (y7 yx0):=⟨rfl,rfl,rfl,by decide +kernel,rfl,by decide +kernel,by decide +kernel⟩
theorem xh3 {P:Program}{w:World}{K:W.Frag}{mg:Str->Option Value}{base:Heap}{f:Addr}{fd:FuncData}{G:Addr}{O:FuncData}{z:Addr}{N:FuncData}{j:Addr}{I:FuncData}(Fn:Fun K "longest" "longest" yx0 f fd)(a2:FnOk P w K mg base CX0 1 G O ["places"] (spR K 1 zq0))(b_Z10:Binds K O ["places"] [])(k_Z10:W.keepIn K (.ref G)=true)(Y:mg "longer_first"=some (.ref G))(a1:FnOk P w K mg base CX0 1 z N ["step"] (spR K 1 J7))(b_Z14:Binds K N ["step"] [])(k_Z14:W.keepIn K (.ref z)=true)(U:mg "refuse_step"=some (.ref z))(Z:FnOk P w K mg base CX0 1 j I ["row","step"] (spR K 2 ya0))(b_Z24:Binds K I ["row","step"] [])(k_Z24:W.keepIn K (.ref j)=true)(S:mg "tails"=some (.ref j))(R:mg "min"=none):FnOk P w K mg base CX0 3 f fd ["row","step"] (spR K 2 yv4):=
 Fn.okD (k:=2) (m:=b_Z23) sc_Z23 fun cdv A outer s H E hr=>(y9 (V3 (p6 (fun t ha=>t5 (a1.mono (by decide)) hr rfl U k_Z14 b_Z14 .nil t6 ha) rfl (z0 (z5 1 (pv 1)) z9) (z8 w6))) (y9 (W0 (Y3 (p6 (fun t ha=>t5 (Z.mono (by decide)) hr rfl S k_Z24 b_Z24 .nil t6 ha) rfl (z0 (z5 0 (pv 0)) (z0 (z5 1 (pv 1)) z9)) (z8 (z8 w6))) (f9 (is:=[2,3]) (Y4 rfl (v7 (w8 (i:=2) sc_Z23.nd rfl (by first|exact Or.inl rfl|exact Or.inr rfl)) (v7 (w8 (i:=3) sc_Z23.nd rfl (by first|exact Or.inl rfl|exact Or.inr rfl)) f8)))))) (w4 (j5 (xr3 (za1 (a2.mono (by decide)) hr.in1 b_Z10) rfl hr.units rfl R rfl Y (S2 (e6 (z5 2 (pv 2)) (z5 3 (pv 3)))) (Z6 (p9 z9)))))))
noncomputable abbrev yx3:Stmt:=top 23
noncomputable abbrev wy8:List Str:=["row","step"]
theorem xk1:FnScope wy8 ["row","step"] (y7 yx3):=⟨rfl,rfl,rfl,by decide +kernel,rfl,by decide +kernel,by decide +kernel⟩
theorem xh6 {P:Program}{w:World}{K:W.Frag}{mg:Str->Option Value}{base:Heap}{f:Addr}{fd:FuncData}{i:Addr}{j:FuncData}(O:Fun K "how_long" "how_long" yx3 f fd)(I:FnOk P w K mg base CX0 3 i j ["row","step"] (spR K 2 yv4))(b_Z23:Binds K j ["row","step"] [])(k_Z23:W.keepIn K (.ref i)=true)(G:mg "longest"=some (.ref i))(z:mg "len"=none):FnOk P w K mg base CX0 4 f fd ["row","step"] (spR K 2 zm5):=
 O.okD (k:=3) (m:=b_Z20) xk1 fun cdv A outer s H E N=>(w4 (j5 (t3 rfl z (S2 (p6 (fun t ha=>t5 (I.mono (by decide)) N rfl G k_Z23 b_Z23 .nil t6 ha) rfl (z0 (z5 0 (pv 0)) (z0 (z5 1 (pv 1)) z9)) (z8 (z8 w6)))))))
noncomputable abbrev yx9:Stmt:=top 24
noncomputable abbrev wx4:List Str:=["row","step","kind","start","edge","place","gain"]
theorem sc_Z13:FnScope wx4 ["row","step","kind","start"] (y7 yx9):=⟨rfl,rfl,rfl,by decide +kernel,rfl,by decide +kernel,by decide +kernel⟩
theorem xg3 {P:Program}{w:World}{K:W.Frag}{mg:Str->Option Value}{base:Heap}{f:Addr}{fd:FuncData}(G:Fun K "first_break" "first_break" yx9 f fd)(z:mg "len"=none)(j:mg "range"=none):FnOk P w K mg base CX0 1 f fd ["row","step","kind","start"] (spR K 4 zm6):=
 G.okD (k:=0) (m:=b_Z13) sc_Z13 fun cdv A outer s H E I=>(y9 (p7 (i:=4) sc_Z13.nd rfl (by first|exact Or.inl rfl|exact Or.inr rfl) (z5 3 (pv 3))) (y9 (R5 PassesOwn.never rfl (X7 rfl j (z0 (z5 3 (pv 3)) (z0 (t3 rfl z (w5 0 (pv 0))) z9))) (m8 (i:=5) (w8 sc_Z13.nd rfl (by first|exact Or.inl rfl|exact Or.inr rfl))) (y9 (p7 (i:=6) sc_Z13.nd rfl (by first|exact Or.inl rfl|exact Or.inr rfl) (O1 (k7 (w5 0 (pv 0)) (z5 5 (pv 5))) (k7 (w5 0 (pv 0)) (z5 4 (pv 4))))) (y9 (V2 (n9 zh9 O7 (z5 2 (pv 2)) A6 (t9 _)) (w4 (p7 (i:=6) sc_Z13.nd rfl (by first|exact Or.inl rfl|exact Or.inr rfl) (A7 (z5 6 (pv 6))))) c7) (y9 (V2 (n9 xa1 xi3 (z5 6 (pv 6)) (A7 (z5 1 (pv 1))) (t9 _)) (w4 (zs3 5 (pv 5))) c7) (w4 (V2 (n9 xq5 yn1 (z5 6 (pv 6)) x6 (t9 _)) (w4 (p7 (i:=4) sc_Z13.nd rfl (by first|exact Or.inl rfl|exact Or.inr rfl) (z5 5 (pv 5)))) c7)))))) (w4 (j5 (t3 rfl z (w5 0 (pv 0)))))))
noncomputable abbrev yx4:Stmt:=top 25
noncomputable abbrev wy9:List Str:=["row","step","fall","rise","word","kind","cuts","cut"]
theorem sc_Z19:FnScope wy9 ["row","step"] (y7 yx4):=⟨rfl,rfl,rfl,by decide +kernel,rfl,by decide +kernel,by decide +kernel⟩
theorem xh7 {P:Program}{w:World}{K:W.Frag}{mg:Str->Option Value}{base:Heap}{f:Addr}{fd:FuncData}{N:Addr}{U:FuncData}{I:Addr}{S:FuncData}{j:Addr}(Fn:Fun K "pieces_of" "pieces_of" yx4 f fd)(R:FnOk P w K mg base CX0 1 N U ["row","step","kind","start"] (spR K 4 zm6))(b_Z13:Binds K U ["row","step","kind","start"] [])(k_Z13:W.keepIn K (.ref N)=true)(O:mg "first_break"=some (.ref N))(a2:FnOk P w K mg base CX0 1 I S ["step"] (spR K 1 J7))(b_Z14:Binds K S ["step"] [])(k_Z14:W.keepIn K (.ref I)=true)(a1:mg "refuse_step"=some (.ref I))(G:KTab w K j tab_OTHER_KIND)(z:mg "OTHER_KIND"=some (.ref j))(Z:mg "len"=none)(Y:mg "min"=none):FnOk P w K mg base CX0 2 f fd ["row","step"] (spR K 2 D4):=
 Fn.okD (k:=1) (m:=b_Z19) sc_Z19 fun cdv A outer s H E hr=>(y9 (V3 (p6 (fun t ha=>t5 (a2.mono (by decide)) hr rfl a1 k_Z14 b_Z14 .nil t6 ha) rfl (z0 (z5 1 (pv 1)) z9) (z8 w6))) (y9 (p7 (i:=2) sc_Z19.nd rfl (by first|exact Or.inl rfl|exact Or.inr rfl) (p6 (fun t ha=>t5 (R.mono (by decide)) hr rfl O k_Z13 b_Z13 .nil t6 ha) rfl (z0 (z5 0 (pv 0)) (z0 (z5 1 (pv 1)) (z0 A6 (z0 x6 z9 se_c) se_c) se_n) se_n) (z8 (z8 (z8 (z8 w6)))))) (y9 (p7 (i:=3) sc_Z19.nd rfl (by first|exact Or.inl rfl|exact Or.inr rfl) (p6 (fun t ha=>t5 (R.mono (by decide)) hr rfl O k_Z13 b_Z13 .nil t6 ha) rfl (z0 (z5 0 (pv 0)) (z0 (z5 1 (pv 1)) (z0 A6 (z0 x6 z9 se_c) se_c) se_n) se_n) (z8 (z8 (z8 (z8 w6)))))) (y9 (p7 (i:=4) sc_Z19.nd rfl (by first|exact Or.inl rfl|exact Or.inr rfl) (xw4 (n9 zs9 L5 (z5 2 (pv 2)) (z5 3 (pv 3)) (t9 _)) A6 A6)) (y9 (p7 (i:=5) sc_Z19.nd rfl (by first|exact Or.inl rfl|exact Or.inr rfl) (z5 4 (pv 4))) (y9 (V1 (i:=6) sc_Z19.nd rfl (by first|exact Or.inl rfl|exact Or.inr rfl) (p9 z9)) (y9 (p7 (i:=7) sc_Z19.nd rfl (by first|exact Or.inl rfl|exact Or.inr rfl) (yo5 rfl rfl Y (z0 (z5 2 (pv 2)) (z0 (z5 3 (pv 3)) z9)))) (y9 (yq5 1000 PassesOwn.never (n9 zs9 L5 (z5 7 (pv 7)) (t3 rfl Z (w5 0 (pv 0))) (t9 _)) (y9 (U8 (i:=6) (pv 6) (z5 7 (pv 7)) (fun t ha=>E9 PySem.F.plainAttrs_list PySem.F.slot_list_append PySem.F.type_list_append j8 (pv 6) ha) (z0 (z5 7 (pv 7)) z9)) (y9 (p7 (i:=7) sc_Z19.nd rfl (by first|exact Or.inl rfl|exact Or.inr rfl) (p6 (fun t ha=>t5 (R.mono (by decide)) hr rfl O k_Z13 b_Z13 .nil t6 ha) rfl (z0 (z5 0 (pv 0)) (z0 (z5 1 (pv 1)) (z0 (z5 5 (pv 5)) (z0 (z5 7 (pv 7)) z9 se_n) se_n) se_n) se_n) (z8 (z8 (z8 (z8 w6)))))) (w4 (p7 (i:=5) sc_Z19.nd rfl (by first|exact Or.inl rfl|exact Or.inr rfl) (xi1 G rfl z (z5 5 (pv 5)))))))) (w4 (yd3 (i:=6) (z5 4 (pv 4)) (pv 6)))))))))))
noncomputable abbrev k9:Stmt:=zr7 27 0
noncomputable abbrev D5:List Str:=["self","step"]
theorem J3:FnScope D5 ["self","step"] (y7 k9):=⟨rfl,rfl,rfl,by decide +kernel,rfl,by decide +kernel,by decide +kernel⟩
theorem J5 {P:Program}{w:World}{K:W.Frag}{mg:Str->Option Value}{base:Heap}{f:Addr}{fd:FuncData}{N:Addr}{O:FuncData}(Fn:Fun K "__init__" "Grown.__init__" k9 f fd){I:Addr}(U:W.nsIn K mainGlobals "Grown"=some (some (.ref I)))(Y:Cls K I)(S:FnOk P w K mg base CX0 1 N O ["step"] (spR K 1 J7))(b_Z14:Binds K O ["step"] [])(k_Z14:W.keepIn K (.ref N)=true)(R:mg "refuse_step"=some (.ref N))(i:∀ C,W.nsIn K mainGlobals "Grown"=some (some (.ref C))->Cls K C/\NoAttr K C "least_step")(G:∀ C,W.nsIn K mainGlobals "Grown"=some (some (.ref C))->Cls K C/\NoAttr K C "lengths")(z:∀ C,W.nsIn K mainGlobals "Grown"=some (some (.ref C))->Cls K C/\NoAttr K C "numbers")(j:∀ C,W.nsIn K mainGlobals "Grown"=some (some (.ref C))->Cls K C/\NoAttr K C "weights"):FnOk P w K mg base CX0 2 f fd ["self","step"] (spW K 2 j4):=
 Fn.okW (k:=1) (m:=b_Grown___init__) J3 fun cdv A outer s H E Z=>(w9 (psw (V3 (p6 (fun t ha=>t5 (S.mono (by decide)) Z rfl R k_Z14 b_Z14 .nil t6 ha) rfl (z0 (z5 1 (pv 1)) z9) (z8 w6)))) (w9 (xs3 i (z5 0 (pv 0)) (pdw (z5 1 (pv 1)))) (w9 (M5 z (z5 0 (pv 0)) (pfw (p9 z9))) (w9 (M5 j (z5 0 (pv 0)) (pfw (p9 z9))) (m3 (M5 G (z5 0 (pv 0)) (pfw (p9 z9))))))))
noncomputable abbrev s_Z8:Stmt:=zr7 27 4
noncomputable abbrev N_Z8:List Str:=["self"]
theorem xb1:FnScope N_Z8 ["self"] (y7 s_Z8):=⟨rfl,rfl,rfl,by decide +kernel,rfl,by decide +kernel,by decide +kernel⟩
theorem xa3 {P:Program}{w:World}{K:W.Frag}{mg:Str->Option Value}{base:Heap}{f:Addr}{fd:FuncData}{G:Addr}{I:FuncData}(Z:Fun K "pieces" "Grown.pieces" s_Z8 f fd){z:Addr}(R:W.nsIn K mainGlobals "Grown"=some (some (.ref z)))(S:Cls K z)(O:FnOk P w K mg base CX0 2 G I ["row","step"] (spR K 2 D4))(b_Z19:Binds K I ["row","step"] [])(k_Z19:W.keepIn K (.ref G)=true)(N:mg "pieces_of"=some (.ref G))(i:∀ C,W.nsIn K mainGlobals "Grown"=some (some (.ref C))->Cls K C/\NoAttr K C "least_step")(j:∀ C,W.nsIn K mainGlobals "Grown"=some (some (.ref C))->Cls K C/\NoAttr K C "numbers"):FnOk P w K mg base CX0 3 f fd ["self"] (spR K 1 m_Z8):=
 Z.okD (k:=2) (m:=b_Z8) xb1 fun cdv A outer s H E U=>(w4 (yd2 (fun t ha=>by exact t5 (O.mono (by decide)) U rfl N k_Z19 b_Z19 .nil t6 ha) (fun te Y=>U9 Y) (z0 (W1 (z5 0 (pv 0)) j) (z0 (W1 (z5 0 (pv 0)) i) z9)) rfl (z8 (z8 w6))))
noncomputable abbrev s_Z9:Stmt:=zr7 27 3
noncomputable abbrev N_Z9:List Str:=["self","word","cuts"]
theorem sc_Z9:FnScope N_Z9 ["self"] (y7 s_Z9):=⟨rfl,rfl,rfl,by decide +kernel,rfl,by decide +kernel,by decide +kernel⟩
theorem xa2 {P:Program}{w:World}{K:W.Frag}{mg:Str->Option Value}{base:Heap}{f:Addr}{fd:FuncData}{N:Addr}{O:FuncData}(Fn:Fun K "length" "Grown.length" s_Z9 f fd){z:Addr}(G:W.nsIn K mainGlobals "Grown"=some (some (.ref z)))(I:Cls K z)(U:FnOk P w K mg base CX0 3 N O ["self"] (spR K 1 m_Z8))(b_Z8:Binds K O ["self"] [])(S:Meth K z "pieces" N)(j:∀ C,W.nsIn K mainGlobals "Grown"=some (some (.ref C))->Cls K C/\NoAttr K C "numbers")(R:mg "len"=none):FnOk P w K mg base CX0 4 f fd ["self"] (spR K 1 m_Z9):=
 Fn.okD (k:=3) (m:=b_Z9) sc_Z9 fun cdv A outer s H E Y=>(y9 (W0 (Y3 (u9 G (z5 0 (pv 0)) (fun ta Z=>t8 Z I S (U.mono (by decide)) Y b_Z8 .nil t6)) (f9 (is:=[1,2]) (Y4 rfl (v7 (w8 (i:=1) sc_Z9.nd rfl (by first|exact Or.inl rfl|exact Or.inr rfl)) (v7 (w8 (i:=2) sc_Z9.nd rfl (by first|exact Or.inl rfl|exact Or.inr rfl)) f8)))))) (w4 (j5 (xw4 (xw7 (W1 (z5 0 (pv 0)) j)) (e6 (t3 rfl R (w5 2 (pv 2))) x6) x6))))
noncomputable abbrev c8:Stmt:=zr7 27 1
noncomputable abbrev zd0:List Str:=["self","number","weight"]
theorem G3:FnScope zd0 ["self","number","weight"] (y7 c8):=⟨rfl,rfl,rfl,by decide +kernel,rfl,by decide +kernel,by decide +kernel⟩
theorem zn7 {P:Program}{w:World}{K:W.Frag}{mg:Str->Option Value}{base:Heap}{f:Addr}{fd:FuncData}{S:Addr}{U:FuncData}{I:Addr}{R:FuncData}(Fn:Fun K "put" "Grown.put" c8 f fd){G:Addr}(N:W.nsIn K mainGlobals "Grown"=some (some (.ref G)))(O:Cls K G)(a2:FnOk P w K mg base CX0 4 S U ["self"] (spR K 1 m_Z9))(b_Z9:Binds K U ["self"] [])(a1:Meth K G "length" S)(a3:FnOk P w K mg base CX0 1 I R ["weight"] (spR K 1 m_Z6))(b_Z6:Binds K R ["weight"] [])(k_Z6:W.keepIn K (.ref I)=true)(Z:mg "refuse_weight"=some (.ref I))(z:∀ C,W.nsIn K mainGlobals "Grown"=some (some (.ref C))->Cls K C/\NoAttr K C "lengths")(j:∀ C,W.nsIn K mainGlobals "Grown"=some (some (.ref C))->Cls K C/\NoAttr K C "numbers")(i:∀ C,W.nsIn K mainGlobals "Grown"=some (some (.ref C))->Cls K C/\NoAttr K C "weights")(a4:FnOk P w K mg base (CXx P w) 1 I R ["weight"] (spX K 1 yy4)):FnOk P w K mg base CX0 5 f fd ["self","number","weight"] (spW K 3 m6):=
 Fn.okW (k:=4) (m:=b_Grown_put) G3 fun cdv A outer s H E hr=>(w9 (psw (V3 (p6 (fun t ha=>t5 (a3.mono (by decide)) hr rfl Z k_Z6 b_Z6 .nil t6 ha) rfl (z0 (z5 2 (pv 2)) z9) (z8 w6)))) (w9 (C0 j (z5 0 (pv 0)) (pdw (z5 1 (pv 1))) rfl (fun to t Y ha=>E9 PySem.F.plainAttrs_list PySem.F.slot_list_append PySem.F.type_list_append j8 Y ha)) (w9 (C0 i (z5 0 (pv 0)) (pdw (z5 2 (pv 2))) rfl (fun to t Y ha=>E9 PySem.F.plainAttrs_list PySem.F.slot_list_append PySem.F.type_list_append j8 Y ha)) (m3 (C0 z (z5 0 (pv 0)) (Z1 (u9 N (z5 0 (pv 0)) (fun ta Y=>t8 Y O a1 (a2.mono (by decide)) hr b_Z9 .nil t6))) rfl (fun to t Y ha=>E9 PySem.F.plainAttrs_list PySem.F.slot_list_append PySem.F.type_list_append j8 Y ha))))))
theorem zr2 {P:Program}{w:World}{K:W.Frag}{mg:Str->Option Value}{base:Heap}{f:Addr}{fd:FuncData}{O:Addr}{R:FuncData}{j:Addr}{N:FuncData}(Fn:Fun K "put" "Grown.put" c8 f fd){i:Addr}(U:W.nsIn K mainGlobals "Grown"=some (some (.ref i)))(Y:Cls K i)(a2:FnOk P w K mg base CX0 4 O R ["self"] (spR K 1 m_Z9))(b_Z9:Binds K R ["self"] [])(a1:Meth K i "length" O)(a3:FnOk P w K mg base CX0 1 j N ["weight"] (spR K 1 m_Z6))(b_Z6:Binds K N ["weight"] [])(k_Z6:W.keepIn K (.ref j)=true)(Z:mg "refuse_weight"=some (.ref j))(I:∀ C,W.nsIn K mainGlobals "Grown"=some (some (.ref C))->Cls K C/\NoAttr K C "lengths")(G:∀ C,W.nsIn K mainGlobals "Grown"=some (some (.ref C))->Cls K C/\NoAttr K C "numbers")(z:∀ C,W.nsIn K mainGlobals "Grown"=some (some (.ref C))->Cls K C/\NoAttr K C "weights")(S:FnOk P w K mg base (CXx P w) 1 j N ["weight"] (spX K 1 yy4)):FnOk P w K mg base (CXx P w) 5 f fd ["self","number","weight"] (spX K 3 Y2):=
 Fn.okX (k:=4) (m:=Q8) G3 fun cdv A outer s H E hr=>(zo9 (yd0 (yd8 rfl ⟨rfl,rfl,rfl⟩ (S.mono (by decide)) hr rfl Z k_Z6 b_Z6 rfl (z0 (z5 2 (pv 2)) z9) (z8 w6))))
noncomputable abbrev f6:Stmt:=zr7 27 2
noncomputable abbrev zi3:List Str:=["self","many","left"]
theorem sc_Grown_take:FnScope zi3 ["self","many"] (y7 f6):=⟨rfl,rfl,rfl,by decide +kernel,rfl,by decide +kernel,by decide +kernel⟩
theorem zr3 {P:Program}{w:World}{K:W.Frag}{mg:Str->Option Value}{base:Heap}{f:Addr}{fd:FuncData}{Y:Addr}{Z:FuncData}(Fn:Fun K "take" "Grown.take" f6 f fd){N:Addr}(O:W.nsIn K mainGlobals "Grown"=some (some (.ref N)))(R:Cls K N)(a3:FnOk P w K mg base CX0 4 Y Z ["self"] (spR K 1 m_Z9))(b_Z9:Binds K Z ["self"] [])(a2:Meth K N "length" Y)(I:∀ C,W.nsIn K mainGlobals "Grown"=some (some (.ref C))->Cls K C/\NoAttr K C "lengths")(j:∀ C,W.nsIn K mainGlobals "Grown"=some (some (.ref C))->Cls K C/\NoAttr K C "numbers")(z:∀ C,W.nsIn K mainGlobals "Grown"=some (some (.ref C))->Cls K C/\NoAttr K C "weights"){G:Addr}(a1:mg "NoNumber"=some (.ref G))(U:XC K "NoNumber" G)(q_NoNumber:W.excIn K G bmV "ValueError.__new__"=true)(S:mg "len"=none):FnOk P w K mg base CX0 5 f fd ["self","many"] (spW K 2 l7):=
 Fn.okW (k:=4) (m:=b_Grown_take) sc_Grown_take fun cdv A outer s H E hr=>(w9 (G4 (zs8 (pc_w (zb0 (n9 zs9 L5 (z5 1 (pv 1)) x6 (t9 _)) (yq1 (n9 xq5 yn1 (z5 1 (pv 1)) (t3 rfl S (S2 (W1 (z5 0 (pv 0)) j))) (t9 _)))))) (m3 (psw M7)) T9) (w9 (zt9 (i:=2) sc_Grown_take.nd rfl (by first|exact Or.inl rfl|exact Or.inr rfl) (Z1 (O1 (t3 rfl S (S2 (W1 (z5 0 (pv 0)) j))) (z5 1 (pv 1))))) (w9 (M5 j (z5 0 (pv 0)) (zc5 (yd7 (S2 (W1 (z5 0 (pv 0)) j)) zs5 (M8 (z5 2 (pv 2)))))) (w9 (M5 z (z5 0 (pv 0)) (zc5 (yd7 (S2 (W1 (z5 0 (pv 0)) z)) zs5 (M8 (z5 2 (pv 2)))))) (m3 (C0 I (z5 0 (pv 0)) (Z1 (u9 O (z5 0 (pv 0)) (fun ta ho=>t8 ho R a2 (a3.mono (by decide)) hr b_Z9 .nil t6))) rfl (fun to t ho ha=>E9 PySem.F.plainAttrs_list PySem.F.slot_list_append PySem.F.type_list_append j8 ho ha)))))))
theorem zx7 {P:Program}{w:World}{K:W.Frag}{mg:Str->Option Value}{base:Heap}{f:Addr}{fd:FuncData}{R:Addr}{S:FuncData}(Fn:Fun K "take" "Grown.take" f6 f fd){z:Addr}(Y:W.nsIn K mainGlobals "Grown"=some (some (.ref z)))(Z:Cls K z)(a2:FnOk P w K mg base CX0 4 R S ["self"] (spR K 1 m_Z9))(b_Z9:Binds K S ["self"] [])(a1:Meth K z "length" R)(O:∀ C,W.nsIn K mainGlobals "Grown"=some (some (.ref C))->Cls K C/\NoAttr K C "lengths")(j:∀ C,W.nsIn K mainGlobals "Grown"=some (some (.ref C))->Cls K C/\NoAttr K C "numbers")(N:∀ C,W.nsIn K mainGlobals "Grown"=some (some (.ref C))->Cls K C/\NoAttr K C "weights"){i:Addr}(I:mg "NoNumber"=some (.ref i))(G:XC K "NoNumber" i)(q_NoNumber:W.excIn K i bmV "ValueError.__new__"=true)(U:mg "len"=none):FnOk P w K mg base (CXx P w) 5 f fd ["self","many"] (spX K 2 c9):=
 Fn.okX (k:=4) (m:=S4) sc_Grown_take fun cdv A outer s H E hr=>(zo9 (xx6 rfl (pc_w (zb0 (n9 zs9 L5 (z5 1 (pv 1)) x6 (t9 _)) (yq1 (n9 xq5 yn1 (z5 1 (pv 1)) (t3 rfl U (S2 (W1 (z5 0 (pv 0)) j))) (t9 _))))) (zs1 (zo8 rfl ⟨rfl,rfl,rfl⟩ rfl rfl I G q_NoNumber (z0 A6 z9) (z8 w6) (by decide))) A2))
noncomputable abbrev yw0:Stmt:=zr7 27 5
noncomputable abbrev wx5:List Str:=["self","weight","places"]
theorem sc_Z11:FnScope wx5 ["self"] (y7 yw0):=⟨rfl,rfl,rfl,by decide +kernel,rfl,by decide +kernel,by decide +kernel⟩
theorem xg5 {P:Program}{w:World}{K:W.Frag}{mg:Str->Option Value}{base:Heap}{f:Addr}{fd:FuncData}{N:Addr}{O:FuncData}(Fn:Fun K "weight" "Grown.weight" yw0 f fd){I:Addr}(U:W.nsIn K mainGlobals "Grown"=some (some (.ref I)))(Y:Cls K I)(S:FnOk P w K mg base CX0 5 N O ["row","step","weights"] (spR K 3 J6))(b_Z22:Binds K O ["row","step","weights"] [])(k_Z22:W.keepIn K (.ref N)=true)(R:mg "heaviest"=some (.ref N))(j:∀ C,W.nsIn K mainGlobals "Grown"=some (some (.ref C))->Cls K C/\NoAttr K C "least_step")(G:∀ C,W.nsIn K mainGlobals "Grown"=some (some (.ref C))->Cls K C/\NoAttr K C "numbers")(z:∀ C,W.nsIn K mainGlobals "Grown"=some (some (.ref C))->Cls K C/\NoAttr K C "weights"):FnOk P w K mg base CX0 6 f fd ["self"] (spR K 1 T5):=
 Fn.okD (k:=5) (m:=b_Z11) sc_Z11 fun cdv A outer s H E Z=>(y9 (W0 (Y3 (p6 (fun t ha=>t5 (S.mono (by decide)) Z rfl R k_Z22 b_Z22 .nil t6 ha) rfl (z0 (W1 (z5 0 (pv 0)) G) (z0 (W1 (z5 0 (pv 0)) j) (z0 (W1 (z5 0 (pv 0)) z) z9))) (z8 (z8 (z8 w6)))) (f9 (is:=[1,2]) (Y4 rfl (v7 (w8 (i:=1) sc_Z11.nd rfl (by first|exact Or.inl rfl|exact Or.inr rfl)) (v7 (w8 (i:=2) sc_Z11.nd rfl (by first|exact Or.inl rfl|exact Or.inr rfl)) f8)))))) (w4 (zs3 1 (pv 1))))
noncomputable abbrev s_Z1:Stmt:=zr7 27 6
noncomputable abbrev N_Z1:List Str:=["self"]
theorem xb4:FnScope N_Z1 ["self"] (y7 s_Z1):=⟨rfl,rfl,rfl,by decide +kernel,rfl,by decide +kernel,by decide +kernel⟩
theorem wz0 {P:Program}{w:World}{K:W.Frag}{mg:Str->Option Value}{base:Heap}{f:Addr}{fd:FuncData}{G:Addr}{I:FuncData}(Y:Fun K "how_many" "Grown.how_many" s_Z1 f fd){z:Addr}(N:W.nsIn K mainGlobals "Grown"=some (some (.ref z)))(O:Cls K z)(S:FnOk P w K mg base CX0 2 G I ["row","step"] (spR K 2 m_Z0))(b_Z0:Binds K I ["row","step"] [])(k_Z0:W.keepIn K (.ref G)=true)(R:mg "how_many_longest"=some (.ref G))(i:∀ C,W.nsIn K mainGlobals "Grown"=some (some (.ref C))->Cls K C/\NoAttr K C "least_step")(j:∀ C,W.nsIn K mainGlobals "Grown"=some (some (.ref C))->Cls K C/\NoAttr K C "numbers"):FnOk P w K mg base CX0 3 f fd ["self"] (spR K 1 m_Z1):=
 Y.okD (k:=2) (m:=b_Z1) xb4 fun cdv A outer s H E U=>(w4 (j5 (p6 (fun t ha=>t5 (S.mono (by decide)) U rfl R k_Z0 b_Z0 .nil t6 ha) rfl (z0 (W1 (z5 0 (pv 0)) j) (z0 (W1 (z5 0 (pv 0)) i) z9)) (z8 (z8 w6)))))
noncomputable abbrev yx5:Stmt:=zr7 27 7
noncomputable abbrev wx0:List Str:=["self"]
theorem xk2:FnScope wx0 ["self"] (y7 yx5):=⟨rfl,rfl,rfl,by decide +kernel,rfl,by decide +kernel,by decide +kernel⟩
theorem xh8 {P:Program}{w:World}{K:W.Frag}{mg:Str->Option Value}{base:Heap}{f:Addr}{fd:FuncData}(N:Fun K "row" "Grown.row" yx5 f fd){j:Addr}(G:W.nsIn K mainGlobals "Grown"=some (some (.ref j)))(I:Cls K j)(i:∀ C,W.nsIn K mainGlobals "Grown"=some (some (.ref C))->Cls K C/\NoAttr K C "numbers")(z:mg "list"=none):FnOk P w K mg base CX0 1 f fd ["self"] (spR K 1 Q5):=
 N.okD (k:=0) (m:=b_Z18) xk2 fun cdv A outer s H E O=>(w4 (zc4 (O5 rfl z (S2 (W1 (z5 0 (pv 0)) i)) PyProof.Rows.boot_list)))
noncomputable abbrev s_Z7:Stmt:=zr7 27 8
noncomputable abbrev N_Z7:List Str:=["self"]
theorem xb2:FnScope N_Z7 ["self"] (y7 s_Z7):=⟨rfl,rfl,rfl,by decide +kernel,rfl,by decide +kernel,by decide +kernel⟩
theorem xa4 {P:Program}{w:World}{K:W.Frag}{mg:Str->Option Value}{base:Heap}{f:Addr}{fd:FuncData}(N:Fun K "moments" "Grown.moments" s_Z7 f fd){j:Addr}(G:W.nsIn K mainGlobals "Grown"=some (some (.ref j)))(I:Cls K j)(i:∀ C,W.nsIn K mainGlobals "Grown"=some (some (.ref C))->Cls K C/\NoAttr K C "lengths")(z:mg "list"=none):FnOk P w K mg base CX0 1 f fd ["self"] (spR K 1 m_Z7):=
 N.okD (k:=0) (m:=b_Z7) xb2 fun cdv A outer s H E O=>(w4 (zc4 (O5 rfl z (S2 (W1 (z5 0 (pv 0)) i)) PyProof.Rows.boot_list)))
noncomputable abbrev yx6:Stmt:=top 29
noncomputable abbrev wx1:List Str:=["script","k"]
theorem xk3:FnScope wx1 ["script","k"] (y7 yx6):=⟨rfl,rfl,rfl,by decide +kernel,rfl,by decide +kernel,by decide +kernel⟩
theorem xh9 {P:Program}{w:World}{K:W.Frag}{mg:Str->Option Value}{base:Heap}{f:Addr}{fd:FuncData}(j:Fun K "_law_cell_at" "_law_cell_at" yx6 f fd)(i:mg "len"=none):FnOk P w K mg base CX0 1 f fd ["script","k"] (spR K 2 yk6):=
 j.okD (k:=0) (m:=b_Z17) xk3 fun cdv A outer s H E z=>(y9 (V2 (n9 zs9 L5 (z5 1 (pv 1)) (t3 rfl i (w5 0 (pv 0))) (t9 _)) (w4 (j5 (k7 (w5 0 (pv 0)) (z5 1 (pv 1))))) c7) (w4 (j5 x6)))
noncomputable abbrev yx7:Stmt:=top 30
noncomputable abbrev wx2:List Str:=["cell","many","found","rest","k","one"]
theorem sc_Z15:FnScope wx2 ["cell","many"] (y7 yx7):=⟨rfl,rfl,rfl,by decide +kernel,rfl,by decide +kernel,by decide +kernel⟩
theorem xg1 {P:Program}{w:World}{K:W.Frag}{mg:Str->Option Value}{base:Heap}{f:Addr}{fd:FuncData}(G:Fun K "_law_numbers" "_law_numbers" yx7 f fd)(z:mg "abs"=none)(j:mg "range"=none):FnOk P w K mg base CX0 1 f fd ["cell","many"] (spR K 2 zr9):=
 G.okD (k:=0) (m:=b_Z15) sc_Z15 fun cdv A outer s H E I=>(y9 (V1 (i:=2) sc_Z15.nd rfl (by first|exact Or.inl rfl|exact Or.inr rfl) (p9 z9)) (y9 (p7 (i:=3) sc_Z15.nd rfl (by first|exact Or.inl rfl|exact Or.inr rfl) (xw6 rfl z (z0 (z5 0 (pv 0)) z9))) (y9 (R5 PassesOwn.never rfl (P3 rfl j (z0 (z5 1 (pv 1)) z9)) (m8 (i:=4) (w8 sc_Z15.nd rfl (by first|exact Or.inl rfl|exact Or.inr rfl))) (w4 (V2 (n9 zr0 L6 (xw6 rfl z (z0 (z5 0 (pv 0)) z9)) (yo3 x6 x6) (t9 _)) (y9 (U8 (i:=2) (pv 2) (Z4 (z5 3 (pv 3)) x6) (fun t ha=>E9 PySem.F.plainAttrs_list PySem.F.slot_list_append PySem.F.type_list_append j8 (pv 2) ha) (z0 (Z4 (z5 3 (pv 3)) x6) z9)) (w4 (p7 (i:=3) sc_Z15.nd rfl (by first|exact Or.inl rfl|exact Or.inr rfl) (O6 (z5 3 (pv 3)) x6)))) (y9 (p7 (i:=5) sc_Z15.nd rfl (by first|exact Or.inl rfl|exact Or.inr rfl) (Z4 (e6 (Z4 (z5 3 (pv 3)) x6) (G5 (G5 x6 (e6 (z5 4 (pv 4)) x6)) (e6 (z5 4 (pv 4)) x6))) x6)) (y9 (p7 (i:=5) sc_Z15.nd rfl (by first|exact Or.inl rfl|exact Or.inr rfl) (e6 (Z4 (G5 (z5 5 (pv 5)) (z5 5 (pv 5))) x6) (O6 (z5 5 (pv 5)) x6))) (w4 (U8 (i:=2) (pv 2) (O6 (Z4 (G5 (z5 5 (pv 5)) x6) x6) x6) (fun t ha=>E9 PySem.F.plainAttrs_list PySem.F.slot_list_append PySem.F.type_list_append j8 (pv 2) ha) (z0 (O6 (Z4 (G5 (z5 5 (pv 5)) x6) x6) x6) z9)))))))) (w4 (zs3 2 (pv 2))))))
noncomputable abbrev c6:Stmt:=top 31
noncomputable abbrev zq9:List Str:=["grown","number","weight","caught","e"]
theorem sc_law_refused:FnScope zq9 ["grown","number","weight"] (y7 c6):=⟨rfl,rfl,rfl,by decide +kernel,rfl,by decide +kernel,by decide +kernel⟩
theorem zx8 {P:Program}{w:World}{K:W.Frag}{mg:Str->Option Value}{base:Heap}{f:Addr}{fd:FuncData}{S:Addr}{Y:FuncData}{N:Addr}{O:FuncData}(Fn:Fun K "_law_refused" "_law_refused" c6 f fd){a6:Addr}(a2:W.nsIn K mainGlobals "Grown"=some (some (.ref a6)))(a3:Cls K a6)(ad:FnOk P w K mg base CX0 5 S Y ["self","number","weight"] (spW K 3 m6))(b_Grown_put:Binds K Y ["self","number","weight"] [])(a8:Meth K a6 "put" S)(aa:FnOk P w K mg base CX0 5 N O ["self","many"] (spW K 2 l7))(b_Grown_take:Binds K O ["self","many"] [])(a5:Meth K a6 "take" N)(ab:FnOk P w K mg base (CXx P w) 5 S Y ["self","number","weight"] (spX K 3 Y2))(a9:FnOk P w K mg base (CXx P w) 5 N O ["self","many"] (spX K 2 c9)){G:Addr}(I:mg "NoNumber"=some (.ref G)){z:Addr}(Z:mg "NoWeights"=some (.ref z))(a1:∀ D,XC K "NoNumber" D->W.exmOne K (.ref D) (.ref G)=some true)(U:∀ D,XC K "NoWeights" D->W.exmOne K (.ref D) (.ref G)=some false)(ac:∀ D,XC K "NoNumber" D->W.exmOne K (.ref D) (.ref z)=some false)(R:∀ D,XC K "NoWeights" D->W.exmOne K (.ref D) (.ref z)=some true)(a7:∀ c k,([("NoNumber",true),("NoWeights",false)]:List (Str×Bool)).lookup c=some k->∀ C,XC K c C->XCls K C/\W.kitOne K (.ref C) (.ref G)=some k)(a4:∀ c k,([("NoNumber",false),("NoWeights",true)]:List (Str×Bool)).lookup c=some k->∀ C,XC K c C->XCls K C/\W.kitOne K (.ref C) (.ref z)=some k)(j:mg "isinstance"=none):FnOk P w K mg base CX0 6 f fd ["grown","number","weight"] (spW K 3 l5):=
 Fn.okW (k:=5) (m:=b_law_refused) sc_law_refused fun cdv A outer s H E hr=>(w9 (psw (p7 (i:=3) sc_law_refused.nd rfl (by first|exact Or.inl rfl|exact Or.inr rfl) zn4)) (w9 (yd1 (names:=["NoNumber","NoWeights"]) (i:=4) (ms:=fun _=>(mset 3 (mvar 4))) rfl ⟨rfl,rfl,rfl⟩ sc_law_refused.nd rfl rfl (m3 (G4 (pcw (n9 yn2 zh8 (z5 2 (pv 2)) zn4 (t9 _))) (m3 (R4 (Y8 (M9 a2 (z5 0 (pv 0)) (fun ta t ho ha=>A4 ho a3 a5 (aa.mono (by decide)) hr b_Grown_take .nil t6 ha) rfl (z0 (z5 1 (pv 1)) z9) (z8 w6))))) (m3 (R4 (Y8 (M9 a2 (z5 0 (pv 0)) (fun ta t ho ha=>A4 ho a3 a8 (ad.mono (by decide)) hr b_Grown_put .nil t6 ha) rfl (z0 (z5 1 (pv 1)) (z0 (z5 2 (pv 2)) z9)) (z8 (z8 w6)))))))) (A0 (xt9 rfl (n9 yn2 zh8 (z5 2 (pv 2)) zn4 (t9 _)) (A0 (zo7 (zc7 rfl ⟨rfl,rfl,rfl⟩ a2 (z5 0 (pv 0)) a3 a5 (a9.mono (by decide)) hr b_Grown_take rfl (z0 (z5 1 (pv 1)) z9) (z8 w6)))) (A0 (zo7 (zc7 rfl ⟨rfl,rfl,rfl⟩ a2 (z5 0 (pv 0)) a3 a8 (ab.mono (by decide)) hr b_Grown_put rfl (z0 (z5 1 (pv 1)) (z0 (z5 2 (pv 2)) z9)) (z8 (z8 w6))))))) (List.forall_mem_cons.mpr ⟨(.hit rfl I (by decide) a1 (fun a=>(w4 (p7 (i:=3) sc_law_refused.nd rfl (by first|exact Or.inl rfl|exact Or.inr rfl) (z5 4 (pv 4)))))),(List.forall_mem_cons.mpr ⟨(.skip rfl I (by decide) U (.hit rfl Z (by decide) R (fun a=>(w4 (p7 (i:=3) sc_law_refused.nd rfl (by first|exact Or.inl rfl|exact Or.inr rfl) (z5 4 (pv 4))))))),(fun _ h=>nomatch h)⟩)⟩)) (w9 (G4 (pcw (n9 yn2 zh8 (z5 2 (pv 2)) zn4 (t9 _))) (m3 (O4 (U9 (pdw (yo8 (zc9 (tab:=[("NoNumber",true),("NoWeights",false)]) rfl j rfl I (z5 3 (pv 3)) a7) (yo4 (xw3 (zc9 (tab:=[("NoNumber",false),("NoWeights",true)]) rfl j rfl Z (z5 3 (pv 3)) a4)))))))) T9) (m3 (O4 (U9 (pdw (yo8 (zc9 (tab:=[("NoNumber",false),("NoWeights",true)]) rfl j rfl Z (z5 3 (pv 3)) a4) (yo4 (xw3 (zc9 (tab:=[("NoNumber",true),("NoWeights",false)]) rfl j rfl I (z5 3 (pv 3)) a7)))))))))))
noncomputable abbrev X6:Stmt:=top 32
noncomputable abbrev yu8:List Str:=["grown","mine","numbers","row","weights","moments","step","kind","many","k","span","number","weight"]
theorem sc_law_deed:FnScope yu8 ["grown","mine","numbers"] (y7 X6):=⟨rfl,rfl,rfl,by decide +kernel,rfl,by decide +kernel,by decide +kernel⟩
theorem zg0 {P:Program}{w:World}{K:W.Frag}{mg:Str->Option Value}{base:Heap}{f:Addr}{fd:FuncData}{S:Addr}{U:FuncData}{N:Addr}{O:FuncData}{j:Addr}{z:FuncData}{a6:Addr}{a8:FuncData}(Fn:Fun K "_law_deed" "_law_deed" X6 f fd){R:Addr}(a1:W.nsIn K mainGlobals "Grown"=some (some (.ref R)))(a2:Cls K R)(a4:FnOk P w K mg base CX0 5 S U ["self","number","weight"] (spW K 3 m6))(b_Grown_put:Binds K U ["self","number","weight"] [])(a3:Meth K R "put" S)(Z:FnOk P w K mg base CX0 5 N O ["self","many"] (spW K 2 l7))(b_Grown_take:Binds K O ["self","many"] [])(Y:Meth K R "take" N)(I:FnOk P w K mg base CX0 6 j z ["grown","number","weight"] (spW K 3 l5))(b_law_refused:Binds K z ["grown","number","weight"] [])(k_law_refused:W.keepIn K (.ref j)=true)(G:mg "_law_refused"=some (.ref j))(ac:FnOk P w K mg base CX0 4 a6 a8 ["row","step"] (spR K 2 zm5))(b_Z20:Binds K a8 ["row","step"] [])(k_Z20:W.keepIn K (.ref a6)=true)(ab:mg "how_long"=some (.ref a6))(a5:mg "len"=none)(a9:mg "list"=none)(aa:mg "min"=none)(a7:mg "range"=none):FnOk P w K mg base CX0 7 f fd ["grown","mine","numbers"] (spW K 3 X8):=
 Fn.okW (k:=6) (m:=b_law_deed) sc_law_deed fun cdv A outer s H E hr=>(w9 (psw (W0 (Y3 (z5 1 (pv 1)) (f9 (is:=[3,4,5,6]) (Y4 rfl (v7 (w8 (i:=3) sc_law_deed.nd rfl (by first|exact Or.inl rfl|exact Or.inr rfl)) (v7 (w8 (i:=4) sc_law_deed.nd rfl (by first|exact Or.inl rfl|exact Or.inr rfl)) (v7 (w8 (i:=5) sc_law_deed.nd rfl (by first|exact Or.inl rfl|exact Or.inr rfl)) (v7 (w8 (i:=6) sc_law_deed.nd rfl (by first|exact Or.inl rfl|exact Or.inr rfl)) f8))))))))) (w9 (psw (p7 (i:=7) sc_law_deed.nd rfl (by first|exact Or.inl rfl|exact Or.inr rfl) (Z4 (k7 (w5 2 (pv 2)) x6) x6))) (w9 (G4 (pcw (n9 zh9 O7 (z5 7 (pv 7)) x6 (t9 _))) (m3 (zc0 (zc8 (fun t ha=>t5 (I.mono (by decide)) hr rfl G k_law_refused b_law_refused .nil t6 ha) rfl (z0 (z5 0 (pv 0)) (z0 (k7 (w5 2 (pv 2)) x6) (z0 (O1 (A7 x6) (Z4 (k7 (w5 2 (pv 2)) x6) x6)) z9))) (z8 (z8 (z8 w6)))))) T9) (w9 (G4 (pcw (n9 zh9 O7 (z5 7 (pv 7)) x6 (t9 _))) (m3 (zc0 (yo0 (fun t ha=>t5 (I.mono (by decide)) hr rfl G k_law_refused b_law_refused .nil t6 ha) rfl (V5 (pdw (z5 0 (pv 0))) (V5 (Z1 (e6 (e6 (t3 rfl a5 (w5 3 (pv 3))) x6) (Z4 (k7 (w5 2 (pv 2)) x6) x6))) (V5 (pdw zn4) yn0))) (zy6 (zy6 (zy6 yc4)))))) T9) (w9 (G4 (pcw (n9 zh9 O7 (z5 7 (pv 7)) x6 (t9 _))) (w9 (zt9 (i:=8) sc_law_deed.nd rfl (by first|exact Or.inl rfl|exact Or.inr rfl) (Z1 (Z4 (k7 (w5 2 (pv 2)) x6) (k7 (U3 (p9 (z0 x6 (z0 (e6 (t3 rfl a5 (w5 3 (pv 3))) x6) z9)))) (Z4 (k7 (w5 2 (pv 2)) x6) x6))))) (w9 (zt9 (i:=8) sc_law_deed.nd rfl (by first|exact Or.inl rfl|exact Or.inr rfl) (Z1 (yo5 rfl rfl aa (z0 (z5 8 (pv 8)) (z0 (t3 rfl a5 (w5 3 (pv 3))) z9))))) (w9 (R4 (Y8 (M9 a1 (z5 0 (pv 0)) (fun ta t ho ha=>A4 ho a2 Y (Z.mono (by decide)) hr b_Grown_take .nil t6 ha) rfl (z0 (z5 8 (pv 8)) z9) (z8 w6)))) (m3 (zh3 PassesOwn.never rfl (P3 rfl a7 (z0 (z5 8 (pv 8)) z9)) (m8 (i:=9) (w8 sc_law_deed.nd rfl (by first|exact Or.inl rfl|exact Or.inr rfl))) (w9 (zc1 (i:=3) (xw1 PySem.F.plainAttrs_list PySem.F.slot_list_pop PySem.F.type_list_pop xw9 (pv 3))) (m3 (zc1 (i:=4) (xw1 PySem.F.plainAttrs_list PySem.F.slot_list_pop PySem.F.type_list_pop xw9 (pv 4)))))))))) (w9 (psw (p7 (i:=10) sc_law_deed.nd rfl (by first|exact Or.inl rfl|exact Or.inr rfl) (k7 (U3 (p9 (z0 x6 (z0 x6 (z0 (G5 x6 (z5 6 (pv 6))) z9))))) (Z4 (k7 (w5 2 (pv 2)) x6) x6)))) (w9 (psw (p7 (i:=11) sc_law_deed.nd rfl (by first|exact Or.inl rfl|exact Or.inr rfl) (e6 (k7 (w5 2 (pv 2)) x6) (G5 (G5 (k7 (w5 2 (pv 2)) x6) (k7 (w5 2 (pv 2)) x6)) (O6 (z5 6 (pv 6)) x6))))) (w9 (psw (p7 (i:=11) sc_law_deed.nd rfl (by first|exact Or.inl rfl|exact Or.inr rfl) (O1 (Z4 (z5 11 (pv 11)) (z5 10 (pv 10))) (O6 (z5 10 (pv 10)) x6)))) (w9 (psw (p7 (i:=12) sc_law_deed.nd rfl (by first|exact Or.inl rfl|exact Or.inr rfl) (k7 (U3 (p9 (z0 (Z4 (k7 (w5 2 (pv 2)) x6) x6) (z0 (k7 (w5 2 (pv 2)) x6) (z0 (yo3 x6 x6) (z0 x6 z9 se_c) se_b) se_s) se_b))) (Z4 (O6 (k7 (w5 2 (pv 2)) x6) x6) x6)))) (w9 (R4 (Y8 (M9 a1 (z5 0 (pv 0)) (fun ta t ho ha=>A4 ho a2 a3 (a4.mono (by decide)) hr b_Grown_put .nil t6 ha) rfl (z0 (z5 11 (pv 11)) (z0 (z5 12 (pv 12)) z9)) (z8 (z8 w6))))) (w9 (zs0 (i:=3) (pdw (z5 11 (pv 11))) (fun t ha=>E9 PySem.F.plainAttrs_list PySem.F.slot_list_append PySem.F.type_list_append j8 (pv 3) ha)) (m3 (zs0 (i:=4) (pdw (z5 12 (pv 12))) (fun t ha=>E9 PySem.F.plainAttrs_list PySem.F.slot_list_append PySem.F.type_list_append j8 (pv 4) ha)))))))))) (w9 (zs0 (i:=5) (Z1 (p6 (fun t ha=>t5 (ac.mono (by decide)) hr rfl ab k_Z20 b_Z20 .nil t6 ha) rfl (z0 (Z6 (O5 rfl a9 (w5 3 (pv 3)) PyProof.Rows.boot_list)) (z0 (z5 6 (pv 6)) z9)) (z8 (z8 w6)))) (fun t ha=>E9 PySem.F.plainAttrs_list PySem.F.slot_list_append PySem.F.type_list_append j8 (pv 5) ha)) (m3 (O4 (U9 (pdw zh5))))))))))
noncomputable abbrev yx2:Stmt:=top 33
noncomputable abbrev wy7:List Str:=["grown","mine","row","weights","moments","step"]
theorem sc_Z21:FnScope wy7 ["grown","mine"] (y7 yx2):=⟨rfl,rfl,rfl,by decide +kernel,rfl,by decide +kernel,by decide +kernel⟩
theorem xh5 {P:Program}{w:World}{K:W.Frag}{mg:Str->Option Value}{base:Heap}{f:Addr}{fd:FuncData}{a8:Addr}{ac:FuncData}{a5:Addr}{a9:FuncData}{a7:Addr}{ab:FuncData}{a6:Addr}{aa:FuncData}{U:Addr}{a3:FuncData}{Y:Addr}{a4:FuncData}{O:Addr}{a1:FuncData}{Z:Addr}{ad:FuncData}{R:Addr}{a2:FuncData}(Fn:Fun K "_law_told" "_law_told" yx2 f fd){G:Addr}(j:W.nsIn K mainGlobals "Grown"=some (some (.ref G)))(z:Cls K G)(ax:FnOk P w K mg base CX0 3 a8 ac ["self"] (spR K 1 m_Z1))(b_Z1:Binds K ac ["self"] [])(av:Meth K G "how_many" a8)(ag:FnOk P w K mg base CX0 4 a5 a9 ["self"] (spR K 1 m_Z9))(b_Z9:Binds K a9 ["self"] [])(ae:Meth K G "length" a5)(aw:FnOk P w K mg base CX0 1 a7 ab ["self"] (spR K 1 m_Z7))(b_Z7:Binds K ab ["self"] [])(au:Meth K G "moments" a7)(ah:FnOk P w K mg base CX0 3 a6 aa ["self"] (spR K 1 m_Z8))(b_Z8:Binds K aa ["self"] [])(af:Meth K G "pieces" a6)(aq:FnOk P w K mg base CX0 1 U a3 ["self"] (spR K 1 Q5))(b_Z18:Binds K a3 ["self"] [])(am:Meth K G "row" U)(ar:FnOk P w K mg base CX0 6 Y a4 ["self"] (spR K 1 T5))(b_Z11:Binds K a4 ["self"] [])(an:Meth K G "weight" Y)(ao:FnOk P w K mg base CX0 5 O a1 ["row","step","weights"] (spR K 3 J6))(b_Z22:Binds K a1 ["row","step","weights"] [])(k_Z22:W.keepIn K (.ref O)=true)(ak:mg "heaviest"=some (.ref O))(ay:FnOk P w K mg base CX0 2 Z ad ["row","step"] (spR K 2 m_Z0))(b_Z0:Binds K ad ["row","step"] [])(k_Z0:W.keepIn K (.ref Z)=true)(as:mg "how_many_longest"=some (.ref Z))(ap:FnOk P w K mg base CX0 2 R a2 ["row","step"] (spR K 2 D4))(b_Z19:Binds K a2 ["row","step"] [])(k_Z19:W.keepIn K (.ref R)=true)(al:mg "pieces_of"=some (.ref R))(aj:mg "int"=none)(ai:mg "len"=none)(I:mg "list"=none):FnOk P w K mg base CX0 7 f fd ["grown","mine"] (spR K 2 yv5):=
 Fn.okD (k:=6) (m:=b_Z21) sc_Z21 fun cdv A outer s H E N=>(y9 (W0 (Y3 (z5 1 (pv 1)) (f9 (is:=[2,3,4,5]) (Y4 rfl (v7 (w8 (i:=2) sc_Z21.nd rfl (by first|exact Or.inl rfl|exact Or.inr rfl)) (v7 (w8 (i:=3) sc_Z21.nd rfl (by first|exact Or.inl rfl|exact Or.inr rfl)) (v7 (w8 (i:=4) sc_Z21.nd rfl (by first|exact Or.inl rfl|exact Or.inr rfl)) (v7 (w8 (i:=5) sc_Z21.nd rfl (by first|exact Or.inl rfl|exact Or.inr rfl)) f8)))))))) (y9 (V2 (pc_w (zb0 (yo9 (G6 N.units) (S2 (u9 j (z5 0 (pv 0)) (fun ta S=>t8 S z am (aq.mono (by decide)) N b_Z18 .nil t6))) (w5 2 (pv 2)) (t9 _)) (zb0 (n9 (G6 N.units) A9 (u9 j (z5 0 (pv 0)) (fun ta S=>t8 S z ae (ag.mono (by decide)) N b_Z9 .nil t6)) (k7 (U3 (yd7 (w5 4 (pv 4)) (M8 (A7 x6)) zs5)) x6) (t9 _)) (yq1 (n9 (G6 N.units) A9 (u9 j (z5 0 (pv 0)) (fun ta S=>t8 S z af (ah.mono (by decide)) N b_Z8 .nil t6)) (p6 (fun t ha=>t5 (ap.mono (by decide)) N rfl al k_Z19 b_Z19 .nil t6 ha) rfl (z0 (Z6 (O5 rfl I (w5 2 (pv 2)) PyProof.Rows.boot_list)) (z0 (z5 5 (pv 5)) z9)) (z8 (z8 w6))) (t9 _)))))) (w4 (j5 zh5)) c7) (y9 (V2 (n9 (G6 N.units) A9 (u9 j (z5 0 (pv 0)) (fun ta S=>t8 S z ae (ag.mono (by decide)) N b_Z9 .nil t6)) (e6 (t3 rfl ai (S2 (zn5 (u9 j (z5 0 (pv 0)) (fun ta S=>t8 S z af (ah.mono (by decide)) N b_Z8 .nil t6)) x6))) (yo6 rfl aj (z0 (yo7 (G6 N.units) (w5 2 (pv 2)) (U3 (p9 z9)) (t9 _)) z9) PyProof.Rows.boot_int)) (t9 _)) (w4 (j5 zh5)) c7) (y9 (V2 (n9 (G6 N.units) A9 (u9 j (z5 0 (pv 0)) (fun ta S=>t8 S z an (ar.mono (by decide)) N b_Z11 .nil t6)) (zn5 (p6 (fun t ha=>t5 (ao.mono (by decide)) N rfl ak k_Z22 b_Z22 .nil t6 ha) rfl (z0 (Z6 (O5 rfl I (w5 2 (pv 2)) PyProof.Rows.boot_list)) (z0 (z5 5 (pv 5)) (z0 (Z6 (O5 rfl I (w5 3 (pv 3)) PyProof.Rows.boot_list)) z9))) (z8 (z8 (z8 w6)))) x6) (t9 _)) (w4 (j5 zh5)) c7) (w4 (j5 (yo8 (xw5 (yn3 N.units) A9 (u9 j (z5 0 (pv 0)) (fun ta S=>t8 S z av (ax.mono (by decide)) N b_Z1 .nil t6)) (p6 (fun t ha=>t5 (ay.mono (by decide)) N rfl as k_Z0 b_Z0 .nil t6 ha) rfl (z0 (Z6 (O5 rfl I (w5 2 (pv 2)) PyProof.Rows.boot_list)) (z0 (z5 5 (pv 5)) z9)) (z8 (z8 w6))) (t9 _)) (yo4 (yo7 (yn3 N.units) (S2 (u9 j (z5 0 (pv 0)) (fun ta S=>t8 S z au (aw.mono (by decide)) N b_Z7 .nil t6))) (w5 4 (pv 4)) (t9 _))))))))))
noncomputable abbrev zt5:Stmt:=top 34
noncomputable abbrev wy4:List Str:=["script","head","step","grown","mine","cell","other","number","weight","told"]
theorem sc_law:FnScope wy4 ["script"] (y7 zt5):=⟨rfl,rfl,rfl,by decide +kernel,rfl,by decide +kernel,by decide +kernel⟩
theorem xh1 {P:Program}{w:World}{K:W.Frag}{mg:Str->Option Value}{base:Heap}{f:Addr}{fd:FuncData}{I:Addr}{N:FuncData}{aw:Addr}{b5:FuncData}{as:Addr}{ax:FuncData}{av:Addr}{az:FuncData}{au:Addr}{ay:FuncData}{S:Addr}{Y:FuncData}{af:Addr}{ai:FuncData}{ag:Addr}{al:FuncData}{a9:Addr}{aj:FuncData}{R:Addr}{a1:FuncData}{aa:Addr}{ak:FuncData}{a8:Addr}{ah:FuncData}(Fn:Fun K "law" "law" zt5 f fd){G:Addr}(j:W.nsIn K mainGlobals "Grown"=some (some (.ref G)))(z:Cls K G)(O:FnOk P w K mg base CX0 2 I N ["self","step"] (spW K 2 j4))(b_Grown___init__:Binds K N ["self","step"] [])(ar:FnOk P w K mg base CX0 3 aw b5 ["self"] (spR K 1 m_Z1))(b_Z1:Binds K b5 ["self"] [])(ao:Meth K G "how_many" aw)(ap:FnOk P w K mg base CX0 4 as ax ["self"] (spR K 1 m_Z9))(b_Z9:Binds K ax ["self"] [])(an:Meth K G "length" as)(bf:FnOk P w K mg base CX0 1 av az ["self"] (spR K 1 m_Z7))(b_Z7:Binds K az ["self"] [])(be:Meth K G "moments" av)(b7:FnOk P w K mg base CX0 3 au ay ["self"] (spR K 1 m_Z8))(b_Z8:Binds K ay ["self"] [])(b6:Meth K G "pieces" au)(a4:FnOk P w K mg base CX0 5 S Y ["self","number","weight"] (spW K 3 m6))(b_Grown_put:Binds K Y ["self","number","weight"] [])(a3:Meth K G "put" S)(ad:FnOk P w K mg base CX0 1 af ai ["self"] (spR K 1 Q5))(b_Z18:Binds K ai ["self"] [])(ab:Meth K G "row" af)(ae:FnOk P w K mg base CX0 6 ag al ["self"] (spR K 1 T5))(b_Z11:Binds K al ["self"] [])(ac:Meth K G "weight" ag)(bd:FnOk P w K mg base CX0 1 a9 aj ["script","k"] (spR K 2 yk6))(b_Z17:Binds K aj ["script","k"] [])(k_Z17:W.keepIn K (.ref a9)=true)(bb:mg "_law_cell_at"=some (.ref a9))(a7:FnOk P w K mg base CX0 7 R a1 ["grown","mine","numbers"] (spW K 3 X8))(b_law_deed:Binds K a1 ["grown","mine","numbers"] [])(k_law_deed:W.keepIn K (.ref R)=true)(a5:mg "_law_deed"=some (.ref R))(aq:FnOk P w K mg base CX0 1 aa ak ["cell","many"] (spR K 2 zr9))(b_Z15:Binds K ak ["cell","many"] [])(k_Z15:W.keepIn K (.ref aa)=true)(am:mg "_law_numbers"=some (.ref aa))(bc:FnOk P w K mg base CX0 7 a8 ah ["grown","mine"] (spR K 2 yv5))(b_Z21:Binds K ah ["grown","mine"] [])(k_Z21:W.keepIn K (.ref a8)=true)(ba:mg "_law_told"=some (.ref a8))(a2:Mk K G I)(a6:mg "Grown"=some (.ref G))(b9:mg "int"=none)(b8:mg "zip"=none):FnOk P w K mg base CX0 8 f fd ["script"] (spR K 1 zg5):=
 (Fn.okW (k:=7) (m:=xy3) sc_law fun cdv A outer s H E Z=>(w9 (psw (p7 (i:=1) sc_law.nd rfl (by first|exact Or.inl rfl|exact Or.inr rfl) (p6 (fun t ha=>t5 (aq.mono (by decide)) Z rfl am k_Z15 b_Z15 .nil t6 ha) rfl (z0 (p6 (fun t ha=>t5 (bd.mono (by decide)) Z rfl bb k_Z17 b_Z17 .nil t6 ha) rfl (z0 (z5 0 (pv 0)) (z0 x6 z9)) (z8 (z8 w6))) (z0 x6 z9)) (z8 (z8 w6))))) (w9 (psw (p7 (i:=2) sc_law.nd rfl (by first|exact Or.inl rfl|exact Or.inr rfl) (k7 (U3 (p9 (z0 (e6 x6 (Z4 (k7 (w5 1 (pv 1)) x6) x6)) (z0 (O1 (yo3 x6 x6) (k7 (w5 1 (pv 1)) x6)) z9)))) (yo6 rfl b9 (z0 (xw5 zh9 O7 (Z4 (k7 (w5 1 (pv 1)) x6) x6) x6 (t9 _)) z9) PyProof.Rows.boot_int)))) (zc2 j (fun t ha=>by exact yp7 a2 (O.mono (by decide)) Z rfl a6 b_Grown___init__ .nil t6 ha) (fun te he=>zv5 (i:=3) sc_law.nd rfl (by first|exact Or.inl rfl|exact Or.inr rfl) he) rfl (z0 (z5 2 (pv 2)) z9) (z8 w6) (yq4 (zv5 (i:=4) sc_law.nd rfl (by first|exact Or.inl rfl|exact Or.inr rfl) (yp6 (j7 (p9 z9) (j7 (p9 z9) (j7 (p9 z9) (j7 (z5 2 (pv 2)) pa_nil)))))) (w9 (G4 (zs8 (yo9 (G6 Z.units) (U3 (p9 (z0 (u9 j (z5 3 (pv 3)) (fun ta U=>t8 U z an (ap.mono (by decide)) Z b_Z9 .nil t6)) (z0 (u9 j (z5 3 (pv 3)) (fun ta U=>t8 U z ac (ae.mono (by decide)) Z b_Z11 .nil t6)) (z0 (u9 j (z5 3 (pv 3)) (fun ta U=>t8 U z ao (ar.mono (by decide)) Z b_Z1 .nil t6)) (z0 (u9 j (z5 3 (pv 3)) (fun ta U=>t8 U z ab (ad.mono (by decide)) Z b_Z18 .nil t6)) (z0 (u9 j (z5 3 (pv 3)) (fun ta U=>t8 U z be (bf.mono (by decide)) Z b_Z7 .nil t6)) z9))))))) (U3 (p9 (z0 x6 (z0 x6 (z0 x6 (z0 (Z6 (p9 z9)) (z0 (Z6 (p9 z9)) z9)) se_c) se_c) se_c))) (t9 _))) (m3 (O4 (U9 (pdw zh5)))) T9) (w9 (zh3 PassesOwn.never rfl (U2 (Z6 (yd7 (w5 0 (pv 0)) (M8 x6) (M8 x6)))) (m8 (i:=5) (w8 sc_law.nd rfl (by first|exact Or.inl rfl|exact Or.inr rfl))) (w9 (xs0 (xr7 (zc8 (fun t ha=>t5 (a7.mono (by decide)) Z rfl a5 k_law_deed b_law_deed .nil t6 ha) rfl (z0 (z5 3 (pv 3)) (z0 (z5 4 (pv 4)) (z0 (p6 (fun t ha=>t5 (aq.mono (by decide)) Z rfl am k_Z15 b_Z15 .nil t6 ha) rfl (z0 (z5 5 (pv 5)) (z0 x6 z9)) (z8 (z8 w6))) z9))) (z8 (z8 (z8 w6))))) (m3 (O4 (U9 (pdw zh5)))) T9) (m3 (G4 (zs8 (pc_w (zh6 (yo9 (G6 Z.units) (S2 (zn5 (z5 4 (pv 4)) x6)) (U3 (p9 z9)) (t9 _)) (zh1 (xi2 (xw7 (p6 (fun t ha=>t5 (bc.mono (by decide)) Z rfl ba k_Z21 b_Z21 .nil t6 ha) rfl (z0 (z5 3 (pv 3)) (z0 (z5 4 (pv 4)) z9)) (z8 (z8 w6))))))))) (m3 (O4 (U9 (pdw zh5)))) T9)))) (zn0 4 (zc2 j (fun t ha=>by exact yp7 a2 (O.mono (by decide)) Z rfl a6 b_Grown___init__ .nil t6 ha) (fun te he=>zv5 (i:=6) sc_law.nd rfl (by first|exact Or.inl rfl|exact Or.inr rfl) he) rfl (z0 (z5 2 (pv 2)) z9) (z8 w6) (w9 (zh3 PassesOwn.never rfl (yd5 rfl b8 (z0 (zn5 (z5 4 (pv 4)) x6) (z0 (zn5 (z5 4 (pv 4)) x6) z9))) (f9 (is:=[7,8]) (Y4 rfl (v7 (w8 (i:=7) sc_law.nd rfl (by first|exact Or.inl rfl|exact Or.inr rfl)) (v7 (w8 (i:=8) sc_law.nd rfl (by first|exact Or.inl rfl|exact Or.inr rfl)) f8)))) (m3 (R4 (Y8 (M9 j (z5 6 (pv 6)) (fun ta t U ha=>A4 U z a3 (a4.mono (by decide)) Z b_Grown_put .nil t6 ha) rfl (z0 (z5 7 (pv 7)) (z0 (z5 8 (pv 8)) z9)) (z8 (z8 w6))))))) (w9 (zt9 (i:=9) sc_law.nd rfl (by first|exact Or.inl rfl|exact Or.inr rfl) (yc1 (V5 (Z1 (u9 j (z5 6 (pv 6)) (fun ta U=>t8 U z an (ap.mono (by decide)) Z b_Z9 .nil t6))) (V5 (Z1 (u9 j (z5 6 (pv 6)) (fun ta U=>t8 U z ac (ae.mono (by decide)) Z b_Z11 .nil t6))) (V5 (Z1 (u9 j (z5 6 (pv 6)) (fun ta U=>t8 U z ao (ar.mono (by decide)) Z b_Z1 .nil t6))) (V5 (yo1 j (t8 (z5 6 (pv 6)) z b6 (b7.mono (by decide)) Z b_Z8 .nil t6)) (V5 (yo2 (yp5 j (z5 6 (pv 6)) (fun ta U=>t8 U z ab (ad.mono (by decide)) Z b_Z18 .nil t6))) yn0))))))) (m3 (O4 (U9 (Z1 (yo7 (yn3 Z.units) (w5 9 (pv 9)) (U3 (p9 (z0 (u9 j (z5 3 (pv 3)) (fun ta U=>t8 U z an (ap.mono (by decide)) Z b_Z9 .nil t6)) (z0 (u9 j (z5 3 (pv 3)) (fun ta U=>t8 U z ac (ae.mono (by decide)) Z b_Z11 .nil t6)) (z0 (u9 j (z5 3 (pv 3)) (fun ta U=>t8 U z ao (ar.mono (by decide)) Z b_Z1 .nil t6)) (z0 (u9 j (z5 3 (pv 3)) (fun ta U=>t8 U z b6 (b7.mono (by decide)) Z b_Z8 .nil t6)) (z0 (u9 j (z5 3 (pv 3)) (fun ta U=>t8 U z ab (ad.mono (by decide)) Z b_Z18 .nil t6)) z9))))))) (t9 _))))))))))))))))).plainW
theorem all_mk {l:W.OpenLaw}{w:World}{K:W.Frag}{h:Heap}{mg:Str->Option Value}{fa di dg eg ek eh ei dk db d9 ej el dl da dd dj de Y d3 d2 a3 a2 bm d5 bl d4 df dh a7 al dc d8:Addr}(X:K.In h)(G:h.Ns mainGlobals mg)(nz:mg "law"=some (.ref fa)){i:Addr}
  (eC_Grown:W.nsIn K mainGlobals "Grown"=some (some (.ref i)))
  (c1_Grown:W.plainGet K i Str.empty=true)
  (c2_Grown:W.hasDictIn K i=true)
  (c3_Grown:W.plainOver K i=true)
  (c4_Grown:W.findIn K (.ref i) "__setattr__"=some (some (.builtin "object.__setattr__")))
  (n_Grown_least_step:W.findIn K (.ref i) "least_step"=some none)
  (n_Grown_lengths:W.findIn K (.ref i) "lengths"=some none)
  (n_Grown_numbers:W.findIn K (.ref i) "numbers"=some none)
  (n_Grown_weights:W.findIn K (.ref i) "weights"=some none)
  (m1_Grown:W.makesIn K i=true)
  (m2_Grown:W.keepIn K (.ref i)=true) {ia hu:Option Addr} {gd:Array (Option Value)} {ha is j7 gs e7 jm:Value} {i8 hr:Option Addr} {gb:Array (Option Value)} {h8 iq j5 gq e5 jk:Value} {lm lc:Option Addr} {ke:Array (Option Value)} {kz ly m9 ko ep mp:Value} {lr lg:Option Addr} {ki:Array (Option Value)} {l3 m3 mh kt ev mt:Value} {ln ld:Option Addr} {kf:Array (Option Value)} {l0 lz mc kp er mq:Value} {lp le:Option Addr} {kg:Array (Option Value)} {l1 m0 md kq et mr:Value} {ic hw:Option Addr} {gf:Array (Option Value)} {hc iu j9 gu e9 jo:Value} {i2 hh:Option Addr} {g5:Array (Option Value)} {h0 ij iz gk dv je:Value} {i0 hf:Option Addr} {g3:Array (Option Value)} {gy ih ix gi dt jc:Value} {lq lf:Option Addr} {kh:Array (Option Value)} {l2 m2 me kr eu ms:Value} {lu li:Option Addr} {kk:Array (Option Value)} {l5 m5 mj kv ey mw:Value} {ig hy:Option Addr} {gh:Array (Option Value)} {he iw jb gw eb jq:Value} {i1 hg:Option Addr} {g4:Array (Option Value)} {gz ii iy gj du jd:Value} {i4 hm:Option Addr} {g7:Array (Option Value)} {h4 il j1 gm dy jg:Value} {ib hv:Option Addr} {ge:Array (Option Value)} {hb it j8 gt e8 jn:Value} {i5 hn:Option Addr} {g8:Array (Option Value)} {h5 im j2 gn dz jh:Value} {az ay:Option Addr} {av:Array (Option Value)} {ax b5 b6 aw a8 b7:Value} {lk l7:Option Addr} {kc:Array (Option Value)} {kx lw m7 km en mm:Value} {lj l6:Option Addr} {kb:Array (Option Value)} {kw lv m6 kl em ml:Value} {cf ce:Option Addr} {c7:Array (Option Value)} {cd cg ci c9 ar cj:Value} {br bq:Option Addr} {bn:Array (Option Value)} {bp bs bt bo an bu:Value} {ie hx:Option Addr} {gg:Array (Option Value)} {hd iv ja gv ea jp:Value} {lt lh:Option Addr} {kj:Array (Option Value)} {l4 m4 mi ku ew mu:Value} {i6 ho:Option Addr} {g9:Array (Option Value)} {h6 io j3 go e0 ji:Value} {ll l8:Option Addr} {kd:Array (Option Value)} {ky lx m8 kn eo mn:Value} {i7 hq:Option Addr} {ga:Array (Option Value)} {h7 ip j4 gp e4 jj:Value} {i9 ht:Option Addr} {gc:Array (Option Value)} {h9 ir j6 gr e6 jl:Value} {bg bf:Option Addr} {bc:Array (Option Value)} {be bh bi bd ai bj:Value} {cw cv:Option Addr} {cs:Array (Option Value)} {cu cx cz ct b9 d0:Value} {i3 hj:Option Addr} {g6:Array (Option Value)} {h3 ik j0 gl dw jf:Value} {hz dn:Option Addr} {g2:Array (Option Value)} {gx dp dq dm d1 dr:Value}
  (e_Z14:W.nsIn K mainGlobals "refuse_step"=some (some (.ref di))) (l_Z14:K.lookup di=some ⟨ha,ia,.func (W.fnOf "refuse_step" "refuse_step" (t4 yx8) (u5 yx8) (y7 yx8) .none is j7 gs hu e7 jm),gd⟩) (c_Z14:W.codeIn K e7 "refuse_step"=true) (k_Z14:W.keepIn K (.ref di)=true)
  (e_Z16:W.nsIn K mainGlobals "later_steps"=some (some (.ref dg))) (l_Z16:K.lookup dg=some ⟨h8,i8,.func (W.fnOf "later_steps" "later_steps" (t4 zx6) (u5 zx6) (y7 zx6) .none iq j5 gq hr e5 jk),gb⟩) (c_Z16:W.codeIn K e5 "later_steps"=true) (k_Z16:W.keepIn K (.ref dg)=true)
  (e_Z6:W.nsIn K mainGlobals "refuse_weight"=some (some (.ref eg))) (l_Z6:K.lookup eg=some ⟨kz,lm,.func (W.fnOf "refuse_weight" "refuse_weight" (t4 s_Z6) (u5 s_Z6) (y7 s_Z6) .none ly m9 ko lc ep mp),ke⟩) (c_Z6:W.codeIn K ep "refuse_weight"=true) (k_Z6:W.keepIn K (.ref eg)=true)
  (e_Z2:W.nsIn K mainGlobals "refuse_weights"=some (some (.ref ek))) (l_Z2:K.lookup ek=some ⟨l3,lr,.func (W.fnOf "refuse_weights" "refuse_weights" (t4 s_Z2) (u5 s_Z2) (y7 s_Z2) .none m3 mh kt lg ev mt),ki⟩) (c_Z2:W.codeIn K ev "refuse_weights"=true) (k_Z2:W.keepIn K (.ref ek)=true)
  (e_Z5:W.nsIn K mainGlobals "heavier_first"=some (some (.ref eh))) (l_Z5:K.lookup eh=some ⟨l0,ln,.func (W.fnOf "heavier_first" "heavier_first" (t4 s_Z5) (u5 s_Z5) (y7 s_Z5) .none lz mc kp ld er mq),kf⟩) (c_Z5:W.codeIn K er "heavier_first"=true) (k_Z5:W.keepIn K (.ref eh)=true)
  (e_Z4:W.nsIn K mainGlobals "first_heaviest"=some (some (.ref ei))) (l_Z4:K.lookup ei=some ⟨l1,lp,.func (W.fnOf "first_heaviest" "first_heaviest" (t4 s_Z4) (u5 s_Z4) (y7 s_Z4) .none m0 md kq le et mr),kg⟩) (c_Z4:W.codeIn K et "first_heaviest"=true) (k_Z4:W.keepIn K (.ref ei)=true)
  (e_Z12:W.nsIn K mainGlobals "heavy_tails"=some (some (.ref dk))) (l_Z12:K.lookup dk=some ⟨hc,ic,.func (W.fnOf "heavy_tails" "heavy_tails" (t4 zo2) (u5 zo2) (y7 zo2) .none iu j9 gu hw e9 jo),gf⟩) (c_Z12:W.codeIn K e9 "heavy_tails"=true) (k_Z12:W.keepIn K (.ref dk)=true)
  (e_Z22:W.nsIn K mainGlobals "heaviest"=some (some (.ref db))) (l_Z22:K.lookup db=some ⟨h0,i2,.func (W.fnOf "heaviest" "heaviest" (t4 yx1) (u5 yx1) (y7 yx1) .none ij iz gk hh dv je),g5⟩) (c_Z22:W.codeIn K dv "heaviest"=true) (k_Z22:W.keepIn K (.ref db)=true)
  (e_Z24:W.nsIn K mainGlobals "tails"=some (some (.ref d9))) (l_Z24:K.lookup d9=some ⟨gy,i0,.func (W.fnOf "tails" "tails" (t4 zo1) (u5 zo1) (y7 zo1) .none ih ix gi hf dt jc),g3⟩) (c_Z24:W.codeIn K dt "tails"=true) (k_Z24:W.keepIn K (.ref d9)=true)
  (e_Z3:W.nsIn K mainGlobals "longest_joined"=some (some (.ref ej))) (l_Z3:K.lookup ej=some ⟨l2,lq,.func (W.fnOf "longest_joined" "longest_joined" (t4 s_Z3) (u5 s_Z3) (y7 s_Z3) .none m2 me kr lf eu ms),kh⟩) (c_Z3:W.codeIn K eu "longest_joined"=true) (k_Z3:W.keepIn K (.ref ej)=true)
  (e_Z0:W.nsIn K mainGlobals "how_many_longest"=some (some (.ref el))) (l_Z0:K.lookup el=some ⟨l5,lu,.func (W.fnOf "how_many_longest" "how_many_longest" (t4 s_Z0) (u5 s_Z0) (y7 s_Z0) .none m5 mj kv li ey mw),kk⟩) (c_Z0:W.codeIn K ey "how_many_longest"=true) (k_Z0:W.keepIn K (.ref el)=true)
  (e_Z10:W.nsIn K mainGlobals "longer_first"=some (some (.ref dl))) (l_Z10:K.lookup dl=some ⟨he,ig,.func (W.fnOf "longer_first" "longer_first" (t4 yw1) (u5 yw1) (y7 yw1) .none iw jb gw hy eb jq),gh⟩) (c_Z10:W.codeIn K eb "longer_first"=true) (k_Z10:W.keepIn K (.ref dl)=true)
  (e_Z23:W.nsIn K mainGlobals "longest"=some (some (.ref da))) (l_Z23:K.lookup da=some ⟨gz,i1,.func (W.fnOf "longest" "longest" (t4 yx0) (u5 yx0) (y7 yx0) .none ii iy gj hg du jd),g4⟩) (c_Z23:W.codeIn K du "longest"=true) (k_Z23:W.keepIn K (.ref da)=true)
  (e_Z20:W.nsIn K mainGlobals "how_long"=some (some (.ref dd))) (l_Z20:K.lookup dd=some ⟨h4,i4,.func (W.fnOf "how_long" "how_long" (t4 yx3) (u5 yx3) (y7 yx3) .none il j1 gm hm dy jg),g7⟩) (c_Z20:W.codeIn K dy "how_long"=true) (k_Z20:W.keepIn K (.ref dd)=true)
  (e_Z13:W.nsIn K mainGlobals "first_break"=some (some (.ref dj))) (l_Z13:K.lookup dj=some ⟨hb,ib,.func (W.fnOf "first_break" "first_break" (t4 yx9) (u5 yx9) (y7 yx9) .none it j8 gt hv e8 jn),ge⟩) (c_Z13:W.codeIn K e8 "first_break"=true) (k_Z13:W.keepIn K (.ref dj)=true)
  (e_Z19:W.nsIn K mainGlobals "pieces_of"=some (some (.ref de))) (l_Z19:K.lookup de=some ⟨h5,i5,.func (W.fnOf "pieces_of" "pieces_of" (t4 yx4) (u5 yx4) (y7 yx4) .none im j2 gn hn dz jh),g8⟩) (c_Z19:W.codeIn K dz "pieces_of"=true) (k_Z19:W.keepIn K (.ref de)=true)
  (e_Grown___init__:W.findIn K (.ref i) "__init__"=some (some (.ref Y))) (i_Grown___init__:W.isFn K (.ref Y)=true) (l_Grown___init__:K.lookup Y=some ⟨ax,az,.func (W.fnOf "__init__" "Grown.__init__" (t4 k9) (u5 k9) (y7 k9) .none b5 b6 aw ay a8 b7),av⟩) (c_Grown___init__:W.codeIn K a8 "Grown.__init__"=true) (k_Grown___init__:W.keepIn K (.ref Y)=true)
  (e_Z8:W.findIn K (.ref i) "pieces"=some (some (.ref d3))) (i_Z8:W.isFn K (.ref d3)=true) (l_Z8:K.lookup d3=some ⟨kx,lk,.func (W.fnOf "pieces" "Grown.pieces" (t4 s_Z8) (u5 s_Z8) (y7 s_Z8) .none lw m7 km l7 en mm),kc⟩) (c_Z8:W.codeIn K en "Grown.pieces"=true) (k_Z8:W.keepIn K (.ref d3)=true)
  (e_Z9:W.findIn K (.ref i) "length"=some (some (.ref d2))) (i_Z9:W.isFn K (.ref d2)=true) (l_Z9:K.lookup d2=some ⟨kw,lj,.func (W.fnOf "length" "Grown.length" (t4 s_Z9) (u5 s_Z9) (y7 s_Z9) .none lv m6 kl l6 em ml),kb⟩) (c_Z9:W.codeIn K em "Grown.length"=true) (k_Z9:W.keepIn K (.ref d2)=true)
  (e_Grown_put:W.findIn K (.ref i) "put"=some (some (.ref a3))) (i_Grown_put:W.isFn K (.ref a3)=true) (l_Grown_put:K.lookup a3=some ⟨cd,cf,.func (W.fnOf "put" "Grown.put" (t4 c8) (u5 c8) (y7 c8) .none cg ci c9 ce ar cj),c7⟩) (c_Grown_put:W.codeIn K ar "Grown.put"=true) (k_Grown_put:W.keepIn K (.ref a3)=true)
  (e_Grown_take:W.findIn K (.ref i) "take"=some (some (.ref a2))) (i_Grown_take:W.isFn K (.ref a2)=true) (l_Grown_take:K.lookup a2=some ⟨bp,br,.func (W.fnOf "take" "Grown.take" (t4 f6) (u5 f6) (y7 f6) .none bs bt bo bq an bu),bn⟩) (c_Grown_take:W.codeIn K an "Grown.take"=true) (k_Grown_take:W.keepIn K (.ref a2)=true)
  (e_Z11:W.findIn K (.ref i) "weight"=some (some (.ref bm))) (i_Z11:W.isFn K (.ref bm)=true) (l_Z11:K.lookup bm=some ⟨hd,ie,.func (W.fnOf "weight" "Grown.weight" (t4 yw0) (u5 yw0) (y7 yw0) .none iv ja gv hx ea jp),gg⟩) (c_Z11:W.codeIn K ea "Grown.weight"=true) (k_Z11:W.keepIn K (.ref bm)=true)
  (e_Z1:W.findIn K (.ref i) "how_many"=some (some (.ref d5))) (i_Z1:W.isFn K (.ref d5)=true) (l_Z1:K.lookup d5=some ⟨l4,lt,.func (W.fnOf "how_many" "Grown.how_many" (t4 s_Z1) (u5 s_Z1) (y7 s_Z1) .none m4 mi ku lh ew mu),kj⟩) (c_Z1:W.codeIn K ew "Grown.how_many"=true) (k_Z1:W.keepIn K (.ref d5)=true)
  (e_Z18:W.findIn K (.ref i) "row"=some (some (.ref bl))) (i_Z18:W.isFn K (.ref bl)=true) (l_Z18:K.lookup bl=some ⟨h6,i6,.func (W.fnOf "row" "Grown.row" (t4 yx5) (u5 yx5) (y7 yx5) .none io j3 go ho e0 ji),g9⟩) (c_Z18:W.codeIn K e0 "Grown.row"=true) (k_Z18:W.keepIn K (.ref bl)=true)
  (e_Z7:W.findIn K (.ref i) "moments"=some (some (.ref d4))) (i_Z7:W.isFn K (.ref d4)=true) (l_Z7:K.lookup d4=some ⟨ky,ll,.func (W.fnOf "moments" "Grown.moments" (t4 s_Z7) (u5 s_Z7) (y7 s_Z7) .none lx m8 kn l8 eo mn),kd⟩) (c_Z7:W.codeIn K eo "Grown.moments"=true) (k_Z7:W.keepIn K (.ref d4)=true)
  (e_Z17:W.nsIn K mainGlobals "_law_cell_at"=some (some (.ref df))) (l_Z17:K.lookup df=some ⟨h7,i7,.func (W.fnOf "_law_cell_at" "_law_cell_at" (t4 yx6) (u5 yx6) (y7 yx6) .none ip j4 gp hq e4 jj),ga⟩) (c_Z17:W.codeIn K e4 "_law_cell_at"=true) (k_Z17:W.keepIn K (.ref df)=true)
  (e_Z15:W.nsIn K mainGlobals "_law_numbers"=some (some (.ref dh))) (l_Z15:K.lookup dh=some ⟨h9,i9,.func (W.fnOf "_law_numbers" "_law_numbers" (t4 yx7) (u5 yx7) (y7 yx7) .none ir j6 gr ht e6 jl),gc⟩) (c_Z15:W.codeIn K e6 "_law_numbers"=true) (k_Z15:W.keepIn K (.ref dh)=true)
  (e_law_refused:W.nsIn K mainGlobals "_law_refused"=some (some (.ref a7))) (l_law_refused:K.lookup a7=some ⟨be,bg,.func (W.fnOf "_law_refused" "_law_refused" (t4 c6) (u5 c6) (y7 c6) .none bh bi bd bf ai bj),bc⟩) (c_law_refused:W.codeIn K ai "_law_refused"=true) (k_law_refused:W.keepIn K (.ref a7)=true)
  (e_law_deed:W.nsIn K mainGlobals "_law_deed"=some (some (.ref al))) (l_law_deed:K.lookup al=some ⟨cu,cw,.func (W.fnOf "_law_deed" "_law_deed" (t4 X6) (u5 X6) (y7 X6) .none cx cz ct cv b9 d0),cs⟩) (c_law_deed:W.codeIn K b9 "_law_deed"=true) (k_law_deed:W.keepIn K (.ref al)=true)
  (e_Z21:W.nsIn K mainGlobals "_law_told"=some (some (.ref dc))) (l_Z21:K.lookup dc=some ⟨h3,i3,.func (W.fnOf "_law_told" "_law_told" (t4 yx2) (u5 yx2) (y7 yx2) .none ik j0 gl hj dw jf),g6⟩) (c_Z21:W.codeIn K dw "_law_told"=true) (k_Z21:W.keepIn K (.ref dc)=true)
  (e_law:W.nsIn K mainGlobals "law"=some (some (.ref d8))) (l_law:K.lookup d8=some ⟨gx,hz,.func (W.fnOf "law" "law" (t4 zt5) (u5 zt5) (y7 zt5) .none dp dq dm dn d1 dr),g2⟩) (c_law:W.codeIn K d1 "law"=true) (k_law:W.keepIn K (.ref d8)=true)
  {a5:Addr} {a4:Array DictEntry} {am} (e_OTHER_KIND:W.nsIn K mainGlobals "OTHER_KIND"=some (some (.ref a5))) (l_OTHER_KIND:K.lookup a5=some ⟨.type "dict",none,.dict a4 am,#[]⟩) (n_OTHER_KIND:(a5==sysModules)=false) (v_OTHER_KIND:ys0 tab_OTHER_KIND a4.toList) (h_OTHER_KIND:∀ e∈a4.toList,∀ k t,e.key= .str k t->e.hash=hashStr w k) {I:Addr} {j:Addr}
  (e_NoNumber:W.nsIn K mainGlobals "NoNumber"=some (some (.ref I)))
  (e_NoWeights:W.nsIn K mainGlobals "NoWeights"=some (some (.ref j)))
  (n_NoNumber:yf3 K I=some "NoNumber")
  (q_NoNumber:W.excIn K I bmV "ValueError.__new__"=true)
  (w_NoNumber:yg9 K I=true)
  (n_NoWeights:yf3 K j=some "NoWeights")
  (q_NoWeights:W.excIn K j bmV "ValueError.__new__"=true)
  (w_NoWeights:yg9 K j=true)
  (m_NoNumber_NoNumber:W.exmOne K (.ref I) (.ref I)=some true)
  (m_NoWeights_NoNumber:W.exmOne K (.ref j) (.ref I)=some false)
  (m_NoNumber_NoWeights:W.exmOne K (.ref I) (.ref j)=some false)
  (m_NoWeights_NoWeights:W.exmOne K (.ref j) (.ref j)=some true)
  (i_NoNumber_NoNumber:W.kitOne K (.ref I) (.ref I)=some true)
  (i_NoWeights_NoNumber:W.kitOne K (.ref j) (.ref I)=some false)
  (i_NoNumber_NoWeights:W.kitOne K (.ref I) (.ref j)=some false)
  (i_NoWeights_NoWeights:W.kitOne K (.ref j) (.ref j)=some true)
  (y_abs:W.nsIn K mainGlobals "abs"=some none)
  (y_enumerate:W.nsIn K mainGlobals "enumerate"=some none)
  (y_int:W.nsIn K mainGlobals "int"=some none)
  (y_isinstance:W.nsIn K mainGlobals "isinstance"=some none)
  (y_len:W.nsIn K mainGlobals "len"=some none)
  (y_list:W.nsIn K mainGlobals "list"=some none)
  (y_max:W.nsIn K mainGlobals "max"=some none)
  (y_min:W.nsIn K mainGlobals "min"=some none)
  (y_range:W.nsIn K mainGlobals "range"=some none)
  (y_reversed:W.nsIn K mainGlobals "reversed"=some none)
  (y_sum:W.nsIn K mainGlobals "sum"=some none)
  (y_zip:W.nsIn K mainGlobals "zip"=some none):
  ∃ fd:FuncData,(∀(s:Shared)(v:Value),BindsTo s fd ⟨[v],[]⟩ [("script",v)])/\∀ base:Heap,K.In base->base.Ns mainGlobals mg->FnOk l.prog w K mg base CX0 8 fa fd ["script"] (spR K 1 zg5):=by
 have e:=nz.symm.trans (W.mg_of X G e_law)
 cases e
 have fx:=l9 (st:=yx8) l_Z14 c_Z14 k_Z14
 have b_Z14:=fx.binds (ps:=["step"]) fun _ _ _ _ _ _ us hl=>by refine us1 (P:=fun vs=>bindArgs _ { pos:=vs }=pure (List.zip _ vs)) ?_ us hl;intros;rfl
 have bw:=W.mg_of X G e_Z14
 have fv:=l9 (st:=zx6) l_Z16 c_Z16 k_Z16
 have b_Z16:=fv.binds (ps:=["row","step"]) fun _ _ _ _ _ _ us hl=>by refine us2 (P:=fun vs=>bindArgs _ { pos:=vs }=pure (List.zip _ vs)) ?_ us hl;intros;rfl
 have f2:=W.mg_of X G e_Z16
 have fj:=l9 (st:=s_Z6) l_Z6 c_Z6 k_Z6
 have b_Z6:=fj.binds (ps:=["weight"]) fun _ _ _ _ _ _ us hl=>by refine us1 (P:=fun vs=>bindArgs _ { pos:=vs }=pure (List.zip _ vs)) ?_ us hl;intros;rfl
 have ez:=W.mg_of X G e_Z6
 have k5:=l9 (st:=s_Z2) l_Z2 c_Z2 k_Z2
 have b_Z2:=k5.binds (ps:=["row","weights"]) fun _ _ _ _ _ _ us hl=>by refine us2 (P:=fun vs=>bindArgs _ { pos:=vs }=pure (List.zip _ vs)) ?_ us hl;intros;rfl
 have nu:=W.mg_of X G e_Z2
 have k2:=l9 (st:=s_Z5) l_Z5 c_Z5 k_Z5
 have b_Z5:=k2.binds (ps:=["heavy"]) fun _ _ _ _ _ _ us hl=>by refine us1 (P:=fun vs=>bindArgs _ { pos:=vs }=pure (List.zip _ vs)) ?_ us hl;intros;rfl
 have nr:=W.mg_of X G e_Z5
 have k3:=l9 (st:=s_Z4) l_Z4 c_Z4 k_Z4
 have b_Z4:=k3.binds (ps:=["heavies"]) fun _ _ _ _ _ _ us hl=>by refine us1 (P:=fun vs=>bindArgs _ { pos:=vs }=pure (List.zip _ vs)) ?_ us hl;intros;rfl
 have jr:=W.mg_of X G e_Z4
 have fz:=l9 (st:=zo2) l_Z12 c_Z12 k_Z12
 have b_Z12:=fz.binds (ps:=["row","step","weights"]) fun _ _ _ _ _ _ us hl=>by refine us3 (P:=fun vs=>bindArgs _ { pos:=vs }=pure (List.zip _ vs)) ?_ us hl;intros;rfl
 have nd:=W.mg_of X G e_Z12
 have fn:=l9 (st:=yx1) l_Z22 c_Z22 k_Z22
 have b_Z22:=fn.binds (ps:=["row","step","weights"]) fun _ _ _ _ _ _ us hl=>by refine us3 (P:=fun vs=>bindArgs _ { pos:=vs }=pure (List.zip _ vs)) ?_ us hl;intros;rfl
 have f0:=W.mg_of X G e_Z22
 have fk:=l9 (st:=zo1) l_Z24 c_Z24 k_Z24
 have b_Z24:=fk.binds (ps:=["row","step"]) fun _ _ _ _ _ _ us hl=>by refine us2 (P:=fun vs=>bindArgs _ { pos:=vs }=pure (List.zip _ vs)) ?_ us hl;intros;rfl
 have my:=W.mg_of X G e_Z24
 have k4:=l9 (st:=s_Z3) l_Z3 c_Z3 k_Z3
 have b_Z3:=k4.binds (ps:=["tails"]) fun _ _ _ _ _ _ us hl=>by refine us1 (P:=fun vs=>bindArgs _ { pos:=vs }=pure (List.zip _ vs)) ?_ us hl;intros;rfl
 have nt:=W.mg_of X G e_Z3
 have k7:=l9 (st:=s_Z0) l_Z0 c_Z0 k_Z0
 have b_Z0:=k7.binds (ps:=["row","step"]) fun _ _ _ _ _ _ us hl=>by refine us2 (P:=fun vs=>bindArgs _ { pos:=vs }=pure (List.zip _ vs)) ?_ us hl;intros;rfl
 have js:=W.mg_of X G e_Z0
 have g1:=l9 (st:=yw1) l_Z10 c_Z10 k_Z10
 have b_Z10:=g1.binds (ps:=["places"]) fun _ _ _ _ _ _ us hl=>by refine us1 (P:=fun vs=>bindArgs _ { pos:=vs }=pure (List.zip _ vs)) ?_ us hl;intros;rfl
 have ne:=W.mg_of X G e_Z10
 have fm:=l9 (st:=yx0) l_Z23 c_Z23 k_Z23
 have b_Z23:=fm.binds (ps:=["row","step"]) fun _ _ _ _ _ _ us hl=>by refine us2 (P:=fun vs=>bindArgs _ { pos:=vs }=pure (List.zip _ vs)) ?_ us hl;intros;rfl
 have n5:=W.mg_of X G e_Z23
 have fq:=l9 (st:=yx3) l_Z20 c_Z20 k_Z20
 have b_Z20:=fq.binds (ps:=["row","step"]) fun _ _ _ _ _ _ us hl=>by refine us2 (P:=fun vs=>bindArgs _ { pos:=vs }=pure (List.zip _ vs)) ?_ us hl;intros;rfl
 have n7:=W.mg_of X G e_Z20
 have fy:=l9 (st:=yx9) l_Z13 c_Z13 k_Z13
 have b_Z13:=fy.binds (ps:=["row","step","kind","start"]) fun _ _ _ _ _ _ us hl=>by refine us4 (P:=fun vs=>bindArgs _ { pos:=vs }=pure (List.zip _ vs)) ?_ us hl;intros;rfl
 have nc:=W.mg_of X G e_Z13
 have fr:=l9 (st:=yx4) l_Z19 c_Z19 k_Z19
 have b_Z19:=fr.binds (ps:=["row","step"]) fun _ _ _ _ _ _ us hl=>by refine us2 (P:=fun vs=>bindArgs _ { pos:=vs }=pure (List.zip _ vs)) ?_ us hl;intros;rfl
 have f1:=W.mg_of X G e_Z19
 have a9:=l9 (st:=k9) l_Grown___init__ c_Grown___init__ k_Grown___init__
 have b_Grown___init__:=a9.binds (ps:=["self","step"]) fun _ _ _ _ _ _ us hl=>by refine us2 (P:=fun vs=>bindArgs _ { pos:=vs }=pure (List.zip _ vs)) ?_ us hl;intros;rfl
 have k0:=l9 (st:=s_Z8) l_Z8 c_Z8 k_Z8
 have b_Z8:=k0.binds (ps:=["self"]) fun _ _ _ _ _ _ us hl=>by refine us1 (P:=fun vs=>bindArgs _ { pos:=vs }=pure (List.zip _ vs)) ?_ us hl;intros;rfl
 have f4:Meth K i "pieces" d3:=⟨e_Z8,i_Z8,k_Z8⟩
 have jz:=l9 (st:=s_Z9) l_Z9 c_Z9 k_Z9
 have b_Z9:=jz.binds (ps:=["self"]) fun _ _ _ _ _ _ us hl=>by refine us1 (P:=fun vs=>bindArgs _ { pos:=vs }=pure (List.zip _ vs)) ?_ us hl;intros;rfl
 have co:Meth K i "length" d2:=⟨e_Z9,i_Z9,k_Z9⟩
 have ah:=l9 (st:=c8) l_Grown_put c_Grown_put k_Grown_put
 have b_Grown_put:=ah.binds (ps:=["self","number","weight"]) fun _ _ _ _ _ _ us hl=>by refine us3 (P:=fun vs=>bindArgs _ { pos:=vs }=pure (List.zip _ vs)) ?_ us hl;intros;rfl
 have af:Meth K i "put" a3:=⟨e_Grown_put,i_Grown_put,k_Grown_put⟩
 have aa:=l9 (st:=f6) l_Grown_take c_Grown_take k_Grown_take
 have b_Grown_take:=aa.binds (ps:=["self","many"]) fun _ _ _ _ _ _ us hl=>by refine us2 (P:=fun vs=>bindArgs _ { pos:=vs }=pure (List.zip _ vs)) ?_ us hl;intros;rfl
 have as:Meth K i "take" a2:=⟨e_Grown_take,i_Grown_take,k_Grown_take⟩
 have g0:=l9 (st:=yw0) l_Z11 c_Z11 k_Z11
 have b_Z11:=g0.binds (ps:=["self"]) fun _ _ _ _ _ _ us hl=>by refine us1 (P:=fun vs=>bindArgs _ { pos:=vs }=pure (List.zip _ vs)) ?_ us hl;intros;rfl
 have f7:Meth K i "weight" bm:=⟨e_Z11,i_Z11,k_Z11⟩
 have k6:=l9 (st:=s_Z1) l_Z1 c_Z1 k_Z1
 have b_Z1:=k6.binds (ps:=["self"]) fun _ _ _ _ _ _ us hl=>by refine us1 (P:=fun vs=>bindArgs _ { pos:=vs }=pure (List.zip _ vs)) ?_ us hl;intros;rfl
 have ju:Meth K i "how_many" d5:=⟨e_Z1,i_Z1,k_Z1⟩
 have ft:=l9 (st:=yx5) l_Z18 c_Z18 k_Z18
 have b_Z18:=ft.binds (ps:=["self"]) fun _ _ _ _ _ _ us hl=>by refine us1 (P:=fun vs=>bindArgs _ { pos:=vs }=pure (List.zip _ vs)) ?_ us hl;intros;rfl
 have f5:Meth K i "row" bl:=⟨e_Z18,i_Z18,k_Z18⟩
 have k1:=l9 (st:=s_Z7) l_Z7 c_Z7 k_Z7
 have b_Z7:=k1.binds (ps:=["self"]) fun _ _ _ _ _ _ us hl=>by refine us1 (P:=fun vs=>bindArgs _ { pos:=vs }=pure (List.zip _ vs)) ?_ us hl;intros;rfl
 have jt:Meth K i "moments" d4:=⟨e_Z7,i_Z7,k_Z7⟩
 have fu:=l9 (st:=yx6) l_Z17 c_Z17 k_Z17
 have b_Z17:=fu.binds (ps:=["script","k"]) fun _ _ _ _ _ _ us hl=>by refine us2 (P:=fun vs=>bindArgs _ { pos:=vs }=pure (List.zip _ vs)) ?_ us hl;intros;rfl
 have n8:=W.mg_of X G e_Z17
 have fw:=l9 (st:=yx7) l_Z15 c_Z15 k_Z15
 have b_Z15:=fw.binds (ps:=["cell","many"]) fun _ _ _ _ _ _ us hl=>by refine us2 (P:=fun vs=>bindArgs _ { pos:=vs }=pure (List.zip _ vs)) ?_ us hl;intros;rfl
 have n9:=W.mg_of X G e_Z15
 have ap:=l9 (st:=c6) l_law_refused c_law_refused k_law_refused
 have b_law_refused:=ap.binds (ps:=["grown","number","weight"]) fun _ _ _ _ _ _ us hl=>by refine us3 (P:=fun vs=>bindArgs _ { pos:=vs }=pure (List.zip _ vs)) ?_ us hl;intros;rfl
 have bv:=W.mg_of X G e_law_refused
 have bb:=l9 (st:=X6) l_law_deed c_law_deed k_law_deed
 have b_law_deed:=bb.binds (ps:=["grown","mine","numbers"]) fun _ _ _ _ _ _ us hl=>by refine us3 (P:=fun vs=>bindArgs _ { pos:=vs }=pure (List.zip _ vs)) ?_ us hl;intros;rfl
 have d6:=W.mg_of X G e_law_deed
 have fo:=l9 (st:=yx2) l_Z21 c_Z21 k_Z21
 have b_Z21:=fo.binds (ps:=["grown","mine"]) fun _ _ _ _ _ _ us hl=>by refine us2 (P:=fun vs=>bindArgs _ { pos:=vs }=pure (List.zip _ vs)) ?_ us hl;intros;rfl
 have n6:=W.mg_of X G e_Z21
 have fi:=l9 (st:=zt5) l_law c_law k_law
 have xy3:=fi.binds (ps:=["script"]) fun _ _ _ _ _ _ us hl=>by refine us1 (P:=fun vs=>bindArgs _ { pos:=vs }=pure (List.zip _ vs)) ?_ us hl;intros;rfl
 have o0:=W.mg_of X G e_law
 have O:Cls K i:=⟨c1_Grown,c2_Grown,c3_Grown,c4_Grown⟩
 have R:=eC_Grown
 have f3:=W.mg_of X G eC_Grown
 have Z:∀ C,W.nsIn K mainGlobals "Grown"=some (some (.ref C))->Cls K C/\NoAttr K C "least_step":=fun C z=>by
  rw[eC_Grown]at z;cases z;exact⟨O,n_Grown_least_step⟩
 have U:∀ C,W.nsIn K mainGlobals "Grown"=some (some (.ref C))->Cls K C/\NoAttr K C "lengths":=fun C z=>by
  rw[eC_Grown]at z;cases z;exact⟨O,n_Grown_lengths⟩
 have N:∀ C,W.nsIn K mainGlobals "Grown"=some (some (.ref C))->Cls K C/\NoAttr K C "numbers":=fun C z=>by
  rw[eC_Grown]at z;cases z;exact⟨O,n_Grown_numbers⟩
 have S:∀ C,W.nsIn K mainGlobals "Grown"=some (some (.ref C))->Cls K C/\NoAttr K C "weights":=fun C z=>by
  rw[eC_Grown]at z;cases z;exact⟨O,n_Grown_weights⟩
 have ec:Mk K i Y:=⟨m1_Grown,e_Grown___init__,i_Grown___init__,m2_Grown⟩
 have cl:KTab w K a5 tab_OTHER_KIND:=⟨n_OTHER_KIND,by decide,a4,am,l_OTHER_KIND,v_OTHER_KIND,h_OTHER_KIND⟩
 have ck:=W.mg_of X G e_OTHER_KIND
 have ka:=W.mg_none_of X G y_abs
 have cr:=W.mg_none_of X G y_enumerate
 have ef:=W.mg_none_of X G y_int
 have c5:=W.mg_none_of X G y_isinstance
 have a1:=W.mg_none_of X G y_len
 have bk:=W.mg_none_of X G y_list
 have ee:=W.mg_none_of X G y_max
 have cq:=W.mg_none_of X G y_min
 have a6:=W.mg_none_of X G y_range
 have ak:=W.mg_none_of X G y_reversed
 have ed:=W.mg_none_of X G y_sum
 have k8:=W.mg_none_of X G y_zip
 have ao:=W.mg_of X G e_NoNumber
 have ae:=W.mg_of X G e_NoWeights
 have b8:XC K "NoNumber" I:=⟨e_NoNumber,n_NoNumber⟩
 have aq:XC K "NoWeights" j:=⟨e_NoWeights,n_NoWeights⟩
 have aj:∀ D,XC K "NoNumber" D->W.exmOne K (.ref D) (.ref I)=some true:=fun D h=>by rw[h.eq e_NoNumber];exact m_NoNumber_NoNumber
 have ac:∀ D,XC K "NoWeights" D->W.exmOne K (.ref D) (.ref I)=some false:=fun D h=>by rw[h.eq e_NoWeights];exact m_NoWeights_NoNumber
 have ad:∀ D,XC K "NoNumber" D->W.exmOne K (.ref D) (.ref j)=some false:=fun D h=>by rw[h.eq e_NoNumber];exact m_NoNumber_NoWeights
 have ab:∀ D,XC K "NoWeights" D->W.exmOne K (.ref D) (.ref j)=some true:=fun D h=>by rw[h.eq e_NoWeights];exact m_NoWeights_NoWeights
 have cy:∀ c k,([("NoNumber",true),("NoWeights",false)]:List (Str×Bool)).lookup c=some k->∀ C,XC K c C->XCls K C/\W.kitOne K (.ref C) (.ref I)=some k:=zu2 (P:=fun c k=>∀ C,XC K c C->XCls K C/\W.kitOne K (.ref C) (.ref I)=some k) (by
  intro p hp
  simp only[mem_cons,not_mem_nil,or_false]at hp
  rcases hp with rfl|rfl
  .intro C h;rw[h.eq e_NoNumber];exact⟨zt1 w_NoNumber,i_NoNumber_NoNumber⟩
  .intro C h;rw[h.eq e_NoWeights];exact⟨zt1 w_NoWeights,i_NoWeights_NoNumber⟩
  )
 have ch:∀ c k,([("NoNumber",false),("NoWeights",true)]:List (Str×Bool)).lookup c=some k->∀ C,XC K c C->XCls K C/\W.kitOne K (.ref C) (.ref j)=some k:=zu2 (P:=fun c k=>∀ C,XC K c C->XCls K C/\W.kitOne K (.ref C) (.ref j)=some k) (by
  intro p hp
  simp only[mem_cons,not_mem_nil,or_false]at hp
  rcases hp with rfl|rfl
  .intro C h;rw[h.eq e_NoNumber];exact⟨zt1 w_NoNumber,i_NoNumber_NoWeights⟩
  .intro C h;rw[h.eq e_NoWeights];exact⟨zt1 w_NoWeights,i_NoWeights_NoWeights⟩
  )
 refine⟨W.fnOf "law" "law" (t4 zt5) (u5 zt5) (y7 zt5) .none dp dq dm dn d1 dr,fun s v=>.of_eq rfl,fun base _ _=>?_⟩
 have bz:=xg2 (P:=l.prog) (w:=w) (mg:=mg) (base:=base) fx
 have ff:=xg0 (P:=l.prog) (w:=w) (mg:=mg) (base:=base) fv          cr a1 a6
 have f9:=xa5 (P:=l.prog) (w:=w) (mg:=mg) (base:=base) fj      ae aq q_NoWeights
 have fh:=xh0 (P:=l.prog) (w:=w) (mg:=mg) (base:=base) fj      ae aq q_NoWeights
 have ny:=xa9 (P:=l.prog) (w:=w) (mg:=mg) (base:=base) k5  f9 b_Z6 k_Z6 ez        a1
 have nv:=xa6 (P:=l.prog) (w:=w) (mg:=mg) (base:=base) k2          a1
 have jw:=xa7 (P:=l.prog) (w:=w) (mg:=mg) (base:=base) k3  nv b_Z5 k_Z5 nr        cq
 have no:=xg4 (P:=l.prog) (w:=w) (mg:=mg) (base:=base) fz  jw b_Z4 k_Z4 jr ff b_Z16 k_Z16 f2        a1 a6 ak
 have fb:=xh4 (P:=l.prog) (w:=w) (mg:=mg) (base:=base) fn  jw b_Z4 k_Z4 jr no b_Z12 k_Z12 nd bz b_Z14 k_Z14 bw ny b_Z2 k_Z2 nu
 have ng:=xh2 (P:=l.prog) (w:=w) (mg:=mg) (base:=base) fk          a1 a6 ak
 have nw:=xa8 (P:=l.prog) (w:=w) (mg:=mg) (base:=base) k4          ee ed
 have jy:=wz1 (P:=l.prog) (w:=w) (mg:=mg) (base:=base) k7  ff b_Z16 k_Z16 f2 nw b_Z3 k_Z3 nt bz b_Z14 k_Z14 bw        a1 ee a6 ak ed
 have nq:=xg6 (P:=l.prog) (w:=w) (mg:=mg) (base:=base) g1          a1
 have nh:=xh3 (P:=l.prog) (w:=w) (mg:=mg) (base:=base) fm  nq b_Z10 k_Z10 ne bz b_Z14 k_Z14 bw ng b_Z24 k_Z24 my        cq
 have nj:=xh6 (P:=l.prog) (w:=w) (mg:=mg) (base:=base) fq  nh b_Z23 k_Z23 n5        a1
 have nn:=xg3 (P:=l.prog) (w:=w) (mg:=mg) (base:=base) fy          a1 a6
 have fc:=xh7 (P:=l.prog) (w:=w) (mg:=mg) (base:=base) fr  nn b_Z13 k_Z13 nc bz b_Z14 k_Z14 bw     cl ck   a1 cq
 have ba:=J5 (P:=l.prog) (w:=w) (mg:=mg) (base:=base) a9 R O bz b_Z14 k_Z14 bw Z U N S
 have f8:=xa3 (P:=l.prog) (w:=w) (mg:=mg) (base:=base) k0 R O fc b_Z19 k_Z19 f1 Z N
 have cp:=xa2 (P:=l.prog) (w:=w) (mg:=mg) (base:=base) jz R O f8 b_Z8 f4 N       a1
 have ag:=zn7 (P:=l.prog) (w:=w) (mg:=mg) (base:=base) ah R O cp b_Z9 co f9 b_Z6 k_Z6 ez U N S  fh
 have cm:=zr2 (P:=l.prog) (w:=w) (mg:=mg) (base:=base) ah R O cp b_Z9 co f9 b_Z6 k_Z6 ez U N S  fh
 have au:=zr3 (P:=l.prog) (w:=w) (mg:=mg) (base:=base) aa R O cp b_Z9 co U N S   ao b8 q_NoNumber    a1
 have c4:=zx7 (P:=l.prog) (w:=w) (mg:=mg) (base:=base) aa R O cp b_Z9 co U N S   ao b8 q_NoNumber    a1
 have fg:=xg5 (P:=l.prog) (w:=w) (mg:=mg) (base:=base) g0 R O fb b_Z22 k_Z22 f0 Z N S
 have jx:=wz0 (P:=l.prog) (w:=w) (mg:=mg) (base:=base) k6 R O jy b_Z0 k_Z0 js Z N
 have fe:=xh8 (P:=l.prog) (w:=w) (mg:=mg) (base:=base) ft R O  N       bk
 have jv:=xa4 (P:=l.prog) (w:=w) (mg:=mg) (base:=base) k1 R O  U       bk
 have nk:=xh9 (P:=l.prog) (w:=w) (mg:=mg) (base:=base) fu          a1
 have nl:=xg1 (P:=l.prog) (w:=w) (mg:=mg) (base:=base) fw          ka a6
 have bx:=zx8 (P:=l.prog) (w:=w) (mg:=mg) (base:=base) ap R O ag b_Grown_put af au b_Grown_take as   cm c4 ao ae aj ac ad ab cy ch    c5
 have d7:=zg0 (P:=l.prog) (w:=w) (mg:=mg) (base:=base) bb R O ag b_Grown_put af au b_Grown_take as bx b_law_refused k_law_refused bv nj b_Z20 k_Z20 n7        a1 bk cq a6
 have ni:=xh5 (P:=l.prog) (w:=w) (mg:=mg) (base:=base) fo R O jx b_Z1 ju cp b_Z9 co jv b_Z7 jt f8 b_Z8 f4 fe b_Z18 f5 fg b_Z11 f7 fb b_Z22 k_Z22 f0 jy b_Z0 k_Z0 js fc b_Z19 k_Z19 f1        ef a1 bk
 have nf:=xh1 (P:=l.prog) (w:=w) (mg:=mg) (base:=base) fi R O ba b_Grown___init__  jx b_Z1 ju cp b_Z9 co jv b_Z7 jt f8 b_Z8 f4 ag b_Grown_put af fe b_Z18 f5 fg b_Z11 f7 nk b_Z17 k_Z17 n8 d7 b_law_deed k_law_deed d6 nl b_Z15 k_Z15 n9 ni b_Z21 k_Z21 n6  ec f3      ef k8
 exact nf
theorem walk {l:W.OpenLaw}{q:Program}{i:List Str}{U:(Str->Option Value)->Heap->Prop}{N:World->Heap->Prop}{d:DefRec}{K:Params->W.Frag}(hn:l.most=some 63)(G:d.params.defaults=[])
  (j:∀ ns:List Int,ns.length<=63->zg5 [.lst (ns.map .int)]=some (.sh (.bl true)))
  (R:∀(w:World)(h:Heap),N w h->(K w.params).In h)
  (F:∀(w:World)(mg:Str->Option Value)(I:Addr)(h:Heap),(K w.params).In h->h.Ns mainGlobals mg->mg d.name=some (.ref I)->
   ∃ fd:FuncData,(∀(s:Shared)(u:Value),BindsTo s fd ⟨[u],[]⟩ [("script",u)])/\∀ base:Heap,(K w.params).In base->base.Ns mainGlobals mg->FnOk l.prog w (K w.params) mg base CX0 8 I fd ["script"] (spR (K w.params) 1 zg5)):
  W.WalkO q i U N l.row.toRowW d [] (fun f vs=>PySem.call f vs):=
 L2.walk_of (n:=63) (k:=8) (x:="script") (CX:=fun _=>CX0) (sp:=fun w=>spR (K w.params) 1 zg5) hn (by decide) G ⟨rfl,by decide,by decide⟩ R F (fun w H a ns O _ S=>xm9 j H a ns O S _) fun _ _ _ _ _ z=>z
end
end Lw
open PySem PySem.W PyProof.Rows
set_option maxRecDepth 100000 in
set_option maxHeartbeats 0 in
theorem PySem.Challenge.cw_wavyrow_k45_whole_grown_rows_holds : PySem.Challenge.rw_wavyrow_k45_whole_grown_rows.Holds := by
 w_on;o_law;k_head;(case hw=>w_witness2)
 k_fill
 refine Lw.walk (l:=PySem.Challenge.rw_wavyrow_k45_whole_grown_rows) rfl rfl Lw.law_true (fun w h Y=>PySem.W.kIn_of Y) ?F
 case F=>
  intro w mg fa h KX G hmg
  refine' Lw.all_mk KX G hmg ?eC_Grown ?c1_Grown ?c2_Grown ?c3_Grown ?c4_Grown ?n_Grown_least_step ?n_Grown_lengths ?n_Grown_numbers ?n_Grown_weights ?m1_Grown ?m2_Grown ?e_Z14 ?l_Z14 ?c_Z14 ?k_Z14 ?e_Z16 ?l_Z16 ?c_Z16 ?k_Z16 ?e_Z6 ?l_Z6 ?c_Z6 ?k_Z6 ?e_Z2 ?l_Z2 ?c_Z2 ?k_Z2 ?e_Z5 ?l_Z5 ?c_Z5 ?k_Z5 ?e_Z4 ?l_Z4 ?c_Z4 ?k_Z4 ?e_Z12 ?l_Z12 ?c_Z12 ?k_Z12 ?e_Z22 ?l_Z22 ?c_Z22 ?k_Z22 ?e_Z24 ?l_Z24 ?c_Z24 ?k_Z24 ?e_Z3 ?l_Z3 ?c_Z3 ?k_Z3 ?e_Z0 ?l_Z0 ?c_Z0 ?k_Z0 ?e_Z10 ?l_Z10 ?c_Z10 ?k_Z10 ?e_Z23 ?l_Z23 ?c_Z23 ?k_Z23 ?e_Z20 ?l_Z20 ?c_Z20 ?k_Z20 ?e_Z13 ?l_Z13 ?c_Z13 ?k_Z13 ?e_Z19 ?l_Z19 ?c_Z19 ?k_Z19 ?e_Grown___init__ ?i_Grown___init__ ?l_Grown___init__ ?c_Grown___init__ ?k_Grown___init__ ?e_Z8 ?i_Z8 ?l_Z8 ?c_Z8 ?k_Z8 ?e_Z9 ?i_Z9 ?l_Z9 ?c_Z9 ?k_Z9 ?e_Grown_put ?i_Grown_put ?l_Grown_put ?c_Grown_put ?k_Grown_put ?e_Grown_take ?i_Grown_take ?l_Grown_take ?c_Grown_take ?k_Grown_take ?e_Z11 ?i_Z11 ?l_Z11 ?c_Z11 ?k_Z11 ?e_Z1 ?i_Z1 ?l_Z1 ?c_Z1 ?k_Z1 ?e_Z18 ?i_Z18 ?l_Z18 ?c_Z18 ?k_Z18 ?e_Z7 ?i_Z7 ?l_Z7 ?c_Z7 ?k_Z7 ?e_Z17 ?l_Z17 ?c_Z17 ?k_Z17 ?e_Z15 ?l_Z15 ?c_Z15 ?k_Z15 ?e_law_refused ?l_law_refused ?c_law_refused ?k_law_refused ?e_law_deed ?l_law_deed ?c_law_deed ?k_law_deed ?e_Z21 ?l_Z21 ?c_Z21 ?k_Z21 ?e_law ?l_law ?c_law ?k_law ?e_OTHER_KIND ?l_OTHER_KIND ?n_OTHER_KIND ?v_OTHER_KIND ?h_OTHER_KIND   ?e_NoNumber ?e_NoWeights ?n_NoNumber ?q_NoNumber ?w_NoNumber ?n_NoWeights ?q_NoWeights ?w_NoWeights ?m_NoNumber_NoNumber ?m_NoWeights_NoNumber ?m_NoNumber_NoWeights ?m_NoWeights_NoWeights ?i_NoNumber_NoNumber ?i_NoWeights_NoNumber ?i_NoNumber_NoWeights ?i_NoWeights_NoWeights ?y_abs ?y_enumerate ?y_int ?y_isinstance ?y_len ?y_list ?y_max ?y_min ?y_range ?y_reversed ?y_sum ?y_zip
  (case eC_Grown=>k_is)
  (case c1_Grown=>k_is)
  (case c2_Grown=>k_is)
  (case c3_Grown=>k_is)
  (case c4_Grown=>k_is)
  (case n_Grown_least_step=>k_is)
  (case n_Grown_lengths=>k_is)
  (case n_Grown_numbers=>k_is)
  (case n_Grown_weights=>k_is)
  (case m1_Grown=>k_is)
  (case m2_Grown=>k_is)
  (case e_Z14=>k_is);(case l_Z14=>k_is);(case c_Z14=>k_is);(case k_Z14=>k_is)
  (case e_Z16=>k_is);(case l_Z16=>k_is);(case c_Z16=>k_is);(case k_Z16=>k_is)
  (case e_Z6=>k_is);(case l_Z6=>k_is);(case c_Z6=>k_is);(case k_Z6=>k_is)
  (case e_Z2=>k_is);(case l_Z2=>k_is);(case c_Z2=>k_is);(case k_Z2=>k_is)
  (case e_Z5=>k_is);(case l_Z5=>k_is);(case c_Z5=>k_is);(case k_Z5=>k_is)
  (case e_Z4=>k_is);(case l_Z4=>k_is);(case c_Z4=>k_is);(case k_Z4=>k_is)
  (case e_Z12=>k_is);(case l_Z12=>k_is);(case c_Z12=>k_is);(case k_Z12=>k_is)
  (case e_Z22=>k_is);(case l_Z22=>k_is);(case c_Z22=>k_is);(case k_Z22=>k_is)
  (case e_Z24=>k_is);(case l_Z24=>k_is);(case c_Z24=>k_is);(case k_Z24=>k_is)
  (case e_Z3=>k_is);(case l_Z3=>k_is);(case c_Z3=>k_is);(case k_Z3=>k_is)
  (case e_Z0=>k_is);(case l_Z0=>k_is);(case c_Z0=>k_is);(case k_Z0=>k_is)
  (case e_Z10=>k_is);(case l_Z10=>k_is);(case c_Z10=>k_is);(case k_Z10=>k_is)
  (case e_Z23=>k_is);(case l_Z23=>k_is);(case c_Z23=>k_is);(case k_Z23=>k_is)
  (case e_Z20=>k_is);(case l_Z20=>k_is);(case c_Z20=>k_is);(case k_Z20=>k_is)
  (case e_Z13=>k_is);(case l_Z13=>k_is);(case c_Z13=>k_is);(case k_Z13=>k_is)
  (case e_Z19=>k_is);(case l_Z19=>k_is);(case c_Z19=>k_is);(case k_Z19=>k_is)
  (case e_Grown___init__=>k_is);(case i_Grown___init__=>k_is);(case l_Grown___init__=>k_is);(case c_Grown___init__=>k_is);(case k_Grown___init__=>k_is)
  (case e_Z8=>k_is);(case i_Z8=>k_is);(case l_Z8=>k_is);(case c_Z8=>k_is);(case k_Z8=>k_is)
  (case e_Z9=>k_is);(case i_Z9=>k_is);(case l_Z9=>k_is);(case c_Z9=>k_is);(case k_Z9=>k_is)
  (case e_Grown_put=>k_is);(case i_Grown_put=>k_is);(case l_Grown_put=>k_is);(case c_Grown_put=>k_is);(case k_Grown_put=>k_is)
  (case e_Grown_take=>k_is);(case i_Grown_take=>k_is);(case l_Grown_take=>k_is);(case c_Grown_take=>k_is);(case k_Grown_take=>k_is)
  (case e_Z11=>k_is);(case i_Z11=>k_is);(case l_Z11=>k_is);(case c_Z11=>k_is);(case k_Z11=>k_is)
  (case e_Z1=>k_is);(case i_Z1=>k_is);(case l_Z1=>k_is);(case c_Z1=>k_is);(case k_Z1=>k_is)
  (case e_Z18=>k_is);(case i_Z18=>k_is);(case l_Z18=>k_is);(case c_Z18=>k_is);(case k_Z18=>k_is)
  (case e_Z7=>k_is);(case i_Z7=>k_is);(case l_Z7=>k_is);(case c_Z7=>k_is);(case k_Z7=>k_is)
  (case e_Z17=>k_is);(case l_Z17=>k_is);(case c_Z17=>k_is);(case k_Z17=>k_is)
  (case e_Z15=>k_is);(case l_Z15=>k_is);(case c_Z15=>k_is);(case k_Z15=>k_is)
  (case e_law_refused=>k_is);(case l_law_refused=>k_is);(case c_law_refused=>k_is);(case k_law_refused=>k_is)
  (case e_law_deed=>k_is);(case l_law_deed=>k_is);(case c_law_deed=>k_is);(case k_law_deed=>k_is)
  (case e_Z21=>k_is);(case l_Z21=>k_is);(case c_Z21=>k_is);(case k_Z21=>k_is)
  (case e_law=>k_is);(case l_law=>k_is);(case c_law=>k_is);(case k_law=>k_is)
  (case e_OTHER_KIND=>k_is);(case l_OTHER_KIND=>k_is);(case n_OTHER_KIND=>first|rfl|decide|k_is)
  (case v_OTHER_KIND=>exact⟨⟨_,rfl⟩,⟨_,rfl⟩,⟨_,rfl⟩,⟨_,rfl⟩,True.intro⟩)
  (case h_OTHER_KIND=>intro e he k t hk;simp only[List.mem_cons,List.not_mem_nil,or_false]at he;rcases he with rfl|rfl <;> cases hk <;> rfl)
  (case e_NoNumber=>first|k_is|rfl|k_exc| (unfold L2.bmV;k_exc))
  (case e_NoWeights=>first|k_is|rfl|k_exc| (unfold L2.bmV;k_exc))
  (case n_NoNumber=>first|k_is|rfl|k_exc| (unfold L2.bmV;k_exc))
  (case q_NoNumber=>first|k_is|rfl|k_exc| (unfold L2.bmV;k_exc))
  (case w_NoNumber=>first|k_is|rfl|k_exc| (unfold L2.bmV;k_exc))
  (case n_NoWeights=>first|k_is|rfl|k_exc| (unfold L2.bmV;k_exc))
  (case q_NoWeights=>first|k_is|rfl|k_exc| (unfold L2.bmV;k_exc))
  (case w_NoWeights=>first|k_is|rfl|k_exc| (unfold L2.bmV;k_exc))
  (case m_NoNumber_NoNumber=>first|k_is|rfl|k_exc| (unfold L2.bmV;k_exc))
  (case m_NoWeights_NoNumber=>first|k_is|rfl|k_exc| (unfold L2.bmV;k_exc))
  (case m_NoNumber_NoWeights=>first|k_is|rfl|k_exc| (unfold L2.bmV;k_exc))
  (case m_NoWeights_NoWeights=>first|k_is|rfl|k_exc| (unfold L2.bmV;k_exc))
  (case i_NoNumber_NoNumber=>first|k_is|rfl|k_exc| (unfold L2.bmV;k_exc))
  (case i_NoWeights_NoNumber=>first|k_is|rfl|k_exc| (unfold L2.bmV;k_exc))
  (case i_NoNumber_NoWeights=>first|k_is|rfl|k_exc| (unfold L2.bmV;k_exc))
  (case i_NoWeights_NoWeights=>first|k_is|rfl|k_exc| (unfold L2.bmV;k_exc))
  (case y_abs=>k_is)
  (case y_enumerate=>k_is)
  (case y_int=>k_is)
  (case y_isinstance=>k_is)
  (case y_len=>k_is)
  (case y_list=>k_is)
  (case y_max=>k_is)
  (case y_min=>k_is)
  (case y_range=>k_is)
  (case y_reversed=>k_is)
  (case y_sum=>k_is)
  (case y_zip=>k_is)
