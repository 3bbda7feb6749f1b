import PyProof.Rows.All
import Wide.All
import OpenK.AllK
import Wide.FinOn
import Lean
import PyProof.EqAt
import PyProof.EqKinds
import PyProof.TupleCall
import PyProof.NeKinds
import KE.IntBitsLaws
import PyProof.FitsBits
import PySem.Challenge.RW_wavyrow_k50_whole_rings_begun_elsewhere
namespace PySem.W.Fast
theorem te18086159349663247481:True:=True.intro
noncomputable def tw10853919518074185916:=PySem.Challenge.pw_wavyrow_k50_whole_rings_begun_elsewhere
theorem te10853919518074185916:PySem.Challenge.pw_wavyrow_k50_whole_rings_begun_elsewhere=tw10853919518074185916:=rfl
def tw4256087957791355779:=0
def tw9738169066366928778:=0
def tw16322606014716068842:=0
def tw16997540634682866510:=0
def tw8680875053528592559:=0
def tw1331606746200699216:=0
def tw9932360096006639697:=0
def tw3670277003786413201:=0
def tw14566487828057314100:=0
def tw10211620866114841205:=0
def tw4844810873007634556:=0
def tw4538457859446782365:=0
def tw13596836408843843646:=0
def tw10077055526647983358:=0
def tw10331040605223167071:=0
end PySem.W.Fast
set_option Elab.async false
set_option linter.all false
set_option maxRecDepth 100000
namespace L2
open List
open PySem PySem.Spec PyProof.Rows
section
abbrev Key:=Sum Int Str
def xd6:Key->Value->Bool
 | .inl k,v=>Value.isInt k v
 | .inr x,v=>Value.isStrOf x v
def keyH (w:World):Key->Int
 | .inl k=>hashInt k
 | .inr x=>hashStr w x
theorem f6:∀{k:Key}{v:Value},xd6 k v=true->(∃ i t,k=Sum.inl i/\v=Value.int i t)\/(∃ x t,k=Sum.inr x/\v=Value.str x t)
 | .inl i,v,h=>by
  obtain⟨t,e⟩:=Value.isInt_shape (k:=i) (v:=v) h
  exact .inl ⟨i,t,rfl,e⟩
 | .inr x,v,h=>by
  obtain⟨t,e⟩:=Value.isStrOf_shape (x:=x) (v:=v) h
  exact .inr ⟨x,t,rfl,e⟩
theorem xd5 (a b:Int):decide ((Sum.inl a:Key)=Sum.inl b)=(a==b):=by
 by_cases e:a=b
 .subst e;simp
 .have h:¬ (Sum.inl a:Key)=Sum.inl b:=fun q=>e (Sum.inl.inj q)
  rw[decide_eq_false h]
  exact(beq_eq_false_iff_ne.mpr e).symm
theorem xd2 (a b:Str):decide ((Sum.inr a:Key)=Sum.inr b)=decide (a=b):=by
 by_cases e:a=b
 .subst e;simp
 .have h:¬ (Sum.inr a:Key)=Sum.inr b:=fun q=>e (Sum.inr.inj q)
  rw[decide_eq_false h,decide_eq_false e]
theorem xd4 (a:Int)(b:Str):decide ((Sum.inl a:Key)=Sum.inr b)=false:=decide_eq_false (fun q=>nomatch q)
theorem xd3 (a:Str)(b:Int):decide ((Sum.inr a:Key)=Sum.inl b)=false:=decide_eq_false (fun q=>nomatch q)
def zi4 (prog:Program)(w:World):PySem.KeyKind prog w Key where
 is:=xd6
 hash:=keyH w
 inj:=fun v a b ha hb=>by
  rcases f6 ha with⟨i,t,rfl,rfl⟩|⟨x,t,rfl,rfl⟩
  .rcases f6 hb with⟨j,u,rfl,e⟩|⟨y,u,rfl,e⟩
   .injection e with e1 _;rw[e1]
   .exact nomatch e
  .rcases f6 hb with⟨j,u,rfl,e⟩|⟨y,u,rfl,e⟩
   .exact nomatch e
   .injection e with e1 _;rw[e1]
 byValue:=fun k v h=>by
  rcases f6 h with⟨i,t,rfl,rfl⟩|⟨x,t,rfl,rfl⟩ <;> rfl
 pyHash:=fun hv h=>by
  rcases f6 hv with⟨i,t,rfl,rfl⟩|⟨x,t,rfl,rfl⟩
  .exact wpAny_pyHash_int h
  .exact wpAny_pyHash_str h
 eqBool:=fun hu hv h=>by
  rcases f6 hu with⟨i,t,rfl,rfl⟩|⟨x,t,rfl,rfl⟩
  .rcases f6 hv with⟨j,u,rfl,rfl⟩|⟨y,u,rfl,rfl⟩
   .rw[xd5]at h;exact wpAny_eqBool_int h
   .rw[xd4]at h;exact SeqAt.EqAt.int_str i t y u _ _ _ _ h
  .rcases f6 hv with⟨j,u,rfl,rfl⟩|⟨y,u,rfl,rfl⟩
   .rw[xd3]at h;exact SeqAt.EqAt.str_int x t j u _ _ _ _ h
   .rw[xd2]at h;exact wpAny_eqBool_str h
 «strs»:=fun k x t v h=>by
  rcases f6 h with⟨i,u,rfl,e⟩|⟨y,u,rfl,e⟩
  .exact nomatch e
  .injection e with e1 _
   subst e1
   cases v <;> rfl
end
section
inductive V where
 |non|bl (b:Bool)|int (i:Int)|str (x:Str)|byt (b:Array UInt8)|flt (b:UInt64)|ref (a:Addr)|ty (n:String)
 deriving DecidableEq
def RelV:V->Value->Prop
 | .non,u=>u=Value.none
 | .bl b,u=>u=Value.bool b
 | .int i,u=>∃ t,u=Value.int i t
 | .str x,u=>∃ t,u=Value.str x t
 | .byt b,u=>∃ t,u=Value.bytes b t
 | .flt b,u=>∃ t,u=Value.float b t
 | .ref a,u=>u=Value.ref a
 | .ty n,u=>u=Value.type n
abbrev Vals:List V->List Value->Prop:=Paired RelV
theorem Vals.length {xs:List V}{us:List Value}(r:Vals xs us):xs.length=us.length:=Paired.length r
theorem Vals.get:∀{xs:List V}{us:List Value}{i:Nat}{x:V},Vals xs us->xs[i]? =some x->∃ u,us[i]? =some u/\RelV x u
 |_,_,_,_,.nil,e=>by simp at e
 |_,_,0,_,.cons r _,e=>by simp at e;subst e;exact⟨_,rfl,r⟩
 |_,_,i+1,x,.cons _ t,e=>by
  obtain⟨u,h1,h2⟩:=Vals.get (i:=i) (x:=x) t (by simpa using e)
  exact⟨u,by simpa using h1,h2⟩
theorem Vals.set {x:V}{u:Value}(r:RelV x u):∀{xs:List V}{us:List Value}(i:Nat),Vals xs us->Vals (xs.set i x) (us.set i u)
 |_,_,_,.nil=>.nil
 |_,_,0,.cons _ t=>.cons r t
 |_,_,i+1,.cons q t=>.cons q (Vals.set r i t)
theorem Vals.append:∀{xs ys:List V}{us ws:List Value},Vals xs us->Vals ys ws->Vals (xs++ys) (us++ws)
 |_,_,_,_,.nil,s=>s
 |_,_,_,_,.cons r t,s=>.cons r (Vals.append t s)
theorem Vals.take:∀{xs:List V}{us:List Value}(n:Nat),Vals xs us->Vals (xs.take n) (us.take n)
 |_,_,0,_=>.nil
 |_,_,_+1,.nil=>.nil
 |_,_,n+1,.cons r t=>.cons r (Vals.take n t)
theorem Vals.drop:∀{xs:List V}{us:List Value}(n:Nat),Vals xs us->Vals (xs.drop n) (us.drop n)
 |_,_,0,r=>r
 |_,_,_+1,.nil=>.nil
 |_,_,n+1,.cons _ t=>Vals.drop n t
def RelO:Option V->Option Value->Prop
 |some v,some u=>RelV v u
 |none,none=>True
 |_,_=>False
def KV {κ:Type}:List (κ×V)->List (κ×Value)->Prop:=Paired fun(p:κ×V)(q:κ×Value)=>p.1=q.1/\RelV p.2 q.2
def kV:Key->V
 | .inl i=>.int i
 | .inr x=>.str x
inductive HO where
 |lst (xs:List V)
 |tup (xs:List V)
 |dK (kvs:List (Key×V))|dT (kvs:List (List Key×V))
 |set (S:Int->Bool) (n:Nat)
 |ins (C dx:Addr) (fs:List (Str×V))
 |own (x:Addr)
 |xd (fs:List (Str×V))
 |met (f x:Addr)
 |rng (lo hi:Int)
 |frz (o:Obj) (u:HO)
 |tbl (ps:Array Value)
 |ext (φ:Heap->Prop)
abbrev Hp:=Addr->Option HO
def upd (H:Hp)(a:Addr)(o:HO):Hp:=fun b=>if b=a then some o else H b
theorem v7 {H:Hp}{a:Addr}{o:HO}:upd H a o a=some o:=by unfold upd;rw[if_pos rfl]
theorem v6 {H:Hp}{a b:Addr}{o:HO}(h:b≠a):upd H a o b=H b:=by unfold upd;rw[if_neg h]
theorem l9 {H:Hp}{a b:Addr}{o:HO}(h:H a=some o)(h':H b=none):a≠b:=by
 intro e;subst e;rw[h]at h';cases h'
section
variable (P:Program)(w:World)
def ObjOk (H:Hp)(h:Heap)(a:Addr):HO->Prop
 | .lst xs=>xs.length<=sizeLine/\∃(its:List Value)(n:Nat),Vals xs its/\h.get? a=some { cls:=.type "list",data:=.seq its.toArray n }
 | .tup xs=>xs.length<=sizeLine/\∃ its:List Value,Vals xs its/\IsTup h a its.toArray
 | .dK kvs=>kvs.length<=sizeLine/\(a==sysModules)=false/\∃ vs,KV kvs vs/\h.DictOf (zi4 P w) a vs
 | .dT kvs=>kvs.length<=sizeLine/\(a==sysModules)=false/\∃ xs:List (List Key×Addr×Value),
   Paired (fun(p:List Key×V)(q:List Key×Addr×Value)=>p.1=q.1/\H q.2.1=some (.tup (p.1.map kV))/\RelV p.2 q.2.2) kvs xs/\
   ∃ o es ep,h.get? a=some o/\o.ExactDict/\o.data= .dict es ep/\es.toList=xs.map (entryOfKey (tupleKind (zi4 P w)))/\(xs.map (·.1)).Nodup
 | .set S n=>h.SetOf (intKind P w) a S n
 | .ins C dx fs=>H dx=some (.own a)/\fs.length<=1000/\dx≠a/\h.get? a=some (W.instObj C dx)/\
   ∃ mA,h.Ns1 dx mA/\(∀ f,RelO (fs.lookup f) (mA f))/\PySem.Within mA (fs.map (·.1))
 | .own _=>∃ o,h.get? a=some o
 | .xd fs=>∃ mA,h.Ns1 a mA/\∀ f,RelO (fs.lookup f) (mA f)
 | .rng lo hi=>∃ t u v,h.get? a=some { cls:=.type "range",data:=.fields #[.int lo t,.int hi u,.int 1 v] }
 | .frz o u=>h.get? a=some o/\ObjOk H h a u
 | .tbl ps=>h.get? a=some { cls:=.none,data:=.fields ps }
 | .met f x=>h.get? a=some (W.methodObj (.ref f) (.ref x))
 | .ext φ=>φ h/\(∃ o,h.get? a=some o)/\∀ h1 h2:Heap,φ h1->(∀ o,h1.get? a=some o->h2.get? a=some o)->φ h2
def HOk (H:Hp)(h:Heap):Prop:=∀ a o,H a=some o->ObjOk P w H h a o
end
section
variable {P:Program}{w:World}{H H':Hp}{h h':Heap}{a:Addr}{o:HO}
theorem ObjOk.lt (x:ObjOk P w H h a o):a<h.objs.size:=by
 cases o with
 |lst xs=>obtain⟨_,_,_,_,e⟩:=x;exact Heap.lt_size e
 |tup xs=>obtain⟨_,_,_,p⟩:=x;exact p.lt
 |dK kvs=>obtain⟨_,_,_,_,o,_,_,e,_⟩:=x;exact Heap.lt_size e
 |dT kvs=>obtain⟨_,_,_,_,o,_,_,e,_⟩:=x;exact Heap.lt_size e
 |set S n=>obtain⟨o,_,_,_,e,_⟩:=x;exact Heap.lt_size e
 |ins C dx fs=>obtain⟨_,_,_,e,_⟩:=x;exact Heap.lt_size e
 |own y=>obtain⟨_,e⟩:=x;exact Heap.lt_size e
 |xd fs=>obtain⟨_,⟨_,_,_,e,_⟩,_⟩:=x;exact Heap.lt_size e
 |rng lo hi=>obtain⟨_,_,_,e⟩:=x;exact Heap.lt_size e
 |frz ob u=>obtain⟨e,_⟩:=x;exact Heap.lt_size e
 |tbl ps=>exact Heap.lt_size (show h.get? a=some _ from x)
 |met f y=>exact Heap.lt_size (show h.get? a=some _ from x)
 |ext φ=>obtain⟨_,⟨_,e⟩,_⟩:=x;exact Heap.lt_size e
theorem Paired.mapP {z q:Type}{F G:z->q->Prop}:∀{j:List z}{i:List q},Paired F j i->(∀ a b,F a b->G a b)->Paired G j i
 |_,_,.nil,_=>.nil
 |_,_,.cons r t,f=>.cons (f _ _ r) (Paired.mapP t f)
theorem ObjOk.stay (x:ObjOk P w H h a o)(k:∀ b u,(b=a\/H b=some (.own a))->h.get? b=some u->h'.get? b=some u)
  (G:∀ b,H b=some (.own a)->H' b=some (.own a)) (j:∀ b xs,H b=some (.tup xs)->H' b=some (.tup xs)):ObjOk P w H' h' a o:=by
 induction o with
 |lst xs=>obtain⟨z,its,n,r,e⟩:=x;exact⟨z,its,n,r,k _ _ (.inl rfl) e⟩
 |tup xs=>obtain⟨z,its,r,ob,e,c⟩:=x;exact⟨z,its,r,ob,k _ _ (.inl rfl) e,c⟩
 |dK kvs=>obtain⟨z,y,vs,r,ob,es,ep,e,c⟩:=x;exact⟨z,y,vs,r,ob,es,ep,k _ _ (.inl rfl) e,c⟩
 |dT kvs=>
  obtain⟨z,y,xs,r,ob,es,ep,e,c⟩:=x
  exact⟨z,y,xs,Paired.mapP r fun p q z=>⟨z.1,j _ _ z.2.1,z.2.2⟩,ob,es,ep,k _ _ (.inl rfl) e,c⟩
 |set S n=>obtain⟨ob,es,ep,t,e,c⟩:=x;exact⟨ob,es,ep,t,k _ _ (.inl rfl) e,c⟩
 |ins C dx fs=>
  obtain⟨d,z,ne,e,mA,⟨od,es,ep,I,c⟩,r⟩:=x
  exact⟨G _ d,z,ne,k _ _ (.inl rfl) e,mA,⟨od,es,ep,k _ _ (.inr d) I,c⟩,r⟩
 |own y=>obtain⟨ob,e⟩:=x;exact⟨ob,k _ _ (.inl rfl) e⟩
 |xd fs=>obtain⟨mA,⟨od,es,ep,e,c⟩,r⟩:=x;exact⟨mA,⟨od,es,ep,k _ _ (.inl rfl) e,c⟩,r⟩
 |rng lo hi=>obtain⟨t,u,v,e⟩:=x;exact⟨t,u,v,k _ _ (.inl rfl) e⟩
 |frz ob u i=>obtain⟨e,q⟩:=x;exact⟨k _ _ (.inl rfl) e,i q⟩
 |tbl ps=>
  have e:h.get? a=some { cls:=.none,data:=.fields ps }:=x
  show h'.get? a=some { cls:=.none,data:=.fields ps }
  exact k a _ (.inl rfl) e
 |met f y=>
  have e:h.get? a=some (W.methodObj (.ref f) (.ref y)):=x
  show h'.get? a=some (W.methodObj (.ref f) (.ref y))
  exact k a _ (.inl rfl) e
 |ext φ=>obtain⟨p,⟨o,e⟩,st⟩:=x;exact⟨st _ _ p fun o q=>k _ _ (.inl rfl) q,⟨o,k _ _ (.inl rfl) e⟩,st⟩
theorem HOk.lt (x:HOk P w H h)(e:H a=some o):a<h.objs.size:=(x a o e).lt
theorem HOk.fresh (x:HOk P w H h)(e:h.objs.size<=a):H a=none:=by
 cases q:H a with
 |none=>rfl
 |some u=>exact absurd (Nat.lt_of_lt_of_le (x.lt q) e) (Nat.lt_irrefl _)
theorem HOk.kept (x:HOk P w H h)(k:∀ b u,h.get? b=some u->h'.get? b=some u):HOk P w H h':=fun a o e=>
 (x a o e).stay (fun b u _ q=>k b u q) (fun _ q=>q) fun _ _ q=>q
theorem HOk.laid (x:HOk P w H h)(k:∀ b u,h.get? b=some u->h'.get? b=some u)(j:h.objs.size<=a)(new:ObjOk P w (upd H a o) h' a o):HOk P w (upd H a o) h':=fun b u e=>by
 have hn:=x.fresh j
 by_cases i:b=a
 .subst i;rw[v7]at e;cases e;exact new
 .rw[v6 i]at e
  exact(x b u e).stay (fun c v _ q=>k c v q) (fun c q=>by rw[v6 (l9 q hn)];exact q) fun c xs q=>by rw[v6 (l9 q hn)];exact q
end
def Rd (H:Hp)(a:Addr)(u:HO):Prop:=H a=some u\/∃ o,H a=some (.frz o u)
theorem Rd.ok {P:Program}{w:World}{H:Hp}{h:Heap}{a:Addr}{u:HO}(r:Rd H a u)(x:HOk P w H h):ObjOk P w H h a u:=by
 rcases r with r|⟨o,r⟩
 .exact x a u r
 .obtain⟨_,q⟩:=x a _ r
  exact q
def Mut:Option HO->Prop
 |some (.lst _)=>True
 |some (.dK _)=>True
 |some (.dT _)=>True
 |some (.set _ _)=>True
 |some (.ins _ _ _)=>True
 |some (.ext _)=>True
 |_=>False
section
variable {P:Program}{w:World}{H:Hp}{h h':Heap}{x e:Addr}{o':HO}
theorem HOk.write (ok:HOk P w H h)(I:Mut (H x))(N:e=x\/H e=some (.own x))(k:∀ b u,b≠e->h.get? b=some u->h'.get? b=some u)(M:∃ u,h'.get? e=some u)
  (new:ObjOk P w (upd H x o') h' x o'):HOk P w (upd H x o') h':=fun b u q=>by
 have j:∀ c y,H c=some (.own y)->c≠x:=fun c y r z=>by subst z;rw[r]at I;exact I
 have G:∀ c xs,H c=some (.tup xs)->c≠x:=fun c xs r z=>by subst z;rw[r]at I;exact I
 by_cases L:b=x
 .subst L;rw[v7]at q;cases q;exact new
 .rw[v6 L]at q
  by_cases i:b=e
  .have q':H b=some (.own x):=by
    rcases N with z|z
    .exact absurd (i.trans z) L
    .rw[i];exact z
   rw[q]at q';cases q'
   obtain⟨v,O⟩:=M
   exact⟨v,by rw[i];exact O⟩
  .refine(ok b u q).stay (fun c v J r=>k c v ?_ r) (fun c r=>by rw[v6 (j c b r)];exact r) fun c xs r=>by rw[v6 (G c xs r)];exact r
   rcases J with rfl|J
   .exact i
   .rintro rfl
    rcases N with z|z
    .exact j c b J z
    .rw[J]at z;cases z;exact L rfl
end
structure Un (fs ex:List Addr)(H H':Hp)(h h':Heap):Prop where
 keep:∀ b o,h.get? b=some o->H b=none->b∉fs->b∉ex->h'.get? b=some o
 slot:∀ b o,h.get? b=some o->H b=none->b∈fs->b∉ex->∃ sl,h'.get? b=some { o with slots:=sl }
 free:∀ b o,h.get? b=some o->H b=none->b∉ex->H' b=none
 there:∀ b o,h.get? b=some o->b∉ex->∃ o',h'.get? b=some o'
 tups:∀ b xs,H b=some (.tup xs)->H' b=some (.tup xs)
 frzs:∀ b o u,H b=some (.frz o u)->H' b=some (.frz o u)
 tbls:∀ b ps,H b=some (.tbl ps)->∃ more,H' b=some (.tbl (ps++more))
section
variable {fs fs' ex ex':List Addr}{H H1 H2:Hp}{h h1 h2 h':Heap}{a x e:Addr}{o:HO}
theorem Un.any (u:Un fs ex H H1 h h1){b:Addr}{ob:Obj}(q:h.get? b=some ob)(n:H b=none)(i:b∉ex):∃ sl,h1.get? b=some { ob with slots:=sl }:=by
 by_cases j:b∈fs
 .exact u.slot b ob q n j i
 .exact⟨ob.slots,u.keep b ob q n j i⟩
theorem Un.kept (k:∀ b u,h.get? b=some u->h'.get? b=some u):Un fs ex H H h h':=
 ⟨fun b ob q _ _ _=>k b ob q,fun b ob q _ _ _=>⟨ob.slots,k b ob q⟩,fun _ _ _ n _=>n,fun b ob q _=>⟨ob,k b ob q⟩,fun _ _ q=>q,fun _ _ _ q=>q,fun _ ps q=>⟨#[],by rw[q];simp⟩⟩
theorem Un.refl:Un fs ex H H h h:=Un.kept fun _ _ q=>q
theorem Un.laid (k:∀ b u,h.get? b=some u->h'.get? b=some u)(i:h.objs.size<=a)(hn:H a=none):Un fs ex H (upd H a o) h h' where
 keep:=fun b u q _ _ _=>k b u q
 slot:=fun b u q _ _ _=>⟨u.slots,k b u q⟩
 free:=fun b u q n _=>by rw[v6 (Nat.ne_of_lt (Nat.lt_of_lt_of_le (Heap.lt_size q) i))];exact n
 there:=fun b u q _=>⟨u,k b u q⟩
 tups:=fun b xs q=>by rw[v6 (l9 q hn)];exact q
 frzs:=fun b u xs q=>by rw[v6 (l9 q hn)];exact q
 tbls:=fun b ps q=>⟨#[],by rw[v6 (l9 q hn),q];simp⟩
theorem Un.write (j:Mut (H x))(L:e=x\/H e=some (.own x))(k:∀ b u,b≠e->h.get? b=some u->h'.get? b=some u)(G:∃ u,h'.get? e=some u):Un fs ex H (upd H x o) h h':=by
 have I:∀ b,H b=none->b≠x:=fun b n z=>by subst z;rw[n]at j;exact j
 have J:∀ b,H b=none->b≠e:=fun b n z=>by
  subst z
  rcases L with r|r
  .exact I b n r
  .rw[n]at r;cases r
 have hm:∀ b u,H b=some u->¬ Mut (some u)->b≠x:=fun b u q nm z=>by subst z;rw[q]at j;exact nm j
 refine⟨fun b u q n _ _=>k b u (J b n) q,fun b u q n _ _=>⟨u.slots,k b u (J b n) q⟩,fun b u q n _=>by rw[v6 (I b n)];exact n,fun b u q _=>?_,
  fun b xs q=>by rw[v6 (hm b _ q fun z=>z)];exact q,fun b u xs q=>by rw[v6 (hm b _ q fun z=>z)];exact q,fun b ps q=>⟨#[],by rw[v6 (hm b _ q fun z=>z),q];simp⟩⟩
 by_cases i:b=e
 .subst i;exact G
 .exact⟨u,k b u i q⟩
end
def trk (h:Heap)(H:Hp):List Addr:=(List.range h.objs.size).filter fun a=>(H a).isSome
def hidT (h:Heap)(H:Hp):Heap:=W.hideAll h (trk h H)
theorem yn7 (h:Heap)(H:Hp):(hidT h H).objs.size=h.objs.size:=W.hideAll_size _ _
theorem yc2 {h:Heap}{H:Hp}{b:Addr}{o:Obj}(e:h.get? b=some o)(n:H b=none):(hidT h H).get? b=some o:=
 W.hideAll_get _ e fun hm=>by
  have q:(H b).isSome=true:=(List.mem_filter.mp hm).2
  rw[n]at q;simp at q
theorem xs9 {h:Heap}{H:Hp}{b:Addr}{o:Obj}(e:(hidT h H).get? b=some o):h.get? b=some o/\H b=none:=by
 have i:h.get? b=some o:=W.of_hideAll (trk h H) e
 refine⟨i,?_⟩
 cases q:H b with
 |none=>rfl
 |some x=>
  have hm:b∈trk h H:=List.mem_filter.mpr ⟨List.mem_range.mpr (Heap.lt_size i),by simp[q]⟩
  have z:(hidT h H).get? b=none:=W.hideAll_none (trk h H) hm
  rw[z]at e;cases e
def xn0 (g h:Heap)(L:Addr):List (Addr×Obj):=(List.range h.objs.size).filterMap fun a=>if a=L\/(g.get? a).isSome=true then none else (h.get? a).map fun o=>(a,o)
def rest (g h:Heap)(L d:Addr):List (Addr×Obj):=(xn0 g h L).filter fun p=>decide (p.1≠d)
end
section
structure Mod (K:W.Frag)(mg:Str->Option Value)(base:Heap):Prop where
 kin:K.In base
 glob:base.Ns mainGlobals mg
 blt:∃ mb,base.Ns builtinsNs mb/\∀ x:Str,x≠"__name__"->mb x=bootBuiltins x
 nolimit:base.NoLimit
structure Cx where
 prog:Program
 w:World
 K:W.Frag
 mg:Str->Option Value
 base:Heap
 A:Around
 N:List Str
 s₀:Shared
 H₀:Hp
 env:Env
 outer:List Env
 stack:List Env
 ex:List Addr
 fn:Str->Bool
 calm:Bool
 pn:List (Addr×Obj)
 xe:Value->Shared->Prop
def frs (l:List Env):List Addr:=l.filterMap (·.frame)
abbrev Cx.fs (X:Cx):List Addr:=frs X.outer
def Vis (sc:Scope)(x:Str):Prop:=sc.names.lookup x=some .local\/sc.names.lookup x=some .cell\/sc.names.lookup x=some .free
def Loc (sc:Scope)(x:Str):Prop:=sc.names.lookup x=some .local\/sc.names.lookup x=some .cell
def Look (env:Env)(h:Heap)(m:Str->Option Value)(x:Str)(u:Value):Prop:=
 (env.kindOf x=some .local/\m x=some u)\/((env.kindOf x=some .cell\/env.kindOf x=some .free)/\∃ c,env.cells.lookup x=some c/\h.IsCell c (some u))
structure Cx.Ok (X:Cx):Prop where
 mod:Mod X.K X.mg X.base
 kind:X.env.scope.kind= .function
 glob:X.env.globals=mainGlobals
 blt:X.env.builtins=builtinsNs
 above:X.s₀.heap.objs.size<=X.env.locals
 inj:∀ x y c,X.env.cells.lookup x=some c->X.env.cells.lookup y=some c->x=y
 has:∀ x,(X.env.kindOf x=some .cell\/X.env.kindOf x=some .free)->∃ c,X.env.cells.lookup x=some c
 cab:∀ x c,X.fn x=true->X.env.cells.lookup x=some c->X.s₀.heap.objs.size<=c
 hd:X.calm=true->X.A.handled=none
 frames:X.A.frames=some X.stack
 stk:X.stack=X.outer\/(X.stack=X.env::X.outer/\X.env.frame=some X.env.locals)
 exf:∀ b∈X.ex,b≠X.env.locals/\∀ x c,X.env.cells.lookup x=some c->c≠b
 bs:∀ b o,X.base.get? b=some o->X.s₀.heap.get? b=some o/\X.H₀ b=none
 bsz:X.base.objs.size<=X.s₀.heap.objs.size
 noex:∀ b o,X.base.get? b=some o->b∉X.ex
 exfs:∀ b∈X.ex,b∉X.fs
 funs:X.s₀.heap.FunFrames X.base X.outer
 frf:∀ b∈X.fs,X.H₀ b=none
structure Inv (X:Cx)(pins:List (Addr×Obj))(σ:List (Option V))(H:Hp)(s:Shared):Prop where
 ok:X.Ok
 os:s.os=X.s₀.os
 bare:AllBare s.gens
 base:Un X.fs X.ex X.H₀ H X.s₀.heap s.heap
 loc:∃ m,s.heap.Ns X.env.locals m/\∀(i:Nat)(x:Str)(v:V),X.N[i]? =some x->σ[i]? =some (some v)->Vis X.env.scope x->∃ u,RelV v u/\Look X.env s.heap m x u
 cell:∀ x c,X.env.cells.lookup x=some c->∃ v,s.heap.IsCell c v
 free:H X.env.locals=none
 freeC:∀ x c,X.env.cells.lookup x=some c->H c=none
 pin:∀ p∈X.pn++pins,s.heap.get? p.1=some p.2/\H p.1=none/\p.1≠X.env.locals/\p.1∉X.fs/\∀ v,p.2.data≠ .cell v
 hok:HOk X.prog X.w H s.heap
 len:σ.length=X.N.length
section
variable {X:Cx}{pins:List (Addr×Obj)}{σ:List (Option V)}{H H':Hp}{s:Shared}{h':Heap}
theorem Cx.Ok.nofr (ok:X.Ok){b:Addr}{o:Obj}(e:X.base.get? b=some o):b∉X.fs:=fun i=>by
 have:=(ok.funs.mem i).1
 rw[e]at this;cases this
theorem Inv.bs (I:Inv X pins σ H s):∀ b o,X.base.get? b=some o->s.heap.get? b=some o/\H b=none:=fun b o e=>
 ⟨I.base.keep b o (I.ok.bs b o e).1 (I.ok.bs b o e).2 (I.ok.nofr e) (I.ok.noex b o e),I.base.free b o (I.ok.bs b o e).1 (I.ok.bs b o e).2 (I.ok.noex b o e)⟩
theorem Inv.bk (I:Inv X pins σ H s):∀ b o,X.base.get? b=some o->s.heap.get? b=some o:=fun b o e=>(I.bs b o e).1
theorem Inv.mod (I:Inv X pins σ H s):Mod X.K X.mg X.base:=I.ok.mod
theorem Inv.kIn (I:Inv X pins σ H s):X.K.In s.heap:=I.ok.mod.kin.keeps I.bk
theorem Inv.lt (I:Inv X pins σ H s):X.env.locals<s.heap.objs.size:=let ⟨_,hn,_⟩:=I.loc;hn.lt
theorem Inv.sz (I:Inv X pins σ H s):X.s₀.heap.objs.size<=s.heap.objs.size:=Nat.le_trans I.ok.above (Nat.le_of_lt I.lt)
theorem Inv.nofs (I:Inv X pins σ H s){a:Addr}(h:s.heap.objs.size<=a):a∉X.fs:=fun j=>by
 obtain⟨_,o,i,_⟩:=I.ok.funs.mem j
 exact absurd (Nat.lt_of_lt_of_le (Heap.lt_size i) (Nat.le_trans I.sz h)) (Nat.lt_irrefl _)
theorem Inv.cne (I:Inv X pins σ H s):∀ x c,X.env.cells.lookup x=some c->c≠X.env.locals:=fun x c e z=>by
 obtain⟨v,o,q,hd⟩:=I.cell x c e
 obtain⟨m,⟨o',es,ep,i,j,_⟩,_⟩:=I.loc
 rw[z,i]at q;cases q;rw[j]at hd;cases hd
theorem Inv.funs (I:Inv X pins σ H s):s.heap.FunFrames X.base X.outer:=by
 have all:∀(l:List Env),(∀ b∈frs l,b∈X.fs)->X.s₀.heap.FunFrames X.base l->s.heap.FunFrames X.base l:=by
  intro l
  induction l with
  |nil=>intro _ _;trivial
  |cons env r J=>
   intro G O
   obtain⟨S,⟨L,o,i,hn,N,hd⟩,M⟩:=O
   have q:L∈X.fs:=G L (by unfold frs;rw[filterMap_cons,i];exact mem_cons_self)
   obtain⟨sl,e⟩:=I.base.slot L o N (I.ok.frf L q) q fun z=>I.ok.exfs L z q
   exact⟨S,⟨L,_,i,hn,e,hd⟩,J (fun b j=>G b (by unfold frs;rw[filterMap_cons,i];exact mem_cons_of_mem _ j)) M⟩
 exact all X.outer (fun _ j=>j) I.ok.funs
theorem Inv.stack (I:Inv X pins σ H s):s.heap.FunFrames X.base X.stack:=by
 rcases I.ok.stk with e|⟨e,i⟩
 .rw[e];exact I.funs
 .rw[e]
  obtain⟨m,hn,_⟩:=I.loc
  refine .cons (by rw[I.ok.kind];decide) i hn ?_ I.funs
  exact Heap.get?_none_of_le (Nat.le_trans I.ok.bsz I.ok.above)
theorem Inv.stkSub (I:Inv X pins σ H s):∀ b∈frs X.stack,b∈X.env.locals::X.fs:=fun b i=>by
 rcases I.ok.stk with e|⟨e,j⟩
 .rw[e]at i;exact mem_cons_of_mem _ i
 .rw[e]at i
  unfold frs at i
  rw[filterMap_cons,j]at i
  exact i
theorem Inv.stkFree (I:Inv X pins σ H s):∀ b∈frs X.stack,H b=none:=fun b i=>by
 rcases List.mem_cons.mp (I.stkSub b i)with e|i
 .rw[e];exact I.free
 .obtain⟨_,o,ho,_⟩:=I.ok.funs.mem i
  exact I.base.free b o ho (I.ok.frf b i) fun z=>I.ok.exfs b z i
theorem Inv.step {g':Array GenState}{t':Nat}{d':Drawn}{ch:List Addr}(I:Inv X pins σ H s)
  (J:∀ b∈ch,(b∈X.ex\/X.s₀.heap.objs.size<=b)/\b≠X.env.locals/\(∀ x c,X.env.cells.lookup x=some c->c≠b)/\∀ p∈X.pn++pins,p.1≠b)
  (keep:∀ b o,b≠X.env.locals->b∉X.fs->b∉ch->s.heap.get? b=some o->H b=none->h'.get? b=some o)
  (slot:∀ b o,b≠X.env.locals->b∈X.fs->b∉ch->s.heap.get? b=some o->H b=none->∃ sl,h'.get? b=some { o with slots:=sl }) (free:∀ b o,b∉ch->s.heap.get? b=some o->H b=none->H' b=none)
  (there:∀ b o,b∉ch->s.heap.get? b=some o->∃ o',h'.get? b=some o')
  (tups:∀ b xs,H b=some (.tup xs)->H' b=some (.tup xs)) (frzs:∀ b o u,H b=some (.frz o u)->H' b=some (.frz o u)) (tbls:∀ b ps,H b=some (.tbl ps)->∃ more,H' b=some (.tbl (ps++more)))
  (ns:∀ m,s.heap.Ns X.env.locals m->h'.Ns X.env.locals m) (hok:HOk X.prog X.w H' h') (hg:AllBare g'):
  Inv X pins σ H' { s with heap:=h',gens:=g',drawn:=d',toks:=t' }:=by
 have U:∀ b o,X.s₀.heap.get? b=some o->b≠X.env.locals:=fun b o e=>Nat.ne_of_lt (Nat.lt_of_lt_of_le (Heap.lt_size e) I.ok.above)
 have M:∀ b o,X.s₀.heap.get? b=some o->b∉X.ex->b∉ch:=fun b o e j O=>by
  rcases (J b O).1 with z|z
  .exact j z
  .exact absurd (Nat.lt_of_lt_of_le (Heap.lt_size e) z) (Nat.lt_irrefl _)
 have L:∀ x c,X.env.cells.lookup x=some c->∀ v,s.heap.IsCell c v->h'.IsCell c v:=fun x c e v Y=>by
  obtain⟨o,S,hd⟩:=Y
  have G:c∉ch:=fun z=>(J c z).2.2.1 x c e rfl
  by_cases hc:c∈X.fs
  .obtain⟨sl,q⟩:=slot c o (I.cne x c e) hc G S (I.freeC x c e)
   exact⟨_,q,hd⟩
  .exact⟨o,keep c o (I.cne x c e) hc G S (I.freeC x c e),hd⟩
 refine⟨I.ok,I.os,hg,⟨fun b o e n O j=>?_,fun b o e n O j=>?_,fun b o e n j=>?_,fun b o e j=>?_,fun b xs e=>tups b xs (I.base.tups b xs e),fun b o xs e=>frzs b o xs (I.base.frzs b o xs e),fun b ps e=>?_⟩,?_,fun x c e=>?_,?_,fun x c e=>?_,fun p hp=>?_,hok,I.len⟩
 .exact keep b o (U b o e) O (M b o e j) (I.base.keep b o e n O j) (I.base.free b o e n j)
 .obtain⟨sl,N⟩:=I.base.slot b o e n O j
  obtain⟨a0,Z⟩:=slot b _ (U b o e) O (M b o e j) N (I.base.free b o e n j)
  exact⟨a0,Z⟩
 .obtain⟨o',N⟩:=I.base.there b o e j
  exact free b o' (M b o e j) N (I.base.free b o e n j)
 .obtain⟨o',N⟩:=I.base.there b o e j
  exact there b o' (M b o e j) N
 .obtain⟨m1,N⟩:=I.base.tbls b ps e
  obtain⟨m2,Z⟩:=tbls b _ N
  exact⟨m1++m2,by rw[Z,Array.append_assoc]⟩
 .obtain⟨m,hn,hl⟩:=I.loc
  refine⟨m,ns m hn,fun i x v N Z e3=>?_⟩
  obtain⟨u,r,l⟩:=hl i x v N Z e3
  refine⟨u,r,?_⟩
  rcases l with l|⟨k,c,e,z⟩
  .exact .inl l
  .exact .inr ⟨k,c,e,L x c e _ z⟩
 .obtain⟨v,z⟩:=I.cell x c e
  exact⟨v,L x c e v z⟩
 .obtain⟨m,⟨o,_,_,S,_⟩,_⟩:=I.loc
  exact free _ o (fun z=>(J _ z).2.1 rfl) S I.free
 .obtain⟨v,o,S,hd⟩:=I.cell x c e
  exact free c o (fun z=>(J c z).2.2.1 x c e rfl) S (I.freeC x c e)
 .obtain⟨e,n,ne,nf,d⟩:=I.pin p hp
  have G:p.1∉ch:=fun z=>(J p.1 z).2.2.2 p hp rfl
  exact⟨keep p.1 p.2 ne nf G e n,free p.1 p.2 G e n,ne,nf,d⟩
theorem Inv.un {t':Nat}(I:Inv X pins σ H s)(u:Un X.fs [] H H' s.heap h')(hok:HOk X.prog X.w H' h'):Inv X pins σ H' { s with heap:=h',toks:=t' }:=by
 obtain⟨m,⟨o,es,ep,J,r⟩,_⟩:=id I.loc
 obtain⟨sl,M⟩:=u.any J I.free (by simp)
 exact I.step (g':=s.gens) (d':=s.drawn) (ch:=[]) (fun _ z=>nomatch z) (fun b o _ j _ e n=>u.keep b o e n j (by simp)) (fun b o _ j _ e n=>u.slot b o e n j (by simp)) (fun b o _ e n=>u.free b o e n (by simp)) (fun b o _ e=>u.there b o e (by simp)) u.tups u.frzs u.tbls (fun N hm=>by
  obtain⟨o',q,G,i,L⟩:=hm
  rw[J]at i;cases i
  exact⟨_,q,G,M,L⟩) hok I.bare
theorem Inv.call {g':Array GenState}{t':Nat}{d':Drawn}{ch:List Addr}(I:Inv X pins σ H s)(u:Un (frs X.stack) ch H H' s.heap h')(hok:HOk X.prog X.w H' h')(O:AllBare g')
  (q:∀ b∈ch,(b∈X.ex\/X.s₀.heap.objs.size<=b)/\b≠X.env.locals/\(∀ x c,X.env.cells.lookup x=some c->c≠b)/\∀ p∈X.pn++pins,p.1≠b):
  Inv X pins σ H' { s with heap:=h',gens:=g',drawn:=d',toks:=t' }:=by
 obtain⟨m,⟨o,es,ep,M,r⟩,_⟩:=id I.loc
 obtain⟨sl,G⟩:=u.any M I.free fun z=>(q _ z).2.1 rfl
 exact I.step (ch:=ch) q (fun b o G S i e n=>u.keep b o e n (fun z=>(List.mem_cons.mp (I.stkSub b z)).elim G S) i) (fun b o _ _ i e n=>u.any e n i) (fun b o i e n=>u.free b o e n i) (fun b o i e=>u.there b o e i) u.tups u.frzs u.tbls (fun U hm=>by
  obtain⟨o',J,L,j,N⟩:=hm
  rw[M]at j;cases j
  exact⟨_,J,L,G,N⟩) hok O
theorem Inv.turned {t':Nat}{it:Addr}(I:Inv X pins σ H s)(k:∀ b o,b≠it->s.heap.get? b=some o->h'.get? b=some o)(hn:H it=none)(G:it≠X.env.locals)
  (h1:it∈X.ex\/X.s₀.heap.objs.size<=it) (h2:∀ x c,X.env.cells.lookup x=some c->c≠it) (L:∀ p∈X.pn++pins,p.1≠it):Inv X pins σ H { s with heap:=h',toks:=t' }:=by
 have j:∀ b u,H b=some u->b≠it:=fun b u e z=>by rw[z,hn]at e;cases e
 refine I.step (g':=s.gens) (d':=s.drawn) (ch:=[it]) (fun b J=>?_) (fun b o _ _ i e _=>k b o (fun z=>i (by simp[z])) e) (fun b o _ _ i e _=>⟨o.slots,k b o (fun z=>i (by simp[z])) e⟩) (fun _ _ _ _ n=>n)
  (fun b o i e=>⟨o,k b o (fun z=>i (by simp[z])) e⟩) (fun _ _ e=>e) (fun _ _ _ e=>e) (fun b ps e=>⟨#[],by rw[e];simp⟩) (fun m hm=>?_) (fun b u e=>?_) I.bare
 .have e:b=it:=by simpa using J
  subst e
  exact⟨h1,G,h2,L⟩
 .obtain⟨o,es,ep,ho,r⟩:=hm
  exact⟨o,es,ep,k _ o (Ne.symm G) ho,r⟩
 .refine(I.hok b u e).stay (fun c v i q=>k c v ?_ q) (fun _ q=>q) fun _ _ q=>q
  rcases i with z|z
  .rw[z];exact j b u e
  .exact j c _ z
theorem Inv.tok (I:Inv X pins σ H s)(t:Nat):Inv X pins σ H { s with toks:=t }:=I.un (h':=s.heap) (t':=t) Un.refl I.hok
theorem Inv.kept {t':Nat}(I:Inv X pins σ H s)(k:∀ b u,s.heap.get? b=some u->h'.get? b=some u):Inv X pins σ H { s with heap:=h',toks:=t' }:=I.un (Un.kept k) (I.hok.kept k)
theorem Inv.laid {a:Addr}{o:HO}{t':Nat}(I:Inv X pins σ H s)(k:∀ b u,s.heap.get? b=some u->h'.get? b=some u)(i:s.heap.objs.size<=a)(new:ObjOk X.prog X.w (upd H a o) h' a o):
  Inv X pins σ (upd H a o) { s with heap:=h',toks:=t' }:=I.un (Un.laid k i (I.hok.fresh i)) (I.hok.laid k i new)
theorem Inv.write {x e:Addr}{o:HO}{t':Nat}(I:Inv X pins σ H s)(j:Mut (H x))(q:e=x\/H e=some (.own x))(k:∀ b u,b≠e->s.heap.get? b=some u->h'.get? b=some u)(i:∃ u,h'.get? e=some u)
  (new:ObjOk X.prog X.w (upd H x o) h' x o):Inv X pins σ (upd H x o) { s with heap:=h',toks:=t' }:=I.un (Un.write j q k i) (I.hok.write j q k i new)
theorem Inv.pins_of {pins':List (Addr×Obj)}(I:Inv X pins σ H s)(h:∀ p∈pins',s.heap.get? p.1=some p.2/\H p.1=none/\p.1≠X.env.locals/\p.1∉X.fs/\∀ v,p.2.data≠ .cell v):Inv X pins' σ H s:=
 ⟨I.ok,I.os,I.bare,I.base,I.loc,I.cell,I.free,I.freeC,fun p i=>(List.mem_append.mp i).elim (fun z=>I.pin p (mem_append_left _ z)) (h p),I.hok,I.len⟩
theorem zu7 {N:List Str}(q:N.Nodup){i j:Nat}{x:Str}(a:N[i]? =some x)(b:N[j]? =some x):i=j:=by
 obtain⟨h1,G⟩:=List.getElem?_eq_some_iff.mp a
 obtain⟨h2,z⟩:=List.getElem?_eq_some_iff.mp b
 exact(getElem_inj q).mp (G.trans z.symm)
theorem D8 {M:Model}{A:Around}{E:Value->Shared->Prop}{i:Nat}{x:Str}{v:V}{u:Value}{Q:Unit->Shared->Prop}(I:Inv X pins σ H s)(hN:X.N.Nodup)(hi:X.N[i]? =some x)(S:Loc X.env.scope x)(r:RelV v u)
  (h:∀ s',Inv X pins (σ.set i (some v)) H s'->(∃ a,Heap.SameBut a s.heap s'.heap/\(a=X.env.locals\/X.env.cells.lookup x=some a))->Q () s') (hf:X.fn x=true\/X.env.scope.names.lookup x=some .local:=by first|exact .inl rfl|exact .inr rfl|assumption):wpAny M A (storeName X.env x u) Q E s:=by
 obtain⟨m,hn,hl⟩:=id I.loc
 have a3:(X.env.scope.kind== .class || (X.env.scope.kind== .module&&X.env.locals != X.env.globals))=false:=by rw[I.ok.kind];rfl
 have a0:i<σ.length:=by rw[I.len];exact(List.getElem?_eq_some_iff.mp hi).1
 have cne:=I.cne
 have J:∀{a:Addr}{h':Heap},(∃ o,s.heap.get? a=some o/\H a=none)->Heap.SameBut a s.heap h'->HOk X.prog X.w H h':=fun{a h'} ha G b ob e=>by
  obtain⟨_,_,U⟩:=ha
  refine(I.hok b ob e).stay (fun c w' O q=>(G.2 c ?_).trans q) (fun _ q=>q) fun _ _ q=>q
  rintro rfl
  rcases O with rfl|O
  .rw[U]at e;cases e
  .rw[U]at O;cases O
 rcases S with Z|Z
 .refine wpAny_storeName_local Z hn (fun h' a6 G=>?_) a3
  obtain⟨oL,_,_,a5,_⟩:=id hn
  refine h _ ⟨I.ok,I.os,I.bare,⟨fun b o e n hb S=>?_,fun b o e n hb S=>?_,I.base.free,fun b o e S=>?_,I.base.tups,I.base.frzs,I.base.tbls⟩,⟨_,a6,fun j y v' L Y e3=>?_⟩,fun y c e=>?_,I.free,I.freeC,fun p hp=>?_,J ⟨oL,a5,I.free⟩ G,by simpa using I.len⟩ ⟨_,G,.inl rfl⟩
  .exact(G.2 b (Nat.ne_of_lt (Nat.lt_of_lt_of_le (Heap.lt_size e) I.ok.above))).trans (I.base.keep b o e n hb S)
  .obtain⟨sl,L⟩:=I.base.slot b o e n hb S
   exact⟨sl,(G.2 b (Nat.ne_of_lt (Nat.lt_of_lt_of_le (Heap.lt_size e) I.ok.above))).trans L⟩
  .obtain⟨o',L⟩:=I.base.there b o e S
   exact⟨o',(G.2 b (Nat.ne_of_lt (Nat.lt_of_lt_of_le (Heap.lt_size e) I.ok.above))).trans L⟩
  .by_cases hj:j=i
   .subst hj
    rw[hi]at L;cases L
    rw[getElem?_set_self a0]at Y
    cases Y
    exact⟨u,r,.inl ⟨Z,by simp⟩⟩
   .rw[getElem?_set_ne (Ne.symm hj)]at Y
    obtain⟨u',r',q⟩:=hl j y v' L Y e3
    refine⟨u',r',?_⟩
    rcases q with⟨k,e⟩|⟨k,c,e,z⟩
    .refine .inl ⟨k,?_⟩
     have:y≠x:=fun e=>hj (zu7 hN L (e ▸ hi))
     simp[this,e]
    .exact .inr ⟨k,c,e,z.sameBut G (cne y c e)⟩
  .obtain⟨w',z⟩:=I.cell y c e
   exact⟨w',z.sameBut G (cne y c e)⟩
  .obtain⟨e,n,ne,nf,d⟩:=I.pin p hp
   exact⟨(G.2 p.1 ne).trans e,n,ne,nf,d⟩
 .have hfn:X.fn x=true:=by
   rcases hf with z|z
   .exact z
   .rw[z]at Z;cases Z
  obtain⟨c,O⟩:=I.ok.has x (.inl Z)
  obtain⟨w',z⟩:=I.cell x c O
  refine wpAny_storeName_cell I.ok.kind Z O z (fun h' a4 G=>?_)
  obtain⟨oc,a2,a1⟩:=id z
  refine h { s with heap:=h' } ⟨I.ok,I.os,I.bare,⟨fun b o e n hb S=>?_,fun b o e n hb S=>?_,I.base.free,fun b o e S=>?_,I.base.tups,I.base.frzs,I.base.tbls⟩,⟨m,hn.sameBut G (Ne.symm (cne x c O)),fun j y v' L Y e3=>?_⟩,fun y c' e=>?_,I.free,I.freeC,fun p hp=>?_,J ⟨oc,a2,I.freeC x c O⟩ G,by simpa using I.len⟩ ⟨c,G,.inr O⟩
  .exact(G.2 b (Nat.ne_of_lt (Nat.lt_of_lt_of_le (Heap.lt_size e) (I.ok.cab x c hfn O)))).trans (I.base.keep b o e n hb S)
  .obtain⟨sl,L⟩:=I.base.slot b o e n hb S
   exact⟨sl,(G.2 b (Nat.ne_of_lt (Nat.lt_of_lt_of_le (Heap.lt_size e) (I.ok.cab x c hfn O)))).trans L⟩
  .obtain⟨o',L⟩:=I.base.there b o e S
   exact⟨o',(G.2 b (Nat.ne_of_lt (Nat.lt_of_lt_of_le (Heap.lt_size e) (I.ok.cab x c hfn O)))).trans L⟩
  .by_cases hj:j=i
   .subst hj
    rw[hi]at L;cases L
    rw[getElem?_set_self a0]at Y
    cases Y
    exact⟨u,r,.inr ⟨.inl Z,c,O,a4⟩⟩
   .rw[getElem?_set_ne (Ne.symm hj)]at Y
    obtain⟨u',r',q⟩:=hl j y v' L Y e3
    refine⟨u',r',?_⟩
    rcases q with q|⟨k,c',e,z'⟩
    .exact .inl q
    .refine .inr ⟨k,c',e,z'.sameBut G ?_⟩
     rintro rfl
     exact hj (zu7 hN L (I.ok.inj _ _ _ e O ▸ hi))
  .by_cases hcc:c'=c
   .subst hcc;exact⟨_,a4⟩
   .obtain⟨w2,z2⟩:=I.cell y c' e
    exact⟨w2,z2.sameBut G hcc⟩
  .obtain⟨e,n,ne,nf,d⟩:=I.pin p hp
   refine⟨(G.2 p.1 ?_).trans e,n,ne,nf,d⟩
   intro q
   rw[q,a2]at e
   have q':oc=p.2:=Option.some.inj e
   exact d w' (by rw[<-q'];exact a1)
theorem E5 {M:Model}{A:Around}{E:Value->Shared->Prop}{i:Nat}{x:Str}{v:V}{u:Value}{Q:Unit->Shared->Prop}(I:Inv X pins σ H s)(z:X.N.Nodup)(hi:X.N[i]? =some x)(j:Loc X.env.scope x)(r:RelV v u)
  (h:∀ s',Inv X pins (σ.set i (some v)) H s'->Q () s') (q:X.fn x=true\/X.env.scope.names.lookup x=some .local:=by first|exact .inl rfl|exact .inr rfl|assumption):wpAny M A (storeName X.env x u) Q E s:=
 D8 I z hi j r (fun s' G _=>h s' G) q
theorem Inv.call' {s':Shared}{ch:List Addr}(I:Inv X pins σ H s)(j:s'.os=s.os)(u:Un (frs X.stack) ch H H' s.heap s'.heap)(hok:HOk X.prog X.w H' s'.heap)(q:AllBare s'.gens)
  (i:∀ b∈ch,(b∈X.ex\/X.s₀.heap.objs.size<=b)/\b≠X.env.locals/\(∀ x c,X.env.cells.lookup x=some c->c≠b)/\∀ p∈X.pn++pins,p.1≠b):Inv X pins σ H' s':=by
 obtain⟨h',g',d',t',o'⟩:=s'
 have e:o'=s.os:=j
 subst e
 exact I.call (g':=g') (t':=t') (d':=d') u hok q i
end
abbrev XK:=Value->Option Addr->Hp->Prop
abbrev St:=List (Option V)
abbrev VK:=V->Hp->Prop
abbrev TE:=St->Hp->VK->Prop
abbrev TT:=St->Hp->(Bool->Hp->Prop)->Prop
abbrev TA:=St->Hp->(List V->Hp->Prop)->Prop
structure Ends where
 nx:St->Hp->Prop
 rt:VK
 bk:St->Hp->Prop:=fun _ _=>False
 ct:St->Hp->Prop:=fun _ _=>False
abbrev TS:=Ends->St->Hp->Prop
def EP (X:Cx)(pins:List (Addr×Obj))(σ:St)(Q:VK)(u:Value)(s':Shared):Prop:=∃ v H',Inv X pins σ H' s'/\RelV v u/\Q v H'
def TP (X:Cx)(pins:List (Addr×Obj))(σ:St)(Q:Bool->Hp->Prop)(b:Bool)(s':Shared):Prop:=∃ H',Inv X pins σ H' s'/\Q b H'
def AP (X:Cx)(pins:List (Addr×Obj))(σ:St)(Q:List V->Hp->Prop)(us:List Value)(s':Shared):Prop:=∃ vs H',Inv X pins σ H' s'/\Vals vs us/\Q vs H'
def SP (X:Cx)(pins:List (Addr×Obj))(D:Ends)(f:Flow)(s':Shared):Prop:=
 match f with
 | .next=>∃ σ' H',Inv X pins σ' H' s'/\D.nx σ' H'
 | .brk=>∃ σ' H',Inv X pins σ' H' s'/\D.bk σ' H'
 | .cont=>∃ σ' H',Inv X pins σ' H' s'/\D.ct σ' H'
 | .ret u=>∃ v σ' H',Inv X pins σ' H' s'/\RelV v u/\D.rt v H'
def PE (X:Cx)(e:Expr)(t:TE):Prop:=
 ∀(pins:List (Addr×Obj))(s:Shared)(σ:St)(H:Hp)(Q:VK),Inv X pins σ H s->t σ H Q->wpAny (model X.prog X.w) X.A (eval e X.env) (EP X pins σ Q) X.xe s
def PT (X:Cx)(e:Expr)(t:TT):Prop:=
 ∀(pins:List (Addr×Obj))(s:Shared)(σ:St)(H:Hp)(Q:Bool->Hp->Prop),Inv X pins σ H s->t σ H Q->wpAny (model X.prog X.w) X.A (isTrue e X.env (eval e X.env)) (TP X pins σ Q) X.xe s
def PW (X:Cx)(e:Expr)(t:TT):Prop:=
 ∀(whole:Sem Value)(pins:List (Addr×Obj))(s:Shared)(σ:St)(H:Hp)(Q:Bool->Hp->Prop),Inv X pins σ H s->t σ H Q->wpAny (model X.prog X.w) X.A (isTrue e X.env whole) (TP X pins σ Q) X.xe s
theorem PW.pt {X:Cx}{e:Expr}{t:TT}(h:PW X e t):PT X e t:=h _
def PA (X:Cx)(es:List Expr)(t:TA):Prop:=
 ∀(pos:Pos)(pins:List (Addr×Obj))(s:Shared)(σ:St)(H:Hp)(Q:List V->Hp->Prop),Inv X pins σ H s->t σ H Q->wpAny (model X.prog X.w) X.A (spliced (backTo pos (starEach es X.env))) (AP X pins σ Q) X.xe s
def PS (X:Cx)(st:Stmt)(t:TS):Prop:=
 ∀(pins:List (Addr×Obj))(s:Shared)(σ:St)(H:Hp)(D:Ends),Inv X pins σ H s->t D σ H->wpAny (model X.prog X.w) X.A (exec st X.env) (SP X pins D) X.xe s
def PSs (X:Cx)(st:List Stmt)(t:TS):Prop:=
 ∀(pins:List (Addr×Obj))(s:Shared)(σ:St)(H:Hp)(D:Ends),Inv X pins σ H s->t D σ H->wpAny (model X.prog X.w) X.A (execs st X.env) (SP X pins D) X.xe s
theorem thn {i:Type}{t:Sem i}{Q j:i->Shared->Prop}{M:Model}{A:Around}{E:Value->Shared->Prop}{s:Shared}(h:wpAny M A t Q E s)(q:∀ a s,Q a s->j a s):wpAny M A t j E s:=wpAny_mono h q fun _ _ x=>x
end
section
section
variable {X:Cx}
def tVar (i:Nat):TE:=fun σ H Q=>∃ v,σ[i]? =some (some v)/\Q v H
def tC (v:V):TE:=fun _ H Q=>Q v H
theorem xi5 {i:Nat}{x:Str}{pos:Pos}(M:X.N[i]? =some x)(J:Vis X.env.scope x)(hd:(x==("__debug__":Str))=false:=by decide)(z:(x==("__classdict__":Str))=false:=by decide):PE X (.Name x pos) (tVar i):=by
 intro pins s σ H Q I h
 obtain⟨v,e,h⟩:=h
 obtain⟨m,hn,L⟩:=I.loc
 obtain⟨u,r,l⟩:=L i x v M e J
 have fin:EP X pins σ Q u s:=⟨v,H,I,r,h⟩
 rcases l with⟨q,hm⟩|⟨q,c,G,j⟩
 .exact wpAny_Name (wpAny_loadName_local I.ok.kind q hn hm fin) hd
 .rcases q with q|q
  .exact wpAny_Name (wpAny_loadName_cell I.ok.kind q G j fin) hd
  .exact wpAny_Name (wpAny_loadName_free I.ok.kind q G j fin z) hd
theorem pe_int {i j pos}:PE X (.Constant (.int i) j pos) (tC (.int i)):=fun _ _ _ H _ I h=>wpAny_Constant_int ⟨.int i,H,I.tok _,⟨_,rfl⟩,h⟩
theorem pe_bl {b j pos}:PE X (.Constant (.bool b) j pos) (tC (.bl b)):=fun _ _ _ H _ I h=>Constant_bool ⟨.bl b,H,I,rfl,h⟩
theorem pe_non {j pos}:PE X (.Constant .none j pos) (tC .non):=fun _ _ _ H _ I h=>Constant_none ⟨.non,H,I,rfl,h⟩
theorem pe_str {x j pos}:PE X (.Constant (.str x) j pos) (tC (.str x)):=fun _ _ _ H _ I h=>Calls.Constant_str ⟨.str x,H,I.tok _,⟨_,rfl⟩,h⟩
def Gl (X:Cx)(x:Str):Prop:=X.env.kindOf x=some .globalImplicit
theorem J1 {E:Value->Shared->Prop}{pins:List (Addr×Obj)}{s:Shared}{σ:St}{H:Hp}{x:Str}{u:Value}{pos:Pos}{Q:Value->Shared->Prop}(I:Inv X pins σ H s)(i:Gl X x)(hm:X.mg x=some u)(h:Q u s)
  (hd:(x==("__debug__":Str))=false:=by decide):wpAny (model X.prog X.w) X.A (eval (.Name x pos) X.env) Q E s:=
 Calls.Name_function_global I.ok.kind i (Calls.loadGlobal_global (by rw[I.ok.glob];exact I.mod.glob.keeps I.bk) hm h) hd
theorem W0 {E:Value->Shared->Prop}{pins:List (Addr×Obj)}{s:Shared}{σ:St}{H:Hp}{x:Str}{u:Value}{pos:Pos}{Q:Value->Shared->Prop}(I:Inv X pins σ H s)(j:Gl X x)(hm:X.mg x=none)(i:bootBuiltins x=some u)(h:Q u s)
  (hn:x≠"__name__":=by decide) (hd:(x==("__debug__":Str))=false:=by decide):wpAny (model X.prog X.w) X.A (eval (.Name x pos) X.env) Q E s:=by
 obtain⟨mb,h1,h2⟩:=I.mod.blt
 exact Calls.Name_function_global I.ok.kind j (Calls.loadGlobal_builtin (by rw[I.ok.glob];exact I.mod.glob.keeps I.bk) hm (by rw[I.ok.blt];exact h1.keeps I.bk) ((h2 x hn).trans i) h) hd
theorem yr4 {x:Str}{v:V}{u:Value}{pos:Pos}(i:Gl X x)(hm:X.mg x=some u)(r:RelV v u)(hd:(x==("__debug__":Str))=false:=by decide):PE X (.Name x pos) (tC v):=
 fun _ _ _ H _ I h=>J1 I i hm ⟨v,H,I,r,h⟩ hd
theorem zu4 {x:Str}{v:V}{u:Value}{pos:Pos}(j:Gl X x)(hm:X.mg x=none)(i:bootBuiltins x=some u)(r:RelV v u)(hn:x≠"__name__":=by decide)(hd:(x==("__debug__":Str))=false:=by decide):PE X (.Name x pos) (tC v):=
 fun _ _ _ H _ I h=>W0 I j hm i ⟨v,H,I,r,h⟩ hn hd
variable {a b:Expr}{ta tb:TE}{pos:Pos}
variable {tA tB':TT}{rest:List Expr}
def tAnd (t u:TT):TT:=fun σ H Q=>t σ H fun c H1=>if c=true then u σ H1 Q else Q false H1
def tOr (t u:TT):TT:=fun σ H Q=>t σ H fun c H1=>if c=true then Q true H1 else u σ H1 Q
def tNot (t:TT):TT:=fun σ H Q=>t σ H fun c H1=>Q (!c) H1
theorem xv8 (ha:PT X a tA):PW X (.BoolOp .And [a] pos) tA:=by
 intro i pins s σ H Q I h
 refine isTrue_and (thn (ha pins s σ H Q I h) fun c s1 e=>?_)
 cases c with
 |true=>exact isTrue_and_nil e
 |false=>exact e
theorem xj5 (ha:PT X a tA):PW X (.BoolOp .Or [a] pos) tA:=by
 intro i pins s σ H Q I h
 refine isTrue_or (thn (ha pins s σ H Q I h) fun c s1 e=>?_)
 cases c with
 |false=>exact isTrue_or_nil e
 |true=>exact e
theorem xj6 (ha:PT X a tA)(G:PW X (.BoolOp .And (b::rest) pos) tB'):PW X (.BoolOp .And (a::b::rest) pos) (tAnd tA tB'):=by
 intro z pins s σ H Q I h
 refine isTrue_and (thn (ha pins s σ H _ I h) fun c s1 i=>?_)
 obtain⟨H1,q,j⟩:=i
 cases c with
 |true=>exact G z pins s1 σ H1 Q q j
 |false=>exact⟨H1,q,j⟩
theorem wz9 (ha:PT X a tA)(G:PW X (.BoolOp .Or (b::rest) pos) tB'):PW X (.BoolOp .Or (a::b::rest) pos) (tOr tA tB'):=by
 intro z pins s σ H Q I h
 refine isTrue_or (thn (ha pins s σ H _ I h) fun c s1 i=>?_)
 obtain⟨H1,q,j⟩:=i
 cases c with
 |true=>exact⟨H1,q,j⟩
 |false=>exact G z pins s1 σ H1 Q q j
theorem xj7 (ha:PT X a tA):PT X (.UnaryOp .Not a pos) (tNot tA):=by
 intro pins s σ H Q I h
 exact isTrue_not (ha pins s σ H (fun c H1=>Q (!c) H1) I h)
def wz2 (ta tb:TE):TE:=fun σ H Q=>ta σ H fun x H1=>∃ c,x= .bl c/\if c=true then tb σ H1 Q else Q (.bl false) H1
def xa8 (ta:TE):TE:=fun σ H Q=>ta σ H fun x H1=>∃ c,x= .bl c/\Q (.bl (!c)) H1
theorem xi7 {op}{t:TE}(h:PE X a t):PE X (.BoolOp op [a] pos) t:=fun pins s σ H Q I hw=>BoolOp_one (h pins s σ H Q I hw)
theorem xh1 (ha:PE X a ta)(G:PE X (.BoolOp .And (b::rest) pos) tb):PE X (.BoolOp .And (a::b::rest) pos) (wz2 ta tb):=by
 intro pins s σ H Q I h
 refine BoolOp_and (thn (ha pins s σ H _ I h) fun v s1 i=>?_)
 obtain⟨x,H1,q,z,j⟩:=i
 obtain⟨c,rfl,j⟩:=j
 cases z
 refine wpAny_truthy_bool ?_
 cases c with
 |true=>exact G pins s1 σ H1 Q q j
 |false=>exact⟨.bl false,H1,q,rfl,j⟩
theorem xi8 (ha:PE X a ta):PE X (.UnaryOp .Not a pos) (xa8 ta):=by
 intro pins s σ H Q I h
 refine UnaryOp_ (thn (ha pins s σ H _ I h) fun v s1 i=>?_)
 obtain⟨x,H1,z,q,j⟩:=i
 obtain⟨c,rfl,j⟩:=j
 cases q
 exact not_of (wpAny_truthy_bool ⟨.bl (!c),H1,z,rfl,j⟩)
def tIf (t:TT)(ta tb:TE):TE:=fun σ H Q=>t σ H fun c H1=>if c=true then ta σ H1 Q else tb σ H1 Q
theorem yf8 {c:Expr}(z:PT X c tA)(ha:PE X a ta)(G:PE X b tb):PE X (.IfExp c a b pos) (tIf tA ta tb):=by
 intro pins s σ H Q I h
 refine wpAny_IfExp (thn (z pins s σ H _ I h) fun d s1 i=>?_)
 obtain⟨H1,q,j⟩:=i
 cases d with
 |true=>exact ha pins s1 σ H1 Q q j
 |false=>exact G pins s1 σ H1 Q q j
end
end
section
def SqL (K:W.Frag)(H:Hp)(a:Addr)(xs:List V):Prop:=
 Rd H a (.lst xs)\/
  ∃(o:Obj)(its:Array Value)(n:Nat),K.lookup a=some o/\o.cls= .type "list"/\o.dict=none/\o.data= .seq its n/\its.size<=sizeLine/\Vals xs its.toList
def SqT (K:W.Frag)(H:Hp)(a:Addr)(xs:List V):Prop:=
 Rd H a (.tup xs)\/
  ∃(o:Obj)(its:Array Value)(n:Nat),K.lookup a=some o/\o.cls= .type "tuple"/\o.data= .seq its n/\its.size<=sizeLine/\Vals xs its.toList
def absV:Value->Option V
 | .none=>some .non
 | .bool b=>some (.bl b)
 | .int i _=>some (.int i)
 | .str x _=>some (.str x)
 | .bytes b _=>some (.byt b)
 | .float b _=>some (.flt b)
 | .ref a=>some (.ref a)
 | .type n=>some (.ty n)
 |_=>none
theorem RelV.abs {x:V}{u:Value}(r:RelV x u):absV u=some x:=by
 cases x with
 |non=>cases r;rfl
 |bl _=>cases r;rfl
 |int _=>obtain⟨t,rfl⟩:=r;rfl
 |str _=>obtain⟨t,rfl⟩:=r;rfl
 |byt _=>obtain⟨t,rfl⟩:=r;rfl
 |flt _=>obtain⟨t,rfl⟩:=r;rfl
 |ref _=>cases r;rfl
 |ty _=>cases r;rfl
theorem RelV.inj {x y:V}{u:Value}(r:RelV x u)(q:RelV y u):x=y:=Option.some.inj (r.abs.symm.trans q.abs)
theorem Vals.inj:∀{xs ys:List V}{us:List Value},Vals xs us->Vals ys us->xs=ys
 |_,_,_,.nil,.nil=>rfl
 |_,_,_,.cons r t,.cons r' t'=>by rw[r.inj r',Vals.inj t t']
section
variable {X:Cx}{pins:List (Addr×Obj)}{σ:St}{H:Hp}{s:Shared}{a:Addr}{xs ys:List V}
theorem SqL.of {K:W.Frag}(h:H a=some (.lst xs)):SqL K H a xs:=.inl (.inl h)
theorem SqT.of {K:W.Frag}(h:H a=some (.tup xs)):SqT K H a xs:=.inl (.inl h)
theorem Inv.list (I:Inv X pins σ H s)(h:SqL X.K H a xs):∃ its:List Value,Vals xs its/\PlainL s.heap a its.toArray/\xs.length<=sizeLine:=by
 rcases h with h|⟨o,its,n,j,q,hd,i,G,r⟩
 .obtain⟨z,its,n,r,e⟩:=h.ok I.hok
  exact⟨its,r,⟨_,n,e,rfl,rfl,rfl⟩,z⟩
 .refine⟨its.toList,r,⟨o,n,I.kIn a o j,q,hd,by simpa using i⟩,?_⟩
  have e:=r.length
  simp only[Array.length_toList]at e
  omega
theorem Inv.tuple (I:Inv X pins σ H s)(h:SqT X.K H a xs):∃ its:List Value,Vals xs its/\IsTup s.heap a its.toArray/\xs.length<=sizeLine:=by
 rcases h with h|⟨o,its,n,j,q,i,G,r⟩
 .obtain⟨z,its,r,p⟩:=h.ok I.hok
  exact⟨its,r,p,z⟩
 .refine⟨its.toList,r,⟨o,I.kIn a o j,q,n,by simpa using i⟩,?_⟩
  have e:=r.length
  simp only[Array.length_toList]at e
  omega
theorem Inv.list_inj (I:Inv X pins σ H s)(h:SqL X.K H a xs)(h':SqL X.K H a ys):xs=ys:=by
 obtain⟨its,r,⟨o,n,e,_,_,d⟩,_⟩:=I.list h
 obtain⟨its',j,⟨o',n',i,_,_,d'⟩,_⟩:=I.list h'
 rw[e]at i;cases i
 rw[d]at d'
 injection d' with q _
 have:its=its':=by simpa using congrArg Array.toList q
 subst this
 exact r.inj j
theorem Inv.tuple_inj (I:Inv X pins σ H s)(h:SqT X.K H a xs)(h':SqT X.K H a ys):xs=ys:=by
 obtain⟨its,r,⟨o,e,_,n,d⟩,_⟩:=I.tuple h
 obtain⟨its',j,⟨o',i,_,n',d'⟩,_⟩:=I.tuple h'
 rw[e]at i;cases i
 rw[d]at d'
 injection d' with q _
 have:its=its':=by simpa using congrArg Array.toList q
 subst this
 exact r.inj j
end
abbrev Cx.wish (X:Cx)(E:Value->Shared->Prop):Cx:={ X with xe:=E }
abbrev Cx.nox (X:Cx):Cx:=X.wish fun _ _=>False
theorem Cx.Ok.wish {X:Cx}(ok:X.Ok)(E:Value->Shared->Prop):(X.wish E).Ok:=
 ⟨ok.mod,ok.kind,ok.glob,ok.blt,ok.above,ok.inj,ok.has,ok.cab,ok.hd,ok.frames,ok.stk,ok.exf,ok.bs,ok.bsz,ok.noex,ok.exfs,ok.funs,ok.frf⟩
theorem Cx.Ok.unwish {X:Cx}{E:Value->Shared->Prop}(ok:(X.wish E).Ok):X.Ok:=
 ⟨ok.mod,ok.kind,ok.glob,ok.blt,ok.above,ok.inj,ok.has,ok.cab,ok.hd,ok.frames,ok.stk,ok.exf,ok.bs,ok.bsz,ok.noex,ok.exfs,ok.funs,ok.frf⟩
section
variable {X:Cx}{pins:List (Addr×Obj)}{σ:St}{H:Hp}{s:Shared}{E:Value->Shared->Prop}
theorem Inv.wish (I:Inv X pins σ H s)(E:Value->Shared->Prop):Inv (X.wish E) pins σ H s:=⟨I.ok.wish E,I.os,I.bare,I.base,I.loc,I.cell,I.free,I.freeC,I.pin,I.hok,I.len⟩
theorem Inv.unwish (I:Inv (X.wish E) pins σ H s):Inv X pins σ H s:=⟨I.ok.unwish,I.os,I.bare,I.base,I.loc,I.cell,I.free,I.freeC,I.pin,I.hok,I.len⟩
theorem SP.unwish {D:Ends}{f:Flow}{s':Shared}(h:SP (X.wish E) pins D f s'):SP X pins D f s':=by
 cases f with
 |next=>obtain⟨i,H',I,q⟩:=h;exact⟨i,H',I.unwish,q⟩
 |brk=>obtain⟨i,H',I,q⟩:=h;exact⟨i,H',I.unwish,q⟩
 |cont=>obtain⟨i,H',I,q⟩:=h;exact⟨i,H',I.unwish,q⟩
 |ret u=>obtain⟨v,i,H',I,r,q⟩:=h;exact⟨v,i,H',I.unwish,r,q⟩
theorem PSs.nox {st:List Stmt}{t:TS}(h:PSs X.nox st t):PSs X st t:=fun pins s σ H D I hw=>
 wpAny_mono (h pins s σ H D (I.wish _) hw) (fun _ _ q=>q.unwish) fun _ _ z=>False.elim z
end
section
variable {X:Cx}{st:Stmt}{rest:List Stmt}{t u:TS}{e:Expr}{te:TE}{pos:Pos}
def xa9:TS:=fun D σ H=>D.nx σ H
def tSeq (t u:TS):TS:=fun D σ H=>t { D with nx:=u D } σ H
theorem pss_nil:PSs X [] xa9:=fun _ _ σ H _ I h=>wpAny_execs_nil ⟨σ,H,I,h⟩
theorem zd5 (h1:PS X st t)(h2:PSs X rest u):PSs X (st::rest) (tSeq t u):=by
 intro pins s σ H D I h
 refine wpAny_execs_cons (thn (h1 pins s σ H { D with nx:=u D } I h) fun f s1 q=>?_)
 cases f with
 |next=>
  obtain⟨i,H',j,q⟩:=q
  exact h2 pins s1 i H' D j q
 |ret v=>exact q
 |brk=>exact q
 |cont=>exact q
theorem ys0 (h1:PS X st t):PSs X [st] t:=by
 intro pins s σ H D I h
 refine wpAny_execs_cons (thn (h1 pins s σ H D I h) fun f s1 q=>?_)
 cases f with
 |next=>exact wpAny_execs_nil q
 |ret v=>exact q
 |brk=>exact q
 |cont=>exact q
theorem Inv.quiet {pins:List (Addr×Obj)}{σ:St}{H:Hp}{s:Shared}(I:Inv X pins σ H s):interactive X.env=false:=by simp[interactive,I.ok.kind]
def wz0 (te:TE):TS:=fun D σ H=>te σ H fun _ H1=>D.nx σ H1
theorem zu1 (q:PE X e te)(j:swapsWith e none pos.line X.env=pure false:=by rfl):PS X (.Expr e pos) (wz0 te):=by
 intro pins s σ H D I h
 exact wpAny_Expr_any (thn (q pins s σ H _ I h) fun v s1 ⟨x,H1,z,G,i⟩=>⟨σ,H1,z,i⟩) I.quiet j
def tRet (te:TE):TS:=fun D σ H=>te σ H D.rt
theorem ys3 (q:PE X e te):PS X (.Return (some e) pos) (tRet te):=by
 intro pins s σ H D I h
 exact wpAny_Return_some (thn (q pins s σ H _ I h) fun v s1 ⟨x,H1,z,i,j⟩=>⟨x,σ,H1,z,i,j⟩)
def tIfS (c:TT)(t u:TS):TS:=fun D σ H=>c σ H fun b H1=>if b=true then t D σ H1 else u D σ H1
theorem xj9 {c:Expr}{a b:List Stmt}{tc:TT}(z:PT X c tc)(ha:PSs X a t)(G:PSs X b u):PS X (.If c a b pos) (tIfS tc t u):=by
 intro pins s σ H D I h
 refine wpAny_If (thn (z pins s σ H _ I h) fun d s1 i=>?_)
 obtain⟨H1,q,j⟩:=i
 cases d with
 |true=>exact ha pins s1 σ H1 D q j
 |false=>exact G pins s1 σ H1 D q j
def xm4:TS:=fun _ _ _=>False
theorem ps_never:PS X st xm4:=fun _ _ _ _ _ _ h=>h.elim
end
abbrev TG:=V->St->Hp->(St->Hp->Prop)->Prop
abbrev TGs:=List V->St->Hp->(St->Hp->Prop)->Prop
def PG (X:Cx)(target:Expr)(t:TG):Prop:=
 ∀(pins:List (Addr×Obj))(s:Shared)(σ:St)(H:Hp)(v:V)(u:Value)(Q:St->Hp->Prop),Inv X pins σ H s->RelV v u->t v σ H Q->
  wpAny (model X.prog X.w) X.A (assign target X.env u) (fun _ s'=>∃ σ' H',Inv X pins σ' H' s'/\Q σ' H') X.xe s
def PGs (X:Cx)(ts:List Expr)(t:TGs):Prop:=
 ∀(pins:List (Addr×Obj))(s:Shared)(σ:St)(H:Hp)(vs:List V)(us:List Value)(Q:St->Hp->Prop),Inv X pins σ H s->Vals vs us->t vs σ H Q->
  wpAny (model X.prog X.w) X.A (assignInOrder ((assignEach ts X.env).map (·.2)) us) (fun _ s'=>∃ σ' H',Inv X pins σ' H' s'/\Q σ' H') X.xe s
abbrev TSet:=V->V->V->Hp->(Hp->Prop)->Prop
def PSet (X:Cx)(t:TSet):Prop:=
 ∀(pins:List (Addr×Obj))(s:Shared)(σ:St)(H:Hp)(o i v:V)(ov iv u:Value)(Q:Hp->Prop),Inv X pins σ H s->RelV o ov->RelV i iv->RelV v u->t o i v H Q->
  wpAny (model X.prog X.w) X.A (setItem ov iv u) (fun _ s'=>∃ H',Inv X pins σ H' s'/\Q H') X.xe s
abbrev TIp:=V->V->Hp->VK->Prop
def PIp (X:Cx)(op:Operator)(t:TIp):Prop:=
 ∀(pins:List (Addr×Obj))(s:Shared)(σ:St)(H:Hp)(x y:V)(v u:Value)(Q:VK),Inv X pins σ H s->RelV x v->RelV y u->t x y H Q->
  wpAny (model X.prog X.w) X.A (inplaceOp op v u) (EP X pins σ Q) X.xe s
section
variable {X:Cx}{pos:Pos}
def J3 (i:Nat):TG:=fun v σ H Q=>Q (σ.set i (some v)) H
theorem u0 {i:Nat}{x:Str}(z:X.N.Nodup)(hi:X.N[i]? =some x)(j:Loc X.env.scope x)(q:X.fn x=true\/X.env.scope.names.lookup x=some .local:=by first|exact .inl rfl|exact .inr rfl|assumption):PG X (.Name x pos) (J3 i):=by
 intro pins s σ H v u Q I r h
 exact wpAny_assign_Name (E5 I z hi j r (fun s' G=>⟨_,H,G,h⟩) q)
def gNil:TGs:=fun vs σ H Q=>vs=[]/\Q σ H
def xd9 (t:TG)(u:TGs):TGs:=fun vs σ H Q=>∃ v r,vs=v::r/\t v σ H fun σ' H'=>u r σ' H' Q
theorem W4:PGs X [] gNil:=by
 intro pins s σ H vs us Q I r h
 obtain⟨e,h⟩:=h
 subst e
 cases r
 exact assignInOrder_nil ⟨σ,H,I,h⟩
theorem k6 {e:Expr}{es:List Expr}{t:TG}{u:TGs}(h1:PG X e t)(h2:PGs X es u)
  (G:(assignEach (e::es) X.env).map (·.2)=assign e X.env::(assignEach es X.env).map (·.2):=by rfl):PGs X (e::es) (xd9 t u):=by
 intro pins s σ H vs us Q I r h
 obtain⟨v,M,J,h⟩:=h
 subst J
 cases r with
 |cons r q=>
  rw[G]
  refine assignInOrder_cons (thn (h1 pins s σ H _ _ _ I r h) fun _ s1 i=>?_)
  obtain⟨j,H1,L,z⟩:=i
  exact h2 pins s1 j H1 _ _ Q L q z
def gTup (K:W.Frag)(n:Nat)(t:TGs):TG:=fun v σ H Q=>∃ a xs,v= .ref a/\SqT K H a xs/\xs.length=n/\t xs σ H Q
theorem P2 {es:List Expr}{k:Nat}{t:TGs}{n:Nat}(L:X.calm=true)(h:PGs X es t)
  (hn:(assignEach es X.env).length=n:=by rfl) (i:(assignEach es X.env).findIdx? (·.1)=none:=by rfl):PG X (.Tuple es k pos) (gTup X.K n t):=by
 intro pins s σ H v u Q I r hw
 obtain⟨a,xs,M,G,J,hw⟩:=hw
 subst M
 cases r
 obtain⟨its,j,z,O⟩:=I.tuple G
 refine assign_Tuple_tuple (I.ok.hd L) z (by simp[hn,<-J,j.length]) i fun h' q=>?_
 have N:Inv X pins σ H { s with heap:=h' }:=I.kept (t':=s.toks) fun b o e=>q b o (Nat.ne_of_lt (Heap.lt_size e)) e
 exact h pins _ σ H xs _ Q N (by simpa using j) hw
def gSub (to ti:TE)(t:TSet):TG:=fun v σ H Q=>to σ H fun o H1=>ti σ H1 fun i H2=>t o i v H2 fun H3=>Q σ H3
theorem zc0 {o i:Expr}{to G:TE}{t:TSet}(U:PE X o to)(hi:PE X i G)(S:PSet X t)
  (ha:∀ v,assign (.Subscript o i pos) X.env v=(do
   let q ← holding [v] (eval o X.env)
   let z ← holding [v,q] (eval i X.env)
   standAt pos
   holding [v,q,z] (setItem q z v)
   release [v,q,z] []):=by intro _;rfl):PG X (.Subscript o i pos) (gSub to G t):=by
 intro pins s σ H v u Q I r h
 rw[ha]
 refine wpAny_bind (wpAny_holding (thn (U pins s σ H _ I h) fun q s1 j=>?_))
 obtain⟨x,H1,I1,L,O⟩:=j
 refine wpAny_bind (wpAny_holding (thn (hi pins s1 σ H1 _ I1 O) fun z s2 j=>?_))
 obtain⟨y,H2,Z,J,N⟩:=j
 refine wpAny_bind (wpAny_standAt (wpAny_bind (wpAny_holding (thn (S pins s2 σ H2 x y v q z u _ Z L J r N) fun _ s3 j=>?_))))
 obtain⟨H3,Y,M⟩:=j
 exact wpAny_release ⟨σ,H3,Y,M⟩
def tAsg (te:TE)(g:TG):TS:=fun D σ H=>te σ H fun x H1=>g x σ H1 D.nx
theorem zx8 {tg e:Expr}{te:TE}{g:TG}(L:PE X e te)(J:PG X tg g)(G:swapsWithSole [tg] e pos.line X.env=pure false:=by rfl)(hw:swappedStores [tg] e X.env=pure none:=by rfl)
  (h1:(assignEach [tg] X.env).map (·.2)=[assign tg X.env]:=by rfl):PS X (.Assign [tg] e pos) (tAsg te g):=by
 intro pins s σ H D I h
 refine wpAny_Assign_stores (thn (L pins s σ H _ I h) fun v s1 i=>?_) G hw
 obtain⟨x,H1,M,j,z⟩:=i
 rw[h1]
 exact thn (J pins s1 σ H1 x v _ M j z) fun _ s2 q=>q
theorem xz6 {i:Nat}{x:Str}{e:Expr}{te:TE}{pos':Pos}(O:X.N.Nodup)(hi:X.N[i]? =some x)(G:Loc X.env.scope x)(M:PE X e te)(J:swapsWith e (some (.Name x pos')) pos.line X.env=pure false:=by rfl)(L:X.fn x=true\/X.env.scope.names.lookup x=some .local:=by first|exact .inl rfl|exact .inr rfl|assumption):
  PS X (.Assign [.Name x pos'] e pos) (tAsg te (J3 i)):=by
 intro pins s σ H D I h
 refine wpAny_Assign_Name (thn (M pins s σ H _ I h) fun v s1 j=>?_) J
 obtain⟨y,H1,U,q,z⟩:=j
 exact E5 U O hi G q (fun s2 S=>⟨_,H1,S,z⟩) L
def tAug (i:Nat)(te:TE)(ti:TIp):TS:=fun D σ H=>∃ x,σ[i]? =some (some x)/\te σ H fun y H1=>ti x y H1 fun z H2=>D.nx (σ.set i (some z)) H2
theorem xi1 {i:Nat}{x:Str}{e:Expr}{te:TE}{op:Operator}{S:TIp}{pos':Pos}(hN:X.N.Nodup)(hi:X.N[i]? =some x)(O:Loc X.env.scope x)(he:PE X e te)(ho:PIp X op S)(hf:X.fn x=true\/X.env.scope.names.lookup x=some .local:=by first|exact .inl rfl|exact .inr rfl|assumption):
  PS X (.AugAssign (.Name x pos') op e pos) (tAug i te S):=by
 intro pins s σ H D I h
 obtain⟨v,e1,h⟩:=h
 obtain⟨m,hn,hl⟩:=I.loc
 have M:Vis X.env.scope x:=by rcases O with k|k;exact .inl k;exact .inr (.inl k)
 obtain⟨u,r,l⟩:=hl i x v hi e1 M
 refine wpAny_AugAssign_Name ?_
 have go:wpAny (model X.prog X.w) X.A (eval e X.env) (fun w L=>wpAny (model X.prog X.w) X.A (inplaceOp op u w) (fun r J=>wpAny (model X.prog X.w) X.A (storeName X.env x r) (fun _=>SP X pins D .next) X.xe J) X.xe L) X.xe s:=by
  refine thn (he pins s σ H _ I h) fun w s1 j=>?_
  obtain⟨y,H1,I1,Y,q1⟩:=j
  refine thn (ho pins s1 σ H1 v y u w _ I1 r Y q1) fun z s2 j=>?_
  obtain⟨zv,H2,I2,U,Z⟩:=j
  exact E5 I2 hN hi O U (fun s3 I3=>⟨_,H2,I3,Z⟩) hf
 rcases l with⟨q,hm⟩|⟨q,c,hc,G⟩
 .exact wpAny_loadName_local I.ok.kind q hn hm go
 .rcases q with q|q
  .exact wpAny_loadName_cell I.ok.kind q hc G go
  .rcases O with k|k
   .have:X.env.scope.names.lookup x=some .free:=q
    rw[k]at this;cases this
   .have:X.env.scope.names.lookup x=some .free:=q
    rw[k]at this;cases this
def wz1 (to ti te:TE)(tget:V->V->Hp->VK->Prop)(tip:TIp)(tset:TSet):TS:=fun D σ H=>to σ H fun o H1=>ti σ H1 fun i H2=>tget o i H2 fun x H3=>te σ H3 fun y H4=>tip x y H4 fun z H5=>tset o i z H5 fun H6=>D.nx σ H6
def PGet (X:Cx)(t:V->V->Hp->VK->Prop):Prop:=
 ∀(pins:List (Addr×Obj))(s:Shared)(σ:St)(H:Hp)(o i:V)(ov iv:Value)(Q:VK),Inv X pins σ H s->RelV o ov->RelV i iv->t o i H Q->
  wpAny (model X.prog X.w) X.A (getItem ov iv) (EP X pins σ Q) X.xe s
theorem xu3 {o i e:Expr}{to O te:TE}{z:V->V->Hp->VK->Prop}{L:TIp}{q:TSet}{op:Operator}{tpos:Pos}(ho:PE X o to)(hi:PE X i O)(hg:PGet X z)(he:PE X e te)(hp:PIp X op L)(hs:PSet X q)
  (ha:∀ G J new,augStore i G J new=(do holding [new,G,J] (setItem G J new);release [new,G,J] [];pure .next):=by intros;rfl):PS X (.AugAssign (.Subscript o i tpos) op e pos) (wz1 to O te z L q):=by
 intro pins s σ H D I h
 refine wpAny_AugAssign_SubscriptAny (thn (ho pins s σ H _ I h) fun G s1 j=>?_) ha
 obtain⟨N,H1,I1,U,q1⟩:=j
 refine thn (hi pins s1 σ H1 _ I1 q1) fun J s2 j=>?_
 obtain⟨M,H2,I2,S,q2⟩:=j
 refine thn (hg pins s2 σ H2 N M G J _ I2 U S q2) fun old s3 j=>?_
 obtain⟨x3,H3,I3,r3,q3⟩:=j
 refine thn (he pins s3 σ H3 _ I3 q3) fun v s4 j=>?_
 obtain⟨Z,H4,I4,r4,q4⟩:=j
 refine thn (hp pins s4 σ H4 x3 Z old v _ I4 r3 r4 q4) fun new s5 j=>?_
 obtain⟨Y,H5,I5,r5,q5⟩:=j
 exact thn (hs pins s5 σ H5 N M Y G J new _ I5 U S r5 q5) fun _ s6 ⟨H6,I6,q6⟩=>⟨σ,H6,I6,q6⟩
def ipI (f:Int->Int->Int):TIp:=fun x y H Q=>∃ i j,x= .int i/\y= .int j/\Q (.int (f i j)) H
theorem xy7:PIp X .Add (ipI fun i j=>i+j):=by
 intro pins s σ H x y v u Q I G z h
 obtain⟨i,j,L,J,q⟩:=h
 subst L;subst J
 obtain⟨t,rfl⟩:=G
 obtain⟨t',rfl⟩:=z
 exact iadd_int ⟨.int _,H,I.tok _,⟨_,rfl⟩,q⟩
end
section
variable {X:Cx}{pos:Pos}
def xm3 (c:TT)(tb:TS):TS:=fun D σ H=>∃ W:Nat->St->Hp->Prop,(∃ m,W m σ H)/\∀ m σ H,W m σ H->
 c σ H fun b H1=>if b=true then ∃ N:St->Hp->Prop,(∀ σ' H',N σ' H'->∃ m',m'<m/\W m' σ' H')/\tb { D with nx:=N,ct:=N,bk:=D.nx } σ H1 else D.nx σ H1
theorem yf3 {c:Expr}{body:List Stmt}{tc:TT}{tb:TS}(Y:PassesOwn (model X.prog X.w) X.A X.env X.xe)(hc:PT X c tc)(hb:PSs X body tb):PS X (.While c body [] pos) (xm3 tc tb):=by
 intro pins s σ H D I h
 obtain⟨W,⟨m0,w0⟩,turn⟩:=h
 refine wpAny_While (codeAny_whileLoop (fun n s'=>∃ q H',Inv X pins q H' s'/\W n q H') ?_ m0 ⟨σ,H,I,w0⟩)
 rintro n s1 ⟨j,H1,I1,w1⟩
 refine wpAny_passesOwn Y (thn (hc pins s1 j H1 _ I1 (turn n j H1 w1)) fun b s2 z=>?_)
 obtain⟨H2,I2,L⟩:=z
 cases b with
 |true=>
  obtain⟨N,Z,L⟩:=L
  rw[if_pos rfl]
  refine wpAny_passesOwn Y (thn (hb pins s2 j H2 _ I2 L) fun f s3 J=>?_)
  cases f with
  |next=>
   obtain⟨i,G,U,O⟩:=J
   obtain⟨S,hm,M⟩:=Z i G O
   exact⟨S,hm,i,G,U,M⟩
  |cont=>
   obtain⟨i,G,U,O⟩:=J
   obtain⟨S,hm,M⟩:=Z i G O
   exact⟨S,hm,i,G,U,M⟩
  |brk=>exact J
  |ret v=>exact J
 |false=>
  rw[if_neg Bool.false_ne_true]
  exact wpAny_execs_nil ⟨j,H2,I2,L⟩
end
structure It where
 go:Nat->Hp->Prop
 yld:Nat->Hp->V->Hp->Prop
 stop:Nat->Hp->Prop
def FpOk (X:Cx)(pins:List (Addr×Obj))(H:Hp)(b:Addr):Prop:=
 H b=none/\b≠X.env.locals/\b∉X.fs/\(b∈X.ex\/X.s₀.heap.objs.size<=b)/\(∀ x c,X.env.cells.lookup x=some c->c≠b)/\∀ p∈X.pn++pins,p.1≠b
theorem Inv.fpOk {X:Cx}{pins:List (Addr×Obj)}{σ:St}{H H':Hp}{s:Shared}{b:Addr}(I:Inv X pins σ H s)(i:s.heap.objs.size<=b)(hn:H' b=none):FpOk X pins H' b:=by
 refine⟨hn,Nat.ne_of_gt (Nat.lt_of_lt_of_le I.lt i),I.nofs i,.inr (Nat.le_trans I.sz i),fun x c e z=>?_,fun p j z=>?_⟩
 .obtain⟨v,q⟩:=I.cell x c e
  exact absurd (Nat.lt_of_lt_of_le q.lt (by rw[z];exact i)) (Nat.lt_irrefl _)
 .exact absurd (Nat.lt_of_lt_of_le (Heap.lt_size (I.pin p j).1) (by rw[z];exact i)) (Nat.lt_irrefl _)
structure Turn (P:Program)(w:World)(K:W.Frag)(tg:Expr)(J:It)(fp:List Addr)(it:Addr)(tn:Nat->Heap->Prop):Prop where
 mem:it∈fp
 obj:∀ i h,tn i h->∀ b∈fp,∃ o,h.get? b=some o/\∀ v,o.data≠ .cell v
 keep:∀ i h h',tn i h->(∀ b∈fp,∀ o,h.get? b=some o->h'.get? b=some o)->tn i h'
 item:∀(X:Cx),X.prog=P->X.w=w->X.K=K->X.calm=true->∀(i:Nat)(pins:List (Addr×Obj))(s:Shared)(σ:St)(H:Hp)(E:Value->Shared->Prop),Inv X pins σ H s->(∀ b∈fp,FpOk X pins H b)->tn i s.heap->J.go i H->
  wpAny (model P w) X.A (pyNext (.ref it)) (fun r s1=>∃ u,r=some u/\
   wpAny (model P w) X.A (letOwnedTupleGo tg (.ref it) u) (fun _ s2=>∃ x H',Inv X pins σ H' s2/\RelV x u/\J.yld i H x H'/\tn (i+1) s2.heap/\∀ b∈fp,H' b=none) E s1) E s
 done:∀(X:Cx),X.prog=P->X.w=w->X.K=K->X.calm=true->∀(i:Nat)(pins:List (Addr×Obj))(s:Shared)(σ:St)(H:Hp)(E:Value->Shared->Prop),Inv X pins σ H s->(∀ b∈fp,FpOk X pins H b)->tn i s.heap->J.stop i H->
  wpAny (model P w) X.A (pyNext (.ref it)) (fun r s1=>r=none/\Inv X pins σ H s1) E s
 self:∀(A:Around)(i:Nat)(s:Shared)(Q:Value->Shared->Prop)(E:Value->Shared->Prop),tn i s.heap->Q (.ref it) s->wpAny (model P w) A (pyIter (.ref it)) Q E s
abbrev TI:=St->Hp->(It->Hp->Prop)->Prop
def PIE (X:Cx)(pins:List (Addr×Obj))(σ:St)(tg:Expr)(R:It->Hp->Prop)(itv:Value)(s2:Shared):Prop:=
 ∃(it:Addr)(fp:List Addr)(tn:Nat->Heap->Prop)(J:It)(H':Hp),itv= .ref it/\Inv X pins σ H' s2/\Turn X.prog X.w X.K tg J fp it tn/\tn 0 s2.heap/\(∀ b∈fp,FpOk X pins H' b)/\R J H'
def PI (X:Cx)(tg iter:Expr)(wi:TI):Prop:=
 ∀(pins:List (Addr×Obj))(s:Shared)(σ:St)(H:Hp)(R:It->Hp->Prop),Inv X pins σ H s->wi σ H R->
  wpAny (model X.prog X.w) X.A (eval iter X.env) (fun v s1=>wpAny (model X.prog X.w) X.A (pyIter v) (PIE X pins σ tg R) X.xe s1) X.xe s
theorem yc3 {M:Model}{A:Around}{E:Value->Shared->Prop}{s:Shared}{tg:Expr}{it:Addr}{u:Value}{o:Obj}{n:String}{vs:Array Value}{Q:Unit->Shared->Prop}(j:s.heap.get? it=some o)(q:o.cls= .type n)(hd:o.data= .fields vs)
  (hn:["enumerate","zip","dict_itemiterator","dict_reverseitemiterator","odict_iterator","itertools.zip_longest","itertools.pairwise"].contains n=false) (i:Q () s):wpAny M A (letOwnedTupleGo tg (.ref it) u) Q E s:=by
 unfold letOwnedTupleGo
 cases tg <;> first
  |exact wpAny_pure i
  | (cases u <;> first
    |exact wpAny_pure i
    | (refine wpAny_bind (wpAny_load j ?_)
       rw[q,hd]
       show wpAny M A (if (["enumerate","zip","dict_itemiterator","dict_reverseitemiterator","odict_iterator","itertools.zip_longest","itertools.pairwise"].contains n&&vs[0]? ==some (rawInt _))=true then _ else _) Q E s
       rw[if_neg (by intro h;rw[hn,Bool.false_and]at h;cases h)]
       exact wpAny_pure i))
def Itl (K:W.Frag)(a:Addr):It:=
 ⟨fun i H=>∃ xs x,SqL K H a xs/\xs[i]? =some x,fun i H x H'=>H'=H/\∀ xs,SqL K H a xs->xs[i]? =some x,fun i H=>∃ xs,SqL K H a xs/\xs.length<=i⟩
def Itt (K:W.Frag)(a:Addr):It:=
 ⟨fun i H=>∃ xs x,SqT K H a xs/\xs[i]? =some x,fun i H x H'=>H'=H/\∀ xs,SqT K H a xs->xs[i]? =some x,fun i H=>∃ xs,SqT K H a xs/\xs.length<=i⟩
def Itr (lo:Int)(n:Nat):It:=⟨fun i _=>i<n,fun i H x H'=>H'=H/\x= .int (lo+i),fun i _=>n<=i⟩
theorem yv9 {P:Program}{w:World}{K:W.Frag}{tg:Expr}(a it:Addr):Turn P w K tg (Itl K a) [it] it (fun i h=>h.IsListIter it a i) where
 mem:=by simp
 obj:=fun i h st b j=>by
  have e:b=it:=by simpa using j
  subst e
  obtain⟨o,e,c,d⟩:=st
  exact⟨o,e,fun v z=>by rw[d]at z;cases z⟩
 keep:=fun i h h' st k=>st.at fun o e=>k it (by simp) o e
 item:=by
  intro X O hw S hc i pins s σ H E I J st N
  subst O hw S
  obtain⟨xs,x,G,M⟩:=N
  obtain⟨its,L,p,hz⟩:=I.list G
  obtain⟨u,hu,ru⟩:=L.get M
  obtain⟨f0,f1,f2,Z,Y,U⟩:=J it (by simp)
  refine wpAny_pyNext_list_item st p.isList (x:=u) (by simpa using hu) fun h' q sb=>?_
  have I1:Inv X pins σ H { s with heap:=h' }:=I.turned (t':=s.toks) (fun b o j e=>(sb.2 b j).trans e) f0 f1 Z Y U
  obtain⟨o,e,c,d⟩:=id q
  exact⟨u,rfl,yc3 (s:={ s with heap:=h' }) e c d (by decide) ⟨x,H,I1,ru,⟨rfl,fun ys hy=>by rw[I.list_inj hy G];exact M⟩,q,fun b j=>(J b j).1⟩⟩
 done:=by
  intro X O hw S hc i pins s σ H E I J st N
  subst O hw S
  obtain⟨xs,G,M⟩:=N
  obtain⟨its,L,p,hz⟩:=I.list G
  obtain⟨f0,f1,f2,Z,Y,U⟩:=J it (by simp)
  have hl:=L.length
  exact wpAny_pyNext_list_end (I.ok.hd hc) st p.isList (by simp;omega) fun h' eb=>⟨rfl,I.turned (t':=s.toks) (fun b o j e=>eb b o j e) f0 f1 Z Y U⟩
 self:=fun _ _ _ _ _ st h=>wpAny_pyIter_listiter st h
theorem za6 {P:Program}{w:World}{K:W.Frag}{tg:Expr}(a it:Addr):Turn P w K tg (Itt K a) [it] it (fun i h=>h.IsTupleIter it a i) where
 mem:=by simp
 obj:=fun i h st b j=>by
  have e:b=it:=by simpa using j
  subst e
  obtain⟨o,e,c,d⟩:=st
  exact⟨o,e,fun v z=>by rw[d]at z;cases z⟩
 keep:=fun i h h' st k=>st.at fun o e=>k it (by simp) o e
 item:=by
  intro X O hw S hc i pins s σ H E I J st N
  subst O hw S
  obtain⟨xs,x,G,M⟩:=N
  obtain⟨its,L,p,hz⟩:=I.tuple G
  obtain⟨u,hu,ru⟩:=L.get M
  obtain⟨f0,f1,f2,Z,Y,U⟩:=J it (by simp)
  refine wpAny_pyNext_tuple_item st (show s.heap.IsTuple a its.toArray from p) (x:=u) (by simpa using hu) fun h' q sb=>?_
  have I1:Inv X pins σ H { s with heap:=h' }:=I.turned (t':=s.toks) (fun b o j e=>(sb.2 b j).trans e) f0 f1 Z Y U
  obtain⟨o,e,c,d⟩:=id q
  exact⟨u,rfl,yc3 (s:={ s with heap:=h' }) e c d (by decide) ⟨x,H,I1,ru,⟨rfl,fun ys hy=>by rw[I.tuple_inj hy G];exact M⟩,q,fun b j=>(J b j).1⟩⟩
 done:=by
  intro X O hw S hc i pins s σ H E I J st N
  subst O hw S
  obtain⟨xs,G,M⟩:=N
  obtain⟨its,L,p,hz⟩:=I.tuple G
  obtain⟨f0,f1,f2,Z,Y,U⟩:=J it (by simp)
  have hl:=L.length
  exact wpAny_pyNext_tuple_end (I.ok.hd hc) st (show s.heap.IsTuple a its.toArray from p) (by simp;omega) fun h' eb=>⟨rfl,I.turned (t':=s.toks) (fun b o j e=>eb b o j e) f0 f1 Z Y U⟩
 self:=fun _ _ _ _ _ st h=>wpAny_pyIter_tupleiter st h
theorem za7 {P:Program}{w:World}{K:PySem.W.Frag}{tg:Expr}(it:Addr)(lo:Int)(n:Nat):Turn P w K tg (Itr lo n) [it] it (fun i h=>IsRangeIter h it (lo+(i:Nat)*1) ((n:Int)-(i:Nat)) 1) where
 mem:=by simp
 obj:=fun i h st b j=>by
  have e:b=it:=by simpa using j
  subst e
  exact⟨_,st,fun v z=>by
   have z':Data.fields _=Data.cell v:=z
   cases z'⟩
 keep:=fun i h h' st k=>k it (by simp) _ st
 item:=by
  intro X M hw N L i pins s σ H E I G st J
  subst M hw N
  obtain⟨Z,Y,f2,U,S,O⟩:=G it (by simp)
  have W:=Walks.range (prog:=X.prog) (w:=X.w) (I.ok.hd L) it lo 1 n
  refine W.item i s _ _ J st fun v h' tk hv q kk=>?_
  obtain⟨t,rfl⟩:=hv
  have I1:Inv X pins σ H { s with heap:=h',toks:=tk }:=I.turned (fun b o j e=>kk b o (by simpa using j) e) Z Y U S O
  refine⟨_,rfl,yc3 (s:={ s with heap:=h',toks:=tk }) (n:="range_iterator") q rfl rfl (by decide) ⟨.int (lo+i),H,I1,⟨t,?_⟩,⟨rfl,rfl⟩,q,fun b j=>(G b j).1⟩⟩
  rw[Int.mul_one]
 done:=by
  intro X M hw N L i pins s σ H E I G st J
  subst M hw N
  obtain⟨Z,Y,f2,U,S,O⟩:=G it (by simp)
  exact wpAny_pyNext_range_end (I.ok.hd L) st (by have:n<=i:=J;omega) fun h' eb=>⟨rfl,I.turned (t':=s.toks) (fun b o j e=>eb b o j e) Z Y U S O⟩
 self:=fun _ _ _ _ _ st h=>wpAny_pyIter_rangeiter st h
end
section
section
variable {X:Cx}{tg:Expr}
def ww1 (K:W.Frag)(tl:TE):TI:=fun σ H R=>tl σ H fun x H1=>∃ a,x= .ref a/\(∃ xs,SqL K H1 a xs)/\R (Itl K a) H1
def iTup (K:W.Frag)(tl:TE):TI:=fun σ H R=>tl σ H fun x H1=>∃ a,x= .ref a/\(∃ xs,SqT K H1 a xs)/\R (Itt K a) H1
theorem xu9 {l:Expr}{tl:TE}(L:PE X l tl):PI X tg l (ww1 X.K tl):=by
 intro pins s σ H R I h
 refine thn (L pins s σ H _ I h) fun v s1 i=>?_
 obtain⟨x,H1,j,z,G⟩:=i
 obtain⟨a,e,⟨xs,J⟩,q⟩:=G
 subst e
 cases z
 obtain⟨its,N,p,O⟩:=j.list J
 refine wpAny_pyIter_list p.isList ?_
 refine⟨s1.heap.objs.size,[s1.heap.objs.size],_,_,H1,rfl,j.kept (t':=s1.toks) fun b o e=>Heap.get?_push_of_some _ e,yv9 a _,⟨_,Heap.get?_push_size _ rfl,rfl,rfl⟩,fun b M=>?_,q⟩
 have e:b=s1.heap.objs.size:=by simpa using M
 subst e
 exact j.fpOk (Nat.le_refl _) (j.hok.fresh (Nat.le_refl _))
theorem xi2 {l:Expr}{tl:TE}(L:PE X l tl):PI X tg l (iTup X.K tl):=by
 intro pins s σ H R I h
 refine thn (L pins s σ H _ I h) fun v s1 i=>?_
 obtain⟨x,H1,j,z,G⟩:=i
 obtain⟨a,e,⟨xs,J⟩,q⟩:=G
 subst e
 cases z
 obtain⟨its,N,p,O⟩:=j.tuple J
 refine wpAny_pyIter_tuple (show s1.heap.IsTuple a its.toArray from p) ?_
 refine⟨s1.heap.objs.size,[s1.heap.objs.size],_,_,H1,rfl,j.kept (t':=s1.toks) fun b o e=>Heap.get?_push_of_some _ e,za6 a _,⟨_,Heap.get?_push_size _ rfl,rfl,rfl⟩,fun b M=>?_,q⟩
 have e:b=s1.heap.objs.size:=by simpa using M
 subst e
 exact j.fpOk (Nat.le_refl _) (j.hok.fresh (Nat.le_refl _))
theorem zd3 {pins:List (Addr×Obj)}{σ:St}{H:Hp}{s:Shared}{R:It->Hp->Prop}{E:Value->Shared->Prop}{lo hi:Int}{t u v:Tok}{tk:Nat}(I:Inv X pins σ H s)(h1:-(2^62)<=lo)(h2:lo<2^62)(G:-(2^62)<=hi)(z:hi<2^62)
  (q:R (Itr lo (hi-lo).toNat) H):wpAny (model X.prog X.w) X.A (pyIter (.ref s.heap.objs.size)) (PIE X pins σ tg R) E { s with heap:=s.heap.push { cls:=.type "range",data:=.fields #[.int lo t,.int hi u,.int 1 v] },toks:=tk }:=by
 refine wpAny_pyIter_range (IsRange.new ..) (small_one h1 h2 G z) ?_
 have i:Inv X pins σ H { s with heap:=s.heap.push { cls:=.type "range",data:=.fields #[.int lo t,.int hi u,.int 1 v] },toks:=tk }:=I.kept fun b o e=>Heap.get?_push_of_some _ e
 refine⟨(s.heap.push { cls:=.type "range",data:=.fields #[.int lo t,.int hi u,.int 1 v] }).objs.size,[(s.heap.push { cls:=.type "range",data:=.fields #[.int lo t,.int hi u,.int 1 v] }).objs.size],_,_,H,rfl,
  i.kept (t':=tk) fun b o e=>Heap.get?_push_of_some _ e,za7 _ lo (hi-lo).toNat,?_,fun b j=>?_,q⟩
 .have e1:lo+((0:Nat):Int)*1=lo:=by simp
  have J:(((hi-lo).toNat:Nat):Int)-((0:Nat):Int)=Builtin.Range.rangeSize lo hi 1:=by rw[rangeSize_one];split <;> omega
  show IsRangeIter _ _ (lo+((0:Nat):Int)*1) ((((hi-lo).toNat:Nat):Int)-((0:Nat):Int)) 1
  rw[e1,J]
  exact Heap.get?_push_size _ rfl
 .have e:b=(s.heap.push { cls:=.type "range",data:=.fields #[.int lo t,.int hi u,.int 1 v] }).objs.size:=by simpa using j
  subst e
  exact i.fpOk (Nat.le_refl _) (i.hok.fresh (Nat.le_refl _))
def ww0 (ta:TA):TI:=fun σ H R=>ta σ H fun vs H1=>∃ j:Int,vs=[.int j]/\ -(2^62)<=j/\j<2^62/\R (Itr 0 j.toNat) H1
def wx9 (ta:TA):TI:=fun σ H R=>ta σ H fun vs H1=>∃ i j:Int,vs=[.int i,.int j]/\(-(2^62)<=i/\i<2^62/\ -(2^62)<=j/\j<2^62)/\R (Itr i (j-i).toNat) H1
theorem yr1 {a:Expr}{ta:TA}{p pos:Pos}(N:Gl X "range")(hm:X.mg "range"=none)(ha:PA X [a] ta)(M:starEach [a] X.env=[(false,eval a X.env)]:=by rfl):PI X tg (.Call (.Name "range" p) [a] [] pos) (ww0 ta):=by
 intro pins s σ H R I h
 refine Call_ (W0 I N hm boot_range (PyProof.Rows.callWith_type1 (thn (ha pos pins s σ H _ I h) fun us s1 i=>?_) M rfl))
 obtain⟨vs,H1,O,J,z⟩:=i
 obtain⟨j,e,z,L,q⟩:=z
 subst e
 cases J with
 |cons r G=>
  cases G
  obtain⟨t,rfl⟩:=r
  exact call_range_1 (zd3 O (by omega) (by omega) z L (by simpa using q))
theorem yr0 {a b:Expr}{ta:TA}{p pos:Pos}(Z:Gl X "range")(hm:X.mg "range"=none)(ha:PA X [a,b] ta)(Y:starEach [a,b] X.env=[(false,eval a X.env),(false,eval b X.env)]:=by rfl)(z:starEach [b] X.env=[(false,eval b X.env)]:=by rfl):
  PI X tg (.Call (.Name "range" p) [a,b] [] pos) (wx9 ta):=by
 intro pins s σ H R I h
 refine Call_ (W0 I Z hm boot_range (PyProof.Rows.callWith_type1 (thn (ha pos pins s σ H _ I h) fun us s1 G=>?_) (by rw[Y,z]) (by rw[z];rfl)))
 obtain⟨vs,H1,I1,M,L⟩:=G
 obtain⟨i,j,e,⟨L,U,S,O⟩,q⟩:=L
 subst e
 cases M with
 |cons r J=>
  cases J with
  |cons N J=>
   cases J
   obtain⟨t,rfl⟩:=r
   obtain⟨t',rfl⟩:=N
   exact call_range_2 (zd3 I1 L U S O q)
def tFor (wi:TI)(g:TG)(tb:TS):TS:=fun D σ H=>wi σ H fun J H1=>∃ W:Nat->Nat->St->Hp->Prop,(∃ m,W 0 m σ H1)/\∀ i m σ H,W i m σ H->
 (J.stop i H/\D.nx σ H)\/(J.go i H/\∃ N:St->Hp->Prop,(∀ σ' H',N σ' H'->∃ m',m'<m/\W (i+1) m' σ' H')/\∀ x H',J.yld i H x H'->g x σ H' fun σ2 H2=>tb { D with nx:=N,ct:=N,bk:=D.nx } σ2 H2)
def C9 (fp:List Addr)(h:Heap):List (Addr×Obj):=fp.filterMap fun b=>(h.get? b).map fun o=>(b,o)
theorem Z9 {fp:List Addr}{h:Heap}{b:Addr}{o:Obj}(i:b∈fp)(e:h.get? b=some o):(b,o)∈C9 fp h:=List.mem_filterMap.mpr ⟨b,i,by rw[e];rfl⟩
theorem yq7 {fp:List Addr}{h:Heap}{p:Addr×Obj}(i:p∈C9 fp h):p.1∈fp/\h.get? p.1=some p.2:=by
 obtain⟨b,j,e⟩:=List.mem_filterMap.mp i
 cases q:h.get? b with
 |none=>rw[q]at e;cases e
 |some o=>
  rw[q]at e
  have z:(b,o)=p:=Option.some.inj e
  subst z
  exact⟨j,q⟩
theorem Inv.pinned {pins:List (Addr×Obj)}{σ:St}{H:Hp}{s:Shared}{fp:List Addr}(I:Inv X pins σ H s)(J:∀ b∈fp,FpOk X pins H b)(G:∀ b∈fp,∃ o,s.heap.get? b=some o/\∀ v,o.data≠ .cell v):Inv X (pins++C9 fp s.heap) σ H s:=
 I.pins_of fun p q=>(List.mem_append.mp q).elim (fun z=>I.pin p (mem_append_right _ z)) fun z=>by
  obtain⟨i,e⟩:=yq7 z
  obtain⟨N,M,L,_⟩:=J p.1 i
  obtain⟨o,j,d⟩:=G p.1 i
  rw[e]at j;cases j
  exact⟨e,N,M,L,d⟩
theorem Inv.unpinned {pins pl:List (Addr×Obj)}{σ:St}{H:Hp}{s:Shared}(I:Inv X (pins++pl) σ H s):Inv X pins σ H s:=I.pins_of fun p i=>I.pin p (mem_append_right _ (mem_append_left _ i))
theorem xi0 {iter:Expr}{body:List Stmt}{wi:TI}{g:TG}{tb:TS}{pos:Pos}(hp:PassesOwn (model X.prog X.w) X.A X.env X.xe)(hc:X.calm=true)(hi:PI X tg iter wi)(hg:PG X tg g)(M:PSs X body tb)
  (hs:∀ x,foldedSetIterable iter X.env x=pure x:=by intro _;rfl):PS X (.For tg iter body [] pos) (tFor wi g tb):=by
 intro pins s σ H D I h
 refine wpAny_For (thn (hi pins s σ H _ I h) fun v s1 h1=>thn h1 fun a5 s2 h2=>?_) hs
 obtain⟨it,fp,tn,J,H2,e,I2,T,a2,f2,W,⟨m0,w0⟩,turn⟩:=h2
 subst e
 have G:∀{H':Hp},(∀ b∈fp,H' b=none)->∀ b∈fp,FpOk X pins H' b:=fun hn b M=>⟨hn b M,(f2 b M).2⟩
 refine codeAny_forLoop_any (fun n s'=>∃ i z H',Inv X pins z H' s'/\tn i s'.heap/\(∀ b∈fp,H' b=none)/\W i n z H') ?_ m0 ⟨0,σ,H2,I2,a2,fun b M=>(f2 b M).1,w0⟩
 rintro n s3 ⟨i,q,H3,I3,Z,a0,w3⟩
 rcases turn i n q H3 w3 with⟨stop,qn⟩|⟨go,N,hN,step⟩
 .refine wpAny_passesOwn hp (thn (T.done X rfl rfl rfl hc i pins s3 q H3 X.xe I3 (G a0) Z stop) fun r s4 ⟨hr,I4⟩=>?_)
  subst hr
  exact wpAny_execs_nil ⟨q,H3,I4,qn⟩
 .refine wpAny_passesOwn hp (thn (T.item X rfl rfl rfl hc i pins s3 q H3 X.xe I3 (G a0) Z go) fun r s4 ⟨u,hr,h4⟩=>?_)
  subst hr
  refine wpAny_passesOwn hp (thn h4 fun _ s5 L=>?_)
  obtain⟨x,H5,I5,r5,y5,Y,a3⟩:=L
  have a4:=I5.pinned (G a3) (T.obj _ _ Y)
  refine wpAny_passesOwn hp (thn (hg _ s5 q H5 x u _ a4 r5 (step x H5 y5)) fun _ s6 L=>?_)
  obtain⟨a1,H6,I6,q6⟩:=L
  refine wpAny_passesOwn hp (thn (M _ s6 a1 H6 _ I6 q6) fun f s7 U=>?_)
  have again:∀{j:St}{S:Hp},Inv X (pins++C9 fp s5.heap) j S s7->N j S->∃ m,m<n/\∃ i z H',Inv X pins z H' s7/\tn i s7.heap/\(∀ b∈fp,H' b=none)/\W i m z H':=fun{j S} O n7=>by
   obtain⟨m',hm,w7⟩:=hN j S n7
   refine⟨m',hm,i+1,j,S,O.unpinned,T.keep _ _ _ Y fun b M o e=>(O.pin (b,o) (mem_append_right _ (mem_append_right _ (Z9 M e)))).1,fun b M=>?_,w7⟩
   obtain⟨o,e,d⟩:=T.obj _ _ Y b M
   exact(O.pin (b,o) (mem_append_right _ (mem_append_right _ (Z9 M e)))).2.1
  cases f with
  |next=>obtain⟨j,S,O,n7⟩:=U;exact again O n7
  |cont=>obtain⟨j,S,O,n7⟩:=U;exact again O n7
  |brk=>obtain⟨j,S,O,U⟩:=U;exact⟨j,S,O.unpinned,U⟩
  |ret v=>obtain⟨x7,j,S,O,r7,U⟩:=U;exact⟨x7,j,S,O.unpinned,r7,U⟩
end
end
section
abbrev R2:=V->V->Hp->VK->Prop
def OpR (X:Cx)(f:Value->Value->Sem Value)(r:R2):Prop:=
 ∀(pins:List (Addr×Obj))(s:Shared)(σ:St)(H:Hp)(x y:V)(v u:Value)(Q:VK),Inv X pins σ H s->RelV x v->RelV y u->r x y H Q->
  wpAny (model X.prog X.w) X.A (f v u) (EP X pins σ Q) X.xe s
def UnR (X:Cx)(f:Value->Sem Value)(r:V->Hp->VK->Prop):Prop:=
 ∀(pins:List (Addr×Obj))(s:Shared)(σ:St)(H:Hp)(x:V)(v:Value)(Q:VK),Inv X pins σ H s->RelV x v->r x H Q->
  wpAny (model X.prog X.w) X.A (f v) (EP X pins σ Q) X.xe s
def CallR (X:Cx)(f:Value)(r:List V->Hp->VK->Prop):Prop:=
 ∀(pins:List (Addr×Obj))(s:Shared)(σ:St)(H:Hp)(xs:List V)(us:List Value)(Q:VK),Inv X pins σ H s->Vals xs us->r xs H Q->
  wpAny (model X.prog X.w) X.A (call f us) (EP X pins σ Q) X.xe s
def TruR (X:Cx)(r:V->Hp->(Bool->Hp->Prop)->Prop):Prop:=
 ∀(pins:List (Addr×Obj))(s:Shared)(σ:St)(H:Hp)(x:V)(v:Value)(Q:Bool->Hp->Prop),Inv X pins σ H s->RelV x v->r x H Q->
  wpAny (model X.prog X.w) X.A (truthy v) (TP X pins σ Q) X.xe s
def tOp (r:R2)(ta tb:TE):TE:=fun σ H Q=>ta σ H fun x H1=>tb σ H1 fun y H2=>r x y H2 Q
def tUn (r:V->Hp->VK->Prop)(ta:TE):TE:=fun σ H Q=>ta σ H fun x H1=>r x H1 Q
def rI (C:Int->Int->Prop)(g:Int->Int->V):R2:=fun x y H Q=>∃ i j,x= .int i/\y= .int j/\C i j/\Q (g i j) H
def rI0 (g:Int->Int->V):R2:=fun x y H Q=>∃ i j,x= .int i/\y= .int j/\Q (g i j) H
def rU (g:Int->V):V->Hp->VK->Prop:=fun x H Q=>∃ i,x= .int i/\Q (g i) H
section
variable {X:Cx}{a b c:Expr}{ta tb tc:TE}{pos:Pos}
theorem binT (ha:PE X a ta)(N:PE X b tb){pins:List (Addr×Obj)}{s:Shared}{σ:St}{H:Hp}{R:V->V->Hp->Prop}(I:Inv X pins σ H s)
  (h:ta σ H fun x H1=>tb σ H1 fun y H2=>R x y H2) {Q:Value->Shared->Prop} {f:Value->Value->Sem Value}
  (M:∀ v u s2 x y H2,Inv X pins σ H2 s2->RelV x v->RelV y u->R x y H2->wpAny (model X.prog X.w) X.A (f v u) Q X.xe s2):
  wpAny (model X.prog X.w) X.A (eval a X.env) (fun v q=>wpAny (model X.prog X.w) X.A (eval b X.env) (fun u j=>wpAny (model X.prog X.w) X.A (f v u) Q X.xe j) X.xe q) X.xe s:=by
 refine thn (ha pins s σ H _ I h) fun v s1 i=>?_
 obtain⟨x,H1,S,G,L⟩:=i
 refine thn (N pins s1 σ H1 _ S L) fun u s2 i=>?_
 obtain⟨y,H2,O,z,J⟩:=i
 exact M v u s2 x y H2 O G z J
theorem xt2 {op:Operator}{r:R2}(j:OpR X (binaryOp op) r)(ha:PE X a ta)(z:PE X b tb):PE X (.BinOp a op b pos) (tOp r ta tb):=by
 intro pins s σ H Q I h
 exact wpAny_BinOp (binT ha z I h fun v u s2 x y H2 G rx i q=>j pins s2 σ H2 x y v u Q G rx i q)
theorem wy0 {op:UnaryOp}{r:V->Hp->VK->Prop}(q:UnR X (unaryOp op) r)(ha:PE X a ta):PE X (.UnaryOp op a pos) (tUn r ta):=by
 intro pins s σ H Q I h
 exact UnaryOp_ (thn (ha pins s σ H _ I h) fun v s1 ⟨x,H1,z,i,j⟩=>q pins s1 σ H1 x v Q z i j)
theorem opI {f:Value->Value->Sem Value}{C:Int->Int->Prop}{g:Int->Int->Int}
  (rule:∀(i j:Int)(t u:Tok)(s:Shared)(Q:Value->Shared->Prop)(E:Value->Shared->Prop),C i j->Q (.int (g i j) s.toks) { s with toks:=s.toks+1 }->wpAny (model X.prog X.w) X.A (f (.int i t) (.int j u)) Q E s):
  OpR X f (rI C fun i j=>.int (g i j)):=by
 intro pins s σ H x y v u Q I rx z h
 obtain⟨i,j,rfl,rfl,G,q⟩:=h
 obtain⟨t,rfl⟩:=rx
 obtain⟨t',rfl⟩:=z
 exact rule i j t t' s _ _ G ⟨.int (g i j),H,I.tok _,⟨_,rfl⟩,q⟩
theorem opI0 {f:Value->Value->Sem Value}{g:Int->Int->Int}
  (rule:∀(i j:Int)(t u:Tok)(s:Shared)(Q:Value->Shared->Prop)(E:Value->Shared->Prop),Q (.int (g i j) s.toks) { s with toks:=s.toks+1 }->wpAny (model X.prog X.w) X.A (f (.int i t) (.int j u)) Q E s):
  OpR X f (rI0 fun i j=>.int (g i j)):=by
 intro pins s σ H x y v u Q I rx z h
 obtain⟨i,j,rfl,rfl,q⟩:=h
 obtain⟨t,rfl⟩:=rx
 obtain⟨t',rfl⟩:=z
 exact rule i j t t' s _ _ ⟨.int (g i j),H,I.tok _,⟨_,rfl⟩,q⟩
theorem opB0 {f:Value->Value->Sem Value}{g:Int->Int->Bool}
  (rule:∀(i j:Int)(t u:Tok)(s:Shared)(Q:Value->Shared->Prop)(E:Value->Shared->Prop),Q (.bool (g i j)) s->wpAny (model X.prog X.w) X.A (f (.int i t) (.int j u)) Q E s):
  OpR X f (rI0 fun i j=>.bl (g i j)):=by
 intro pins s σ H x y v u Q I rx z h
 obtain⟨i,j,rfl,rfl,q⟩:=h
 obtain⟨t,rfl⟩:=rx
 obtain⟨t',rfl⟩:=z
 exact rule i j t t' s _ _ ⟨.bl (g i j),H,I,rfl,q⟩
def CDiv (i j:Int):Prop:=0<j/\j<1073741824
def CPow (i j:Int):Prop:=0<=j/\j<=1000000/\i.natAbs<2^64
def CMul (i j:Int):Prop:=(-(2^64)<i/\i<2^64)\/(-(2^64)<j/\j<2^64)
theorem CMul.ok {i j:Int}(h:CMul i j):IntMulOk i j:=by
 rcases h with⟨h1,h2⟩|⟨h1,h2⟩
 .exact .of_left (intBits_le_64 h1 h2)
 .exact .of_right (intBits_le_64 h1 h2)
theorem za5 (k:Nat):(0:Int)<=2^k:=by
 rw[two_pow_cast]
 exact Int.natCast_nonneg _
theorem xg2:OpR X (binaryOp .Add) (rI0 fun i j=>.int (i+j)):=opI0 fun _ _ _ _ _ _ _ q=>add_int q
theorem xh5:OpR X (binaryOp .Sub) (rI0 fun i j=>.int (i-j)):=opI0 fun _ _ _ _ _ _ _ q=>sub_int q
theorem xh9:OpR X (binaryOp .Mult) (rI CMul fun i j=>.int (i*j)):=opI fun _ _ _ _ _ _ _ z q=>mul_int q z.ok
theorem xs6:OpR X (binaryOp .FloorDiv) (rI CDiv fun i j=>.int (i / j)):=opI fun i j _ _ _ _ _ z q=>by
 have h1:(0:Int)<j:=z.1
 have h2:j<1073741824:=z.2
 exact floordiv_int (by omega) (by rw[Int.fdiv_eq_ediv_of_nonneg i (by omega)];exact q) (.inl (PyProof.noPylong_small (by omega)))
theorem xg0:OpR X (binaryOp .Mod) (rI (fun _ j=>0<j) fun i j=>.int (i % j)):=opI fun i j _ _ _ _ _ z q=>by
 have h1:(0:Int)<j:=z
 exact mod_int' (by omega) (by rw[Int.fmod_eq_emod_of_nonneg i (by omega)];exact q)
theorem xh8:OpR X (binaryOp .Pow) (rI CPow fun i j=>.int (i^j.toNat)):=opI fun _ _ _ _ _ _ _ z q=>pow_int_small z.1 z.2.1 z.2.2 q
theorem xh6:OpR X (binaryOp .RShift) (rI (fun _ j=>0<=j) fun i j=>.int (i / 2^j.toNat)):=opI fun i j _ _ _ _ _ z q=>
 rshift_int z (by rw[Int.fdiv_eq_ediv_of_nonneg i (za5 _)];exact q)
theorem xg1:OpR X (binaryOp .BitAnd) (rI0 fun i j=>.int (Builtin.bitAnd i j)):=opI0 fun _ _ _ _ _ _ _ q=>and_int q
theorem unI {f:Value->Sem Value}{g:Int->Int}
  (rule:∀(i:Int)(t:Tok)(s:Shared)(Q:Value->Shared->Prop)(E:Value->Shared->Prop),Q (.int (g i) s.toks) { s with toks:=s.toks+1 }->wpAny (model X.prog X.w) X.A (f (.int i t)) Q E s):
  UnR X f (rU fun i=>.int (g i)):=by
 intro pins s σ H x v Q I rx h
 obtain⟨i,rfl,q⟩:=h
 obtain⟨t,rfl⟩:=rx
 exact rule i t s _ _ ⟨.int (g i),H,I.tok _,⟨_,rfl⟩,q⟩
theorem xn8:UnR X (unaryOp .USub) (rU fun i=>.int (-i)):=unI fun _ _ _ _ _ q=>neg_int q
end
def scal:V->V->Bool
 | .non,.non=>true| .non,.int _=>true| .int _,.non=>true| .non,.bl _=>true| .bl _,.non=>true| .non,.str _=>true| .str _,.non=>true
 | .int _,.int _=>true| .bl _,.bl _=>true| .str _,.str _=>true| .byt _,.byt _=>true
 | .int _,.str _=>true| .str _,.int _=>true| .bl _,.str _=>true| .str _,.bl _=>true
 |_,_=>false
def rEq:R2:=fun x y H Q=>scal x y=true/\Q (.bl (decide (x=y))) H
def rNe:R2:=fun x y H Q=>scal x y=true/\Q (.bl (!decide (x=y))) H
theorem zg2 {i j:Int}:decide (V.int i=V.int j)=(i==j):=by
 rw[Bool.eq_iff_iff]
 simp
theorem yk2 {i j:Bool}:decide (V.bl i=V.bl j)=(i==j):=by
 rw[Bool.eq_iff_iff]
 simp
theorem zg1 {i j:Str}:decide (V.str i=V.str j)=(i==j):=by
 rw[Bool.eq_iff_iff]
 simp
theorem yk1 {i j:Array UInt8}:decide (V.byt i=V.byt j)=(i.toList==j.toList):=by
 rw[Bool.eq_iff_iff]
 cases i
 cases j
 simp
section
variable {X:Cx}{a b c:Expr}{ta tb tc:TE}{pos:Pos}
theorem j8 {pins:List (Addr×Obj)}{σ:St}{H:Hp}{s:Shared}{Q:VK}{k i:Bool}(I:Inv X pins σ H s)(q:Q (.bl k) H)(e:k=i):EP X pins σ Q (.bool i) s:=by
 subst e
 exact⟨.bl k,H,I,rfl,q⟩
theorem zy1:OpR X (compareOp .Eq) rEq:=by
 intro pins s σ H x y v u Q I rx z h
 obtain⟨G,q⟩:=h
 cases x with
 |non=>
  cases rx
  cases y with
  |non=>cases z;exact PySem.EqNone.eq_none_none (j8 I q (by simp))
  |bl j=>cases z;exact PySem.EqNone.eq_none_bool (j8 I q (by simp))
  |int j=>obtain⟨t',rfl⟩:=z;exact PySem.EqNone.eq_none_int (j8 I q (by simp))
  |str j=>obtain⟨t',rfl⟩:=z;exact PySem.EqNone.eq_none_str (j8 I q (by simp))
  |_=>exact absurd (show false=true from G) Bool.false_ne_true
 |bl i=>
  cases rx
  cases y with
  |non=>cases z;exact PySem.EqNone.eq_bool_none (j8 I q (by simp))
  |bl j=>cases z;exact eq_bool (j8 I q yk2)
  |str j=>obtain⟨t',rfl⟩:=z;exact PySem.EqMixed.eq_bool_str (j8 I q (by simp))
  |_=>exact absurd (show false=true from G) Bool.false_ne_true
 |int i=>
  obtain⟨t,rfl⟩:=rx
  cases y with
  |non=>cases z;exact PySem.EqNone.eq_int_none (j8 I q (by simp))
  |int j=>obtain⟨t',rfl⟩:=z;exact eq_int (j8 I q zg2)
  |str j=>obtain⟨t',rfl⟩:=z;exact PySem.EqMixed.eq_int_str (j8 I q (by simp))
  |_=>exact absurd (show false=true from G) Bool.false_ne_true
 |str i=>
  obtain⟨t,rfl⟩:=rx
  cases y with
  |non=>cases z;exact PySem.EqNone.eq_str_none (j8 I q (by simp))
  |bl j=>cases z;exact PySem.EqMixed.eq_str_bool (j8 I q (by simp))
  |int j=>obtain⟨t',rfl⟩:=z;exact PySem.EqMixed.eq_str_int (j8 I q (by simp))
  |str j=>obtain⟨t',rfl⟩:=z;exact eq_str (j8 I q zg1)
  |_=>exact absurd (show false=true from G) Bool.false_ne_true
 |byt i=>
  obtain⟨t,rfl⟩:=rx
  cases y with
  |byt j=>obtain⟨t',rfl⟩:=z;exact W.eq_bytes (j8 I q yk1)
  |_=>exact absurd (show false=true from G) Bool.false_ne_true
 |_=>cases y <;> exact absurd (show false=true from G) Bool.false_ne_true
theorem zi2:OpR X (compareOp .NotEq) rNe:=by
 intro pins s σ H x y v u Q I rx z h
 obtain⟨G,q⟩:=h
 cases x with
 |non=>
  cases rx
  cases y with
  |non=>cases z;exact PySem.EqNone.ne_none_none (j8 I q (by simp))
  |bl j=>cases z;exact PySem.EqNone.ne_none_bool (j8 I q (by simp))
  |int j=>obtain⟨t',rfl⟩:=z;exact PySem.EqNone.ne_none_int (j8 I q (by simp))
  |str j=>obtain⟨t',rfl⟩:=z;exact PySem.EqNone.ne_none_str (j8 I q (by simp))
  |_=>exact absurd (show false=true from G) Bool.false_ne_true
 |bl i=>
  cases rx
  cases y with
  |non=>cases z;exact PySem.EqNone.ne_bool_none (j8 I q (by simp))
  |bl j=>cases z;exact ne_bool (j8 I q (congrArg not yk2))
  |str j=>obtain⟨t',rfl⟩:=z;exact PySem.EqMixed.ne_bool_str (j8 I q (by simp))
  |_=>exact absurd (show false=true from G) Bool.false_ne_true
 |int i=>
  obtain⟨t,rfl⟩:=rx
  cases y with
  |non=>cases z;exact PySem.EqNone.ne_int_none (j8 I q (by simp))
  |int j=>obtain⟨t',rfl⟩:=z;exact ne_int (j8 I q (congrArg not zg2))
  |str j=>obtain⟨t',rfl⟩:=z;exact PySem.EqMixed.ne_int_str (j8 I q (by simp))
  |_=>exact absurd (show false=true from G) Bool.false_ne_true
 |str i=>
  obtain⟨t,rfl⟩:=rx
  cases y with
  |non=>cases z;exact PySem.EqNone.ne_str_none (j8 I q (by simp))
  |bl j=>cases z;exact PySem.EqMixed.ne_str_bool (j8 I q (by simp))
  |int j=>obtain⟨t',rfl⟩:=z;exact PySem.EqMixed.ne_str_int (j8 I q (by simp))
  |str j=>obtain⟨t',rfl⟩:=z;exact ne_str (j8 I q (congrArg not zg1))
  |_=>exact absurd (show false=true from G) Bool.false_ne_true
 |byt i=>
  obtain⟨t,rfl⟩:=rx
  cases y with
  |byt j=>obtain⟨t',rfl⟩:=z;exact W.ne_bytes (j8 I q (congrArg not yk1))
  |_=>exact absurd (show false=true from G) Bool.false_ne_true
 |_=>cases y <;> exact absurd (show false=true from G) Bool.false_ne_true
theorem zp6:OpR X (compareOp .Lt) (rI0 fun i j=>.bl (decide (i<j))):=opB0 fun _ _ _ _ _ _ _ q=>lt_int q
theorem yq1:OpR X (compareOp .Gt) (rI0 fun i j=>.bl (decide (j<i))):=opB0 fun _ _ _ _ _ _ _ q=>gt_int q
theorem K5:OpR X (compareOp .GtE) (rI0 fun i j=>.bl (decide (j<=i))):=opB0 fun _ _ _ _ _ _ _ q=>ge_int q
theorem OpR.or {f:Value->Value->Sem Value}{r j:R2}(h:OpR X f r)(h':OpR X f j):OpR X f (fun x y H Q=>r x y H Q\/j x y H Q):=by
 intro pins s σ H x y v u Q I rx i q
 rcases q with q|q
 .exact h pins s σ H x y v u Q I rx i q
 .exact h' pins s σ H x y v u Q I rx i q
theorem o0 (b:Expr){op:CmpOp}(h:op≠ .In:=by decide)(h2:op≠ .NotIn:=by decide):behindInMarks op b=false:=by
 have j:(op==CmpOp.In)=false:=by cases op <;> first|rfl|exact absurd rfl h
 have i:(op==CmpOp.NotIn)=false:=by cases op <;> first|rfl|exact absurd rfl h2
 cases b <;> simp[behindInMarks,j,i]
theorem yr5 {op:CmpOp}{r:R2}(j:OpR X (compareOp op) r)(ha:PE X a ta)(z:PE X b tb)(hm:behindInMarks op b=false):PE X (.Compare a [op] [b] pos) (tOp r ta tb):=by
 intro pins s σ H Q I h
 exact wpAny_Compare1 (binT ha z I h fun v u s2 x y H2 G rx i q=>j pins s2 σ H2 x y v u Q G rx i q) hm
def xa6 (t:TE):TT:=fun σ H Q=>t σ H fun x H'=>∃ k,x= .bl k/\Q k H'
theorem yt7 {op:CmpOp}{r:R2}(M:OpR X (compareOp op) r)(ha:PE X a ta)(N:PE X b tb)(hm:behindInMarks op b=false):PT X (.Compare a [op] [b] pos) (xa6 (tOp r ta tb)):=by
 intro pins s σ H Q I h
 refine wpAny_isTrue_Compare1 (thn (ha pins s σ H _ I h) fun v s1 ⟨x,H1,U,q,L⟩=>thn (N pins s1 σ H1 _ U L) fun u s2 ⟨y,H2,S,j,J⟩=>
  thn (M pins s2 σ H2 x y v u _ S q j J) fun c Z ⟨z,Y,O,i,k,e,G⟩=>?_) hm
 subst e
 cases i
 exact wpAny_truthy_bool ⟨Y,O,G⟩
def TruV (K:W.Frag)(x:V)(H:Hp)(k:Bool):Prop:=
 match x with
 | .non=>k=false
 | .bl b=>k=b
 | .int i=>k=(i != 0)
 | .str y=>y.length<=sizeLine/\k=((y.length:Int) != 0)
 | .byt y=>y.size<=sizeLine/\k=((y.size:Int) != 0)
 | .ref p=>(∃ xs,SqL K H p xs/\k= !xs.isEmpty)\/(∃ xs,SqT K H p xs/\k= !xs.isEmpty)\/∃ kvs,H p=some (.dK kvs)/\k= !kvs.isEmpty
 |_=>False
theorem yx6 {i:Type}{kvs:List (i×V)}{vs:List (i×Value)}(r:KV kvs vs):(!vs.isEmpty)= !kvs.isEmpty:=by
 cases r <;> rfl
theorem zw2 {xs:List V}{its:List Value}(r:Vals xs its):(!its.toArray.isEmpty)= !xs.isEmpty:=by
 cases r <;> simp
theorem A0:(sizeLine:Nat)<2^63:=by rw[sizeLine_eq];decide
theorem xm0:TruR X (fun x H Q=>∃ k,TruV X.K x H k/\Q k H):=by
 intro pins s σ H x v Q I rx h
 obtain⟨k,e,q⟩:=h
 have O:=A0
 have N:sizeLine=16777216:=sizeLine_eq
 cases x with
 |non=>
  cases rx
  have j:k=false:=e
  subst j
  exact truthy_none ⟨H,I,q⟩
 |bl b=>
  cases rx
  have j:k=b:=e
  subst j
  exact wpAny_truthy_bool ⟨H,I,q⟩
 |int i=>
  obtain⟨t,rfl⟩:=rx
  have j:k=(i != 0):=e
  subst j
  exact PySem.P.truthy_int ⟨H,I,q⟩
 |str y=>
  obtain⟨t,rfl⟩:=rx
  obtain⟨L,j⟩:y.length<=sizeLine/\k=((y.length:Int) != 0):=e
  subst j
  exact PySem.P.truthy_str (by omega) ⟨H,I.tok _,q⟩
 |byt y=>
  obtain⟨t,rfl⟩:=rx
  obtain⟨L,j⟩:y.size<=sizeLine/\k=((y.size:Int) != 0):=e
  subst j
  exact W.truthy_bytes (by omega) ⟨H,I.tok _,q⟩
 |ref p=>
  cases rx
  have j:(∃ xs,SqL X.K H p xs/\k= !xs.isEmpty)\/(∃ xs,SqT X.K H p xs/\k= !xs.isEmpty)\/∃ kvs,H p=some (.dK kvs)/\k= !kvs.isEmpty:=e
  rcases j with⟨xs,G,j⟩|⟨xs,G,j⟩|⟨kvs,G,j⟩
  .subst j
   obtain⟨its,r,pl,J⟩:=I.list G
   have z:=r.length
   exact wpAny_truthy_list pl.isList (by simp only[size_toArray];omega) ⟨H,I.tok _,by rw[zw2 r];exact q⟩
  .subst j
   obtain⟨its,r,pl,J⟩:=I.tuple G
   have z:=r.length
   exact truthy_tuple pl (by simp only[size_toArray];omega) ⟨H,I.tok _,by rw[zw2 r];exact q⟩
  .subst j
   obtain⟨J,M,vs,r,m⟩:kvs.length<=sizeLine/\(p==sysModules)=false/\∃ vs,KV kvs vs/\s.heap.DictOf (zi4 X.prog X.w) p vs:=I.hok p _ G
   have z:kvs.length=vs.length:=Paired.length r
   exact wpAny_truthy_dict M m (by omega) ⟨H,I.tok _,by rw[yx6 r];exact q⟩
 |_=>exact(show False from e).elim
theorem yf0 (ha:PE X a ta)(z:∀ i,isTrue a X.env i=(do let v ← i;standAt a.pos;holding [v] (truthy v))):
  PT X a (fun σ H Q=>ta σ H fun x H'=>∃ k,TruV X.K x H' k/\Q k H'):=by
 intro pins s σ H Q I h
 exact isTrue_plain (thn (ha pins s σ H _ I h) fun v s1 ⟨x,H1,G,j,q⟩=>xm0 pins s1 σ H1 x v Q G j q) (z _)
theorem P6 {x:V}{us:List Value}(r:Vals [x] us):∃ u,us=[u]/\RelV x u:=by
 cases r with
 |cons j i=>cases i;exact⟨_,rfl,j⟩
theorem zr8 {x y:V}{us:List Value}(r:Vals [x,y] us):∃ u i,us=[u,i]/\RelV x u/\RelV y i:=by
 cases r with
 |cons G z=>
  cases z with
  |cons q j=>cases j;exact⟨_,_,rfl,G,q⟩
theorem yb6:CallR X (.builtin "abs") (fun xs H Q=>∃ i,xs=[.int i]/\Q (.int (if i<0 then -i else i)) H):=by
 intro pins s σ H xs us Q I r h
 obtain⟨i,rfl,q⟩:=h
 obtain⟨u,rfl,t,rfl⟩:=P6 r
 exact call_abs_int fun u tk=>⟨.int (if i<0 then -i else i),H,I.tok _,⟨_,rfl⟩,q⟩
theorem yj4 (G:X.calm=true):CallR X (.builtin "max") (fun xs H Q=>∃ i j,xs=[.int i,.int j]/\Q (.int (if j>i then j else i)) H):=by
 intro pins s σ H xs us Q I r h
 obtain⟨i,j,rfl,q⟩:=h
 obtain⟨u,J,rfl,⟨t,rfl⟩,⟨t',rfl⟩⟩:=zr8 r
 refine max_two_ints (I.ok.hd G) fun h' tk k=>⟨_,H,I.kept k,?_,q⟩
 by_cases z:j>i
 .rw[if_pos z,if_pos z];exact⟨_,rfl⟩
 .rw[if_neg z,if_neg z];exact⟨_,rfl⟩
theorem yj3 (G:X.calm=true):CallR X (.builtin "min") (fun xs H Q=>∃ i j,xs=[.int i,.int j]/\Q (.int (if j<i then j else i)) H):=by
 intro pins s σ H xs us Q I r h
 obtain⟨i,j,rfl,q⟩:=h
 obtain⟨u,J,rfl,⟨t,rfl⟩,⟨t',rfl⟩⟩:=zr8 r
 refine min_two_ints (I.ok.hd G) fun h' tk k=>⟨_,H,I.kept k,?_,q⟩
 by_cases z:j<i
 .rw[if_pos z,if_pos z];exact⟨_,rfl⟩
 .rw[if_neg z,if_neg z];exact⟨_,rfl⟩
end
end
section
structure ObjM (h:Heap)(x dx C:Addr)(mA:Str->Option Value):Prop where
 obj:h.get? x=some (W.instObj C dx)
 ns:h.Ns1 dx mA
 ne:dx≠x
theorem yo9 {h:Heap}{dx:Addr}{mA:Str->Option Value}(n:h.Ns1 dx mA):∃ od,h.get? dx=some od/\∀ name,W.lookIn name od=some (mA name):=by
 obtain⟨o,es,ep,G,hd,I,_,hm⟩:=n
 refine⟨o,G,fun name=>?_⟩
 have e:=hm name
 unfold nsFind findBy at e
 rw[<-Array.find?_toList]at e
 unfold W.lookIn
 rw[hd]
 dsimp only
 split
 .rename_i y q
  rw[q]at e
  exact congrArg some e
 .rename_i q
  rw[q]at e
  have a:es.toList.any (·.refKey)=false:=by
   rw[any_eq_false]
   intro y j
   obtain⟨z,t,i⟩:=I y (Array.mem_toList_iff.mp j)
   simp[DictEntry.refKey,i]
  have J:¬ es.toList.any (·.refKey)=true:=by rw[a];exact Bool.false_ne_true
  rw[if_neg J]
  exact congrArg some e
theorem ObjM.look {h:Heap}{x dx C:Addr}{mA:Str->Option Value}(I:ObjM h x dx C mA):∃ od,W.InstAt h x (W.instObj C dx) C (some od)/\∀ name,W.lookIn name od=some (mA name):=
 let ⟨od,i,j⟩:=yo9 I.ns
 ⟨od,⟨I.obj,rfl,rfl,i⟩,j⟩
section
variable {prog:Program}{w:World}{A:Around}{E:Value->Shared->Prop}{s:Shared}{K:W.Frag}{x dx C f:Addr}{mA:Str->Option Value}{name:Str}{v:Value}
end
section
variable {P:Program}{w:World}{H H':Hp}{h h':Heap}{a C dx:Addr}{fs fs':List (Str×V)}
theorem xq9 (hok:HOk P w H h)(e:H a=some (.ins C dx fs)):∃ mA,ObjM h a dx C mA/\(∀ f,RelO (fs.lookup f) (mA f))/\PySem.Within mA (fs.map (·.1))/\fs.length<=1000/\H dx=some (.own a):=by
 obtain⟨d,z,ne,ob,mA,n,r,q⟩:=(show ObjOk P w H h a (.ins C dx fs)from hok a _ e)
 exact⟨mA,⟨ob,n,ne⟩,r,q,z,d⟩
end
structure Cls (K:W.Frag)(C:Addr):Prop where
 pg:W.plainGet K C Str.empty=true
 hd:W.hasDictIn K C=true
 po:W.plainOver K C=true
 sa:W.findIn K (.ref C) "__setattr__"=some (some (.builtin "object.__setattr__"))
theorem Cls.get {K:W.Frag}{C:Addr}(c:Cls K C)(f:Str):W.plainGet K C f=true:=c.pg
structure Con (K:W.Frag)(C:Addr)(f:Str)(v:V)(u:Value):Prop where
 at_:W.findIn K (.ref C) f=some (some u)
 rel:RelV v u
 get:W.specialIn K u "__get__"=some none
 cp:W.copiedNames.contains f=false
structure Meth (K:W.Frag)(C:Addr)(m:Str)(f:Addr):Prop where
 at_:W.findIn K (.ref C) m=some (some (.ref f))
 fn:W.isFn K (.ref f)=true
 kp:W.keepIn K (.ref f)=true
section
variable {X:Cx}{pins:List (Addr×Obj)}{σ:St}{H:Hp}{s:Shared}{a C dx:Addr}{fs:List (Str×V)}{f:Str}{v:V}{A:Around}{E:Value->Shared->Prop}
end
section
variable {X:Cx}{o e value:Expr}{f:Str}{pos pos' tpos:Pos}{ta tv:TE}
end
section
variable {X:Cx}{pins:List (Addr×Obj)}{σ:St}{H:Hp}{s:Shared}{A:Around}{E:Value->Shared->Prop}{Q:Value->Shared->Prop}{c:Value}{b:Bool}
inductive TyOf (K:W.Frag)(H:Hp):V->Value->Prop where
 |non:TyOf K H .non (.type "NoneType")
 |bl (x:Bool):TyOf K H (.bl x) (.type "bool")
 |int (i:Int):TyOf K H (.int i) (.type "int")
 |str (x:Str):TyOf K H (.str x) (.type "str")
 |flt (x:UInt64):TyOf K H (.flt x) (.type "float")
 |lst {a:Addr} {xs:List V} (e:H a=some (.lst xs)):TyOf K H (.ref a) (.type "list")
 |frz {a:Addr} {o:Obj} {xs:List V} (e:H a=some (.frz o (.lst xs))):TyOf K H (.ref a) (.type "list")
 |tup {a:Addr} {xs:List V} (e:H a=some (.tup xs)):TyOf K H (.ref a) (.type "tuple")
 |dK {a:Addr} {kvs:List (Key×V)} (e:H a=some (.dK kvs)):TyOf K H (.ref a) (.type "dict")
 |dT {a:Addr} {kvs:List (List Key×V)} (e:H a=some (.dT kvs)):TyOf K H (.ref a) (.type "dict")
 |ins {a C dx:Addr} {fs:List (Str×V)} (e:H a=some (.ins C dx fs)) (cl:Cls K C) (ha:W.findIn K (.ref C) "__class__"=some (some (.builtin "object.__class__")))
   (hn:W.specialIn K (.builtin "object.__class__") "__get__"=some (some (.builtin "getset_descriptor.__get__"))) (htk:W.takesIn K (.builtin "object.__class__")=some true)
   (hm:W.mroIn K C (.type "object")=some true):TyOf K H (.ref a) (.ref C)
theorem M1 {x:V}{u t:Value}(I:Inv X pins σ H s)(rx:RelV x u)(ty:TyOf X.K H x t)(e:W.kitOne X.K t c=some b)(h:∀ tk,Q (.bool b) { s with toks:=tk }):
  wpAny (model X.prog X.w) A (call (.builtin "isinstance") [u,c]) Q E s:=by
 cases ty with
 |non=>cases (show u=Value.none from rx);exact W.kia_one W.kitx_none I.kIn True.intro e (fun z=>nomatch z) h
 |bl y=>cases (show u=Value.bool y from rx);exact W.kia_one W.kitx_bool I.kIn True.intro e (fun z=>nomatch z) h
 |int i=>obtain⟨t,q⟩:=(show ∃ t,u=Value.int i t from rx);cases q;exact W.kia_one W.kitx_int I.kIn True.intro e (fun z=>nomatch z) h
 |str y=>obtain⟨t,q⟩:=(show ∃ t,u=Value.str y t from rx);cases q;exact W.kia_one W.kitx_str I.kIn True.intro e (fun z=>nomatch z) h
 |flt y=>obtain⟨t,q⟩:=(show ∃ t,u=Value.float y t from rx);cases q;exact W.kia_one W.kitx_float I.kIn True.intro e (fun z=>nomatch z) h
 |@lst a xs ea=>
  cases (show u=Value.ref a from rx)
  obtain⟨_,_,n,_,h1⟩:=(show ObjOk X.prog X.w H s.heap a (.lst xs)from I.hok a _ ea)
  exact W.kia_one W.kitx_list I.kIn ⟨_,h1,rfl⟩ e (fun z=>nomatch z) h
 |@frz a ob xs ea=>
  cases (show u=Value.ref a from rx)
  obtain⟨_,_,_,n,_,h1⟩:=(show ObjOk X.prog X.w H s.heap a (.frz ob (.lst xs))from I.hok a _ ea)
  exact W.kia_one W.kitx_list I.kIn ⟨_,h1,rfl⟩ e (fun z=>nomatch z) h
 |@tup a xs ea=>
  cases (show u=Value.ref a from rx)
  obtain⟨_,_,_,p⟩:=(show ObjOk X.prog X.w H s.heap a (.tup xs)from I.hok a _ ea)
  obtain⟨o,h1,h2,_⟩:=p
  exact W.kia_one W.kitx_tuple I.kIn ⟨o,h1,h2⟩ e (fun z=>nomatch z) h
 |@dK a kvs ea=>
  cases (show u=Value.ref a from rx)
  obtain⟨_,_,vs,_,p⟩:=(show ObjOk X.prog X.w H s.heap a (.dK kvs)from I.hok a _ ea)
  obtain⟨o,es,ep,h1,h2,_⟩:=p
  exact W.kia_one W.kitx_dict I.kIn ⟨o,h1,h2.1⟩ e (fun z=>nomatch z) h
 |@dT a kvs ea=>
  cases (show u=Value.ref a from rx)
  obtain⟨_,_,xs,_,o,es,ep,h1,h2,_⟩:=(show ObjOk X.prog X.w H s.heap a (.dT kvs)from I.hok a _ ea)
  exact W.kia_one W.kitx_dict I.kIn ⟨o,h1,h2.1⟩ e (fun z=>nomatch z) h
 |@ins a C dx fs ea cl ha hn htk hm=>
  cases (show u=Value.ref a from rx)
  obtain⟨mA,O,_⟩:=xq9 I.hok ea
  obtain⟨od,J,_⟩:=O.look
  exact W.kia_one (W.kitx_own (cl.get _) cl.hd ha hn htk hm) I.kIn J e (fun z=>nomatch z) h
end
end
section
structure Room (k:Nat)(A:Around):Prop where
 hd:A.handled=none
 dp:A.depth+3*k+5<recursionLimit
 un:A.units+16*k+200<cLine
theorem Room.mono {j k:Nat}{A:Around}(r:Room k A)(h:j<=k):Room j A:=⟨r.hd,by have:=r.dp;omega,by have:=r.un;omega⟩
theorem Room.deeper {k:Nat}{A:Around}(r:Room (k+1) A)(env:Env):Room k (A.deeper env):=
 ⟨r.hd,by have:=r.dp;show A.depth+1+3*k+5<_;omega,by have:=r.un;show A.units+3+16*k+200<_;omega⟩
theorem Room.in1 {k:Nat}{A:Around}(r:Room (k+1) A):Room k A.in1:=
 ⟨r.hd,by have:=r.dp;show A.depth+3*k+5<_;omega,by have:=r.un;show A.units+1+16*k+200<_;omega⟩
theorem Room.depth {k:Nat}{A:Around}(r:Room k A):A.depth<recursionLimit:=by have:=r.dp;omega
theorem Room.units {k:Nat}{A:Around}(r:Room k A):A.units+64<cLine:=by have:=r.un;omega
def tNil:TA:=fun _ H Q=>Q [] H
def yh8 (ta:TE)(tr:TA):TA:=fun σ H Q=>ta σ H fun x H1=>tr σ H1 fun xs H2=>Q (x::xs) H2
section
variable {X:Cx}{e:Expr}{es:List Expr}{te:TE}{t:TA}{pos:Pos}
theorem pa_nil:PA X [] tNil:=fun _ _ _ _ H Q I h=>Calls.spliced_nil ⟨[],H,I,.nil,h⟩
theorem h9 (ha:PE X e te)(L:PA X es t)(J:starEach (e::es) X.env=(false,eval e X.env)::starEach es X.env:=by rfl):PA X (e::es) (yh8 te t):=by
 intro pos pins s σ H Q I h
 rw[J]
 show wpAny _ _ (spliced ((false,eval e X.env)::backTo pos (starEach es X.env))) _ _ s
 refine Calls.spliced_cons (thn (ha pins s σ H _ I h) fun u s1 i=>?_)
 obtain⟨x,H1,N,q,G⟩:=i
 exact thn (L pos pins s1 σ H1 _ N G) fun us s2 ⟨xs,H2,M,j,z⟩=>⟨x::xs,H2,M,.cons q j,z⟩
def tTup (t:TA):TE:=fun σ H Q=>t σ H fun xs H1=>xs.length<=sizeLine/\∀ p,H1 p=none->Q (.ref p) (upd H1 p (.tup xs))
def tLst (t:TA):TE:=fun σ H Q=>t σ H fun xs H1=>xs.length<=sizeLine/\∀ p,H1 p=none->Q (.ref p) (upd H1 p (.lst xs))
theorem xz9 {j}(h:PA X es t):PE X (.Tuple es j pos) (tTup t):=by
 intro pins s σ H Q I G
 refine wpAny_Tuple_spliced (thn (h pos pins s σ H _ I G) fun us s1 ⟨xs,H1,i,r,z,q⟩=>⟨by rw[<-r.length];exact z,?_⟩)
 have J:H1 s1.heap.objs.size=none:=i.hok.fresh (Nat.le_refl _)
 refine⟨.ref s1.heap.objs.size,upd H1 s1.heap.objs.size (.tup xs),i.laid (t':=s1.toks) (fun b u e=>Heap.get?_push_of_some _ e) (Nat.le_refl _) ?_,rfl,q _ J⟩
 exact⟨z,us,r,⟨_,Heap.get?_push_size _ rfl,rfl,_,rfl⟩⟩
theorem xi9 (h:PA X es t):PE X (.List es pos) (tLst t):=by
 intro pins s σ H Q I j
 refine wpAny_List_spliced (thn (h pos pins s σ H _ I j) fun us s1 ⟨xs,H1,i,r,z,q⟩=>⟨by rw[<-r.length];exact z,?_⟩)
 have G:H1 s1.heap.objs.size=none:=i.hok.fresh (Nat.le_refl _)
 refine⟨.ref s1.heap.objs.size,upd H1 s1.heap.objs.size (.lst xs),i.laid (t':=s1.toks) (fun b u e=>Heap.get?_push_of_some _ e) (Nat.le_refl _) ?_,rfl,q _ G⟩
 exact⟨z,us,0,r,Heap.get?_push_size _ rfl⟩
end
abbrev Sp:=List V->Hp->VK->XK->Prop
abbrev CXT:=List Env->Hp->Shared->XK->Value->Shared->Prop
structure Env0 (P:Program)(w:World)(K:W.Frag)(mg:Str->Option Value)(base:Heap)(A:Around)(outer:List Env)(s:Shared)(H:Hp):Prop where
 frames:A.frames=some outer
 mod:Mod K mg base
 bs:∀ b o,base.get? b=some o->s.heap.get? b=some o/\H b=none
 bsz:base.objs.size<=s.heap.objs.size
 funs:s.heap.FunFrames base outer
 frf:∀ b∈frs outer,H b=none
 hok:HOk P w H s.heap
 bare:AllBare s.gens
def CE (outer:List Env)(P:Program)(w:World)(H:Hp)(s:Shared)(Q:VK)(u:Value)(s':Shared):Prop:=
 ∃ v H',s'.os=s.os/\AllBare s'.gens/\Un (frs outer) [] H H' s.heap s'.heap/\HOk P w H' s'.heap/\RelV v u/\Q v H'
def CR (CX:CXT)(outer:List Env)(P:Program)(w:World)(H:Hp)(s:Shared)(Q:VK)(E:XK)(r:Result)(s':Shared):Prop:=
 match r with
 | .ok (.ret u)=>CE outer P w H s Q u s'
 | .ok _=>False
 | .error e=>CX outer H s E e s'
structure FnOk (P:Program)(w:World)(K:W.Frag)(mg:Str->Option Value)(base:Heap)(CX:CXT)(k:Nat)(f:Addr)(fd:FuncData)(ps:List Str)(sp:Sp):Prop where
 len:∀ vs H Q E,sp vs H Q E->vs.length=ps.length
 run:∀(A:Around)(outer:List Env)(s:Shared)(H:Hp)(args:Args)(us:List Value)(vs:List V)(Q:VK)(E:XK),Room k A->Env0 P w K mg base A outer s H->BindsTo s fd args (ps.zip us)->Vals vs us->sp vs H Q E->
  codeAny (model P w) A (.call (.ref f) args) (CR CX outer P w H s Q E) s
theorem FnOk.mono {P:Program}{w:World}{K:W.Frag}{mg:Str->Option Value}{base:Heap}{CX:CXT}{j k:Nat}{f:Addr}{fd:FuncData}{ps:List Str}{sp:Sp}(F:FnOk P w K mg base CX j f fd ps sp)(h:j<=k):
  FnOk P w K mg base CX k f fd ps sp:=⟨F.len,fun A outer s H args us vs Q E i=>F.run A outer s H args us vs Q E (i.mono h)⟩
section
variable {X:Cx}{pins:List (Addr×Obj)}{σ:St}{H:Hp}{s s':Shared}
theorem Inv.env0 (I:Inv X pins σ H s):Env0 X.prog X.w X.K X.mg X.base X.A X.stack s H:=
 ⟨I.ok.frames,I.ok.mod,I.bs,Nat.le_trans I.ok.bsz I.sz,I.stack,I.stkFree,I.hok,I.bare⟩
theorem Inv.after {Q:VK}{u:Value}(I:Inv X pins σ H s)(h:CE X.stack X.prog X.w H s Q u s'):EP X pins σ Q u s':=by
 obtain⟨v,H',os,bare,un,hok,r,q⟩:=h
 obtain⟨hh,g,d,t,i⟩:=s'
 obtain rfl:i=s.os:=os
 exact⟨v,H',I.call (h':=hh) (g':=g) (d':=d) (t':=t) (ch:=[]) un hok bare (fun b z=>absurd z (by simp)),r,q⟩
end
def yh9 (sp:Sp)(dvs:List V)(E:XK)(t:TA):TE:=fun σ H Q=>t σ H fun vs H1=>sp (vs++dvs) H1 Q E
def Binds (K:W.Frag)(fd:FuncData)(ps:List Str)(ds:List Value):Prop:=
 ∀(s:Shared)(us:List Value),K.In s.heap->(us++ds).length=ps.length->BindsTo s fd ⟨us,[]⟩ (ps.zip (us++ds))
theorem Binds.all {K:W.Frag}{fd:FuncData}{ps:List Str}(h:∀ us:List Value,us.length=ps.length->bindArgs fd ⟨us,[]⟩=pure (ps.zip us)):Binds K fd ps []:=fun s us _ i=>by
 rw[append_nil]at i ⊢
 exact .of_eq (h us i)
def za4 (CX:CXT)(X:Cx)(E:XK):Prop:=∀(pins:List (Addr×Obj))(σ:St)(H:Hp)(s:Shared)(e:Value)(s':Shared),Inv X pins σ H s->CX X.stack H s E e s'->X.xe e s'
section
variable {X:Cx}{CX:CXT}{k:Nat}{f C:Addr}{fd:FuncData}{ps:List Str}{sp:Sp}{dvs:List V}{ds:List Value}{E:XK}{x m:Str}{p pos apos:Pos}{e o:Expr}{es:List Expr}{ta:TE}{t:TA}
theorem xk6 {pins:List (Addr×Obj)}{σ:St}{H:Hp}{s:Shared}{Q:VK}{us:List Value}{vs:List V}(F:FnOk X.prog X.w X.K X.mg X.base CX k f fd ps sp)(z:Room k X.A)(J:Binds X.K fd ps ds)(hd:Vals dvs ds)(q:za4 CX X E)
  (I:Inv X pins σ H s) (r:Vals vs us) (h:sp (vs++dvs) H Q E):wpAny (model X.prog X.w) X.A (call (.ref f) us) (EP X pins σ Q) X.xe s:=by
 have j:Vals (vs++dvs) (us++ds):=r.append hd
 have G:(us++ds).length=ps.length:=by rw[<-j.length];exact F.len _ _ _ _ h
 refine wpAny_call (codeAny_mono (F.run X.A X.stack s H ⟨us,[]⟩ (us++ds) (vs++dvs) Q E z I.env0 (J s us I.kIn G) j h) fun r s' i=>?_)
 cases r with
 |error e=>exact q pins σ H s e s' I i
 |ok fl=>
  cases fl with
  |ret u=>exact I.after i
  |next=>exact False.elim i
  |brk=>exact False.elim i
  |cont=>exact False.elim i
theorem w9 (F:FnOk X.prog X.w X.K X.mg X.base CX k f fd ps sp)(J:Room k X.A)(M:Gl X x)(hm:X.mg x=some (.ref f))(L:W.keepIn X.K (.ref f)=true)(O:Binds X.K fd ps ds)(hd:Vals dvs ds)(G:za4 CX X E)
  (ha:PA X (e::es) t) (j:(x==("__debug__":Str))=false:=by decide) (N:starEach (e::es) X.env=(false,eval e X.env)::starEach es X.env:=by rfl) (i:(backTo pos (starEach es X.env)).any (·.1)=false:=by rfl):
  PE X (.Call (.Name x p) (e::es) [] pos) (yh9 sp dvs E t):=by
 intro pins s σ H Q I h
 refine wpAny_Call_Name_kw (J1 I M hm ?_ j)
 refine W.callWith_K (h₀:=X.base) I.ok.mod.kin L (thn (ha pos pins s σ H _ I h) fun us s1 ⟨vs,H1,z,r,q⟩=>⟨z.kIn,?_⟩) N i
 exact xk6 F J O hd G z r q
structure Mk (K:W.Frag)(C f:Addr):Prop where
 makes:W.makesIn K C=true
 init:W.findIn K (.ref C) "__init__"=some (some (.ref f))
 fn:W.isFn K (.ref f)=true
 kp:W.keepIn K (.ref C)=true
end
def PK (X:Cx)(kws:List Keyword)(t:TA):Prop:=
 ∀(pos:Pos)(pins:List (Addr×Obj))(s:Shared)(σ:St)(H:Hp)(Q:List V->Hp->Prop),Inv X pins σ H s->t σ H Q->wpAny (model X.prog X.w) X.A (evalAll ((backToKw pos (keywordEach kws X.env)).map (·.2))) (AP X pins σ Q) X.xe s
section
variable {X:Cx}{CX:CXT}{k:Nat}{f C:Addr}{fd:FuncData}{ps ks:List Str}{sp:Sp}{E:XK}{x m:Str}{p pos apos kpos:Pos}{e o:Expr}{es:List Expr}{kws:List Keyword}{te ta:TE}{t tk:TA}{nm:Option Str}
theorem ys6:PK X [] tNil:=fun _ _ _ _ H Q I h=>wpAny_evalAll_nil ⟨[],H,I,.nil,h⟩
theorem zu2 (ha:PE X e te)(G:PK X kws t):PK X (⟨nm,e,kpos⟩::kws) (yh8 te t):=by
 intro pos pins s σ H Q I h
 show wpAny _ _ (evalAll ((do let v ← eval e X.env;standAt pos;pure v)::(backToKw pos (keywordEach kws X.env)).map (·.2))) _ _ s
 refine wpAny_evalAll_cons (wpAny_bind (thn (ha pins s σ H _ I h) fun u s1 ⟨x,H1,L,j,z⟩=>wpAny_bind (wpAny_standAt (wpAny_pure ?_))))
 exact thn (G pos pins s1 σ H1 _ L z) fun us s2 ⟨xs,H2,J,i,q⟩=>⟨x::xs,H2,J,.cons j i,q⟩
structure KBinds (K:W.Frag)(fd:FuncData)(ps ks:List Str)(g:List Value->List Value->List Value)(gV:List V->List V->List V):Prop where
 to:∀(s:Shared)(us ws:List Value),K.In s.heap->(g us ws).length=ps.length->BindsTo s fd ⟨us,ks.zip ws⟩ (ps.zip (g us ws))
 rel:∀{vs:List V}{us:List Value}{zs:List V}{ws:List Value},Vals vs us->Vals zs ws->Vals (gV vs zs) (g us ws)
variable {g:List Value->List Value->List Value}{gV:List V->List V->List V}
end
structure FnScope (N P:List Str)(sc:Scope):Prop where
 kind:sc.kind= .function
 co:sc.isCoroutine=false
 gen:sc.isGenerator=false
 nd:N.Nodup
 pre:N.take P.length=P
 par:∀ x∈P,sc.names.lookup x=some .local\/sc.names.lookup x=some .cell
 nofree:∀ y∈sc.names,y.2≠ .free
theorem zk2 {kindOf:Str->Option NameKind}{x:Str}:∀{binds:List (Str×Value)}{m:Str->Option Value},(∀ v,(x,v)∉binds)->bindL kindOf binds m x=m x
 |[],_,_=>rfl
 | (n,v)::r,m,h=>by
  unfold bindL
  rw[zk2 fun w hw=>h w (mem_cons_of_mem _ hw)]
  split
  .have:x≠n:=by rintro rfl;exact h v mem_cons_self
   simp[this]
  .rfl
theorem zk4 {kindOf:Str->Option NameKind}{x:Str}:∀{binds:List (Str×Value)}{m:Str->Option Value},(∀ v,(x,v)∉binds)->bindC kindOf binds m x=m x
 |[],_,_=>rfl
 | (n,v)::r,m,h=>by
  unfold bindC
  rw[zk4 fun w hw=>h w (mem_cons_of_mem _ hw)]
  split
  .rfl
  .have:x≠n:=by rintro rfl;exact h v mem_cons_self
   simp[this]
theorem zk3 {kindOf:Str->Option NameKind}{x:Str}{v:Value}:∀{P:List Str}{vs:List Value}{i:Nat}{m:Str->Option Value},P.Nodup->P[i]? =some x->vs[i]? =some v->kindOf x=some .local->
  bindL kindOf (P.zip vs) m x=some v
 |[],_,_,_,_,h,_,_=>by simp at h
 |_::_,[],_,_,_,_,h,_=>by simp at h
 |p::P,w::vs,0,m,nd,h1,h2,hk=>by
  simp at h1 h2;subst h1;subst h2
  show bindL kindOf ((p,w)::P.zip vs) m p=_
  unfold bindL
  rw[zk2 fun v j=>(List.nodup_cons.mp nd).1 (of_mem_zip j).1,if_pos hk]
  simp
 |p::P,w::vs,i+1,m,nd,h1,h2,hk=>by
  show bindL kindOf ((p,w)::P.zip vs) m x=_
  unfold bindL
  exact zk3 (i:=i) (List.nodup_cons.mp nd).2 (by simpa using h1) (by simpa using h2) hk
theorem zk5 {kindOf:Str->Option NameKind}{x:Str}{v:Value}:∀{P:List Str}{vs:List Value}{i:Nat}{m:Str->Option Value},P.Nodup->P[i]? =some x->vs[i]? =some v->kindOf x≠some .local->
  bindC kindOf (P.zip vs) m x=some v
 |[],_,_,_,_,h,_,_=>by simp at h
 |_::_,[],_,_,_,_,h,_=>by simp at h
 |p::P,w::vs,0,m,nd,h1,h2,hk=>by
  simp at h1 h2;subst h1;subst h2
  show bindC kindOf ((p,w)::P.zip vs) m p=_
  unfold bindC
  rw[zk4 fun v j=>(List.nodup_cons.mp nd).1 (of_mem_zip j).1,if_neg hk]
  simp
 |p::P,w::vs,i+1,m,nd,h1,h2,hk=>by
  show bindC kindOf ((p,w)::P.zip vs) m x=_
  unfold bindC
  exact zk5 (i:=i) (List.nodup_cons.mp nd).2 (by simpa using h1) (by simpa using h2) hk
def start (N:List Str)(vs:List V):St:=vs.map some++List.replicate (N.length-vs.length) none
def cxOf (CX:CXT)(P:Program)(w:World)(K:W.Frag)(mg:Str->Option Value)(base:Heap)(N:List Str)(qual:Str)(scope:Scope)(f:Addr)(cd:Value)(A:Around)(outer:List Env)(s:Shared)(H:Hp)(E:XK):Cx where
 prog:=P
 w:=w
 K:=K
 mg:=mg
 base:=base
 A:=A.deeper (envOfC qual scope s.heap.objs.size f cd)
 N:=N
 s₀:=s
 H₀:=H
 env:=envOfC qual scope s.heap.objs.size f cd
 outer:=outer
 stack:=envOfC qual scope s.heap.objs.size f cd::outer
 ex:=[]
 calm:=true
 fn:=fun _=>true
 pn:=[]
 xe:=fun e s'=>wpAny (model P w) (A.deeper (envOfC qual scope s.heap.objs.size f cd)) (leaving (envOfC qual scope s.heap.objs.size f cd) e) (fun _ s''=>CX outer H s E e s'') (fun e' s''=>CX outer H s E e' s'') s'
theorem zb5 {sc:Scope}{n:Nat}{x:Str}(h:sc.names.lookup x=some .cell):∃ c,(cellsFrom n sc.names []).lookup x=some c:=by
 have q:=W.cellsFrom_some sc.names n [] (.inl h)
 exact Option.isSome_iff_exists.mp q
theorem zn2 {CX:CXT}{P:Program}{w:World}{K:W.Frag}{mg:Str->Option Value}{base:Heap}{N ps:List Str}{qual:Str}{scope:Scope}{f:Addr}{cd:Value}{A:Around}{outer:List Env}{s s1:Shared}{H:Hp}{E:XK}{us:List Value}{vs:List V}
  (S:FnScope N ps scope) (hd:A.handled=none) (j:Env0 P w K mg base A outer s H) (Z:vs.length=ps.length) (r:Vals vs us)
  (x:InCallC s s.heap.objs.size (bindL (envOfC qual scope s.heap.objs.size f cd).kindOf (ps.zip us) fun _=>none) (cellsFrom (s.heap.objs.size+1) scope.names []) (bindC (envOfC qual scope s.heap.objs.size f cd).kindOf (ps.zip us) fun _=>none) s1):
  Inv (cxOf CX P w K mg base N qual scope f cd A outer s H E) [] (start N vs) H s1:=by
 have Y:ps.length<=N.length:=by have:=congrArg List.length S.pre;rw[length_take]at this;omega
 obtain⟨h1,tk,rfl,O⟩:=x.done
 have G:∀ b:Addr,b∉(cxOf CX P w K mg base N qual scope f cd A outer s H E).ex:=fun b z=>absurd (show b∈([]:List Addr)from z) (by simp)
 refine⟨⟨j.mod,S.kind,rfl,rfl,Nat.le_refl _,fun y z c h1 h2=>?_,fun y I=>?_,fun y c _ h=>?_,fun _=>hd,Around.frames_deeper j.frames,.inr ⟨rfl,rfl⟩,fun b z=>absurd z (G b),j.bs,j.bsz,fun b _ _=>G b,fun b z=>absurd z (G b),j.funs,j.frf⟩,
  rfl,j.bare,Un.kept O,⟨_,x.toInCall.ns,fun i y v h1 h2 h3=>?_⟩,fun y c h=>⟨_,x.cell y c h⟩,j.hok.fresh (Nat.le_refl _),fun y c h=>?_,fun p L=>absurd (show p∈([]:List (Addr×Obj))from L) (by simp),j.hok.kept O,?_⟩
 .exact name_of_addr x.apart (PySem.mem_of_lookup h1) (PySem.mem_of_lookup h2)
 .have I:scope.names.lookup y=some .cell\/scope.names.lookup y=some .free:=I
  rcases I with I|I
  .exact zb5 I
  .exact absurd rfl (S.nofree _ (PySem.mem_of_lookup I))
 .exact Nat.le_of_lt (x.above y c (PySem.mem_of_lookup h))
 .have hi:i<vs.length:=by
   unfold start at h2
   by_cases hi:i<vs.length
   .exact hi
   .rw[getElem?_append_right (by simpa using hi)]at h2
    rw[getElem?_replicate]at h2
    split at h2 <;> cases h2
  have ha:vs[i]? =some v:=by
   unfold start at h2
   rw[getElem?_append_left (by simpa using hi),getElem?_map]at h2
   cases e:vs[i]? with
   |none=>rw[e]at h2;cases h2
   |some a=>rw[e]at h2;cases h2;rfl
  obtain⟨u,M,U⟩:=r.get ha
  have L:ps[i]? =some y:=by
   rw[<-S.pre,getElem?_take_of_lt (by omega)];exact h1
  have J:ps.Nodup:=by rw[<-S.pre];exact S.nd.sublist (take_sublist _ _)
  refine⟨u,U,?_⟩
  rcases S.par y (mem_of_getElem? L)with k|k
  .exact .inl ⟨k,zk3 J L M k⟩
  .obtain⟨c,e⟩:=zb5 (n:=s.heap.objs.size+1) k
   refine .inr ⟨.inl k,c,e,?_⟩
   have q:=x.cell y c e
   rw[zk5 J L M (by show scope.names.lookup y≠_;rw[k];decide)]at q
   exact q
 .exact j.hok.fresh (Nat.le_of_lt (x.above y c (PySem.mem_of_lookup h)))
 .unfold start
  show _=N.length
  rw[length_append,length_map,length_replicate]
  omega
theorem xc1 {CX:CXT}{P:Program}{w:World}{K:W.Frag}{mg:Str->Option Value}{base:Heap}{k:Nat}{f:Addr}{name qual:Str}{i:Arguments}{body:List Stmt}{scope:Scope}{dV kV doc pm cdv ct oc:Value}{an od:Option Addr}
  {osl:Array (Option Value)} {N ps:List Str} {sp:Sp} (lk:K.lookup f=some ⟨oc,od,.func (W.fnOf name qual i body scope dV kV doc pm an cdv ct),osl⟩) (a0:W.codeIn K cdv qual=true) (S:FnScope N ps scope)
  (len:∀ vs H Q E,sp vs H Q E->vs.length=ps.length)
  (G:∀(A:Around)(outer:List Env)(s:Shared)(H:Hp)(vs:List V)(Q:VK)(E:XK),Room k (A.deeper (envOfC qual scope s.heap.objs.size f cdv))->sp vs H Q E->
   ∃ t,PSs (cxOf CX P w K mg base N qual scope f cdv A outer s H E) body t/\t { nx:=fun _ H'=>Q .non H',rt:=Q } (start N vs) H):
  FnOk P w K mg base CX (k+1) f (W.fnOf name qual i body scope dV kV doc pm an cdv ct) ps sp:=by
 refine⟨len,fun A outer s H args us vs Q E Z O hb r M=>?_⟩
 have hl:=len _ _ _ _ M
 have KX:K.In s.heap:=O.mod.kin.keeps fun b o e=>(O.bs b o e).1
 have Y:s.heap.NoLimit:=O.mod.nolimit.keeps fun b o e=>(O.bs b o e).1
 have z:∀ y∈ps.zip us,scope.names.lookup y.1=some .local\/(scope.names.lookup y.1=some .cell/\((cellsFrom (s.heap.objs.size+1) scope.names []).lookup y.1).isSome=true):=fun⟨n,v⟩ hy=>by
  rcases S.par n (of_mem_zip hy).1 with q|q
  .exact .inl q
  .exact .inr ⟨q,W.cellsFrom_some _ _ _ (.inl q)⟩
 refine codeAny_call_function Z.depth (KX _ _ lk) rfl S.co S.gen rfl (W.codeRec_of KX a0) (hb _ _ _ _ ?_)
 refine wpAny_newFunctionEnv_cells S.kind z fun env he s1 x=>?_
 subst he
 refine⟨Y.keeps x.toInCall.keep,codeAny_func ?_⟩
 obtain⟨t,ht,hq⟩:=G A outer s H vs Q E (Z.deeper _) M
 have I:Inv (cxOf CX P w K mg base N qual scope f cdv A outer s H E) [] (start N vs) H s1:=zn2 S Z.hd O hl r x
 refine wpAny_mono (ht [] s1 (start N vs) H _ I hq) (fun fl s' L=>?_) fun e s' L=>L
 have fin:∀{j:St}{H':Hp}{v:V}{u:Value},Inv (cxOf CX P w K mg base N qual scope f cdv A outer s H E) [] j H' s'->RelV v u->Q v H'->CE outer P w H s Q u s':=
  fun{j H' v u} J U q=>⟨v,H',J.os,J.bare,J.base,J.hok,U,q⟩
 cases fl with
 |ret u=>
  obtain⟨v,j,H',J,U,q⟩:=L
  exact fin J U q
 |next=>
  obtain⟨j,H',J,q⟩:=L
  exact fin (v:=V.non) (u:=Value.none) J rfl q
 |brk=>
  obtain⟨_,_,_,q⟩:=L
  exact False.elim q
 |cont=>
  obtain⟨_,_,_,q⟩:=L
  exact False.elim q
end
section
section
variable {X:Cx}{x:Str}{p pos:Pos}{e:Expr}{es:List Expr}{t:TA}{id T:String}{r:List V->Hp->VK->Prop}
def tCB (r:List V->Hp->VK->Prop)(t:TA):TE:=fun σ H Q=>t σ H fun vs H1=>r vs H1 Q
theorem Z5 (M:CallR X (.builtin id) r)(J:Gl X x)(hm:X.mg x=none)(G:bootBuiltins x=some (.builtin id))(ha:PA X (e::es) t)(hn:x≠"__name__":=by decide)(j:(x==("__debug__":Str))=false:=by decide)
  (L:starEach (e::es) X.env=(false,eval e X.env)::starEach es X.env:=by rfl) (i:(backTo pos (starEach es X.env)).any (·.1)=false:=by rfl):PE X (.Call (.Name x p) (e::es) [] pos) (tCB r t):=by
 intro pins s σ H Q I h
 refine wpAny_Call_Name_kw (W0 I J hm G ?_ hn j)
 exact PyProof.Rows.callWith_builtin1 (thn (ha pos pins s σ H _ I h) fun us s1 ⟨vs,H1,N,q,z⟩=>M pins s1 σ H1 vs us Q N q z) L i
theorem B1 (M:CallR X (.type T) r)(J:Gl X x)(hm:X.mg x=none)(G:bootBuiltins x=some (.type T))(ha:PA X (e::es) t)(hn:x≠"__name__":=by decide)(j:(x==("__debug__":Str))=false:=by decide)
  (L:starEach (e::es) X.env=(false,eval e X.env)::starEach es X.env:=by rfl) (i:(backTo pos (starEach es X.env)).any (·.1)=false:=by rfl):PE X (.Call (.Name x p) (e::es) [] pos) (tCB r t):=by
 intro pins s σ H Q I h
 refine wpAny_Call_Name_kw (W0 I J hm G ?_ hn j)
 exact PyProof.Rows.callWith_type1 (thn (ha pos pins s σ H _ I h) fun us s1 ⟨vs,H1,N,q,z⟩=>M pins s1 σ H1 vs us Q N q z) L i
end
end
end L2
namespace HT
open PySem PyProof.Rows
theorem rcLt_int (A:Around)(s:Shared)(a:Int)(t:Tok)(c:Int)(u:Tok)(prog:Program)(w:World)(E:Value->Shared->Prop)(Q:Value->Shared->Prop)(h:Q (.bool (decide (a<c))) s):
  wpAny (model prog w) A (richCompare .Lt (.int a t) (.int c u)) Q E s:=
 (PyProof.Rows.lt_int h:wpAny (model prog w) A (compareOp .Lt (.int a t) (.int c u)) Q E s)
section
open PySem.SeqAt
open PySem.AutoSeq1 (wpAny_loadPart')
open PySem.MeetsSeq PySem.MeetsSeq2 PySem.MeetsSeq3
end
section
variable {prog:Program}{w:World}{A:Around}{E:Value->Shared->Prop}{s:Shared}
def sIx (n d:Nat):Option Int->Nat
 |none=>d
 |some v=>if v<0 then (v+(n:Int)).toNat else min v.toNat n
theorem sIx_none (n d:Nat):sIx n d none=d:=rfl
theorem sIx_nat (n d k:Nat):sIx n d (some (k:Int))=min k n:=by
 show (if (k:Int)<0 then ((k:Int)+(n:Int)).toNat else min (k:Int).toNat n)=min k n
 rw[if_neg (by omega),Int.toNat_natCast]
end
end HT
namespace L2
open List
open PySem PySem.Spec PyProof.Rows
section
abbrev TO:=St->Hp->(Option Int->Hp->Prop)->Prop
def PO (X:Cx)(e:Option Expr)(t:TO):Prop:=
 ∀(pins:List (Addr×Obj))(s:Shared)(σ:St)(H:Hp)(Q:Option Int->Hp->Prop),Inv X pins σ H s->t σ H Q->
  wpAny (model X.prog X.w) X.A (evalPart e X.env) (fun u s'=>∃ o H',Inv X pins σ H' s'/\IsPart u o/\Q o H') X.xe s
def xw2:TO:=fun _ H Q=>Q none H
def xa7 (t:TE):TO:=fun σ H Q=>t σ H fun x H1=>∃ i,x= .int i/\Q (some i) H1
section
variable {X:Cx}{e:Expr}{te:TE}{lo hi:Option Expr}{tl th:TO}{pos p2:Pos}
theorem xu5:PO X none xw2:=by
 intro pins s σ H Q I h
 rw[evalPart_none]
 exact wpAny_pure ⟨none,H,I,.none,h⟩
theorem xu4 (h:PE X e te):PO X (some e) (xa7 te):=by
 intro pins s σ H Q I hw
 rw[evalPart_some]
 refine thn (h pins s σ H _ I hw) fun u s1 j=>?_
 obtain⟨x,H1,J,z,G⟩:=j
 obtain⟨i,rfl,q⟩:=G
 obtain⟨t,rfl⟩:=z
 exact⟨some i,H1,J,.int i t,q⟩
def SlR (X:Cx)(r:V->Option Int->Option Int->Hp->VK->Prop):Prop:=
 ∀(pins:List (Addr×Obj))(s:Shared)(σ:St)(H:Hp)(x:V)(v vl vu:Value)(lo hi:Option Int)(sl:Addr)(Q:VK),Inv X pins σ H s->RelV x v->s.heap.IsSliceOf sl vl vu .none->IsPart vl lo->IsPart vu hi->r x lo hi H Q->
  ∃ T id,typeLookup (.type T) "__getitem__"=pure (some (.builtin id))/\s.TypeIs v T/\wpAny (model X.prog X.w) X.A (getItem v (.ref sl)) (EP X pins σ Q) X.xe s
def tSl (r:V->Option Int->Option Int->Hp->VK->Prop)(te:TE)(tl th:TO):TE:=fun σ H Q=>te σ H fun x H1=>tl σ H1 fun l H2=>th σ H2 fun u H3=>r x l u H3 Q
theorem yf7 {r:V->Option Int->Option Int->Hp->VK->Prop}(Z:SlR X r)(he:PE X e te)(hl:PO X lo tl)(U:PO X hi th):PE X (.Subscript e (.Slice lo hi none p2) pos) (tSl r te tl th):=by
 intro pins s σ H Q I h
 refine Subscript_ (thn (he pins s σ H _ I h) fun v s1 i=>?_)
 obtain⟨x,H1,I1,L,O⟩:=i
 refine wpAny_Slice (thn (hl pins s1 σ H1 _ I1 O) fun G s2 ⟨l,H2,I2,pl,N⟩=>thn (U pins s2 σ H2 _ I2 N) fun z j i=>?_)
 obtain⟨u,J,I3,S,M⟩:=i
 rw[evalPart_none]
 refine wpAny_pure ?_
 have I4:Inv X pins σ J { j with heap:=j.heap.push { cls:=.type "slice",data:=.fields #[G,z,.none] } }:=I3.kept (t':=j.toks) fun b ob q=>Heap.get?_push_of_some _ q
 obtain⟨T,id,hT,Y,hg⟩:=Z pins { j with heap:=j.heap.push { cls:=.type "slice",data:=.fields #[G,z,.none] } } σ J x v G z l u j.heap.objs.size Q I4 L (Heap.IsSliceOf.new ..) pl S M
 show wpAny (model X.prog X.w) X.A (subscriptTail e (.Slice lo hi none p2) v (.ref j.heap.objs.size)) (EP X pins σ Q) X.xe { j with heap:=j.heap.push { cls:=.type "slice",data:=.fields #[G,z,.none] } }
 exact tail_any (ops:=[.ref j.heap.objs.size,v]) Y hT hg (by with_unfolding_all rfl)
def cutV (xs:List V)(lo hi:Option Int):List V:=(xs.drop (HT.sIx xs.length 0 lo)).take (HT.sIx xs.length xs.length hi-HT.sIx xs.length 0 lo)
theorem zg3 (xs:List V)(lo hi:Option Int):(cutV xs lo hi).length<=xs.length:=by
 unfold cutV
 rw[length_take,length_drop]
 omega
end
end
section
def ixN (n:Nat)(i:Int):Option Nat:=if 0<=i then (if i<n then some i.toNat else none)else if -(n:Int)<=i then some (i+n).toNat else none
def atI {α:Type}(xs:List α)(i:Int):Option α:=(ixN xs.length i).bind fun j=>xs[j]?
theorem yn4 {n:Nat}{i:Int}{j:Nat}(h:ixN n i=some j):seqIndex? i n=some j/\j<n/\ -(n:Int)<=i/\i<n:=by
 unfold ixN at h
 by_cases q:0<=i
 .rw[if_pos q]at h
  by_cases h1:i<n
  .rw[if_pos h1]at h
   have e:i.toNat=j:=Option.some.inj h
   exact⟨by rw[seqIndex_of q h1,e],by omega,by omega,h1⟩
  .rw[if_neg h1]at h;cases h
 .rw[if_neg q]at h
  by_cases h1:-(n:Int)<=i
  .rw[if_pos h1]at h
   have e:(i+n).toNat=j:=Option.some.inj h
   exact⟨by rw[seqIndex_neg (by omega) h1,e],by omega,h1,by omega⟩
  .rw[if_neg h1]at h;cases h
theorem yi5 {q:Type}{xs:List q}{i:Int}{v:q}(h:atI xs i=some v):∃ j,seqIndex? i xs.length=some j/\xs[j]? =some v/\j<xs.length/\ -(xs.length:Int)<=i/\i<xs.length:=by
 unfold atI at h
 cases e:ixN xs.length i with
 |none=>rw[e]at h;cases h
 |some j=>
  rw[e]at h
  obtain⟨h1,h2,G,z⟩:=yn4 e
  exact⟨j,h1,h,h2,G,z⟩
theorem atI_last {i:Type}(xs:List i)(v:i):atI (xs++[v]) (-1)=some v:=by
 have j:(xs++[v]).length=xs.length+1:=by simp
 have e:ixN (xs++[v]).length (-1)=some xs.length:=by
  unfold ixN
  rw[j,if_neg (by decide),if_pos (by omega)]
  congr 1
  omega
 unfold atI
 rw[e]
 show (xs++[v])[xs.length]? =some v
 simp
def yi7 (b:Expr):Prop:=∀ o i,subscripted b false o i=operate [o,i] (getItem o i)
def IxR (X:Cx)(r:R2):Prop:=
 ∀(value slice:Expr)(pins:List (Addr×Obj))(s:Shared)(σ:St)(H:Hp)(x y:V)(v u:Value)(Q:VK),Inv X pins σ H s->RelV x v->RelV y u->r x y H Q->
  subscripted slice false v u=operate [v,u] (getItem v u)->wpAny (model X.prog X.w) X.A (subscriptTail value slice v u) (EP X pins σ Q) X.xe s
def MtR (X:Cx)(id:String)(r:V->List V->Hp->VK->Prop):Prop:=
 ∀(pins:List (Addr×Obj))(s:Shared)(σ:St)(H:Hp)(x:V)(xs:List V)(v:Value)(us:List Value)(Q:VK),Inv X pins σ H s->RelV x v->Vals xs us->r x xs H Q->
  wpAny (model X.prog X.w) X.A (call (.builtin id) (v::us)) (EP X pins σ Q) X.xe s
section
variable {X:Cx}{a b:Expr}{ta tb:TE}{pos:Pos}
theorem wy1 {r:R2}(z:IxR X r)(ha:PE X a ta)(G:PE X b tb)(j:yi7 b):PE X (.Subscript a b pos) (tOp r ta tb):=by
 intro pins s σ H Q I h
 exact Subscript_ (binT ha G I h fun v u s2 x y H2 J rx i q=>z a b pins s2 σ H2 x y v u Q J rx i q (j _ _))
def rIxL (K:W.Frag):R2:=fun x y H Q=>∃ p xs i v,x= .ref p/\y= .int i/\SqL K H p xs/\atI xs i=some v/\Q v H
theorem xq5:IxR X (rIxL X.K):=by
 intro value G pins s σ H x y v u Q I rx O h L
 obtain⟨p,xs,i,z,rfl,rfl,S,Y,q⟩:=h
 cases rx
 obtain⟨t,rfl⟩:=O
 obtain⟨its,r,pl,hz⟩:=I.list S
 obtain⟨j,h1,h2,h3,h4,Z⟩:=yi5 Y
 obtain⟨w,N,J⟩:=r.get h2
 have U:=r.length
 have hn:=A0
 have fin:EP X pins σ Q w s:=⟨z,H,I,J,q⟩
 by_cases M:0<=i
 .have hj:i.toNat=j:=by
   rw[seqIndex_of M Z]at h1
   exact Option.some.inj h1
  exact item_listR pl.isList M (by omega) (by rw[hj];simpa using N) fin L
 .have hj:(i+(its.toArray.size:Int)).toNat=j:=by
   rw[seqIndex_neg (by omega) h4]at h1
   rw[size_toArray,<-U]
   exact Option.some.inj h1
  exact subscriptTail_builtinR (x:=w) pl.isList.typeIs slot_list_getitem.lookup
   (wpAny_getItem_list_neg (Q:=fun r s'=>r=w/\EP X pins σ Q r s') pl.isList (by omega) (by rw[size_toArray] <;> omega) (by omega) (by rw[hj];simpa using N) ⟨rfl,fin⟩) L
theorem yx2 (its:List Value)(n j:Nat)(u:Value):Obj.mapSeq (·.setIfInBounds j u) { cls:=.type "list",data:=.seq its.toArray n }={ cls:=.type "list",data:=.seq (its.set j u).toArray n }:=by
 simp[Obj.mapSeq]
theorem Inv.lst {pins:List (Addr×Obj)}{σ:St}{H:Hp}{s:Shared}{p:Addr}{xs:List V}(I:Inv X pins σ H s)(h:H p=some (.lst xs)):
  ∃(its:List Value)(n:Nat),Vals xs its/\s.heap.get? p=some { cls:=.type "list",data:=.seq its.toArray n }/\xs.length<=sizeLine:=by
 obtain⟨z,its,n,r,e⟩:=I.hok p _ h
 exact⟨its,n,r,e,z⟩
theorem Inv.lstUpd {pins:List (Addr×Obj)}{σ:St}{H:Hp}{s:Shared}{p:Addr}{xs ys:List V}{its its':List Value}{n n':Nat}{f:Obj->Obj}(I:Inv X pins σ H s)(h:H p=some (.lst xs))
  (z:s.heap.get? p=some { cls:=.type "list",data:=.seq its.toArray n }) (i:f { cls:=.type "list",data:=.seq its.toArray n }={ cls:=.type "list",data:=.seq its'.toArray n' }) (r:Vals ys its') (j:ys.length<=sizeLine) (t:Nat):
  Inv X pins σ (upd H p (.lst ys)) { s with heap:=s.heap.update p f,toks:=t }:=by
 have e:(s.heap.update p f).get? p=some { cls:=.type "list",data:=.seq its'.toArray n' }:=by
  rw[Heap.get?_update_self f z (by rw[i] <;> rfl),i]
 refine I.write (x:=p) (e:=p) (by rw[h];trivial) (.inl rfl) (fun b u G q=>(Heap.get?_update_other _ _ (Ne.symm G)).trans q) ⟨_,e⟩ ?_
 exact⟨j,its',n',r,e⟩
def xj3:V->V->V->Hp->(Hp->Prop)->Prop:=fun o i v H Q=>∃ p xs k j,o= .ref p/\i= .int k/\H p=some (.lst xs)/\ixN xs.length k=some j/\Q (upd H p (.lst (xs.set j v)))
theorem N6:PSet X xj3:=by
 intro pins s σ H o i v ov iv u Q I U Y S h
 obtain⟨p,xs,k,j,rfl,rfl,J,hj,q⟩:=h
 cases U
 obtain⟨t,rfl⟩:=Y
 obtain⟨its,n,r,z,Z⟩:=I.lst J
 obtain⟨h1,h2,M,L⟩:=yn4 hj
 have G:=r.length
 have hn:=A0
 have O:Inv X pins σ (upd H p (.lst (xs.set j v))) { s with heap:=s.heap.update p (Obj.mapSeq (·.setIfInBounds j u)) }:=
  I.lstUpd J z (yx2 its n j u) (r.set S j) (by rw[length_set];exact Z) s.toks
 by_cases N:0<=k
 .have hk:k.toNat=j:=by
   rw[seqIndex_of N L]at h1
   exact Option.some.inj h1
  exact W.ki_setAt z N (by omega) (by rw[size_toArray,<-G];exact L) (by rw[hk];exact⟨_,O,q⟩)
 .have hk:(k+(its.toArray.size:Int)).toNat=j:=by
   rw[seqIndex_neg (by omega) M]at h1
   rw[size_toArray,<-G]
   exact Option.some.inj h1
  exact W.ki_setBack z (by omega) (by rw[size_toArray,<-G];exact M) (by omega) (by rw[hk];exact⟨_,O,q⟩)
theorem zq3 (lo hi:Option Int)(n:Nat):(sliceBounds lo hi none n).1=((HT.sIx n 0 lo:Nat):Int)/\(sliceBounds lo hi none n).2.1=((HT.sIx n n hi:Nat):Int)/\(sliceBounds lo hi none n).2.2=1:=by
 refine⟨?_,?_,rfl⟩
 .cases lo with
  |none=>simp[sliceBounds,HT.sIx]
  |some i=>
   simp only[sliceBounds,HT.sIx,Option.getD_none,show (1:Int)>0 by decide,if_true]
   by_cases h:i<0
   .simp only[h,if_true] <;> omega
   .simp only[h,if_false] <;> omega
 .cases hi with
  |none=>simp[sliceBounds,HT.sIx]
  |some i=>
   simp only[sliceBounds,HT.sIx,Option.getD_none,show (1:Int)>0 by decide,if_true]
   by_cases h:i<0
   .simp only[h,if_true] <;> omega
   .simp only[h,if_false] <;> omega
theorem zv4 (its:List Value)(lo hi:Option Int):slicePick its.toArray lo hi none=((its.drop (HT.sIx its.length 0 lo)).take (HT.sIx its.length its.length hi-HT.sIx its.length 0 lo)).toArray:=by
 obtain⟨h1,h2,i⟩:=zq3 lo hi its.toArray.size
 unfold slicePick
 rw[h1,h2,i]
 simp only[sliceRange_one,pick_run,size_toArray] <;> rfl
def rSlL (K:W.Frag):V->Option Int->Option Int->Hp->VK->Prop:=fun x lo hi H Q=>∃ a xs,x= .ref a/\SqL K H a xs/\∀ p,H p=none->Q (.ref p) (upd H p (.lst (cutV xs lo hi)))
theorem xw5:SlR X (rSlL X.K):=by
 intro pins s σ H x v N M lo hi sl Q I rx L pl z h
 obtain⟨a,xs,rfl,J,q⟩:=h
 cases rx
 obtain⟨its,r,j,G⟩:=I.list J
 have i:=r.length
 refine⟨"list",_,slot_list_getitem.lookup,j.isList.typeIs,?_⟩
 refine wpAny_getItem_list_slice j.isList L pl z .none (by simp) ?_ (by rw[size_toArray] <;> omega)
 rw[zv4,<-i]
 refine⟨.ref s.heap.objs.size,_,I.laid (t':=s.toks) (o:=.lst (cutV xs lo hi)) (fun b ob q=>Heap.get?_push_of_some _ q) (Nat.le_refl _) ?_,rfl,q _ (I.hok.fresh (Nat.le_refl _))⟩
 exact⟨Nat.le_trans (zg3 xs lo hi) G,_,0,(r.drop (HT.sIx xs.length 0 lo)).take (HT.sIx xs.length xs.length hi-HT.sIx xs.length 0 lo),Heap.get?_push_size _ rfl⟩
def zy7:V->Bool
 | .non=>true
 | .bl _=>true
 | .int _=>true
 | .str _=>true
 |_=>false
def eqV:V->V->Bool
 | .non,.non=>true
 | .bl a,.bl b=>a==b
 | .bl a,.int b=>(if a then 1 else 0)==b
 | .int a,.bl b=>a==(if b then 1 else 0)
 | .int a,.int b=>a==b
 | .str a,.str b=>a==b
 |_,_=>false
theorem xb2 {A:Around}{s:Shared}{y x:V}{u v:Value}(i:RelV y u)(rx:RelV x v)(q:zy7 y=true)(j:zy7 x=true):SeqAt.EqAt A s u v (eqV y x):=by
 cases y with
 |non=>
  cases i
  cases x with
  |non=>cases rx;exact SeqAt.EqAt.same _
  |bl b=>cases rx;exact SeqAt.EqAt.none_bool b
  |int b=>obtain⟨t,rfl⟩:=rx;exact SeqAt.EqAt.none_int b t
  |str b=>obtain⟨t,rfl⟩:=rx;exact SeqAt.EqAt.none_str b t
  |_=>exact absurd (show false=true from j) Bool.false_ne_true
 |bl a=>
  cases i
  cases x with
  |non=>cases rx;exact SeqAt.EqAt.bool_none a
  |bl b=>cases rx;exact SeqAt.EqAt.bool_bool a b
  |int b=>obtain⟨t,rfl⟩:=rx;exact SeqAt.EqAt.bool_int a b t
  |str b=>obtain⟨t,rfl⟩:=rx;exact SeqAt.EqAt.bool_str a b t
  |_=>exact absurd (show false=true from j) Bool.false_ne_true
 |int a=>
  obtain⟨t',rfl⟩:=i
  cases x with
  |non=>cases rx;exact SeqAt.EqAt.int_none a t'
  |bl b=>cases rx;exact SeqAt.EqAt.int_bool a t' b
  |int b=>obtain⟨t,rfl⟩:=rx;exact SeqAt.EqAt.int_int a t' b t
  |str b=>obtain⟨t,rfl⟩:=rx;exact SeqAt.EqAt.int_str a t' b t
  |_=>exact absurd (show false=true from j) Bool.false_ne_true
 |str a=>
  obtain⟨t',rfl⟩:=i
  cases x with
  |non=>cases rx;exact SeqAt.EqAt.str_none a t'
  |bl b=>cases rx;exact SeqAt.EqAt.str_bool a t' b
  |int b=>obtain⟨t,rfl⟩:=rx;exact SeqAt.EqAt.str_int a t' b t
  |str b=>obtain⟨t,rfl⟩:=rx;exact SeqAt.EqAt.str_str a t' b t
  |_=>exact absurd (show false=true from j) Bool.false_ne_true
 |_=>exact absurd (show false=true from q) Bool.false_ne_true
def eqU (x:V)(u:Value):Bool:=match u with
 | .none=>eqV .non x
 | .bool b=>eqV (.bl b) x
 | .int i _=>eqV (.int i) x
 | .str z _=>eqV (.str z) x
 |_=>false
theorem xx1 {x y:V}{u:Value}(r:RelV y u)(f:zy7 y=true):eqU x u=eqV y x:=by
 cases y with
 |non=>cases r;rfl
 |bl b=>cases r;rfl
 |int i=>obtain⟨t,rfl⟩:=r;rfl
 |str z=>obtain⟨t,rfl⟩:=r;rfl
 |_=>exact absurd (show false=true from f) Bool.false_ne_true
theorem ze5 {x:V}:∀{xs:List V}{us:List Value},Vals xs us->xs.all zy7=true->us.any (eqU x)=xs.any fun y=>eqV y x
 |_,_,.nil,_=>rfl
 |y::xs,u::us,.cons r t,f=>by
  rw[all_cons,Bool.and_eq_true]at f
  rw[any_cons,any_cons,xx1 r f.1,ze5 t f.2]
theorem zt6 {A:Around}{s:Shared}{x:V}{v:Value}(rx:RelV x v)(j:zy7 x=true):∀{xs:List V}{us:List Value},Vals xs us->xs.all zy7=true->∀ u∈us,SeqAt.EqAt A s u v (eqU x u)
 |_,_,.nil,_=>fun u i=>by cases i
 |y::xs,u::us,.cons r t,f=>fun q i=>by
  rw[all_cons,Bool.and_eq_true]at f
  rcases List.mem_cons.mp i with rfl|i
  .rw[xx1 r f.1];exact xb2 r rx f.1 j
  .exact zt6 rx j t f.2 q i
def inV (x:V)(xs:List V):Bool:=xs.any fun y=>eqV y x
def rIn (K:W.Frag)(neg:Bool):R2:=fun x y H Q=>∃ p xs,y= .ref p/\(SqL K H p xs\/SqT K H p xs)/\zy7 x=true/\xs.all zy7=true/\Q (.bl (if neg then !inV x xs else inV x xs)) H
theorem zp7:OpR X (compareOp .In) (rIn X.K false):=by
 intro pins s σ H x y v u Q I rx z h
 obtain⟨p,xs,rfl,i,j,fs,q⟩:=h
 cases z
 rcases i with i|i
 .obtain⟨its,r,pl,hz⟩:=I.list i
  refine SeqAt.in_listAt (eqU x) pl.isList (fun w hw=>zt6 rx j r fs w (by simpa using hw)) ⟨.bl _,H,I,rfl,?_⟩
  rw[show its.toArray.any (eqU x)=its.any (eqU x)by simp,ze5 r fs]
  exact q
 .obtain⟨its,r,pl,hz⟩:=I.tuple i
  refine SeqAt.in_tupleAt (eqU x) pl (fun w hw=>zt6 rx j r fs w (by simpa using hw)) ⟨.bl _,H,I,rfl,?_⟩
  rw[show its.toArray.any (eqU x)=its.any (eqU x)by simp,ze5 r fs]
  exact q
theorem G6:CallR X (.builtin "len") (fun xs H Q=>∃ p ys,xs=[.ref p]/\(SqL X.K H p ys\/SqT X.K H p ys)/\Q (.int ys.length) H):=by
 intro pins s σ H xs us Q I r h
 obtain⟨p,ys,rfl,j,q⟩:=h
 obtain⟨u,rfl,rx⟩:=P6 r
 cases rx
 have hn:=A0
 rcases j with j|j
 .obtain⟨its,r',pl,hz⟩:=I.list j
  have i:=r'.length
  exact Calls.call_len_list pl.isList (by simp only[size_toArray] <;> omega) ⟨.int ys.length,H,I.tok _,⟨s.toks+1,by rw[size_toArray,i]⟩,q⟩
 .obtain⟨its,r',pl,hz⟩:=I.tuple j
  have i:=r'.length
  exact len_tuple pl (by simp only[size_toArray] <;> omega) ⟨.int ys.length,H,I.tok _,⟨s.toks+1,by rw[size_toArray,i]⟩,q⟩
theorem zm9:CallR X (.builtin "len") (fun xs H Q=>∃ z,xs=[.str z]/\z.length<=sizeLine/\Q (.int z.length) H):=by
 intro pins s σ H xs us Q I r h
 obtain⟨z,rfl,i,q⟩:=h
 obtain⟨u,rfl,t,rfl⟩:=P6 r
 have hn:=A0
 exact len_str (by omega) ⟨.int z.length,H,I.tok _,⟨_,rfl⟩,q⟩
theorem CallR.or {f:Value}{r j:List V->Hp->VK->Prop}(h:CallR X f r)(h':CallR X f j):CallR X f (fun xs H Q=>r xs H Q\/j xs H Q):=by
 intro pins s σ H xs us Q I i q
 rcases q with q|q
 .exact h pins s σ H xs us Q I i q
 .exact h' pins s σ H xs us Q I i q
theorem zm8:CallR X (.type "list") (fun xs H Q=>∃ p ys,xs=[.ref p]/\(SqL X.K H p ys\/SqT X.K H p ys)/\∀ l,H l=none->Q (.ref l) (upd H l (.lst ys))):=by
 intro pins s σ H xs us Q I r h
 obtain⟨p,ys,rfl,G,q⟩:=h
 obtain⟨u,rfl,rx⟩:=P6 r
 cases rx
 have fin:∀(its:List Value),Vals ys its->ys.length<=sizeLine->∀(h':Heap)(j:Nat),(∀ b o',s.heap.get? b=some o'->h'.get? b=some o')->
   h'.get? s.heap.objs.size=some { cls:=.type "list",dict:=none,data:=.seq its.toArray j,slots:=#[] }->EP X pins σ Q (.ref s.heap.objs.size) { s with heap:=h' }:=fun its i z h' j kp e=>
  ⟨.ref s.heap.objs.size,_,I.laid (t':=s.toks) kp (Nat.le_refl _) (show ObjOk X.prog X.w _ h' _ (.lst ys)from⟨z,its,j,i,e⟩),rfl,q _ (I.hok.fresh (Nat.le_refl _))⟩
 rcases G with G|G
 .obtain⟨its,i,pl,z⟩:=I.list G
  have J:=i.length
  obtain⟨o,L,M,n,hd⟩:=pl.isList
  exact call_list_seq p (.inl rfl) L M hd (fun h' j kp e=>fin its i z h' j kp e) (by simp only[size_toArray] <;> omega)
 .obtain⟨its,i,pl,z⟩:=I.tuple G
  have J:=i.length
  obtain⟨o,L,M,n,hd⟩:=pl
  exact call_list_seq p (.inr rfl) L M hd (fun h' j kp e=>fin its i z h' j kp e) (by simp only[size_toArray] <;> omega)
def tyV (K:W.Frag)(T:String)(x:V)(H:Hp):Prop:=match x with
 | .str _=>T="str"
 | .int _=>T="int"
 | .ref p=>(T="list"/\∃ xs,SqL K H p xs)\/(T="tuple"/\∃ o,K.lookup p=some o/\o.cls= .type "tuple"/\o.dict=none)\/
   (T="dict"/\((∃ kvs,H p=some (.dK kvs))\/∃ kvs,H p=some (.dT kvs)))\/(T="set"/\∃ S n,H p=some (.set S n))
 |_=>False
theorem xz2 {pins:List (Addr×Obj)}{σ:St}{H:Hp}{s:Shared}{T:String}{x:V}{v:Value}(I:Inv X pins σ H s)(r:RelV x v)(ty:tyV X.K T x H):
  s.TypeIs v T/\∀ a,v= .ref a->∃ ob,s.heap.get? a=some ob/\ob.dict=none:=by
 cases x with
 |str z=>
  obtain⟨t,rfl⟩:=r
  cases (show T="str" from ty)
  exact⟨typeIs_str s z t,fun _ e=>nomatch e⟩
 |int i=>
  obtain⟨t,rfl⟩:=r
  cases (show T="int" from ty)
  exact⟨typeIs_int s i t,fun _ e=>nomatch e⟩
 |ref p=>
  cases r
  rcases ty with⟨rfl,xs,G⟩|⟨rfl,o,j,J,hd⟩|⟨rfl,j⟩|⟨rfl,S,n,j⟩
  .obtain⟨its,_,pl,_⟩:=I.list G
   refine⟨pl.isList.typeIs,fun a e=>?_⟩
   cases e
   obtain⟨o,n,e,c,hd,_⟩:=pl
   exact⟨o,e,hd⟩
  .refine⟨⟨o,I.kIn p o j,J⟩,fun a e=>?_⟩
   cases e
   exact⟨o,I.kIn _ o j,hd⟩
  .have z:∃ o,s.heap.get? p=some o/\o.ExactDict:=by
    rcases j with⟨kvs,j⟩|⟨kvs,j⟩
    .obtain⟨_,_,_,_,o,_,_,e,ex,_⟩:=I.hok p _ j
     exact⟨o,e,ex⟩
    .obtain⟨_,_,_,_,o,_,_,e,ex,_⟩:=I.hok p _ j
     exact⟨o,e,ex⟩
   obtain⟨o,e,ex⟩:=z
   refine⟨⟨o,e,ex.1⟩,fun a q=>?_⟩
   cases q
   exact⟨o,e,ex.2.1⟩
  .obtain⟨o,_,_,_,e,ex,_⟩:=I.hok p _ j
   refine⟨⟨o,e,ex.1⟩,fun a q=>?_⟩
   cases q
   exact⟨o,e,ex.2.1⟩
 |_=>exact False.elim ty
def tBM0 (K:W.Frag)(T:String)(r:V->List V->Hp->VK->Prop)(to:TE):TE:=fun σ H Q=>to σ H fun x H1=>tyV K T x H1/\r x [] H1 Q
def tBM (K:W.Frag)(T:String)(r:V->List V->Hp->VK->Prop)(to:TE)(t:TA):TE:=fun σ H Q=>to σ H fun x H1=>tyV K T x H1/\t σ H1 fun xs H2=>r x xs H2 Q
variable {o e:Expr}{es:List Expr}{to:TE}{t:TA}{name:Str}{apos cpos:Pos}{T id:String}{r:V->List V->Hp->VK->Prop}
theorem xh0 (M:PlainAttrs T)(slot:Slot T name id)(z:typeOf (.builtin id)=pure (.type "method_descriptor"))(hm:MtR X id r)(N:PE X o to)
  (j:attributeBase o name X.env (eval o X.env)=eval o X.env:=by rfl) (i:(apos.endLine==cpos.line)=true:=by rfl):PE X (.Call (.Attribute o name apos) [] [] cpos) (tBM0 X.K T r to):=by
 intro pins s σ H Q I h
 refine wpAny_Call_method0_late j i (thn (N pins s σ H _ I h) fun v s1 q=>?_)
 obtain⟨x,H1,J,G,ty,L⟩:=q
 obtain⟨h1,h2⟩:=xz2 J G ty
 exact⟨T,id,M,slot,z,h1,h2,Calls.callWith_builtin rfl (PySem.evalArgs_none (hm pins s1 σ H1 x [] v [] Q J G .nil L))⟩
theorem zu3 (Y:PlainAttrs T)(slot:Slot T name id)(J:typeOf (.builtin id)=pure (.type "method_descriptor"))(hm:MtR X id r)(ho:PE X o to)(ha:PA X (e::es) t)
  (q:attributeBase o name X.env (eval o X.env)=eval o X.env:=by rfl)
  (G:((backTo cpos (starEach (e::es) X.env)).all (fun x=>!x.1)&&(backToKw cpos (keywordEach [] X.env)).all (fun x=>x.1.isSome)
   &&decide ((e::es).length+([]:List Keyword).length+(if ([]:List Keyword).isEmpty then 0 else 1)<30))=true:=by rfl)
  (j:(apos.endLine==cpos.line)=true:=by rfl) (Z:starEach (e::es) X.env=(false,eval e X.env)::starEach es X.env:=by rfl) (i:(backTo cpos (starEach es X.env)).any (·.1)=false:=by rfl):
  PE X (.Call (.Attribute o name apos) (e::es) [] cpos) (tBM X.K T r to t):=by
 intro pins s σ H Q I h
 refine wpAny_Call_method_late q G j rfl (thn (ho pins s σ H _ I h) fun v s1 z=>?_)
 obtain⟨x,H1,N,L,ty,U⟩:=z
 obtain⟨h1,h2⟩:=xz2 N L ty
 refine⟨T,id,Y,slot,J,h1,h2,?_⟩
 have M:=ha cpos pins s1 σ H1 _ N U
 rw[Z]at M ⊢
 refine Calls.callWith_builtin (by show (false || (backTo cpos (starEach es X.env)).any (·.1))=false;rw[i] <;> rfl) (Calls.evalArgs_plain ?_)
 exact thn M fun us s2 ⟨vs,H2,I2,O,S⟩=>hm pins s2 σ H2 x vs v us Q I2 L O S
end
end
section
def MtM (X:Cx)(id:String)(r:V->List V->Hp->VK->Prop):Prop:=
 ∀(pins:List (Addr×Obj))(s:Shared)(σ:St)(H:Hp)(x:V)(xs:List V)(v:Value)(us:List Value)(Q:VK),Inv X pins σ H s->RelV x v->Vals xs us->r x xs H Q->
  wpAny (model X.prog X.w) X.A (call (.builtin id) (v::us)) (EP X pins σ Q) X.xe s
theorem Vals.one:∀{x:V}{us:List Value},Vals [x] us->∃ u,us=[u]/\RelV x u
 |_,_,.cons r .nil=>⟨_,rfl,r⟩
theorem Vals.zero:∀{us:List Value},Vals [] us->us=[]
 |_,.nil=>rfl
theorem Vals.dropLast {xs:List V}{us:List Value}(h:Vals xs us):Vals xs.dropLast us.dropLast:=by
 induction h with
 |nil=>exact .nil
 |cons r t i=>
  cases t with
  |nil=>exact .nil
  |cons q t'=>exact .cons r i
theorem Vals.reverse {xs:List V}{us:List Value}(h:Vals xs us):Vals xs.reverse us.reverse:=by
 induction h with
 |nil=>exact .nil
 |cons r t i=>rw[reverse_cons,reverse_cons];exact Vals.append i (.cons r .nil)
theorem Vals.rep {xs:List V}{us:List Value}(h:Vals xs us):∀ k:Nat,Vals (List.replicate k xs).flatten (List.replicate k us).flatten
 |0=>.nil
 |k+1=>by
  rw[replicate_succ,replicate_succ,flatten_cons,flatten_cons]
  exact Vals.append h (Vals.rep h k)
theorem yw2 {i:Type}(l:List i):l.eraseIdx (l.length-1)=l.dropLast:=by
 induction l with
 |nil=>rfl
 |cons a r j=>
  cases r with
  |nil=>rfl
  |cons b r=>
   have e:(a::b::r).length-1=((b::r).length-1)+1:=by
    have h1:(a::b::r).length=r.length+2:=rfl
    have h2:(b::r).length=r.length+1:=rfl
    omega
   rw[e,eraseIdx_cons_succ,j]
   all_goals rfl
theorem zn8 (its:List Value):∀(k:Nat)(acc:List Value),
  List.foldl (fun j i=>j++i) acc.toArray (List.replicate k its.toArray)=(acc++(List.replicate k its).flatten).toArray
 |0,acc=>by simp
 |k+1,acc=>by
  have e:acc.toArray++its.toArray=(acc++its).toArray:=by simp
  have q:(acc++its)++(List.replicate k its).flatten=acc++(List.replicate (k+1) its).flatten:=by
   rw[replicate_succ,flatten_cons,append_assoc]
  rw[<-q,<-zn8 its k (acc++its),<-e,replicate_succ,foldl_cons]
section
variable {X:Cx}{pins:List (Addr×Obj)}{σ:St}{H:Hp}{s:Shared}{l b:Addr}{xs ys zs:List V}
theorem Inv.lset {its its':List Value}{n:Nat}{f:Array Value->Array Value}{t':Nat}(I:Inv X pins σ H s)(L:H l=some (.lst xs))
  (e:s.heap.get? l=some { cls:=.type "list",data:=.seq its.toArray n }) (G:f its.toArray=its'.toArray) (j:Vals ys its') (i:ys.length<=sizeLine):
  Inv X pins σ (upd H l (.lst ys)) { s with heap:=s.heap.update l (Obj.mapSeq f),toks:=t' }:=by
 have q:=PySem.IsL.update e f
 rw[G]at q
 refine I.write (x:=l) (e:=l) (by rw[L];exact trivial) (.inl rfl) (fun b' u J z=>(Heap.get?_update_other s.heap (Obj.mapSeq f) (Ne.symm J)).trans z) ⟨_,q⟩ ?_
 exact⟨i,its',_,j,q⟩
theorem Inv.lnew {its:List Value}{t':Nat}(I:Inv X pins σ H s)(j:Vals ys its)(i:ys.length<=sizeLine):
  Inv X pins σ (upd H s.heap.objs.size (.lst ys)) { s with heap:=s.heap.push { cls:=.type "list",data:=.seq its.toArray },toks:=t' }:=
 I.laid (fun _ _ q=>Heap.get?_push_of_some _ q) (Nat.le_refl _) ⟨i,its,0,j,Heap.get?_push_size _ rfl⟩
theorem Inv.fresh (I:Inv X pins σ H s):H s.heap.objs.size=none:=I.hok.fresh (Nat.le_refl _)
theorem Inv.lstM (I:Inv X pins σ H s)(i:H l=some (.lst xs)):xs.length<=sizeLine/\∃(its:List Value)(n:Nat),Vals xs its/\xs.length=its.length/\s.heap.get? l=some { cls:=.type "list",data:=.seq its.toArray n }:=by
 obtain⟨z,its,n,r,e⟩:=I.hok l _ i
 exact⟨z,its,n,r,r.length,e⟩
theorem ye2 {n:Nat}(h:n<=sizeLine):Builtin.List.listTooLong n=false:=by
 unfold Builtin.List.listTooLong
 exact decide_eq_false (by omega)
end
section
variable {X:Cx}
def yt5:V->List V->Hp->VK->Prop:=fun x vs H Q=>∃ l xs y,x= .ref l/\vs=[y]/\H l=some (.lst xs)/\xs.length<sizeLine/\Q .non (upd H l (.lst (xs++[y])))
theorem d9:MtM X "list.append" yt5:=by
 intro pins s σ H x vs v us Q I rx j h
 obtain⟨l,xs,y,rfl,rfl,i,J,q⟩:=h
 cases rx
 obtain⟨u,rfl,G⟩:=j.one
 obtain⟨z,its,n,r,L,e⟩:=I.lstM i
 refine call_meets F.slot_list_append ⟨_,e,rfl⟩ F.entry_list_append (F.args_list_append_2 _ _) (PySem.list_append l its.toArray n u (by rw[size_toArray];omega)) ⟨e,?_⟩
 refine⟨.non,_,I.lset (its':=its++[u]) i e (by simp) (r.append (.cons G .nil)) ?_,rfl,q⟩
 rw[length_append,length_singleton]
 omega
def rPop:V->List V->Hp->VK->Prop:=fun x vs H Q=>∃ l xs y,x= .ref l/\vs=[]/\H l=some (.lst xs)/\xs[xs.length-1]? =some y/\Q y (upd H l (.lst xs.dropLast))
theorem xe7:MtM X "list.pop" rPop:=by
 intro pins s σ H x vs v us Q I rx J h
 obtain⟨l,xs,y,rfl,rfl,G,M,q⟩:=h
 cases rx
 have j:=J.zero
 subst j
 obtain⟨z,its,n,r,O,e⟩:=I.lstM G
 obtain⟨u,N,L⟩:=r.get M
 have i:its.toArray[its.toArray.size-1]? =some u:=by
  show its.toArray[its.length-1]? =some u
  rw[<-Array.getElem?_toList,<-O]
  exact N
 refine call_meets F.slot_list_pop ⟨_,e,rfl⟩ F.entry_list_pop (F.args_list_pop_1 _) (MeetsSeq.list_pop_last l its.toArray n u i (by rw[size_toArray];omega)) ⟨e,?_⟩
 refine⟨y,_,I.lset (its':=its.dropLast) G e ?_ r.dropLast ?_,L,q⟩
 .show its.toArray.eraseIdxIfInBounds (its.toArray.size-1)=its.dropLast.toArray
  rw[size_toArray,eraseIdxIfInBounds_toArray,yw2]
 .rw[length_dropLast]
  omega
def rRep:R2:=fun x y H Q=>∃ l k xs,x= .ref l/\y= .int k/\H l=some (.lst xs)/\ -(2^63)<=k/\k<2^63/\xs.length*k.toNat<=sizeLine/\
 ∀ p,H p=none->Q (.ref p) (upd H p (.lst (List.replicate k.toNat xs).flatten))
theorem xq3 {i:Type}(xs:List i)(k:Nat):(List.replicate k xs).flatten.length=k*xs.length:=by
 induction k with
 |zero=>simp
 |succ k j=>rw[replicate_succ,flatten_cons,length_append,j,Nat.succ_mul,Nat.add_comm]
theorem xh7:OpR X (binaryOp .Mult) rRep:=by
 intro pins s σ H x y v u Q I rx S h
 obtain⟨l,k,xs,rfl,rfl,Z,h1,h2,O,q⟩:=h
 cases rx
 obtain⟨t,rfl⟩:=S
 obtain⟨z,its,n,r,Y,e⟩:=I.lstM Z
 have G:its.toArray.size*k.toNat<=sizeLine:=by rw[size_toArray,<-Y];exact O
 have L:¬ its.toArray.size*k.toNat>(2^63-1) / 8:=by
  have:(sizeLine:Nat)<=(2^63-1) / 8:=by decide
  omega
 have J:¬ (!Builtin.List.listFitsIndex k)=true:=by
  rw[fitsIndex_both h1 h2]
  exact Bool.false_ne_true
 have i:¬ Builtin.List.listTooLong (its.toArray.size*k.toNat)=true:=by
  rw[ye2 G]
  exact Bool.false_ne_true
 have j:List.foldl (fun N M=>N++M) #[] (List.replicate (if its.toArray.isEmpty=true then 0 else k.toNat) its.toArray)=(List.replicate k.toNat its).flatten.toArray:=by
  have f0:∀ m:Nat,List.foldl (fun N M=>N++M) #[] (List.replicate m its.toArray)=(List.replicate m its).flatten.toArray:=fun m=>by
   have:=zn8 its m []
   rw[nil_append]at this
   exact this
  rw[f0]
  cases its with
  |nil=>simp
  |cons a r'=>rw[if_neg (by simp)]
 refine wpAny_binaryOp_repeat_ref (T:="list") (U:="int") (by decide) ⟨_,e,rfl⟩ (fun s'=>typeIs_int s' k t) noFill_list_mul F.fills_int_mul F.slot_int_rmul repeat_list F.slot_int_index.lookup
  (call_meets F.slot_int_rmul (typeIs_int s k t) F.entry_int_rmul (F.args_int_rmul_2 _ _) (int___rmul___int_list k t l its.toArray n)
   ⟨e,rfl,⟨_,e,rfl⟩,call_meets F.slot_list_mul ⟨_,e,rfl⟩ F.entry_list_mul (F.args_list_mul_2 _ _) (AutoListH.list___mul___list_int_3 l its.toArray n k t J L i) ⟨e,?_⟩⟩)
 rw[j]
 exact⟨.ref _,_,I.lnew (t':=s.toks) (r.rep k.toNat) (by rw[xq3,Nat.mul_comm];exact O),rfl,q _ I.fresh⟩
end
section
variable {prog:Program}{w:World}{A:Around}{E:Value->Shared->Prop}{s:Shared}
end
section
variable {X:Cx}
end
end
end L2
namespace Att
open PySem PySem.W PySem.Calls PyProof.Rows
theorem A4 {P:Params}{h:Heap}:∀(ns:List Int)(vs:List Value),WellAll P h vs (ns.map WData.int)->IntsAre vs ns:=by
 intro ns
 induction ns with
 |nil=>
  intro vs w
  rw[List.map_nil]at w
  cases w
  exact .nil
 |cons n ns i=>
  intro vs w
  rw[List.map_cons]at w
  cases w with
  |cons a b=>
   cases a
   exact .cons _ _ (i _ b)
theorem yu9 {l:OpenLaw}{n:Nat}(hn:l.most=some n){P:Params}{h:Heap}{args:List WData}{i:List Value}
  (j:l.row.toRowW.claim.pre args=true) (L:WellAll P h i args):
  ∃ a vs ns,i=[Value.ref a]/\args=[WData.list (ns.map WData.int)]/\h.get? a=some { cls:=.type "list",data:=.seq vs.toArray }/\IntsAre vs ns/\ns.length<=n:=by
 have M:WShape.hasAll [] args [.list .int]=true:=(pre_splitW j).1
 have N:l.pre.holds [] { args:=args }=true:=(pre_splitW j).2
 obtain⟨d,r,rfl,h1,h2⟩:=hasAllW_cons M
 obtain rfl:=hasAllW_nil h2
 obtain⟨xs,rfl,Z⟩:=hasW_list h1
 obtain⟨ns,rfl⟩:=items_int Z
 have z:ns.length<=n:=by
  unfold OpenLaw.pre at N
  have J:(WTm.not (.lt (.lit (.int (n:Int))) (.len (.arg 0)))).holds [] { args:=[.list (ns.map .int)] }=true:=by
   have J:=(holds_andW N).1
   rw[hn]at J
   exact J
  have I:=condW_of J (w_not (w_lt w_lit (w_len_list (w_arg rfl))))
  rw[List.length_map]at I
  refine Nat.le_of_not_lt fun q=>?_
  have U:(n:Int)<((ns.length:Nat):Int):=by omega
  first
   | (rw[decide_eq_true U]at I;exact absurd I (by decide))
   | (simp at I;omega)
 cases L with
 |cons S O=>
  cases O
  cases S with
  |list Y G=>exact⟨_,_,ns,rfl,rfl,Y,A4 ns _ G,z⟩
theorem ys4 (l:OpenLaw)(args:List WData):l.row.toRowW.claim.post args (.bool true) args=true:=
 postW_of (r:=l.row.toRowW) (X:=(true==true))
  (show WShape.has [] (.bool true) .bool=true by first|rfl|decide|simp[WShape.has,WShape.arms,WShape.armsAll])
  (show (WTm.eq .res (.lit (.bool true))).value [] { args:=args,res:=some (.bool true),after:=args }=some (.bool (true==true))from w_eq_bool (w_res rfl) w_lit) rfl
theorem attach_call {l:OpenLaw}{n:Nat}{q:Program}{j:List Str}{XP:(Str->Option Value)->Heap->Prop}{YP:World->Heap->Prop}{d:DefRec}
  (hn:l.most=some n) (S:d.params.defaults=[])
  (call:∀(w:World)(s₀ i:Shared)(mg mb:Str->Option Value)(M:Addr)(o:Obj)(pm cd doc:Value)(a:Addr)(vs:List Value)(ns:List Int),
   Ground q j [] XP w s₀ mg mb i.heap->YP w i.heap->
   i.heap.get? M=some o->o.data= .func (docDef d.name d.params d.body d.scope pm cd doc)->i.heap.CodeRec cd d.name->mg d.name=some (.ref M)->
   i.heap.get? a=some { cls:=.type "list",data:=.seq vs.toArray }->IntsAre vs ns->ns.length<=n->i.gens=#[]->
   codeAny (model l.prog w) callerA (.call (.ref M) ⟨[.ref a],[]⟩) (fun r s'=>r= .ok (.ret (.bool true))/\OldK i.heap s'.heap/\s'.os=i.os/\AllBare s'.gens) i):
  WalkO q j XP YP l.row.toRowW d [] (fun f vs=>PySem.call f vs):=by
 intro w s₀ i mg mb G Y M o pm cd doc dV kV ho hd U hD O hg args Z as I a0 a1 N a2
 obtain rfl:dV= .none:=Dflts.none hD S
 obtain rfl:kV= .none:=Dflts.noKw hD
 obtain⟨a,vs,ns,rfl,rfl,J,z,L⟩:=yu9 hn I N
 refine enter_call (codeAny_mono (call w s₀ i mg mb M o pm cd doc a vs ns G Y ho (fd_plain hd) U O J z L hg) fun r s' hq=>?_)
 obtain⟨rfl,h2,h3,h4⟩:=hq
 exact⟨.inl ⟨.bool true,.bool true,[],rfl,fun _=>rfl,.bool true,ys4 l _,fun _=>⟨List.Pairwise.nil,fun _ hm=>(nomatch hm)⟩⟩,h2,h3,h4⟩
section
variable {prog:Program}{w:World}{A:Around}{E:Value->Shared->Prop}{s:Shared}{K:Frag}
end
end Att
namespace L2
open List
open PySem PySem.Spec PyProof.Rows
section
theorem zr7:∀{vs:List Value}{ns:List Int},IntsAre vs ns->Vals (ns.map V.int) vs
 |_,_,.nil=>.nil
 |_,_,.cons n t h=>.cons ⟨t,rfl⟩ (zr7 h)
def Only (H:Hp):Prop:=∀ b,H b=none\/∃ o xs,H b=some (.frz o (.lst xs))
theorem yd4 {P:Program}{w:World}{K:W.Frag}{mg mb:Str->Option Value}{CX:CXT}{k:Nat}{fa a:Addr}{fd:FuncData}{x:Str}{sp:Sp}{i:Shared}{vs:List Value}{ns:List Int}
  (KX:K.In i.heap) (S:i.heap.Ns mainGlobals mg) (G:i.heap.Ns builtinsNs mb) (a1:∀ x:Str,x≠"__name__"->mb x=bootBuiltins x) (U:i.heap.NoLimit) (hg:i.gens=#[])
  (ha:i.heap.get? a=some { cls:=.type "list",data:=.seq vs.toArray }) (hi:IntsAre vs ns) (hl:ns.length<=sizeLine) (hr:Room k callerA)
  (F:∀ base:Heap,K.In base->base.Ns mainGlobals mg->FnOk P w K mg base CX k fa fd [x] sp) (L:∀(s:Shared)(u:Value),BindsTo s fd ⟨[u],[]⟩ [(x,u)])
  (a0:∀ H:Hp,Only H->SqL K H a (ns.map V.int)->sp [.ref a] H (fun v _=>v= .bl true) fun _ _ _=>False)
  (a2:∀ H e s',CX [] H i (fun _ _ _=>False) e s'->False):
  codeAny (model P w) callerA (.call (.ref fa) ⟨[.ref a],[]⟩) (fun r s'=>r= .ok (.ret (.bool true))/\OldK i.heap s'.heap/\s'.os=i.os/\AllBare s'.gens) i:=by
 have rv:=zr7 hi
 have N:=hi.length
 have J:∀ H:Hp,Only H->SqL K H a (ns.map V.int)->HOk P w H i.heap->(∀ b,H b≠none->b=a)->(H a≠none->K.lookup a=none)->
   codeAny (model P w) callerA (.call (.ref fa) ⟨[.ref a],[]⟩) (fun r s'=>r= .ok (.ret (.bool true))/\OldK i.heap s'.heap/\s'.os=i.os/\AllBare s'.gens) i:=by
  intro H hO hS hok hA hK
  have j:∀{b:Addr}{o:Obj},i.heap.get? b=some o->H b=none->(hidT i.heap H).get? b=some o:=fun e n=>yc2 e n
  have Z:∀{b:Addr}{o:Obj}{es:Array DictEntry}{ep:Nat},i.heap.get? b=some o->o.data= .dict es ep->H b=none:=fun{b o es ep} e d=>by
   cases q:H b with
   |none=>rfl
   |some u=>
    have e':b=a:=hA b (by rw[q];simp)
    subst e'
    rw[ha]at e;cases e
    have d':Data.seq vs.toArray _=Data.dict es ep:=d
    cases d'
  have I:∀{b:Addr}{m:Str->Option Value},i.heap.Ns b m->(hidT i.heap H).Ns b m:=fun{b m} ⟨o,es,ep,e,d,r⟩=>⟨o,es,ep,j e (Z e d),d,r⟩
  have Y:K.In (hidT i.heap H):=fun b o e=>j (KX b o e) (by
   cases q:H b with
   |none=>rfl
   |some u=>
    have e':b=a:=hA b (by rw[q];simp)
    subst e'
    rw[hK (by rw[q];simp)]at e;cases e)
  have hM:Mod K mg (hidT i.heap H):=⟨Y,I S,⟨mb,I G,a1⟩,let ⟨mc,h1,h2⟩:=U;⟨mc,I h1,h2⟩⟩
  have e0:Env0 P w K mg (hidT i.heap H) callerA [] i H:=⟨rfl,hM,fun b o e=>xs9 e,Nat.le_of_eq (yn7 _ _),trivial,fun b G=>absurd (show b∈([]:List Addr)from G) (by simp),hok,.of_eq hg⟩
  refine codeAny_mono ((F _ Y (I S)).run callerA [] i H ⟨[.ref a],[]⟩ [.ref a] [.ref a] _ _ hr e0 (L i (.ref a)) (.cons rfl .nil) (a0 H hO hS)) fun r s' h=>?_
  cases r with
  |error e=>exact(a2 H e s' h).elim
  |ok fl=>
   cases fl with
   |next=>exact False.elim h
   |brk=>exact False.elim h
   |cont=>exact False.elim h
   |ret u=>
    obtain⟨v,H',os,bare,un,O,r',q⟩:=h
    have q':v= .bl true:=q
    subst q'
    obtain rfl:u=Value.bool true:=r'
    refine⟨rfl,OldK.of_keep fun b o e=>?_,os,bare⟩
    cases q:H b with
    |none=>exact un.keep b o e q (by intro z;exact absurd (show b∈([]:List Addr)from z) (by simp)) (by simp)
    |some u=>
     rcases hO b with z|⟨ob,xs,z⟩
     .rw[q]at z;cases z
     .have z2:=un.frzs b ob _ z
      obtain⟨e1,_⟩:=hok b _ z
      obtain⟨e2,_⟩:=O b _ z2
      rw[e]at e1;cases e1
      exact e2
 cases hk:K.lookup a with
 |some o=>
  have e:=KX a o hk
  rw[ha]at e
  cases e
  refine J (fun _=>none) (fun _=>.inl rfl) (.inr ⟨_,vs.toArray,_,hk,rfl,rfl,rfl,by rw[size_toArray,N];exact hl,by simpa using rv⟩) (fun b u z=>by have M:(none:Option HO)=some u:=z;cases M) (fun b z=>absurd rfl z) fun z=>absurd rfl z
 |none=>
  refine J (fun b=>if b=a then some (.frz { cls:=.type "list",data:=.seq vs.toArray } (.lst (ns.map V.int)))else none) (fun b=>?_) (.inl (.inr ⟨{ cls:=.type "list",data:=.seq vs.toArray },if_pos rfl⟩)) (fun b u z=>?_) (fun b z=>?_) fun _=>hk
  .by_cases G:b=a
   .exact .inr ⟨_,_,if_pos G⟩
   .exact .inl (if_neg G)
  .by_cases G:b=a
   .have M:=(if_pos G).symm.trans z
    cases M
    subst G
    exact⟨ha,by rw[length_map];exact hl,vs,_,rv,ha⟩
   .have M:=(if_neg G).symm.trans z
    cases M
  .by_cases G:b=a
   .exact G
   .exact absurd (if_neg G) z
end
section
theorem walk_of {l:W.OpenLaw}{n k:Nat}{q:Program}{j:List Str}{XP:(Str->Option Value)->Heap->Prop}{Z:World->Heap->Prop}{d:DefRec}{K:Params->W.Frag}{CX:World->CXT}{sp:World->Sp}{x:Str}
  (hn:l.most=some n) (N:n<=sizeLine) (S:d.params.defaults=[]) (hr:Room k callerA)
  (hY:∀(w:World)(h:Heap),Z w h->(K w.params).In h)
  (F:∀(w:World)(mg:Str->Option Value)(L:Addr)(h:Heap),(K w.params).In h->h.Ns mainGlobals mg->mg d.name=some (.ref L)->
   ∃ fd:FuncData,(∀(s:Shared)(u:Value),BindsTo s fd ⟨[u],[]⟩ [(x,u)])/\
    ∀ base:Heap,(K w.params).In base->base.Ns mainGlobals mg->FnOk l.prog w (K w.params) mg base (CX w) k L fd [x] (sp w))
  (M:∀(w:World)(H:Hp)(a:Addr)(ns:List Int),ns.length<=n->Only H->SqL (K w.params) H a (ns.map V.int)->sp w [.ref a] H (fun v _=>v= .bl true) fun _ _ _=>False)
  (U:∀(w:World)(H:Hp)(s:Shared)(e:Value)(s':Shared),CX w [] H s (fun _ _ _=>False) e s'->False):
  W.WalkO q j XP Z l.row.toRowW d [] (fun f vs=>PySem.call f vs):=by
 refine Att.attach_call hn S fun w s₀ I mg mb L o pm cd doc a vs ns G Y ho hd a0 O J z i hg=>?_
 have KX:=hY w _ Y
 obtain⟨fd,hb,hF⟩:=F w mg L _ KX G.T.g O
 exact yd4 KX G.T.g G.T.b G.T.builtins G.T.nolimit hg J z (Nat.le_trans i N) hr hF hb (fun H hO hS=>M w H a ns i hO hS) fun H e s'=>U w H I e s'
end
section
def n4 (s:Stmt):Arguments:=match s with
 | .FunctionDef _ a _ _ _ _ _ _ _ _=>a
 |_=>{ posonlyargs:=[],args:=[],vararg:=none,kwonlyargs:=[],kw_defaults:=[],kwarg:=none,defaults:=[] }
def u7 (s:Stmt):List Stmt:=match s with
 | .FunctionDef _ _ b _ _ _ _ _ _ _=>b
 |_=>[]
def y9 (s:Stmt):Scope:=match s with
 | .FunctionDef _ _ _ _ _ _ sc _ _ _=>sc
 |_=>{ kind:=.function,names:=[],isGenerator:=false,isCoroutine:=false }
abbrev CX0:CXT:=fun _ _ _ _ _ _=>False
abbrev E0:XK:=fun _ _ _=>False
theorem m9 {X:Cx}:za4 CX0 X E0:=fun _ _ _ _ _ _ _ h=>h.elim
structure Fun (K:W.Frag)(x qual:Str)(st:Stmt)(f:Addr)(fd:FuncData):Prop where
 ex:∃(oc:Value)(od:Option Addr)(kV doc pm:Value)(an:Option Addr)(cdv ct:Value)(osl:Array (Option Value)),
  fd=W.fnOf x qual (n4 st) (u7 st) (y9 st) .none kV doc pm an cdv ct/\K.lookup f=some ⟨oc,od,.func fd,osl⟩/\W.codeIn K cdv qual=true
 kp:W.keepIn K (.ref f)=true
section
variable {P:Program}{w:World}{K:W.Frag}{mg:Str->Option Value}{base:Heap}
theorem Fun.ok {x qual:Str}{st:Stmt}{f:Addr}{fd:FuncData}{N ps:List Str}{k:Nat}{sp:Sp}(F:Fun K x qual st f fd)(S:FnScope N ps (y9 st))(len:∀ vs H Q E,sp vs H Q E->vs.length=ps.length)
  (i:∀(cdv:Value)(A:Around)(outer:List Env)(s:Shared)(H:Hp)(vs:List V)(Q:VK)(E:XK),Room k (A.deeper (envOfC qual (y9 st) s.heap.objs.size f cdv))->sp vs H Q E->
   ∃ t,PSs (cxOf CX0 P w K mg base N qual (y9 st) f cdv A outer s H E).nox (u7 st) t/\t { nx:=fun _ H'=>Q .non H',rt:=Q } (start N vs) H):FnOk P w K mg base CX0 (k+1) f fd ps sp:=by
 obtain⟨oc,od,kV,doc,pm,an,cdv,ct,osl,rfl,G,z⟩:=F.ex
 refine xc1 G z S len fun A outer s H vs Q E I j=>?_
 obtain⟨t,h,q⟩:=i cdv A outer s H vs Q E I j
 exact⟨t,h.nox,q⟩
theorem Fun.binds {x qual:Str}{st:Stmt}{f:Addr}{fd:FuncData}{ps:List Str}(F:Fun K x qual st f fd)
  (h:∀(kV doc pm:Value)(an:Option Addr)(cdv ct:Value)(us:List Value),us.length=ps.length->bindArgs (W.fnOf x qual (n4 st) (u7 st) (y9 st) .none kV doc pm an cdv ct) ⟨us,[]⟩=pure (ps.zip us)):Binds K fd ps []:=by
 obtain⟨oc,od,kV,doc,pm,an,cdv,ct,osl,rfl,j,i⟩:=F.ex
 exact .all (h kV doc pm an cdv ct)
theorem j4 {x qual:Str}{st:Stmt}{f:Addr}{oc:Value}{od an:Option Addr}{osl:Array (Option Value)}{kV doc pm cdv ct:Value}(l:K.lookup f=some ⟨oc,od,.func (W.fnOf x qual (n4 st) (u7 st) (y9 st) .none kV doc pm an cdv ct),osl⟩)
  (c:W.codeIn K cdv qual=true) (k:W.keepIn K (.ref f)=true):Fun K x qual st f (W.fnOf x qual (n4 st) (u7 st) (y9 st) .none kV doc pm an cdv ct):=⟨⟨oc,od,kV,doc,pm,an,cdv,ct,osl,rfl,l,c⟩,k⟩
end
section
variable {X:Cx}
theorem pv (i:Nat){x:Str}{pos:Pos}(z:X.N[i]? =some x:=by rfl)(q:Vis X.env.scope x:=by first|exact Or.inl rfl|exact Or.inr (Or.inl rfl)|exact Or.inr (Or.inr rfl))(hd:(x==("__debug__":Str))=false:=by decide)
  (j:(x==("__classdict__":Str))=false:=by decide):PE X (.Name x pos) (tVar i):=xi5 z q hd j
end
theorem iteF {A B:Prop}(h:B):if false=true then A else B:=by
 rw[if_neg Bool.false_ne_true]
 exact h
theorem iteT {A B:Prop}(h:A):if true=true then A else B:=by
 rw[if_pos rfl]
 exact h
def Same (H H':Hp):Prop:=∀ b o,H b=some o->H' b=some o
theorem Same.refl (H:Hp):Same H H:=fun _ _ h=>h
theorem Same.trans {H H1 H2:Hp}(a:Same H H1)(b:Same H1 H2):Same H H2:=fun c o h=>b c o (a c o h)
theorem Same.free {H H':Hp}(e:Same H H'){l:Addr}(h:H' l=Option.none):H l=Option.none:=by
 cases q:H l with
 |none=>rfl
 |some o=>
  rw[e l o q]at h
  cases h
theorem Same.seq {K:W.Frag}{H H':Hp}{a:Addr}{xs:List V}(e:Same H H')(h:SqL K H a xs):SqL K H' a xs:=by
 rcases h with (h|⟨o,h⟩)|h
 .exact .inl (.inl (e _ _ h))
 .exact .inl (.inr ⟨o,e _ _ h⟩)
 .exact .inr h
end
section
def clOf (cells:List (Str×Addr)):List (Str×NameKind)->List (Str×Addr)->List (Str×Addr)
 |[],cs=>cs
 | (n,k)::r,cs=>if k= .free then (match cells.lookup n with |some c=>clOf cells r ((n,c)::cs)|none=>clOf cells r cs)else clOf cells r cs
theorem O9 {env:Env}:∀(names:List (Str×NameKind))(j:List (Str×Addr)),(∀ x∈names,x.2= .free->∃ c,env.cells.lookup x.1=some c)->
  (forIn names j fun x r=>if (x.2==NameKind.free)=true then do let c ← cellOf env x.1;pure (ForInStep.yield ((x.1,c)::r))else pure (ForInStep.yield r):Sem (List (Str×Addr)))=pure (clOf env.cells names j)
 |[],j,_=>rfl
 | (n,k)::r,j,h=>by
  have z:∀ x∈r,x.2= .free->∃ c,env.cells.lookup x.1=some c:=fun x G=>h x (mem_cons_of_mem _ G)
  rw[forIn_cons]
  by_cases q:k= .free
  .subst q
   obtain⟨c,I⟩:=h (n,.free) mem_cons_self rfl
   have i:env.cells.lookup n=some c:=I
   have e:cellOf env n=pure c:=by unfold cellOf;rw[i]
   simp only[beq_self_eq_true,if_true,e,pure_bind]
   rw[O9 r _ z]
   simp only[clOf,if_true,i]
  .have hb:(k==NameKind.free)=false:=by simpa using q
   simp only[hb,Bool.false_eq_true,if_false,pure_bind]
   rw[O9 r j z]
   simp only[clOf,q,if_false]
theorem zz3 {env:Env}{scope:Scope}(h:∀ x∈scope.names,x.2= .free->∃ c,env.cells.lookup x.1=some c):closureFor scope env=pure (clOf env.cells scope.names []):=by
 have q:=O9 (env:=env) scope.names [] h
 simp only[closureFor]
 refine Eq.trans ?_ q
 have e:∀(m:Sem (List (Str×Addr))),(m >>= fun i=>pure i)=m:=fun m=>by simp
 first| (rw[e];rfl)|rfl|simp
theorem D1 {cells:List (Str×Addr)}{x:Str}{c:Addr}:∀(names:List (Str×NameKind))(i:List (Str×Addr)),(∀ y d,i.lookup y=some d->cells.lookup y=some d)->(clOf cells names i).lookup x=some c->cells.lookup x=some c
 |[],i,h,e=>h x c e
 | (n,k)::r,i,h,e=>by
  unfold clOf at e
  split at e
  .split at e
   .rename_i d hd
    refine D1 r _ (fun y d' q=>?_) e
    rw[lookup_cons]at q
    split at q
    .rename_i hy
     have:y=n:=by simpa using hy
     subst this
     cases q;exact hd
    .exact h y d' q
   .exact D1 r i h e
  .exact D1 r i h e
theorem L5 {cells:List (Str×Addr)}{x:Str}:∀(names:List (Str×NameKind))(i:List (Str×Addr)),(i.lookup x).isSome=true->((clOf cells names i).lookup x).isSome=true
 |[],i,h=>h
 | (n,k)::r,i,h=>by
  unfold clOf
  split
  .split
   .refine L5 r _ ?_
    rw[lookup_cons];split
    .rfl
    .exact h
   .exact L5 r i h
  .exact L5 r i h
theorem L6 {cells:List (Str×Addr)}{x:Str}{c:Addr}(j:cells.lookup x=some c):∀(names:List (Str×NameKind))(i:List (Str×Addr)),(x,NameKind.free)∈names->((clOf cells names i).lookup x).isSome=true
 |[],i,h=>absurd h (by simp)
 | (n,k)::r,i,h=>by
  unfold clOf
  rcases List.mem_cons.mp h with e|h
  .cases e
   rw[if_pos rfl,j]
   refine L5 r _ ?_
   simp[lookup_cons]
  .split
   .split
    .exact L6 j r _ h
    .exact L6 j r i h
   .exact L6 j r i h
theorem X7 {env:Env}:∀{names:List (Str×NameKind)}{x:Str},names.lookup x=some .free->
  (names.map fun(n,k)=>if (k==NameKind.free&&env.scope.kind== .function&&env.kindOf n==some .cell)then (n,NameKind.cell)else (n,k)).lookup x=some .cell\/
  (names.map fun(n,k)=>if (k==NameKind.free&&env.scope.kind== .function&&env.kindOf n==some .cell)then (n,NameKind.cell)else (n,k)).lookup x=some .free
 |[],_,h=>by simp at h
 | (n,k)::r,x,h=>by
  have i:=@X7 env r x
  show List.lookup x ((if (k==NameKind.free&&env.scope.kind== .function&&env.kindOf n==some .cell)=true then (n,NameKind.cell)else (n,k))::_)=_\/List.lookup x ((if (k==NameKind.free&&env.scope.kind== .function&&env.kindOf n==some .cell)=true then (n,NameKind.cell)else (n,k))::_)=_
  by_cases j:(k==NameKind.free&&env.scope.kind== .function&&env.kindOf n==some .cell)=true
  .rw[if_pos j]
   cases hx:x==n with
   |true=>left;simp only[lookup_cons,hx]
   |false=>simp only[lookup_cons,hx]at h ⊢;exact i h
  .rw[if_neg j]
   cases hx:x==n with
   |true=>right;simp only[lookup_cons,hx]at h ⊢;exact h
   |false=>simp only[lookup_cons,hx]at h ⊢;exact i h
theorem T1 {env:Env}:∀{names:List (Str×NameKind)}{x:Str}{k:NameKind},(∀ y∈names,y.2≠ .cell)->
  (names.map fun(n,k)=>if (k==NameKind.free&&env.scope.kind== .function&&env.kindOf n==some .cell)then (n,NameKind.cell)else (n,k)).lookup x=some k->(k= .cell\/k= .free)->(x,NameKind.free)∈names
 |[],_,_,_,h,_=>by simp at h
 | (n,q)::r,x,k,hc0,h,j=>by
  have G:=@T1 env r x k (fun y I=>hc0 y (mem_cons_of_mem _ I))
  have h:List.lookup x ((if (q==NameKind.free&&env.scope.kind== .function&&env.kindOf n==some .cell)=true then (n,NameKind.cell)else (n,q))::_)=_:=h
  by_cases z:(q==NameKind.free&&env.scope.kind== .function&&env.kindOf n==some .cell)=true
  .rw[if_pos z]at h
   have J:q= .free:=by
    have:=z;simp only[Bool.and_eq_true]at this;simpa using this.1.1
   cases hx:x==n with
   |true=>
    have i:x=n:=by simpa using hx
    subst i;subst J;exact mem_cons_self
   |false=>simp only[lookup_cons,hx]at h;exact mem_cons_of_mem _ (G h j)
  .rw[if_neg z]at h
   cases hx:x==n with
   |true=>
    have i:x=n:=by simpa using hx
    subst i
    simp only[lookup_cons,hx]at h
    have e:q=k:=Option.some.inj h
    subst e
    rcases j with j|j
    .exact absurd j (hc0 _ mem_cons_self)
    .subst j;exact mem_cons_self
   |false=>simp only[lookup_cons,hx]at h;exact mem_cons_of_mem _ (G h j)
end
section
structure Blk (X:Cx)(sc:Scope)(N:List Str)(src:List (Option Nat)):Prop where
 kind:sc.kind= .function
 nocell:∀ y∈sc.names,y.2≠ .cell
 names:∀ y∈sc.names,y.2= .local->sc.names.lookup y.1=some .local
 free:∀ y∈sc.names,y.2= .free->X.env.kindOf y.1=some .cell\/X.env.kindOf y.1=some .free
 fv:∀(j i:Nat),src[j]? =some (some i)->∃ x,N[j]? =some x/\X.N[i]? =some x/\sc.names.lookup x=some .free
 len:src.length=N.length
def blk0 (src:List (Option Nat))(σ:St):St:=src.map fun o=>o.bind fun i=>(σ[i]?).join
def f9 (X:Cx)(sc:Scope)(C:Addr)(N:List Str)(fp:List Addr)(s:Shared)(H:Hp):Cx where
 prog:=X.prog
 w:=X.w
 K:=X.K
 mg:=X.mg
 base:=X.base
 A:=X.A
 N:=N
 s₀:=s
 H₀:=H
 env:=compEnvC sc (clOf X.env.cells sc.names []) C X.env
 outer:=X.stack
 stack:=X.stack
 ex:=fp
 fn:=fun _=>false
 calm:=true
 pn:=[]
 xe:=fun _ _=>False
section
variable {X:Cx}{pins:List (Addr×Obj)}{σ:St}{H:Hp}{s:Shared}
theorem Blk.cl {sc:Scope}{N:List Str}{src:List (Option Nat)}(B:Blk X sc N src)(ok:X.Ok):closureFor sc X.env=pure (clOf X.env.cells sc.names []):=
 zz3 fun x i j=>ok.has x.1 (B.free x i j)
theorem M9 {sc:Scope}{x:Str}{c:Addr}(h:(clOf X.env.cells sc.names []).lookup x=some c):X.env.cells.lookup x=some c:=
 D1 sc.names [] (fun y d e=>by simp at e) h
theorem zk0 {sc:Scope}{N:List Str}{src:List (Option Nat)}{fp:List Addr}{D C:Addr}{M:Heap}{t:Nat}{m:Str->Option Value}
  (B:Blk X sc N src) (I:Inv X pins σ H s) (hc:X.calm=true) (S:∀ b∈fp,FpOk X pins H b) (a2:∀ b∈fp,∃ o,s.heap.get? b=some o)
  (O:∀ b o,s.heap.get? b=some o->M.get? b=some o) (U:s.heap.objs.size<=D) (a6:M.get? D=some { cls:=.type "list",data:=.seq #[] 0 })
  (hn:M.Ns C m) (Y:s.heap.objs.size<=C) (a7:D≠C):
  Inv (f9 X sc C N fp s H) [] (blk0 src σ) (upd H D (.lst [])) { s with heap:=M,toks:=t }:=by
 have a4:H D=none:=I.hok.fresh U
 have a5:H C=none:=I.hok.fresh Y
 have new:ObjOk X.prog X.w (upd H D (.lst [])) M D (.lst []):=⟨Nat.zero_le _,[],0,.nil,a6⟩
 have cC:∀ x c,X.env.cells.lookup x=some c->c≠C:=fun x c e z=>by
  obtain⟨v,q⟩:=I.cell x c e
  exact absurd (Nat.lt_of_lt_of_le q.lt (by rw[z];exact Y)) (Nat.lt_irrefl _)
 have cD:∀ x c,X.env.cells.lookup x=some c->c≠D:=fun x c e z=>by
  obtain⟨v,q⟩:=I.cell x c e
  exact absurd (Nat.lt_of_lt_of_le q.lt (by rw[z];exact U)) (Nat.lt_irrefl _)
 refine⟨⟨I.ok.mod,?_,I.ok.glob,I.ok.blt,Y,fun x y c h1 h2=>?_,fun x J=>?_,fun x c h _=>(by cases h),fun _=>I.ok.hd hc,I.ok.frames,.inl rfl,fun b G=>⟨?_,fun x c e=>?_⟩,I.bs,Nat.le_trans I.ok.bsz I.sz,fun b o e G=>?_,fun b G z=>?_,I.stack,I.stkFree⟩,
  rfl,I.bare,Un.laid O U a4,⟨m,hn,fun i x v Z j e3=>?_⟩,fun x c e=>?_,?_,fun x c e=>?_,fun p hp=>?_,I.hok.laid O U new,?_⟩
 .show (relabel sc X.env).kind=_
  exact B.kind
 .exact I.ok.inj x y c (M9 h1) (M9 h2)
 .have hx':(∃ k,(relabel sc X.env).names.lookup x=some k/\(k= .cell\/k= .free)):=by
   rcases J with J|J
   .exact⟨_,J,.inl rfl⟩
   .exact⟨_,J,.inr rfl⟩
  obtain⟨k,e,a1⟩:=hx'
  have hm:=T1 B.nocell e a1
  obtain⟨c,a3⟩:=I.ok.has x (B.free _ hm rfl)
  exact Option.isSome_iff_exists.mp (L6 a3 sc.names [] hm)
 .obtain⟨o,e⟩:=a2 b G
  exact Nat.ne_of_lt (Nat.lt_of_lt_of_le (Heap.lt_size e) Y)
 .exact(S b G).2.2.2.2.1 x c (M9 e)
 .rcases (S b G).2.2.2.1 with z|z
  .exact I.ok.noex b o e z
  .exact absurd (Nat.lt_of_lt_of_le (Heap.lt_size e) (Nat.le_trans I.ok.bsz z)) (Nat.lt_irrefl _)
 .rcases List.mem_cons.mp (I.stkSub b z)with z|z
  .exact(S b G).2.1 z
  .exact(S b G).2.2.1 z
 .have e2':∃ k,src[i]? =some (some k)/\σ[k]? =some (some v):=by
   unfold blk0 at j
   rw[getElem?_map]at j
   cases q:src[i]? with
   |none=>rw[q]at j;cases j
   |some o=>
    rw[q]at j
    cases o with
    |none=>cases j
    |some k=>
     refine⟨k,rfl,?_⟩
     have j:(σ[k]?).join=some v:=Option.some.inj j
     cases qq:σ[k]? with
     |none=>rw[qq]at j;cases j
     |some z=>rw[qq]at j;exact congrArg some j
  obtain⟨k,ek,ev⟩:=e2'
  obtain⟨x',n1,n2,n3⟩:=B.fv i k ek
  have:x'=x:=by
   have Z:N[i]? =some x:=Z
   rw[n1]at Z;exact Option.some.inj Z
  subst this
  obtain⟨m0,a8,a0⟩:=I.loc
  have L:=B.free (x',.free) (PySem.mem_of_lookup n3) rfl
  obtain⟨u,r,l⟩:=a0 k x' v n2 ev (by rcases L with z|z;exact .inr (.inl z);exact .inr (.inr z))
  refine⟨u,r,.inr ⟨?_,?_⟩⟩
  .exact X7 n3
  .rcases l with⟨l,_⟩|⟨_,c,ec,z⟩
   .rcases L with q|q <;> (rw[q]at l;cases l)
   .obtain⟨c',ec'⟩:=Option.isSome_iff_exists.mp (L6 ec sc.names [] (PySem.mem_of_lookup n3))
    have:=M9 ec'
    rw[ec]at this;cases this
    obtain⟨o,ho,hd⟩:=z
    exact⟨c,ec',o,O c o ho,hd⟩
 .obtain⟨v,o,ho,hd⟩:=I.cell x c (M9 e)
  exact⟨v,o,O c o ho,hd⟩
 .show upd H D _ C=none
  rw[v6 (Ne.symm a7)];exact a5
 .rw[v6 (cD x c (M9 e))];exact I.freeC x c (M9 e)
 .exact absurd (show p∈([]:List (Addr×Obj))++[]from hp) (by simp)
 .show (blk0 src σ).length=N.length
  unfold blk0;rw[length_map];exact B.len
end
end
section
abbrev noE:Value->Shared->Prop:=fun _ _=>False
theorem toE {i:Type}{t:Sem i}{Q j:i->Shared->Prop}{M:Model}{A:Around}{E:Value->Shared->Prop}{s:Shared}(h:wpAny M A t Q noE s)(q:∀ a s,Q a s->j a s):wpAny M A t j E s:=
 wpAny_mono h q fun _ _ x=>x.elim
abbrev zm4 (ifs:List Expr)(env:Env):Sem Bool:=forIn ifs true fun c r=>if r=true then do let ok ← isTrue c env (eval c env);pure (ForInStep.yield ok)else pure (ForInStep.yield r)
theorem zm6 {prog:Program}{w:World}{A:Around}{R:Result->Shared->Prop}{s:Shared}{elt i iter:Expr}{O:List Expr}{scope:Scope}{pos:Pos}{it acc:Value}{env:Env}(I:Nat->Shared->Prop)
  (turn:∀ n s,I n s->wpAny (model prog w) A (pyNext it) (fun r z=>match r with
   |none=>R (.ok .next) z
   |some v=>wpAny (model prog w) A (letOwnedTupleGo i it v) (fun _ q=>wpAny (model prog w) A (assign i env v) (fun _ L=>
     wpAny (model prog w) A (zm4 O env) (fun ok j=>
      if ok=true then wpAny (model prog w) A (eval elt env) (fun x J=>
       wpAny (model prog w) A (call (.builtin "list.append") [acc,x]) (fun _ G=>∃ m,m<n/\I m G) noE J) noE j
      else ∃ m,m<n/\I m j) noE L) noE q) noE z) noE s)
  (n:Nat) (h:I n s):
  codeAny (model prog w) A (.compLoop (.ListComp elt [⟨i,iter,O,0⟩] scope pos) 0 it acc env) R s:=by
 refine codeAny_loop rfl I (fun n s hI=>?_) n h
 show wpAny _ A ((compTurn (.ListComp elt [⟨i,iter,O,0⟩] scope pos) 0 it acc env).onRaise (fun x=>do noteFrame x env;theTreesLotGoes x)) _ _ s
 refine wpAny_noted ?_
 rw[compTurn_list]
 refine wpAny_bind (wpAny_standAt (wpAny_bind (toE (turn n s hI) (fun r z N=>?_))))
 cases r with
 |none=>exact wpAny_pure N
 |some v=>
  refine wpAny_bind (toE N fun _ q S=>?_)
  refine wpAny_bind (toE S (fun _ L Z=>wpAny_bind (toE Z (fun ok j M=>?_))))
  cases ok with
  |false=>exact wpAny_pure ⟨rfl,M⟩
  |true=>
   exact wpAny_bind (wpAny_bind (toE M (fun x J Y=>wpAny_bind (toE Y (fun _ G U=>wpAny_pure (wpAny_pure ⟨rfl,U⟩))))))
def PTs (X:Cx)(ifs:List Expr)(t:TT):Prop:=
 ∀(pins:List (Addr×Obj))(s:Shared)(σ:St)(H:Hp)(Q:Bool->Hp->Prop),Inv X pins σ H s->t σ H Q->wpAny (model X.prog X.w) X.A (zm4 ifs X.env) (TP X pins σ Q) X.xe s
def tYes:TT:=fun _ H Q=>Q true H
theorem xu0 {X:Cx}:PTs X [] tYes:=fun pins s σ H Q I h=>wpAny_pure ⟨H,I,h⟩
theorem xv9 {X:Cx}{c:Expr}{t:TT}(h:PT X c t):PTs X [c] t:=fun pins s σ H Q I q=>wpAny_tests_one (h pins s σ H Q I q)
def yu4 (src:List (Option Nat))(wi:TI)(g:TG)(tc:TT)(te:TE):TE:=fun σ H Q=>wi σ H fun J H1=>∀ D,H1 D=none->∃ W:Nat->Nat->St->Hp->Prop,(∃ m,W 0 m (blk0 src σ) (upd H1 D (.lst [])))/\∀ i m σ' H',W i m σ' H'->
 (J.stop i H'/\Q (.ref D) H')\/(J.go i H'/\∃ N:St->Hp->Prop,(∀ σ2 H2,N σ2 H2->∃ m',m'<m/\W (i+1) m' σ2 H2)/\∀ x H2,J.yld i H' x H2->g x σ' H2 fun σ3 H3=>tc σ3 H3 fun b H4=>
  if b=true then te σ3 H4 fun y H5=>∃ xs,H5 D=some (.lst xs)/\xs.length<sizeLine/\N σ3 (upd H5 D (.lst (xs++[y])))else N σ3 H4)
section
variable {X:Cx}
theorem zw5 {sc:Scope}{N:List Str}{src:List (Option Nat)}{tg elt iter:Expr}{a5:List Expr}{pos:Pos}{g:TG}{tc:TT}{te:TE}(B:Blk X sc N src)(hc:X.calm=true)
  (hg:∀ C fp s H,PG (f9 X sc C N fp s H) tg g) (ht:∀ C fp s H,PTs (f9 X sc C N fp s H) a5 tc) (he:∀ C fp s H,PE (f9 X sc C N fp s H) elt te)
  {pins:List (Addr×Obj)} {σ:St} {H:Hp} {s:Shared} {it:Addr} {fp:List Addr} {tn:Nat->Heap->Prop} {J:It} {Q:VK} {E:Value->Shared->Prop}
  (I:Inv X pins σ H s) (T:Turn X.prog X.w X.K tg J fp it tn) (st:tn 0 s.heap) (hf:∀ b∈fp,FpOk X pins H b)
  (hW:∀ D,H D=none->∃ W:Nat->Nat->St->Hp->Prop,(∃ m,W 0 m (blk0 src σ) (upd H D (.lst [])))/\∀ i m S H',W i m S H'->
   (J.stop i H'/\Q (.ref D) H')\/(J.go i H'/\∃ N:St->Hp->Prop,(∀ a7 H2,N a7 H2->∃ m',m'<m/\W (i+1) m' a7 H2)/\∀ x H2,J.yld i H' x H2->g x S H2 fun M H3=>tc M H3 fun b H4=>
    if b=true then te M H4 fun y H5=>∃ xs,H5 D=some (.lst xs)/\xs.length<sizeLine/\N M (upd H5 D (.lst (xs++[y])))else N M H4))
  {RR:Value->Addr->Result->Shared->Prop}
  (ai:∀ D C H' s' m',Inv X pins σ H' s'->s'.heap.Ns C m'->H' C=none->s.heap.objs.size<=C->Q (.ref D) H'->RR (.ref D) C (.ok .next) s'):
  wpAny (model X.prog X.w) X.A (newList []) (fun acc U=>wpAny (model X.prog X.w) X.A (newFunctionEnv sc X.env.globals (clOf X.env.cells sc.names []) [] X.env.qual none .none (some X.env)) (fun a2 a8=>
   codeAny (model X.prog X.w) X.A (.compStart (.ListComp elt [⟨tg,iter,a5,0⟩] sc pos) 0 (.ref it) acc { a2 with scope:=relabel sc X.env }) (RR acc a2.locals) a8) E U) E s:=by
 refine wpAny_newObj_type (wpAny_newFunctionEnv B.nocell (by intro y hy;simp at hy) (fun L O q=>?_) B.kind)
 dsimp only at O q ⊢
 generalize a6:s.heap.push { cls:=.type "list",dict:=none,data:=.seq ([]:List Value).toArray }=H2 at O q ⊢
 have hC:H2.objs.size=s.heap.objs.size+1:=by rw[<-a6,Heap.size_push]
 have ad:s.heap.objs.size≠H2.objs.size:=by rw[hC];exact Nat.ne_of_lt (Nat.lt_succ_self _)
 have a1:s.heap.objs.size<=H2.objs.size:=by rw[hC];exact Nat.le_succ _
 have below:∀ b,b<s.heap.objs.size->b≠H2.objs.size:=fun b G=>by rw[hC];exact Nat.ne_of_lt (Nat.lt_succ_of_lt G)
 have old:∀ b o,s.heap.get? b=some o->L.get? b=some o:=fun b o e=>q.extBut b o (below b (Heap.lt_size e)) (Heap.get?_push_of_some _ (a6 ▸ Heap.get?_push_of_some _ e))
 have ac:L.get? s.heap.objs.size=some { cls:=.type "list",data:=.seq #[] 0 }:=q.extBut _ _ ad (Heap.get?_push_of_some _ (a6 ▸ Heap.get?_push_size _ rfl))
 have ab:∀ b∈fp,∃ o,s.heap.get? b=some o:=fun b G=>by obtain⟨o,e,_⟩:=T.obj _ _ st b G;exact⟨o,e⟩
 have aa:tn 0 L:=T.keep _ _ _ st fun b _ o e=>old b o e
 obtain⟨W,⟨m0,w0⟩,turn⟩:=hW s.heap.objs.size I.fresh
 have I1:=zk0 (t:=s.toks+([]:List (Str×Value)).length) B I hc hf ab old (Nat.le_refl _) ac O a1 ad
 have Z:∀{H':Hp},(∀ b∈fp,H' b=none)->∀ b∈fp,FpOk (f9 X sc H2.objs.size N fp s H) [] H' b:=fun{H'} hn b G=>by
  obtain⟨f0,f1,f2,f3,f4,f5⟩:=hf b G
  refine⟨hn b G,I1.ok.exf b G |>.1,I1.ok.exfs b G,.inl G,fun x c e=>f4 x c (M9 e),fun p hp=>absurd (show p∈([]:List (Addr×Obj))++[]from hp) (by simp)⟩
 have ah:∀ b∈fp,b≠s.heap.objs.size:=fun b G z=>by
  obtain⟨o,e⟩:=ab b G
  exact absurd (Heap.lt_size e) (by rw[z];exact Nat.lt_irrefl _)
 have a0:∀ U:Shared,U={ s with heap:=L,toks:=s.toks+([]:List (Str×Value)).length }->
   codeAny (model X.prog X.w) X.A (.compLoop (.ListComp elt [⟨tg,iter,a5,0⟩] sc pos) 0 (.ref it) (.ref s.heap.objs.size) (compEnvC sc (clOf X.env.cells sc.names []) H2.objs.size X.env))
    (RR (.ref s.heap.objs.size) H2.objs.size) U:=by
  rintro U rfl
  refine zm6 (fun n s'=>∃ i S H',Inv (f9 X sc H2.objs.size N fp s H) [] S H' s'/\tn i s'.heap/\(∀ b∈fp,H' b=none)/\W i n S H') ?_ m0
   ⟨0,_,_,I1,aa,fun b G=>by rw[v6 (ah b G)];exact(hf b G).1,w0⟩
  rintro n s3 ⟨i,M,H3,I3,a9,ae,w3⟩
  rcases turn i n M H3 w3 with⟨stop,qn⟩|⟨go,N',aj,step⟩
  .refine thn (T.done (f9 X sc H2.objs.size N fp s H) rfl rfl rfl rfl i [] s3 M H3 noE I3 (Z ae) a9 stop) fun r s4 ⟨hr,I4⟩=>?_
   subst hr
   obtain⟨m4,ag,_⟩:=id I4.loc
   refine ai _ _ H3 s4 m4 ?_ ag I4.free a1 qn
   exact I.call' (ch:=fp) I4.os I4.base I4.hok I4.bare fun b G=>⟨(hf b G).2.2.2.1,(hf b G).2.1,(hf b G).2.2.2.2.1,(hf b G).2.2.2.2.2⟩
  .refine thn (T.item (f9 X sc H2.objs.size N fp s H) rfl rfl rfl rfl i [] s3 M H3 noE I3 (Z ae) a9 go) fun r s4 ⟨u,hr,h4⟩=>?_
   subst hr
   refine thn h4 fun _ s5 j=>?_
   obtain⟨x,H5,I5,r5,y5,a4,al⟩:=j
   have am:=I5.pinned (Z al) (T.obj _ _ a4)
   have again:∀{s7:Shared}{Y:St}{H7:Hp},Inv (f9 X sc H2.objs.size N fp s H) ([]++C9 fp s5.heap) Y H7 s7->N' Y H7->∃ m,m<n/\∃ i S H',Inv (f9 X sc H2.objs.size N fp s H) [] S H' s7/\tn i s7.heap/\(∀ b∈fp,H' b=none)/\W i m S H':=fun{s7 Y H7} I7 n7=>by
    obtain⟨m',hm,w7⟩:=aj Y H7 n7
    refine⟨m',hm,i+1,Y,H7,I7.unpinned,T.keep _ _ _ a4 fun b G o e=>(I7.pin (b,o) (mem_append_right _ (mem_append_right _ (Z9 G e)))).1,fun b G=>?_,w7⟩
    obtain⟨o,e,d⟩:=T.obj _ _ a4 b G
    exact(I7.pin (b,o) (mem_append_right _ (mem_append_right _ (Z9 G e)))).2.1
   refine thn (hg _ _ _ _ _ s5 M H5 x u _ am r5 (step x H5 y5)) fun _ s6 j=>?_
   obtain⟨a3,H6,I6,q6⟩:=j
   refine thn (ht _ _ _ _ _ s6 a3 H6 _ I6 q6) fun ok s7 j=>?_
   obtain⟨H7,I7,q7⟩:=j
   cases ok with
   |false=>
    rw[if_neg Bool.false_ne_true]at q7 ⊢
    exact again I7 q7
   |true=>
    rw[if_pos rfl]at q7 ⊢
    refine thn (he _ _ _ _ _ s7 a3 H7 _ I7 q7) fun y s8 j=>?_
    obtain⟨v8,H8,I8,r8,q8⟩:=j
    obtain⟨xs,ak,af,n8⟩:=q8
    refine thn (d9 _ s8 a3 H8 (.ref s.heap.objs.size) [v8] (.ref s.heap.objs.size) [y] (fun _ H9=>H9=upd H8 s.heap.objs.size (.lst (xs++[v8]))) I8 rfl (.cons r8 .nil) ⟨_,xs,v8,rfl,rfl,ak,af,rfl⟩) fun _ s9 j=>?_
    obtain⟨v9,H9,I9,r9,q9⟩:=j
    subst q9
    exact again I9 n8
 refine codeAny_compStart_list (a0 _ rfl) (toE (T.self X.A 0 { s with heap:=L,toks:=s.toks+([]:List (Str×Value)).length } (fun v s'=>v= .ref it/\s'={ s with heap:=L,toks:=s.toks+([]:List (Str×Value)).length }) noE aa ⟨rfl,rfl⟩) fun v s' j=>?_)
 obtain⟨e1,e2⟩:=j
 subst e1;subst e2
 exact a0 _ rfl
theorem Inv.letGo {pins:List (Addr×Obj)}{σ:St}{H:Hp}{s J:Shared}{C:Addr}{h':Heap}(I:Inv X pins σ H s)(i:∃ j H0,Inv X pins j H0 J)(G:J.heap.objs.size<=C)(hn:H C=none)(L:Heap.SameBut C s.heap h'):Inv X pins σ H { s with heap:=h' }:=by
 obtain⟨j,H0,i⟩:=i
 refine I.turned (t':=s.toks) (it:=C) (fun b o N e=>(L.2 b N).trans e) hn (Nat.ne_of_gt (Nat.lt_of_lt_of_le i.lt G)) (.inr (Nat.le_trans i.sz G)) (fun x c e z=>?_) fun p M z=>?_
 .obtain⟨v,q⟩:=i.cell x c e
  exact absurd (Nat.lt_of_lt_of_le q.lt (by rw[z];exact G)) (Nat.lt_irrefl _)
 .exact absurd (Nat.lt_of_lt_of_le (Heap.lt_size (i.pin p M).1) (by rw[z];exact G)) (Nat.lt_irrefl _)
theorem xt3 {sc:Scope}{N:List Str}{src:List (Option Nat)}{tg elt iter:Expr}{i:List Expr}{pos:Pos}{O:TI}{g:TG}{tc:TT}{te:TE}(B:Blk X sc N src)(hc:X.calm=true)
  (hi:PI X tg iter O) (hg:∀ C fp s H,PG (f9 X sc C N fp s H) tg g) (ht:∀ C fp s H,PTs (f9 X sc C N fp s H) i tc) (he:∀ C fp s H,PE (f9 X sc C N fp s H) elt te)
  (hs:∀ x,foldedSetIterable iter X.env x=pure x:=by intro _;rfl):
  PE X (.ListComp elt [⟨tg,iter,i,0⟩] sc pos) (yu4 src O g tc te):=by
 intro pins s σ H Q I h
 rw[eval_ListComp]
 refine wpAny_comprehension_free (use:=none) rfl hs (B.cl I.ok) B.kind B.names (wpAny_mono (hi pins s σ H _ I h) (fun xv U z=>wpAny_mono z (fun a0 S j=>?_) fun _ _ e=>e) fun _ _ e=>e)
 obtain⟨it,fp,tn,J,H2,rfl,Y,T,L,f2,hW⟩:=j
 refine zw5 (RR:=fun acc C=>compPost (model X.prog X.w) X.A X.xe none (EP X pins σ Q) acc C) (Q:=Q) B hc hg ht he Y T L f2 hW ?_
 intro D C H' s' Z I' hn hC M q
 exact⟨Z,hn,fun a1 G=>⟨.ref D,H',I'.letGo ⟨_,_,Y⟩ M hC G,rfl,q⟩⟩
theorem zu0 {i:Nat}{y:Str}{M:Pos}{sc:Scope}{N:List Str}{src:List (Option Nat)}{tg elt iter:Expr}{j:List Expr}{pos G:Pos}{wi:TI}{g:TG}{tc:TT}{te:TE}(hN:X.N.Nodup)(a3:X.N[i]? =some y)(hx:Loc X.env.scope y)
  (B:Blk X sc N src) (hc:X.calm=true)
  (hi:PI X tg iter wi) (hg:∀ C fp s H,PG (f9 X sc C N fp s H) tg g) (ht:∀ C fp s H,PTs (f9 X sc C N fp s H) j tc) (he:∀ C fp s H,PE (f9 X sc C N fp s H) elt te)
  (a1:swapsWith (.ListComp elt [⟨tg,iter,j,0⟩] sc pos) (some (.Name y M)) G.line X.env=pure true:=by rfl)
  (hs:∀ x,foldedSetIterable iter X.env x=pure x:=by intro _;rfl) (hf:X.fn y=true\/X.env.scope.names.lookup y=some .local:=by first|exact .inl rfl|exact .inr rfl|assumption):
  PS X (.Assign [.Name y M] (.ListComp elt [⟨tg,iter,j,0⟩] sc pos) G) (tAsg (yu4 src wi g tc te) (J3 i)):=by
 intro pins s σ H Dn I h
 rw[exec_Assign_Name_used _ _ _ _ a1]
 refine wpAny_bind (wpAny_standAt (wpAny_bind ?_))
 show wpAny _ _ (do let _ ← comprehension (.ListComp elt [⟨tg,iter,j,0⟩] sc pos) sc X.env _ (newList []) false (eval iter X.env) (some (assign (.Name y M) X.env))) _ _ s
 refine wpAny_bind (wpAny_mono (wpAny_comprehension_free (use:=some (assign (.Name y M) X.env)) (Q:=fun _ s'=>SP X pins Dn .next s') rfl hs (B.cl I.ok) B.kind B.names
  (wpAny_mono (hi pins s σ H _ I h) (fun xv a7 S=>wpAny_mono S (fun a9 a6 O=>?_) fun _ _ e=>e) fun _ _ e=>e)) (fun _ s' hq=>wpAny_pure (wpAny_pure hq)) fun _ _ e=>e)
 obtain⟨it,fp,tn,J,H2,rfl,Z,T,a0,f2,hW⟩:=O
 refine zw5 (RR:=fun acc C=>compPost (model X.prog X.w) X.A X.xe (some (assign (.Name y M) X.env)) (fun _ s'=>SP X pins Dn .next s') acc C) (Q:=fun x H1=>J3 i x σ H1 Dn.nx) B hc hg ht he Z T a0 f2 hW ?_
 intro D C H' s' m' I' hn hC L q
 show wpAny _ _ (assign (.Name y M) X.env (.ref D)) _ _ _
 refine wpAny_assign_Name (D8 I' hN a3 hx (v:=.ref D) rfl (fun a8 a5 Y=>?_) hf)
 obtain⟨a,a2,ha⟩:=Y
 have a4:C≠a:=fun z=>by
  rcases ha with ha|ha
  .have:=Z.lt;rw[<-ha,<-z]at this
   exact absurd (Nat.lt_of_lt_of_le this L) (Nat.lt_irrefl _)
  .obtain⟨v,qv⟩:=Z.cell y a ha
   exact absurd (Nat.lt_of_lt_of_le qv.lt (by rw[<-z];exact L)) (Nat.lt_irrefl _)
 exact⟨m',hn.sameBut a2 a4,fun aa U=>⟨_,H',a5.letGo ⟨_,_,Z⟩ L hC U,q⟩⟩
end
end
section
section
variable {X:Cx}{pins:List (Addr×Obj)}{σ:St}{H:Hp}{s:Shared}{h':Heap}
theorem Inv.turnedL {t':Nat}{fp:List Addr}(I:Inv X pins σ H s)(k:∀ b o,b∉fp->s.heap.get? b=some o->h'.get? b=some o)(j:∀ b∈fp,FpOk X pins H b):Inv X pins σ H { s with heap:=h',toks:=t' }:=by
 have G:∀ b u,H b=some u->b∉fp:=fun b u e z=>by rw[(j b z).1]at e;cases e
 refine I.step (g':=s.gens) (d':=s.drawn) (ch:=fp) (fun b J=>⟨(j b J).2.2.2.1,(j b J).2.1,(j b J).2.2.2.2.1,(j b J).2.2.2.2.2⟩) (fun b o _ _ i e _=>k b o i e) (fun b o _ _ i e _=>⟨o.slots,k b o i e⟩) (fun _ _ _ _ n=>n)
  (fun b o i e=>⟨o,k b o i e⟩) (fun _ _ e=>e) (fun _ _ _ e=>e) (fun b ps e=>⟨#[],by rw[e];simp⟩) (fun m hm=>?_) (fun b u e=>?_) I.bare
 .obtain⟨o,es,ep,ho,r⟩:=hm
  exact⟨o,es,ep,k _ o (fun z=>(j _ z).2.1 rfl) ho,r⟩
 .refine(I.hok b u e).stay (fun c v i q=>k c v ?_ q) (fun _ q=>q) fun _ _ q=>q
  rcases i with z|z
  .rw[z];exact G b u e
  .exact G c _ z
theorem Inv.turnedN {t':Nat}{fp:List Addr}{T:Addr}{o:HO}(I:Inv X pins σ H s)(k:∀ b o,b∉fp->s.heap.get? b=some o->h'.get? b=some o)(G:∀ b∈fp,FpOk X pins H b)(L:s.heap.objs.size<=T)
  (new:ObjOk X.prog X.w (upd H T o) h' T o):Inv X pins σ (upd H T o) { s with heap:=h',toks:=t' }:=by
 have hn:H T=none:=I.hok.fresh L
 have ne:∀ b u,s.heap.get? b=some u->b≠T:=fun b u e z=>absurd (Nat.lt_of_lt_of_le (Heap.lt_size e) (by rw[z];exact L)) (Nat.lt_irrefl _)
 have J:∀ b u,H b=some u->b∉fp:=fun b u e z=>by rw[(G b z).1]at e;cases e
 refine I.step (g':=s.gens) (d':=s.drawn) (ch:=fp) (fun b j=>⟨(G b j).2.2.2.1,(G b j).2.1,(G b j).2.2.2.2.1,(G b j).2.2.2.2.2⟩) (fun b o _ _ i e _=>k b o i e) (fun b o _ _ i e _=>⟨o.slots,k b o i e⟩) (fun b o _ e n=>by rw[v6 (ne b o e)];exact n)
  (fun b o i e=>⟨o,k b o i e⟩) (fun b xs e=>by rw[v6 (l9 e hn)];exact e) (fun b _ _ e=>by rw[v6 (l9 e hn)];exact e) (fun b ps e=>⟨#[],by rw[v6 (l9 e hn),e];simp⟩) (fun m hm=>?_) (fun b u e=>?_) I.bare
 .obtain⟨o,es,ep,ho,r⟩:=hm
  exact⟨o,es,ep,k _ o (fun z=>(G _ z).2.1 rfl) ho,r⟩
 .by_cases j:b=T
  .subst j;rw[v7]at e;cases e;exact new
  .rw[v6 j]at e
   refine(I.hok b u e).stay (fun c v i q=>k c v ?_ q) (fun c q=>by rw[v6 (l9 q hn)];exact q) fun c xs q=>by rw[v6 (l9 q hn)];exact q
   rcases i with z|z
   .rw[z];exact J b u e
   .exact J c _ z
end
def Itz2 (K:W.Frag)(l1 l2:Addr):It:=
 ⟨fun i H=>∃ xs ys x y,SqL K H l1 xs/\SqL K H l2 ys/\xs[i]? =some x/\ys[i]? =some y,
  fun i H v H'=>∃ t x y,v= .ref t/\H t=none/\H'=upd H t (.tup [x,y])/\(∀ xs,SqL K H l1 xs->xs[i]? =some x)/\(∀ ys,SqL K H l2 ys->ys[i]? =some y),
  fun i H=>∃ xs ys,SqL K H l1 xs/\SqL K H l2 ys/\(xs.length<=i\/ys.length<=i)⟩
structure Zip2 (z TI TO i1 i2:Addr):Prop where
 TIz:TI≠z
 TOz:TO≠z
 i1z:i1≠z
 i2z:i2≠z
 TITO:TI≠TO
 TIi1:TI≠i1
 TIi2:TI≠i2
 TOi1:TO≠i1
 TOi2:TO≠i2
 i12:i1≠i2
theorem V2 {h:Heap}{a b:Addr}{o u:Obj}(e:h.get? a=some o)(i:h.get? b=some u)(d:o.cls≠u.cls):a≠b:=by
 intro z;subst z;rw[e]at i;exact d (congrArg Obj.cls (Option.some.inj i))
theorem c9 {n:String}(h:("list"==n)=false):Value.type "list"≠Value.type n:=fun e=>by cases e;revert h;decide
theorem yh0 (n:Nat):Zip2 (n+4) (n+2) (n+3) n (n+1):=by
 constructor <;> (show ((_:Nat)≠_);omega)
theorem zx1 {h:Heap}{z TI TO i1 i2 l1 l2:Addr}{J I:Array Value}{a b Z:Value}{k1 k2:Nat}(D:Zip2 z TI TO i1 i2)(M:IsZip h z TI TO Z)(L:IsPair h TO a b)(h1:h.IsListIter i1 l1 k1)(h2:h.IsListIter i2 l2 k2)
  (Y:h.IsList l1 J) (p2:h.IsList l2 I):ZipApart z TI TO i1 i2 l1 l2:=by
 obtain⟨o1,O,c1,_⟩:=h1
 obtain⟨o2,N,c2,_⟩:=h2
 obtain⟨U,j,G,_⟩:=Y
 obtain⟨S,i,q,_⟩:=p2
 exact⟨D.TIz,D.TOz,D.i1z,D.i2z,D.TITO,D.TIi1,D.TIi2,D.TOi1,D.TOi2,D.i12,
  V2 j M (by rw[G];exact c9 (by decide)),V2 j L (by rw[G];exact c9 (by decide)),V2 j O (by rw[G,c1];decide),V2 j N (by rw[G,c2];decide),
  V2 i M (by rw[q];exact c9 (by decide)),V2 i L (by rw[q];exact c9 (by decide)),V2 i O (by rw[q,c1];decide),V2 i N (by rw[q,c2];decide)⟩
theorem yv8 {P:Program}{w:World}{K:W.Frag}{es:List Expr}{tk:Nat}{tp:Pos}(z TI TO i1 i2 l1 l2:Addr)(D:Zip2 z TI TO i1 i2):
  Turn P w K (.Tuple es tk tp) (Itz2 K l1 l2) [z,TI,TO,i1,i2] z
   (fun i h=>IsZip h z TI TO .none/\IsPair h TI (.ref i1) (.ref i2)/\(∃ a b,IsPair h TO a b)/\h.IsListIter i1 l1 i/\h.IsListIter i2 l2 i) where
 mem:=by simp
 obj:=fun i h st b hb=>by
  obtain⟨N,J,⟨a,c,j⟩,⟨o1,e1,_,d1⟩,⟨o2,e2,_,d2⟩⟩:=st
  simp only[mem_cons,not_mem_nil,or_false]at hb
  rcases hb with rfl|rfl|rfl|rfl|rfl
  .exact⟨_,N,fun v q=>by cases q⟩
  .exact⟨_,J,fun v q=>by cases q⟩
  .exact⟨_,j,fun v q=>by cases q⟩
  .exact⟨_,e1,fun v q=>by rw[d1]at q;cases q⟩
  .exact⟨_,e2,fun v q=>by rw[d2]at q;cases q⟩
 keep:=fun i h h' st k=>by
  obtain⟨N,J,⟨a,c,j⟩,h1,h2⟩:=st
  exact⟨k z (by simp) _ N,k TI (by simp) _ J,⟨a,c,k TO (by simp) _ j⟩,h1.at fun o e=>k i1 (by simp) o e,h2.at fun o e=>k i2 (by simp) o e⟩
 item:=by
  intro X hP hw hK L i pins s σ H E I hf st hg
  subst hP hw hK
  obtain⟨xs,ys,x,y,S,O,hx,hy⟩:=hg
  obtain⟨a9,Y,p1,_⟩:=I.list S
  obtain⟨a8,U,p2,_⟩:=I.list O
  obtain⟨u,hu,ru⟩:=Y.get hx
  obtain⟨v,hv,ac⟩:=U.get hy
  obtain⟨N,J,⟨a,b,j⟩,h1,h2⟩:=st
  have Z:=zx1 D N j h1 h2 p1.isList p2.isList
  refine wpAny_pyNext_zip_item Z N J j h1 h2 p1.isList p2.isList (x:=u) (y:=v) (by simpa using hu) (by simpa using hv) fun h' a1 a2 a3 a4 a5 a6 hk=>?_
  refine⟨_,rfl,?_⟩
  refine wpAny_letOwnedTupleGo_zip a1 fun a7 ab G=>?_
  have aa:z<s.heap.objs.size:=Heap.lt_size N
  have kk:∀ c o,c∉[z,TI,TO,i1,i2]->s.heap.get? c=some o->a7.get? c=some o:=fun c o L e=>by
   simp only[mem_cons,not_mem_nil,or_false,not_or]at L
   exact G.extBut _ _ L.1 (hk c o L.1 L.2.2.1 L.2.2.2.1 L.2.2.2.2 e)
  have hT:a7.get? s.heap.objs.size=some { cls:=.type "tuple",data:=.seq #[u,v] }:=G.extBut _ _ (Nat.ne_of_gt aa) a5
  have I2:Inv X pins σ (upd H s.heap.objs.size (.tup [x,y])) { s with heap:=a7,toks:=s.toks }:=
   I.turnedN (T:=s.heap.objs.size) (o:=.tup [x,y]) kk hf (Nat.le_refl _) ⟨by show 2<=sizeLine;decide,[u,v],.cons ru (.cons ac .nil),⟨_,hT,rfl,_,rfl⟩⟩
  refine⟨.ref s.heap.objs.size,_,I2,rfl,⟨_,x,y,rfl,I.fresh,rfl,fun zs M=>by rw[I.list_inj M S];exact hx,fun zs M=>by rw[I.list_inj M O];exact hy⟩,
   ⟨ab,G.extBut _ _ D.TIz (hk _ _ D.TIz D.TITO D.TIi1 D.TIi2 J),⟨_,_,G.extBut _ _ D.TOz a2⟩,a3.extBut G.extBut D.i1z,a4.extBut G.extBut D.i2z⟩,fun c a0=>?_⟩
  have ad:c<s.heap.objs.size:=by
   obtain⟨o1,e1,_⟩:=h1
   obtain⟨o2,e2,_⟩:=h2
   simp only[mem_cons,not_mem_nil,or_false]at a0
   rcases a0 with rfl|rfl|rfl|rfl|rfl
   .exact aa
   .exact Heap.lt_size J
   .exact Heap.lt_size j
   .exact Heap.lt_size e1
   .exact Heap.lt_size e2
  rw[v6 (Nat.ne_of_lt ad)]
  exact(hf c a0).1
 done:=by
  intro X hP hw hK L i pins s σ H E I hf st hg
  subst hP hw hK
  obtain⟨xs,ys,S,O,hl⟩:=hg
  obtain⟨a9,Y,p1,_⟩:=I.list S
  obtain⟨a8,U,p2,_⟩:=I.list O
  obtain⟨N,J,⟨a,b,j⟩,h1,h2⟩:=st
  have Z:=zx1 D N j h1 h2 p1.isList p2.isList
  have af:=Y.length
  have ae:=U.length
  refine wpAny_pyNext_zip_end (I.ok.hd L) Z N J j h1 h2 p1.isList p2.isList (hl.elim (fun q=>.inl (by simp;omega)) fun q=>.inr (by simp;omega)) fun h' hk=>⟨rfl,?_⟩
  exact I.turnedL (t':=s.toks) (fun c o L e=>by
   simp only[mem_cons,not_mem_nil,or_false,not_or]at L
   exact hk c o L.1 L.2.2.1 L.2.2.2.1 L.2.2.2.2 e) hf
 self:=fun _ _ _ _ _ st h=>wpAny_pyIter_zip st.1 h
section
variable {X:Cx}
def wx8 (K:W.Frag)(ta:TA):TI:=fun σ H R=>ta σ H fun vs H1=>∃ a b xs ys,vs=[.ref a,.ref b]/\SqL K H1 a xs/\SqL K H1 b ys/\R (Itz2 K a b) H1
theorem xu8 {a b:Expr}{ta:TA}{p pos:Pos}{es:List Expr}{tk:Nat}{tp:Pos}(hg:Gl X "zip")(hm:X.mg "zip"=none)(ha:PA X [a,b] ta)(hs:starEach [a,b] X.env=[(false,eval a X.env),(false,eval b X.env)]:=by rfl)(i:starEach [b] X.env=[(false,eval b X.env)]:=by rfl):
  PI X (.Tuple es tk tp) (.Call (.Name "zip" p) [a,b] [] pos) (wx8 X.K ta):=by
 intro pins s σ H R I h
 refine Call_ (W0 I hg hm boot_zip (PyProof.Rows.callWith_type1 (thn (ha pos pins s σ H _ I h) fun us s1 j=>?_) (by rw[hs,i]) (by rw[i];rfl)))
 obtain⟨vs,H1,G,r1,L⟩:=j
 obtain⟨l1,l2,xs,ys,e,L,q2,q⟩:=L
 subst e
 cases r1 with
 |cons r J=>
  cases J with
  |cons r' J=>
   cases J
   cases r
   cases r'
   obtain⟨Y,a1,p1,_⟩:=G.list L
   obtain⟨U,a0,p2,_⟩:=G.list q2
   refine call_zip_2 p1.isList p2.isList fun h' Z S O N M a2 hk=>?_
   have I2:Inv X pins σ H1 { s1 with heap:=h',toks:=s1.toks }:=G.kept hk
   refine wpAny_pyIter_zip (s:={ s1 with heap:=h' }) Z ?_
   refine⟨_,[s1.heap.objs.size+4,s1.heap.objs.size+2,s1.heap.objs.size+3,s1.heap.objs.size,s1.heap.objs.size+1],_,_,H1,rfl,I2,yv8 _ _ _ _ _ l1 l2 (yh0 _),
    ⟨Z,S,⟨_,_,O⟩,N,M⟩,fun b hb=>?_,q⟩
   have z:s1.heap.objs.size<=b:=by
    simp only[mem_cons,not_mem_nil,or_false]at hb
    rcases hb with rfl|rfl|rfl|rfl|rfl
    .exact Nat.le_add_right _ 4
    .exact Nat.le_add_right _ 2
    .exact Nat.le_add_right _ 3
    .exact Nat.le_refl _
    .exact Nat.le_add_right _ 1
   exact G.fpOk z (G.hok.fresh z)
end
end
section
abbrev i5 (h:Heap)(T:Addr)(a b c:Value):Prop:=h.get? T=some { cls:=.type "tuple",data:=.seq #[a,b,c] }
structure Zip3 (z TI TO i1 i2 i3:Addr):Prop where
 TIz:TI≠z
 TOz:TO≠z
 i1z:i1≠z
 i2z:i2≠z
 i3z:i3≠z
 TITO:TI≠TO
 TIi1:TI≠i1
 TIi2:TI≠i2
 TIi3:TI≠i3
 TOi1:TO≠i1
 TOi2:TO≠i2
 TOi3:TO≠i3
 i12:i1≠i2
 i13:i1≠i3
 i23:i2≠i3
theorem yi9 (n:Nat):Zip3 (n+5) (n+3) (n+4) n (n+1) (n+2):=by
 constructor <;> (show ((_:Nat)≠_);omega)
structure Apart3 (z TO i1 i2 i3 l:Addr):Prop where
 lz:l≠z
 lTO:l≠TO
 l1:l≠i1
 l2:l≠i2
 l3:l≠i3
section
variable {prog:Program}{w:World}{A:Around}{E:Value->Shared->Prop}{s:Shared}
theorem Z1 {T:Addr}{a b c x:Value}{k:Nat}{Q:Unit->Shared->Prop}(i:i5 s.heap T a b c)
  (h:∀ h',h'.get? T=some { cls:=.type "tuple",data:=.seq ((#[a,b,c]:Array Value).setIfInBounds k x) }->Heap.SameBut T s.heap h'->Q () { s with heap:=h' }):
  wpAny (model prog w) A (updateSeq T (·.setIfInBounds k x)) Q E s:=by
 refine wpAny_updateSeq i rfl (h _ ?_ (Heap.SameBut.update ..))
 rw[Heap.get?_update_self _ i rfl]
 simp[Obj.mapSeq]
theorem zz9 {z TI TO i1 i2 i3 l1 l2 l3:Addr}{k1 k2 k3:Nat}{xs ys zs:Array Value}{x y v a b c:Value}{Q:Value->Shared->Prop}(D:Zip3 z TI TO i1 i2 i3)(A1:Apart3 z TO i1 i2 i3 l1)(A2:Apart3 z TO i1 i2 i3 l2)(A3:Apart3 z TO i1 i2 i3 l3)
  (hz:IsZip s.heap z TI TO .none) (au:i5 s.heap TI (.ref i1) (.ref i2) (.ref i3)) (as:i5 s.heap TO a b c)
  (h1:s.heap.IsListIter i1 l1 k1) (h2:s.heap.IsListIter i2 l2 k2) (h3:s.heap.IsListIter i3 l3 k3) (ar:s.heap.IsList l1 xs) (aq:s.heap.IsList l2 ys) (ap:s.heap.IsList l3 zs) (hx:xs[k1]? =some x) (hy:ys[k2]? =some y) (hv:zs[k3]? =some v)
  (hQ:∀ h',IsZip h' z TI TO (rawInt s.heap.objs.size)->i5 h' TO x y v->h'.IsListIter i1 l1 (k1+1)->h'.IsListIter i2 l2 (k2+1)->h'.IsListIter i3 l3 (k3+1)->i5 h' s.heap.objs.size x y v->h'.objs.size=s.heap.objs.size+1->
   (∀ c o,c≠z->c≠TO->c≠i1->c≠i2->c≠i3->s.heap.get? c=some o->h'.get? c=some o)->Q (.ref s.heap.objs.size) { s with heap:=h' }):
  wpAny (model prog w) A (Builtin.«zip.__next__» ⟨[.ref z],[]⟩) (fun fin s'=>∃ v,fin= .done (.ret v)/\Q v s') E s:=by
 show wpAny _ _ (field (.ref z) 2 >>= _) _ _ _
 refine wpAny_bind (wpAny_field hz rfl (x:=.bool false) rfl ?_)
 show wpAny _ _ (field (.ref z) 3 >>= _) _ _ _
 refine wpAny_bind (wpAny_field hz rfl (x:=.ref TI) rfl ?_)
 refine wpAny_bind (wpAny_seqItems au rfl ?_)
 show wpAny _ _ (Builtin.SmallTypes.ownedTupleIsFree (.ref z) >>= _) _ _ _
 refine wpAny_bind ?_
 unfold Builtin.SmallTypes.ownedTupleIsFree
 refine wpAny_bind (wpAny_field hz rfl (x:=.none) rfl (wpAny_pure ?_))
 simp only[if_true]
 refine wpAny_bind (wpAny_rule ?_)
 refine wpAny_bind (wpAny_field hz rfl (x:=.ref TO) rfl ?_)
 refine wpAny_bind (wpAny_setField_rec hz (by simp) fun am Z j=>?_)
 replace Z:IsZip am z TI TO .ellipsis:=Z
 refine wpAny_bind ?_
 simp only[zipIdx_cons,zipIdx_nil,forIn_cons,forIn_nil]
 refine wpAny_bind (wpAny_bind (wpAny_onRaise ?_))
 show wpAny _ _ (Builtin.SmallTypes.nextOf (.ref i1) >>= _) _ _ _
 refine wpAny_bind (wpAny_nextOf_list_item (h1.extBut j.extBut D.i1z) (ar.extBut j.extBut A1.lz) hx fun al af G=>wpAny_pure ?_)
 have a4:i5 al TO a b c:=G.extBut _ _ D.TOi1 (j.extBut _ _ D.TOz as)
 refine wpAny_bind (wpAny_seqItems a4 rfl ?_)
 refine wpAny_bind (Z1 a4 fun ak U q=>?_)
 replace U:i5 ak TO x b c:=U
 refine wpAny_bind (wpAny_letGo (wpAny_pure ?_))
 refine wpAny_bind (wpAny_bind (wpAny_onRaise ?_))
 show wpAny _ _ (Builtin.SmallTypes.nextOf (.ref i2) >>= _) _ _ _
 refine wpAny_bind (wpAny_nextOf_list_item (((h2.extBut j.extBut D.i2z).extBut G.extBut D.i12.symm).extBut q.extBut D.TOi2.symm)
  (((aq.extBut j.extBut A2.lz).extBut G.extBut A2.l1).extBut q.extBut A2.lTO) hy fun aj ad J=>wpAny_pure ?_)
 have a3:i5 aj TO x b c:=J.extBut _ _ D.TOi2 U
 refine wpAny_bind (wpAny_seqItems a3 rfl ?_)
 refine wpAny_bind (Z1 a3 fun ai S I=>?_)
 replace S:i5 ai TO x y c:=S
 refine wpAny_bind (wpAny_letGo (wpAny_pure ?_))
 refine wpAny_bind (wpAny_bind (wpAny_onRaise ?_))
 show wpAny _ _ (Builtin.SmallTypes.nextOf (.ref i3) >>= _) _ _ _
 refine wpAny_bind (wpAny_nextOf_list_item (((((h3.extBut j.extBut D.i3z).extBut G.extBut D.i13.symm).extBut q.extBut D.TOi3.symm).extBut J.extBut D.i23.symm).extBut I.extBut D.TOi3.symm)
  (((((ap.extBut j.extBut A3.lz).extBut G.extBut A3.l1).extBut q.extBut A3.lTO).extBut J.extBut A3.l2).extBut I.extBut A3.lTO) hv fun ah ab M=>wpAny_pure ?_)
 have a2:i5 ah TO x y c:=M.extBut _ _ D.TOi3 S
 refine wpAny_bind (wpAny_seqItems a2 rfl ?_)
 refine wpAny_bind (Z1 a2 fun i N L=>?_)
 replace N:i5 i TO x y v:=N
 refine wpAny_bind (wpAny_letGo (wpAny_pure (wpAny_pure ?_)))
 refine wpAny_bind (wpAny_seqItems N rfl ?_)
 refine wpAny_bind (wpAny_newTuple ?_)
 have ao:i.objs.size=s.heap.objs.size:=by rw[L.1,M.1,I.1,J.1,q.1,G.1,j.1]
 have a5:IsZip i z TI TO .ellipsis:=L.extBut _ _ D.TOz.symm (M.extBut _ _ D.i3z.symm (I.extBut _ _ D.TOz.symm (J.extBut _ _ D.i2z.symm (q.extBut _ _ D.TOz.symm (G.extBut _ _ D.i1z.symm Z)))))
 have a9:∀ c o,c≠z->c≠TO->c≠i1->c≠i2->c≠i3->s.heap.get? c=some o->i.get? c=some o:=fun c o c1 c2 c3 c4 c5 e=>
  L.extBut _ _ c2 (M.extBut _ _ c5 (I.extBut _ _ c2 (J.extBut _ _ c4 (q.extBut _ _ c2 (G.extBut _ _ c3 (j.extBut _ _ c1 e))))))
 have ae:i.IsListIter i1 l1 (k1+1):=((((af.extBut q.extBut D.TOi1.symm).extBut J.extBut D.i12).extBut I.extBut D.TOi1.symm).extBut M.extBut D.i13).extBut L.extBut D.TOi1.symm
 have ac:i.IsListIter i2 l2 (k2+1):=((ad.extBut I.extBut D.TOi2.symm).extBut M.extBut D.i23).extBut L.extBut D.TOi2.symm
 have aa:i.IsListIter i3 l3 (k3+1):=ab.extBut L.extBut D.TOi3.symm
 have a7:z<i.objs.size:=Heap.lt_size a5
 show wpAny _ _ (Builtin.SmallTypes.ownedTupleHandOut (.ref z) (.ref i.objs.size) >>= _) _ _ _
 refine wpAny_bind ?_
 unfold Builtin.SmallTypes.ownedTupleHandOut
 have a8:IsZip (i.push { cls:=.type "tuple",data:=.seq #[x,y,v] }) z TI TO .ellipsis:=Heap.get?_push_of_some _ a5
 refine wpAny_bind (wpAny_setField_rec a8 (by simp) fun ag Y a0=>?_)
 replace Y:IsZip ag z TI TO (rawInt i.objs.size):=Y
 refine wpAny_setField_rec Y (by simp) fun h₀ O a1=>?_
 replace O:IsZip h₀ z TI TO (rawInt i.objs.size):=O
 have up:∀ c o,c≠z->i.get? c=some o->h₀.get? c=some o:=fun c o c1 e=>a1.extBut _ _ c1 (a0.extBut _ _ c1 (Heap.get?_push_of_some _ e))
 have a6:i5 h₀ i.objs.size x y v:=a1.extBut _ _ (Nat.ne_of_gt a7) (a0.extBut _ _ (Nat.ne_of_gt a7) (Heap.get?_push_size _ rfl))
 have an:h₀.objs.size=i.objs.size+1:=by rw[a1.1,a0.1,Heap.size_push]
 rw[ao]at O a6 an
 refine wpAny_pure ⟨_,rfl,?_⟩
 show Q (.ref i.objs.size) _
 rw[ao]
 exact hQ h₀ O (up _ _ D.TOz N) (ae.at fun o e=>up _ o D.i1z e) (ac.at fun o e=>up _ o D.i2z e) (aa.at fun o e=>up _ o D.i3z e) a6 an fun c o c1 c2 c3 c4 c5 e=>up c o c1 (a9 c o c1 c2 c3 c4 c5 e)
theorem zv1 {z TI TO i1 i2 i3 l1 l2 l3:Addr}{k1 k2 k3:Nat}{xs ys zs:Array Value}{a b c:Value}{Q:Fin->Shared->Prop}(hh:A.handled=none)(D:Zip3 z TI TO i1 i2 i3)(A1:Apart3 z TO i1 i2 i3 l1)(A2:Apart3 z TO i1 i2 i3 l2)(A3:Apart3 z TO i1 i2 i3 l3)
  (hz:IsZip s.heap z TI TO .none) (ag:i5 s.heap TI (.ref i1) (.ref i2) (.ref i3)) (af:i5 s.heap TO a b c)
  (h1:s.heap.IsListIter i1 l1 k1) (h2:s.heap.IsListIter i2 l2 k2) (h3:s.heap.IsListIter i3 l3 k3) (ac:s.heap.IsList l1 xs) (ab:s.heap.IsList l2 ys) (ae:s.heap.IsList l3 zs) (ad:xs[k1]? =none\/ys[k2]? =none\/zs[k3]? =none)
  (hE:∀ h' e,(∀ c o,c≠z->c≠TO->c≠i1->c≠i2->c≠i3->s.heap.get? c=some o->h'.get? c=some o)->(∃ o,h'.get? e=some o/\o.cls= .type "StopIteration")->E (.ref e) { s with heap:=h' }):
  wpAny (model prog w) A (Builtin.«zip.__next__» ⟨[.ref z],[]⟩) Q E s:=by
 show wpAny _ _ (field (.ref z) 2 >>= _) _ _ _
 refine wpAny_bind (wpAny_field hz rfl (x:=.bool false) rfl ?_)
 show wpAny _ _ (field (.ref z) 3 >>= _) _ _ _
 refine wpAny_bind (wpAny_field hz rfl (x:=.ref TI) rfl ?_)
 refine wpAny_bind (wpAny_seqItems ag rfl ?_)
 show wpAny _ _ (Builtin.SmallTypes.ownedTupleIsFree (.ref z) >>= _) _ _ _
 refine wpAny_bind ?_
 unfold Builtin.SmallTypes.ownedTupleIsFree
 refine wpAny_bind (wpAny_field hz rfl (x:=.none) rfl (wpAny_pure ?_))
 simp only[if_true]
 refine wpAny_bind (wpAny_rule ?_)
 refine wpAny_bind (wpAny_field hz rfl (x:=.ref TO) rfl ?_)
 refine wpAny_bind (wpAny_setField_rec hz (by simp) fun aa J j=>?_)
 replace J:IsZip aa z TI TO .ellipsis:=J
 refine wpAny_bind ?_
 simp only[zipIdx_cons,zipIdx_nil,forIn_cons,forIn_nil]
 refine wpAny_bind (wpAny_bind (wpAny_onRaise ?_))
 show wpAny _ _ (Builtin.SmallTypes.nextOf (.ref i1) >>= _) _ _ _
 cases hx:xs[k1]? with
 |none=>
  refine wpAny_bind (wpAny_nextOf_list_end hh (h1.extBut j.extBut D.i1z) (ac.extBut j.extBut A1.lz) hx fun a1 e i he=>?_)
  obtain⟨oe,L,N⟩:=he
  have a4:IsZip a1 z TI TO .ellipsis:=i _ _ D.i1z.symm J
  have a7:e≠z:=fun x=>by subst x;rw[a4]at L;cases L;simp at N
  refine wpAny_setField_rec a4 (by simp) fun a0 _ q=>hE a0 e (fun c o c1 _ c3 _ _ x=>q.extBut _ _ c1 (i _ _ c3 (j.extBut _ _ c1 x))) ⟨oe,q.extBut _ _ a7 L,N⟩
 |some x=>
  refine wpAny_bind (wpAny_nextOf_list_item (h1.extBut j.extBut D.i1z) (ac.extBut j.extBut A1.lz) hx fun a1 ai i=>wpAny_pure ?_)
  have U:i5 a1 TO a b c:=i.extBut _ _ D.TOi1 (j.extBut _ _ D.TOz af)
  refine wpAny_bind (wpAny_seqItems U rfl ?_)
  refine wpAny_bind (Z1 U fun a0 M q=>?_)
  replace M:i5 a0 TO x b c:=M
  refine wpAny_bind (wpAny_letGo (wpAny_pure ?_))
  refine wpAny_bind (wpAny_bind (wpAny_onRaise ?_))
  show wpAny _ _ (Builtin.SmallTypes.nextOf (.ref i2) >>= _) _ _ _
  cases hy:ys[k2]? with
  |none=>
   refine wpAny_bind (wpAny_nextOf_list_end hh (((h2.extBut j.extBut D.i2z).extBut i.extBut D.i12.symm).extBut q.extBut D.TOi2.symm)
    (((ab.extBut j.extBut A2.lz).extBut i.extBut A2.l1).extBut q.extBut A2.lTO) hy fun Z e G he=>?_)
   obtain⟨oe,L,N⟩:=he
   have a3:IsZip Z z TI TO .ellipsis:=G _ _ D.i2z.symm (q.extBut _ _ D.TOz.symm (i.extBut _ _ D.i1z.symm J))
   have a7:e≠z:=fun x=>by subst x;rw[a3]at L;cases L;simp at N
   refine wpAny_setField_rec a3 (by simp) fun Y _ I=>hE Y e (fun c o c1 c2 c3 c4 _ x=>I.extBut _ _ c1 (G _ _ c4 (q.extBut _ _ c2 (i.extBut _ _ c3 (j.extBut _ _ c1 x))))) ⟨oe,I.extBut _ _ a7 L,N⟩
  |some y=>
   have hv:zs[k3]? =none:=by
    rcases ad with h|h|h
    .rw[hx]at h;cases h
    .rw[hy]at h;cases h
    .exact h
   refine wpAny_bind (wpAny_nextOf_list_item (((h2.extBut j.extBut D.i2z).extBut i.extBut D.i12.symm).extBut q.extBut D.TOi2.symm)
    (((ab.extBut j.extBut A2.lz).extBut i.extBut A2.l1).extBut q.extBut A2.lTO) hy fun Z ah G=>wpAny_pure ?_)
   have S:i5 Z TO x b c:=G.extBut _ _ D.TOi2 M
   refine wpAny_bind (wpAny_seqItems S rfl ?_)
   refine wpAny_bind (Z1 S fun Y O I=>?_)
   replace O:i5 Y TO x y c:=O
   refine wpAny_bind (wpAny_letGo (wpAny_pure ?_))
   refine wpAny_bind (wpAny_bind (wpAny_onRaise ?_))
   show wpAny _ _ (Builtin.SmallTypes.nextOf (.ref i3) >>= _) _ _ _
   refine wpAny_bind (wpAny_nextOf_list_end hh (((((h3.extBut j.extBut D.i3z).extBut i.extBut D.i13.symm).extBut q.extBut D.TOi3.symm).extBut G.extBut D.i23.symm).extBut I.extBut D.TOi3.symm)
    (((((ae.extBut j.extBut A3.lz).extBut i.extBut A3.l1).extBut q.extBut A3.lTO).extBut G.extBut A3.l2).extBut I.extBut A3.lTO) hv fun a9 e a6 he=>?_)
   obtain⟨oe,L,N⟩:=he
   have a2:IsZip a9 z TI TO .ellipsis:=a6 _ _ D.i3z.symm (I.extBut _ _ D.TOz.symm (G.extBut _ _ D.i2z.symm (q.extBut _ _ D.TOz.symm (i.extBut _ _ D.i1z.symm J))))
   have a7:e≠z:=fun x=>by subst x;rw[a2]at L;cases L;simp at N
   refine wpAny_setField_rec a2 (by simp) fun a8 _ a5=>hE a8 e (fun c o c1 c2 c3 c4 c5 x=>a5.extBut _ _ c1 (a6 _ _ c5 (I.extBut _ _ c2 (G.extBut _ _ c4 (q.extBut _ _ c2 (i.extBut _ _ c3 (j.extBut _ _ c1 x))))))) ⟨oe,a5.extBut _ _ a7 L,N⟩
theorem F9 {z TI TO i1 i2 i3 l1 l2 l3:Addr}{k1 k2 k3:Nat}{xs ys zs:Array Value}{x y v a b c:Value}{Q:Option Value->Shared->Prop}(D:Zip3 z TI TO i1 i2 i3)(A1:Apart3 z TO i1 i2 i3 l1)(A2:Apart3 z TO i1 i2 i3 l2)(A3:Apart3 z TO i1 i2 i3 l3)
  (J:IsZip s.heap z TI TO .none) (I:i5 s.heap TI (.ref i1) (.ref i2) (.ref i3)) (G:i5 s.heap TO a b c)
  (h1:s.heap.IsListIter i1 l1 k1) (h2:s.heap.IsListIter i2 l2 k2) (U:s.heap.IsListIter i3 l3 k3) (q:s.heap.IsList l1 xs) (j:s.heap.IsList l2 ys) (i:s.heap.IsList l3 zs) (N:xs[k1]? =some x) (M:ys[k2]? =some y) (O:zs[k3]? =some v)
  (S:∀ h',IsZip h' z TI TO (rawInt s.heap.objs.size)->i5 h' TO x y v->h'.IsListIter i1 l1 (k1+1)->h'.IsListIter i2 l2 (k2+1)->h'.IsListIter i3 l3 (k3+1)->i5 h' s.heap.objs.size x y v->h'.objs.size=s.heap.objs.size+1->
   (∀ c o,c≠z->c≠TO->c≠i1->c≠i2->c≠i3->s.heap.get? c=some o->h'.get? c=some o)->Q (some (.ref s.heap.objs.size)) { s with heap:=h' }):
  wpAny (model prog w) A (pyNext (.ref z)) Q E s:=by
 have L:s.TypeIs (.ref z) "zip":=⟨_,J,rfl⟩
 unfold pyNext
 exact wpAny_bind (wpAny_attempt (wpAny_callSpecial?_slot (name:=Str.ofString "__next__") L F.slot_zip_next
  (wpAny_call_entry F.slot_zip_next L F.entry_zip_next
   (zz9 D A1 A2 A3 J I G h1 h2 U q j i N M O fun h' a1 a2 a3 a4 a5 a6 Z Y=>wpAny_pure (S h' a1 a2 a3 a4 a5 a6 Z Y)) (F.args_zip_next_1 _))))
theorem C5 {z TI TO i1 i2 i3 l1 l2 l3:Addr}{k1 k2 k3:Nat}{xs ys zs:Array Value}{a b c:Value}{Q:Option Value->Shared->Prop}(hh:A.handled=none)(D:Zip3 z TI TO i1 i2 i3)(A1:Apart3 z TO i1 i2 i3 l1)(A2:Apart3 z TO i1 i2 i3 l2)(A3:Apart3 z TO i1 i2 i3 l3)
  (L:IsZip s.heap z TI TO .none) (J:i5 s.heap TI (.ref i1) (.ref i2) (.ref i3)) (I:i5 s.heap TO a b c)
  (h1:s.heap.IsListIter i1 l1 k1) (h2:s.heap.IsListIter i2 l2 k2) (Z:s.heap.IsListIter i3 l3 k3) (G:s.heap.IsList l1 xs) (q:s.heap.IsList l2 ys) (j:s.heap.IsList l3 zs) (i:xs[k1]? =none\/ys[k2]? =none\/zs[k3]? =none)
  (Y:∀ h',(∀ c o,c≠z->c≠TO->c≠i1->c≠i2->c≠i3->s.heap.get? c=some o->h'.get? c=some o)->Q none { s with heap:=h' }):wpAny (model prog w) A (pyNext (.ref z)) Q E s:=by
 have M:s.TypeIs (.ref z) "zip":=⟨_,L,rfl⟩
 unfold pyNext
 refine wpAny_bind (wpAny_attempt (wpAny_callSpecial?_slot (name:=Str.ofString "__next__") M F.slot_zip_next
  (wpAny_call_entry F.slot_zip_next M F.entry_zip_next (zv1 hh D A1 A2 A3 L J I h1 h2 Z G q j i fun h' e O S=>?_) (F.args_zip_next_1 _))))
 obtain⟨o,N,U⟩:=S
 refine wpAny_bind (wpAny_isInstance (T:="StopIteration") (b:=true) ⟨o,N,U⟩ isSubtype_stop ?_)
 exact wpAny_pure (Y _ O)
abbrev z3H1 (h:Heap)(l1:Addr):Heap:=h.push { cls:=.type "list_iterator",data:=.fields #[.ref l1,.int 0 0] }
abbrev z3H2 (h:Heap)(l1 l2:Addr):Heap:=(z3H1 h l1).push { cls:=.type "list_iterator",data:=.fields #[.ref l2,.int 0 0] }
abbrev z3H3 (h:Heap)(l1 l2 l3:Addr):Heap:=(z3H2 h l1 l2).push { cls:=.type "list_iterator",data:=.fields #[.ref l3,.int 0 0] }
abbrev z3H4 (h:Heap)(l1 l2 l3:Addr):Heap:=(z3H3 h l1 l2 l3).push { cls:=.type "tuple",data:=.seq #[.ref h.objs.size,.ref (z3H1 h l1).objs.size,.ref (z3H2 h l1 l2).objs.size] }
abbrev z3H5 (h:Heap)(l1 l2 l3:Addr):Heap:=(z3H4 h l1 l2 l3).push { cls:=.type "tuple",data:=.seq #[.none,.none,.none] }
abbrev z3H6 (h:Heap)(l1 l2 l3:Addr):Heap:=(z3H5 h l1 l2 l3).push { cls:=.type "zip",data:=.fields #[.none,.bool false,.bool false,.ref (z3H3 h l1 l2 l3).objs.size,.ref (z3H4 h l1 l2 l3).objs.size] }
theorem zy0 (a b c:Value):checkTypeCall "zip" ⟨[a,b,c],[]⟩=pure ():=by kernel_rfl
theorem zu8 (a b c:Value):checkBuiltinCall "zip.__new__" ⟨[.type "zip",a,b,c],[]⟩=pure ():=by kernel_rfl
theorem ze3 (a b c d:Value):argsOk "object.__init__" ⟨[a,b,c,d],[]⟩:=by
 unfold argsOk;rw[signature?_of (id:="object.__init__") (n:=['_','_','t','i','n','i','_','_']) (o:=['t','c','e','j','b','o']) (by kernel_rfl) F.owner_object];kernel_rfl
set_option maxHeartbeats 8000000 in
theorem zy4 (l1 l2 l3:Addr)(xs ys zs:Array Value):
  Meets (Builtin.«zip.__new__» ⟨[.type "zip",.ref l1,.ref l2,.ref l3],[]⟩) (fun _ R s=>s.heap.IsList l1 xs/\s.heap.IsList l2 ys/\s.heap.IsList l3 zs/\
   R (.ok (.ret (.ref (z3H5 s.heap l1 l2 l3).objs.size))) { s with heap:=z3H6 s.heap l1 l2 l3 }):=
 .of_wp fun prog w A R s h=>by
  obtain⟨i,g,d,tk,os⟩:=s;obtain⟨z,q,j,h⟩:=h
  have L:=sub_zip
  have J:Heap.IsList (Shared.heap ⟨i,g,d,tk,os⟩) l1 xs:=z
  have I:Heap.IsList (Shared.heap ⟨i.push { cls:=.type "list_iterator",data:=.fields #[.ref l1,.int 0 0] },g,d,tk,os⟩) l2 ys:=Heap.IsList.push q _
  have G:Heap.IsList (Shared.heap ⟨(i.push { cls:=.type "list_iterator",data:=.fields #[.ref l1,.int 0 0] }).push { cls:=.type "list_iterator",data:=.fields #[.ref l2,.int 0 0] },g,d,tk,os⟩) l3 zs:=Heap.IsList.push (Heap.IsList.push j _) _
  wp_walk using wpAny_pyIter_list J,wpAny_pyIter_list I,wpAny_pyIter_list G
  exact⟨_,rfl,h⟩
theorem yw7 {l1 l2 l3:Addr}{xs ys zs:Array Value}{Q:Value->Shared->Prop}(J:s.heap.IsList l1 xs)(I:s.heap.IsList l2 ys)(G:s.heap.IsList l3 zs)
  (h:∀ h',IsZip h' (s.heap.objs.size+5) (s.heap.objs.size+3) (s.heap.objs.size+4) .none->i5 h' (s.heap.objs.size+3) (.ref s.heap.objs.size) (.ref (s.heap.objs.size+1)) (.ref (s.heap.objs.size+2))->
   i5 h' (s.heap.objs.size+4) .none .none .none->h'.IsListIter s.heap.objs.size l1 0->h'.IsListIter (s.heap.objs.size+1) l2 0->h'.IsListIter (s.heap.objs.size+2) l3 0->
   (∀ c o,s.heap.get? c=some o->h'.get? c=some o)->Q (.ref (s.heap.objs.size+5)) { s with heap:=h' }):
  wpAny (model prog w) A (call (.type "zip") [.ref l1,.ref l2,.ref l3]) Q E s:=by
 refine callType_new F.called_zip (by decide) (zy0 _ _ _) (zu8 _ _ _) (fun obj=>ze3 obj _ _ _) F.entry_zip_new
  (zy4 l1 l2 l3 xs ys zs) ⟨J,I,G,?_⟩
 have z:(z3H1 s.heap l1).objs.size=s.heap.objs.size+1:=Heap.size_push ..
 have q:(z3H2 s.heap l1 l2).objs.size=s.heap.objs.size+2:=by rw[Heap.size_push,z]
 have j:(z3H3 s.heap l1 l2 l3).objs.size=s.heap.objs.size+3:=by rw[Heap.size_push,q]
 have i:(z3H4 s.heap l1 l2 l3).objs.size=s.heap.objs.size+4:=by rw[Heap.size_push,j]
 have M:(z3H5 s.heap l1 l2 l3).objs.size=s.heap.objs.size+5:=by rw[Heap.size_push,i]
 have L:(z3H6 s.heap l1 l2 l3).get? (z3H5 s.heap l1 l2 l3).objs.size=some _:=Heap.get?_push_size _ rfl
 have N:(z3H6 s.heap l1 l2 l3).get? (z3H4 s.heap l1 l2 l3).objs.size=some _:=Heap.get?_push_of_some _ (Heap.get?_push_size _ rfl)
 have O:(z3H6 s.heap l1 l2 l3).get? (z3H3 s.heap l1 l2 l3).objs.size=some _:=Heap.get?_push_of_some _ (Heap.get?_push_of_some _ (Heap.get?_push_size _ rfl))
 have S:(z3H6 s.heap l1 l2 l3).get? (z3H2 s.heap l1 l2).objs.size=some _:=Heap.get?_push_of_some _ (Heap.get?_push_of_some _ (Heap.get?_push_of_some _ (Heap.get?_push_size _ rfl)))
 have U:(z3H6 s.heap l1 l2 l3).get? (z3H1 s.heap l1).objs.size=some _:=Heap.get?_push_of_some _ (Heap.get?_push_of_some _ (Heap.get?_push_of_some _ (Heap.get?_push_of_some _ (Heap.get?_push_size _ rfl))))
 have Y:(z3H6 s.heap l1 l2 l3).get? s.heap.objs.size=some _:=Heap.get?_push_of_some _ (Heap.get?_push_of_some _ (Heap.get?_push_of_some _ (Heap.get?_push_of_some _ (Heap.get?_push_of_some _ (Heap.get?_push_size _ rfl)))))
 show _/\_
 rw[j,i,M]at L
 rw[i]at N
 rw[z,q,j]at O
 rw[q]at S
 rw[z]at U
 rw[M]
 exact⟨⟨_,L,rfl⟩,h _ L O N ⟨_,Y,rfl,rfl⟩ ⟨_,U,rfl,rfl⟩ ⟨_,S,rfl,rfl⟩ fun c o x=>
  Heap.get?_push_of_some _ (Heap.get?_push_of_some _ (Heap.get?_push_of_some _ (Heap.get?_push_of_some _ (Heap.get?_push_of_some _ (Heap.get?_push_of_some _ x)))))⟩
end
def Itz3 (K:W.Frag)(l1 l2 l3:Addr):It:=
 ⟨fun i H=>∃ xs ys zs x y z,SqL K H l1 xs/\SqL K H l2 ys/\SqL K H l3 zs/\xs[i]? =some x/\ys[i]? =some y/\zs[i]? =some z,
  fun i H v H'=>∃ t x y z,v= .ref t/\H t=none/\H'=upd H t (.tup [x,y,z])/\(∀ xs,SqL K H l1 xs->xs[i]? =some x)/\(∀ ys,SqL K H l2 ys->ys[i]? =some y)/\(∀ zs,SqL K H l3 zs->zs[i]? =some z),
  fun i H=>∃ xs ys zs,SqL K H l1 xs/\SqL K H l2 ys/\SqL K H l3 zs/\(xs.length<=i\/ys.length<=i\/zs.length<=i)⟩
theorem V8 {h:Heap}{z TI TO i1 i2 i3 l m1 m2 G:Addr}{its:Array Value}{a b c L:Value}{k1 k2 k3:Nat}(I:IsZip h z TI TO L)(q:i5 h TO a b c)(h1:h.IsListIter i1 m1 k1)(h2:h.IsListIter i2 m2 k2)(J:h.IsListIter i3 G k3)
  (p:h.IsList l its):Apart3 z TO i1 i2 i3 l:=by
 obtain⟨Y,N,c1,_⟩:=h1
 obtain⟨U,M,c2,_⟩:=h2
 obtain⟨S,e3,O,_⟩:=J
 obtain⟨po,i,j,_⟩:=p
 exact⟨V2 i I (by rw[j];exact c9 (by decide)),V2 i q (by rw[j];exact c9 (by decide)),V2 i N (by rw[j,c1];exact c9 (by decide)),V2 i M (by rw[j,c2];exact c9 (by decide)),V2 i e3 (by rw[j,O];exact c9 (by decide))⟩
theorem yv7 {P:Program}{w:World}{K:W.Frag}{es:List Expr}{tk:Nat}{tp:Pos}(z TI TO i1 i2 i3 l1 l2 l3:Addr)(D:Zip3 z TI TO i1 i2 i3):
  Turn P w K (.Tuple es tk tp) (Itz3 K l1 l2 l3) [z,TI,TO,i1,i2,i3] z
   (fun i h=>IsZip h z TI TO .none/\i5 h TI (.ref i1) (.ref i2) (.ref i3)/\(∃ a b c,i5 h TO a b c)/\h.IsListIter i1 l1 i/\h.IsListIter i2 l2 i/\h.IsListIter i3 l3 i) where
 mem:=by simp
 obj:=fun i h st b hb=>by
  obtain⟨N,J,⟨a,c,d,j⟩,⟨o1,e1,_,d1⟩,⟨o2,e2,_,d2⟩,⟨o3,e3,_,d3⟩⟩:=st
  simp only[mem_cons,not_mem_nil,or_false]at hb
  rcases hb with rfl|rfl|rfl|rfl|rfl|rfl
  .exact⟨_,N,fun v q=>by cases q⟩
  .exact⟨_,J,fun v q=>by cases q⟩
  .exact⟨_,j,fun v q=>by cases q⟩
  .exact⟨_,e1,fun v q=>by rw[d1]at q;cases q⟩
  .exact⟨_,e2,fun v q=>by rw[d2]at q;cases q⟩
  .exact⟨_,e3,fun v q=>by rw[d3]at q;cases q⟩
 keep:=fun i h h' st k=>by
  obtain⟨N,J,⟨a,c,d,j⟩,h1,h2,O⟩:=st
  exact⟨k z (by simp) _ N,k TI (by simp) _ J,⟨a,c,d,k TO (by simp) _ j⟩,h1.at fun o e=>k i1 (by simp) o e,h2.at fun o e=>k i2 (by simp) o e,O.at fun o e=>k i3 (by simp) o e⟩
 item:=by
  intro X hP hw hK M i pins s σ H E I hf st hg
  subst hP hw hK
  obtain⟨xs,ys,zs,x,y,v,Y,U,S,hx,hy,hv⟩:=hg
  obtain⟨ac,a7,p1,_⟩:=I.list Y
  obtain⟨ab,a0,p2,_⟩:=I.list U
  obtain⟨aa,Z,p3,_⟩:=I.list S
  obtain⟨u1,ak,ah⟩:=a7.get hx
  obtain⟨u2,aj,ag⟩:=a0.get hy
  obtain⟨u3,ai,af⟩:=Z.get hv
  obtain⟨N,J,⟨a,b,c,j⟩,h1,h2,O⟩:=st
  refine F9 D (V8 N j h1 h2 O p1.isList) (V8 N j h1 h2 O p2.isList) (V8 N j h1 h2 O p3.isList) N J j h1 h2 O p1.isList p2.isList p3.isList (x:=u1) (y:=u2) (v:=u3) (by simpa using ak) (by simpa using aj) (by simpa using ai) fun h' a1 a2 a3 a4 am a5 a6 hk=>?_
  refine⟨_,rfl,?_⟩
  refine wpAny_letOwnedTupleGo_zip a1 fun a9 ae G=>?_
  have ad:z<s.heap.objs.size:=Heap.lt_size N
  have kk:∀ c o,c∉[z,TI,TO,i1,i2,i3]->s.heap.get? c=some o->a9.get? c=some o:=fun c o M e=>by
   simp only[mem_cons,not_mem_nil,or_false,not_or]at M
   exact G.extBut _ _ M.1 (hk c o M.1 M.2.2.1 M.2.2.2.1 M.2.2.2.2.1 M.2.2.2.2.2 e)
  have hT:a9.get? s.heap.objs.size=some { cls:=.type "tuple",data:=.seq #[u1,u2,u3] }:=G.extBut _ _ (Nat.ne_of_gt ad) a5
  have I2:Inv X pins σ (upd H s.heap.objs.size (.tup [x,y,v])) { s with heap:=a9,toks:=s.toks }:=
   I.turnedN (T:=s.heap.objs.size) (o:=.tup [x,y,v]) kk hf (Nat.le_refl _) ⟨by show 3<=sizeLine;decide,[u1,u2,u3],.cons ah (.cons ag (.cons af .nil)),⟨_,hT,rfl,_,rfl⟩⟩
  refine⟨.ref s.heap.objs.size,_,I2,rfl,⟨_,x,y,v,rfl,I.fresh,rfl,fun zs L=>by rw[I.list_inj L Y];exact hx,fun zs L=>by rw[I.list_inj L U];exact hy,fun zs L=>by rw[I.list_inj L S];exact hv⟩,
   ⟨ae,G.extBut _ _ D.TIz (hk _ _ D.TIz D.TITO D.TIi1 D.TIi2 D.TIi3 J),⟨_,_,_,G.extBut _ _ D.TOz a2⟩,a3.extBut G.extBut D.i1z,a4.extBut G.extBut D.i2z,am.extBut G.extBut D.i3z⟩,fun c a8=>?_⟩
  have al:c<s.heap.objs.size:=by
   obtain⟨o1,e1,_⟩:=h1
   obtain⟨o2,e2,_⟩:=h2
   obtain⟨o3,e3,_⟩:=O
   simp only[mem_cons,not_mem_nil,or_false]at a8
   rcases a8 with rfl|rfl|rfl|rfl|rfl|rfl
   .exact ad
   .exact Heap.lt_size J
   .exact Heap.lt_size j
   .exact Heap.lt_size e1
   .exact Heap.lt_size e2
   .exact Heap.lt_size e3
  rw[v6 (Nat.ne_of_lt al)]
  exact(hf c a8).1
 done:=by
  intro X hP hw hK M i pins s σ H E I hf st hg
  subst hP hw hK
  obtain⟨xs,ys,zs,Y,U,S,hl⟩:=hg
  obtain⟨ac,a7,p1,_⟩:=I.list Y
  obtain⟨ab,a0,p2,_⟩:=I.list U
  obtain⟨aa,Z,p3,_⟩:=I.list S
  obtain⟨N,J,⟨a,b,c,j⟩,h1,h2,O⟩:=st
  have ap:=a7.length
  have ao:=a0.length
  have an:=Z.length
  refine C5 (I.ok.hd M) D (V8 N j h1 h2 O p1.isList) (V8 N j h1 h2 O p2.isList) (V8 N j h1 h2 O p3.isList) N J j h1 h2 O p1.isList p2.isList p3.isList ?_ fun h' hk=>⟨rfl,?_⟩
  .rcases hl with q|q|q
   .exact .inl (by simp;omega)
   .exact .inr (.inl (by simp;omega))
   .exact .inr (.inr (by simp;omega))
  exact I.turnedL (t':=s.toks) (fun c o M e=>by
   simp only[mem_cons,not_mem_nil,or_false,not_or]at M
   exact hk c o M.1 M.2.2.1 M.2.2.2.1 M.2.2.2.2.1 M.2.2.2.2.2 e) hf
 self:=fun _ _ _ _ _ st h=>wpAny_pyIter_zip st.1 h
section
variable {X:Cx}
def wx7 (K:W.Frag)(ta:TA):TI:=fun σ H R=>ta σ H fun vs H1=>∃ a b c xs ys zs,vs=[.ref a,.ref b,.ref c]/\SqL K H1 a xs/\SqL K H1 b ys/\SqL K H1 c zs/\R (Itz3 K a b c) H1
theorem xu7 {a b c:Expr}{ta:TA}{p pos:Pos}{es:List Expr}{tk:Nat}{tp:Pos}(hg:Gl X "zip")(hm:X.mg "zip"=none)(ha:PA X [a,b,c] ta)(hs:starEach [a,b,c] X.env=(false,eval a X.env)::starEach [b,c] X.env:=by rfl)(M:∀ pos,((backTo pos (starEach [b,c] X.env)).any fun x=>x.1)=false:=by intro _;rfl):
  PI X (.Tuple es tk tp) (.Call (.Name "zip" p) [a,b,c] [] pos) (wx7 X.K ta):=by
 intro pins s σ H R I h
 refine Call_ (W0 I hg hm boot_zip (PyProof.Rows.callWith_type1 (thn (ha pos pins s σ H _ I h) fun us s1 z=>?_) hs (M _)))
 obtain⟨vs,H1,i,r1,L⟩:=z
 obtain⟨l1,l2,l3,xs,ys,zs,e,L,q2,q3,q⟩:=L
 subst e
 cases r1 with
 |cons r j=>
  cases j with
  |cons r' j=>
   cases j with
   |cons J j=>
   cases j
   cases r
   cases r'
   cases J
   obtain⟨a1,a4,p1,_⟩:=i.list L
   obtain⟨a0,a3,p2,_⟩:=i.list q2
   obtain⟨Z,a2,p3,_⟩:=i.list q3
   refine yw7 p1.isList p2.isList p3.isList fun h' hz Y U S O N hk=>?_
   have I2:Inv X pins σ H1 { s1 with heap:=h',toks:=s1.toks }:=i.kept hk
   refine wpAny_pyIter_zip (s:={ s1 with heap:=h' }) hz ?_
   refine⟨_,[s1.heap.objs.size+5,s1.heap.objs.size+3,s1.heap.objs.size+4,s1.heap.objs.size,s1.heap.objs.size+1,s1.heap.objs.size+2],_,_,H1,rfl,I2,yv7 _ _ _ _ _ _ l1 l2 l3 (yi9 _),
    ⟨hz,Y,⟨_,_,_,U⟩,S,O,N⟩,fun b hb=>?_,q⟩
   have G:s1.heap.objs.size<=b:=by
    simp only[mem_cons,not_mem_nil,or_false]at hb
    rcases hb with rfl|rfl|rfl|rfl|rfl|rfl
    .exact Nat.le_add_right _ 5
    .exact Nat.le_add_right _ 3
    .exact Nat.le_add_right _ 4
    .exact Nat.le_refl _
    .exact Nat.le_add_right _ 1
    .exact Nat.le_add_right _ 2
   exact i.fpOk G (i.hok.fresh G)
end
def Ite (K:W.Frag)(l:Addr):It:=
 ⟨fun i H=>∃ xs x,SqL K H l xs/\xs[i]? =some x,
  fun i H v H'=>∃ t x,v= .ref t/\H t=none/\H'=upd H t (.tup [.int i,x])/\(∀ xs,SqL K H l xs->xs[i]? =some x),
  fun i H=>∃ xs,SqL K H l xs/\xs.length<=i⟩
theorem zq0 {P:Program}{w:World}{K:W.Frag}{es:List Expr}{tk:Nat}{tp:Pos}(e it l:Addr)(Y:e≠it):
  Turn P w K (.Tuple es tk tp) (Ite K l) [e,it] e (fun i h=>(∃ old,IsEnum h e it (i:Nat) old)/\h.IsListIter it l i) where
 mem:=by simp
 obj:=fun i h st b hb=>by
  obtain⟨⟨old,z⟩,⟨o1,e1,_,d1⟩⟩:=st
  simp only[mem_cons,not_mem_nil,or_false]at hb
  rcases hb with rfl|rfl
  .exact⟨_,z,fun v q=>by cases q⟩
  .exact⟨_,e1,fun v q=>by rw[d1]at q;cases q⟩
 keep:=fun i h h' st k=>by
  obtain⟨⟨old,z⟩,h1⟩:=st
  exact⟨⟨old,k e (by simp) _ z⟩,h1.at fun o q=>k it (by simp) o q⟩
 item:=by
  intro X hP hw hK G i pins s σ H E I hf st hg
  subst hP hw hK
  obtain⟨xs,x,J,hx⟩:=hg
  obtain⟨O,L,p1,_⟩:=I.list J
  obtain⟨u1,a5,a0⟩:=L.get hx
  obtain⟨⟨old,z⟩,h1⟩:=st
  refine wpAny_pyNext_enum_item z h1 p1.isList (x:=u1) (by simpa using a5) Y fun h' a1 a2 a3 a4 hk=>?_
  refine⟨_,rfl,?_⟩
  refine wpAny_letOwnedTupleGo_enum a1 fun N Z j=>?_
  have U:e<s.heap.objs.size:=Heap.lt_size z
  have kk:∀ c o,c∉[e,it]->s.heap.get? c=some o->N.get? c=some o:=fun c o G q=>by
   simp only[mem_cons,not_mem_nil,or_false,not_or]at G
   exact j.extBut _ _ G.1 (hk c o G.1 G.2 q)
  have hT:N.get? s.heap.objs.size=some { cls:=.type "tuple",data:=.seq #[.int i s.toks,u1] }:=j.extBut _ _ (Nat.ne_of_gt U) a3
  have I2:Inv X pins σ (upd H s.heap.objs.size (.tup [.int i,x])) { s with heap:=N,toks:=s.toks+1 }:=
   I.turnedN (T:=s.heap.objs.size) (o:=.tup [.int i,x]) kk hf (Nat.le_refl _) ⟨by show 2<=sizeLine;decide,[.int i s.toks,u1],.cons ⟨_,rfl⟩ (.cons a0 .nil),⟨_,hT,rfl,_,rfl⟩⟩
  refine⟨.ref s.heap.objs.size,_,I2,rfl,⟨_,x,rfl,I.fresh,rfl,fun zs S=>by rw[I.list_inj S J];exact hx⟩,
   ⟨⟨_,Z⟩,a2.extBut j.extBut Y.symm⟩,fun c M=>?_⟩
  have a6:c<s.heap.objs.size:=by
   obtain⟨o1,e1,_⟩:=h1
   simp only[mem_cons,not_mem_nil,or_false]at M
   rcases M with rfl|rfl
   .exact U
   .exact Heap.lt_size e1
  rw[v6 (Nat.ne_of_lt a6)]
  exact(hf c M).1
 done:=by
  intro X hP hw hK G i pins s σ H E I hf st hg
  subst hP hw hK
  obtain⟨xs,J,hl⟩:=hg
  obtain⟨O,L,p1,_⟩:=I.list J
  obtain⟨⟨old,z⟩,h1⟩:=st
  have a7:=L.length
  refine wpAny_pyNext_enum_end (I.ok.hd G) z h1 p1.isList (by simp;omega) fun h' hk=>⟨rfl,?_⟩
  exact I.turnedL (t':=s.toks) (fun c o G q=>by
   simp only[mem_cons,not_mem_nil,or_false,not_or]at G
   exact hk c o G.2 q) hf
 self:=fun A i s Q E st h=>by
  obtain⟨⟨old,z⟩,h1⟩:=st
  have hT:s.TypeIs (.ref e) "enumerate":=⟨_,z,rfl⟩
  refine wpAny_pyIter_slot hT F.slot_enumerate_iter (wpAny_call_entry F.slot_enumerate_iter hT F.entry_enumerate_iter ?_ (F.args_enumerate_iter_1 _))
  show wpAny _ _ (ret (.ref e)) _ _ s
  exact wpAny_pure ⟨_,rfl,"enumerate",_,hT,F.slot_enumerate_next.lookup,h⟩
section
variable {X:Cx}
def ww2 (K:W.Frag)(ta:TA):TI:=fun σ H R=>ta σ H fun vs H1=>∃ a xs,vs=[.ref a]/\SqL K H1 a xs/\R (Ite K a) H1
theorem xt0 {a:Expr}{ta:TA}{p pos:Pos}{es:List Expr}{tk:Nat}{tp:Pos}(hg:Gl X "enumerate")(hm:X.mg "enumerate"=none)(ha:PA X [a] ta)(hs:starEach [a] X.env=[(false,eval a X.env)]:=by rfl):
  PI X (.Tuple es tk tp) (.Call (.Name "enumerate" p) [a] [] pos) (ww2 X.K ta):=by
 intro pins s σ H R I h
 refine Call_ (W0 I hg hm boot_enumerate (PyProof.Rows.callWith_type1 (thn (ha pos pins s σ H _ I h) fun us s1 i=>?_) hs rfl))
 obtain⟨vs,H1,G,U,J⟩:=i
 obtain⟨l,xs,e,J,q⟩:=J
 subst e
 cases U with
 |cons r S=>
  cases S
  cases r
  obtain⟨M,O,Y,_⟩:=G.list J
  refine call_enumerate_list Y.isList fun h' L j Z hk=>?_
  have I2:Inv X pins σ H1 { s1 with heap:=h',toks:=s1.toks }:=G.kept hk
  have hT:({ s1 with heap:=h' }:Shared).TypeIs (.ref (s1.heap.objs.size+1)) "enumerate":=⟨_,L,rfl⟩
  refine(zq0 (P:=X.prog) (w:=X.w) (K:=X.K) (es:=es) (tk:=tk) (tp:=tp) (s1.heap.objs.size+1) s1.heap.objs.size l (Nat.ne_of_gt (Nat.lt_succ_self _))).self X.A 0 { s1 with heap:=h' } _ _ ⟨⟨_,L⟩,j⟩ ?_
  refine⟨_,[s1.heap.objs.size+1,s1.heap.objs.size],_,_,H1,rfl,I2,zq0 _ _ l (Nat.ne_of_gt (Nat.lt_succ_self _)),⟨⟨_,L⟩,j⟩,fun b N=>?_,q⟩
  have z:s1.heap.objs.size<=b:=by
   simp only[mem_cons,not_mem_nil,or_false]at N
   rcases N with rfl|rfl
   .exact Nat.le_succ _
   .exact Nat.le_refl _
  exact G.fpOk z (G.hok.fresh z)
end
end
section
def XAt (a C:Addr)(h:Heap):Prop:=∃ o vs,h.get? a=some o/\o.cls= .ref C/\o.data= .fields vs
def xx8 (K:W.Frag)(C:Addr):Option Str:=match K.lookup C with
 |some ⟨_,_,.cls cd,_⟩=>some cd.name
 |_=>none
inductive D where
 |non|bl (b:Bool)|int (i:Int)|str (x:Str)|lst (ds:List D)|tup (ds:List D)|exc (c:Str)
 |ptr (a:Addr)|obj (c:Str) (ns:List Str) (ds:List D)
mutual
inductive Rep (K:W.Frag)(F:Hp):V->D->Prop
 |non:Rep K F .non .non
 |bl (b:Bool):Rep K F (.bl b) (.bl b)
 |int (i:Int):Rep K F (.int i) (.int i)
 |str (x:Str):Rep K F (.str x) (.str x)
 |lst {a:Addr} {xs:List V} {ds:List D}:SqL K F a xs->Reps K F xs ds->Rep K F (.ref a) (.lst ds)
 |tup {a:Addr} {xs:List V} {ds:List D}:SqT K F a xs->Reps K F xs ds->Rep K F (.ref a) (.tup ds)
 |exc {a C:Addr} {c:Str}:(W.nsIn K mainGlobals c=some (some (.ref C))/\xx8 K C=some c)->F a=some (.ext (XAt a C))->Rep K F (.ref a) (.exc c)
 |ptr (a:Addr):Rep K F (.ref a) (.ptr a)
 |obj {a dx C:Addr} {c:Str} {ns:List Str} {xs:List V} {ds:List D}:W.nsIn K mainGlobals c=some (some (.ref C))->ns.length=xs.length->F a=some (.ins C dx (ns.zip xs))->F dx=some (.own a)->Reps K F xs ds->Rep K F (.ref a) (.obj c ns ds)
inductive Reps (K:W.Frag)(F:Hp):List V->List D->Prop
 |nil:Reps K F [] []
 |cons {v:V} {d:D} {vs:List V} {ds:List D}:Rep K F v d->Reps K F vs ds->Reps K F (v::vs) (d::ds)
end
theorem Same.seqT {K:W.Frag}{H H':Hp}{a:Addr}{xs:List V}(e:Same H H')(h:SqT K H a xs):SqT K H' a xs:=by
 rcases h with (h|⟨o,h⟩)|h
 .exact .inl (.inl (e _ _ h))
 .exact .inl (.inr ⟨o,e _ _ h⟩)
 .exact .inr h
section
variable {K:W.Frag}{F F':Hp}
mutual
theorem Rep.mono (e:Same F F'):∀{v:V}{d:D},Rep K F v d->Rep K F' v d
 |_,_,.non=>.non
 |_,_,.bl b=>.bl b
 |_,_,.int i=>.int i
 |_,_,.str x=>.str x
 |_,_,.lst h r=>.lst (e.seq h) (Reps.mono e r)
 |_,_,.tup h r=>.tup (e.seqT h) (Reps.mono e r)
 |_,_,.exc h r=>.exc h (e _ _ r)
 |_,_,.ptr a=>.ptr a
 |_,_,.obj c l h h2 r=>.obj c l (e _ _ h) (e _ _ h2) (Reps.mono e r)
theorem Reps.mono (e:Same F F'):∀{vs:List V}{ds:List D},Reps K F vs ds->Reps K F' vs ds
 |_,_,.nil=>.nil
 |_,_,.cons h r=>.cons (Rep.mono e h) (Reps.mono e r)
end
theorem Reps.length:∀{vs:List V}{ds:List D},Reps K F vs ds->vs.length=ds.length
 |_,_,.nil=>rfl
 |_,_,.cons _ r=>congrArg (·+1) (Reps.length r)
theorem Reps.get:∀{vs:List V}{ds:List D}{i:Nat}{d:D},Reps K F vs ds->ds[i]? =some d->∃ v,vs[i]? =some v/\Rep K F v d
 |_,_,_,_,.nil,e=>by simp at e
 |_,_,0,_,.cons h _,e=>by simp at e;subst e;exact⟨_,rfl,h⟩
 |_,_,i+1,d,.cons _ r,e=>by
  obtain⟨v,h1,h2⟩:=Reps.get (i:=i) (d:=d) r (by simpa using e)
  exact⟨v,by simpa using h1,h2⟩
theorem Reps.get':∀{vs:List V}{ds:List D}{i:Nat}{v:V},Reps K F vs ds->vs[i]? =some v->∃ d,ds[i]? =some d/\Rep K F v d
 |_,_,_,_,.nil,e=>by simp at e
 |_,_,0,_,.cons h _,e=>by simp at e;subst e;exact⟨_,rfl,h⟩
 |_,_,i+1,d,.cons _ r,e=>by
  obtain⟨v,h1,h2⟩:=Reps.get' (i:=i) (v:=d) r (by simpa using e)
  exact⟨v,by simpa using h1,h2⟩
theorem Reps.append:∀{vs ws:List V}{ds es:List D},Reps K F vs ds->Reps K F ws es->Reps K F (vs++ws) (ds++es)
 |_,_,_,_,.nil,s=>s
 |_,_,_,_,.cons h r,s=>.cons h (Reps.append r s)
theorem Reps.take:∀{vs:List V}{ds:List D}(n:Nat),Reps K F vs ds->Reps K F (vs.take n) (ds.take n)
 |_,_,0,_=>.nil
 |_,_,_+1,.nil=>.nil
 |_,_,n+1,.cons h r=>.cons h (Reps.take n r)
theorem Reps.drop:∀{vs:List V}{ds:List D}(n:Nat),Reps K F vs ds->Reps K F (vs.drop n) (ds.drop n)
 |_,_,0,r=>r
 |_,_,_+1,.nil=>.nil
 |_,_,n+1,.cons _ r=>Reps.drop n r
theorem Reps.set {v:V}{d:D}(h:Rep K F v d):∀{vs:List V}{ds:List D}(i:Nat),Reps K F vs ds->Reps K F (vs.set i v) (ds.set i d)
 |_,_,_,.nil=>.nil
 |_,_,0,.cons _ r=>.cons h r
 |_,_,i+1,.cons q r=>.cons q (Reps.set h i r)
theorem Reps.reverse {vs:List V}{ds:List D}(h:Reps K F vs ds):Reps K F vs.reverse ds.reverse:=by
 induction vs generalizing ds with
 |nil=>cases h;exact .nil
 |cons v vs i=>
  cases h with
  |cons h r=>rw[reverse_cons,reverse_cons];exact(i r).append (.cons h .nil)
end
structure Ext (F H F' H':Hp):Prop where
 ff:Same F F'
 hh:Same H H'
 fh:Same F' H'
 new:∀ b,F b=none->F' b≠none->H b=none
 nf:∀ b o u,F' b=some (.frz o u)->F b=some (.frz o u)
theorem Ext.refl {F H:Hp}(h:Same F H):Ext F H F H:=⟨Same.refl _,Same.refl _,h,fun b e n=>absurd e n,fun _ _ _ z=>z⟩
theorem Ext.trans {F H F1 H1 F2 H2:Hp}(a:Ext F H F1 H1)(b:Ext F1 H1 F2 H2):Ext F H F2 H2:=
 ⟨a.ff.trans b.ff,a.hh.trans b.hh,b.fh,fun c e n=>by
  by_cases h:F1 c=none
  .exact a.hh.free (b.new c h n)
  .exact a.new c e h,fun c o u z=>a.nf c o u (b.nf c o u z)⟩
theorem Same.put {F H:Hp}{p:Addr}{o:HO}(h:Same F H)(i:F p=none):Same F (upd H p o):=fun b u e=>by
 rw[v6 (l9 e i)];exact h b u e
theorem Same.put2 {F H:Hp}{p:Addr}{o:HO}(h:Same F H):Same (upd F p o) (upd H p o):=fun b u e=>by
 by_cases i:b=p
 .subst i;rw[v7]at e ⊢;exact e
 .rw[v6 i]at e ⊢;exact h b u e
theorem Ext.laid {F H:Hp}{p:Addr}{o:HO}(h:Same F H)(j:H p=none)(q:∀ a u,o≠ .frz a u:=by intro _ _ z;cases z):Ext F H (upd F p o) (upd H p o):=
 ⟨(Same.refl F).put (h.free j),(Same.refl H).put j,h.put2,fun b e n=>by
  by_cases i:b=p
  .subst i;exact j
  .rw[v6 i]at n;exact absurd e n,fun b a u z=>by
  by_cases i:b=p
  .subst i;rw[v7]at z;exact absurd (Option.some.inj z) (q a u)
  .rw[v6 i]at z;exact z⟩
theorem Ext.own {F H:Hp}{p:Addr}{o:HO}(h:Same F H)(i:H p=none):Ext F H F (upd H p o):=
 ⟨Same.refl F,(Same.refl H).put i,h.put (h.free i),fun b e n=>absurd e n,fun _ _ _ z=>z⟩
theorem Ext.freeze {F H F' H':Hp}{p:Addr}{o:HO}(a:Ext F H F' H')(j:F' p=none)(G:H p=none)(I:H' p=some o)(q:∀ a u,o≠ .frz a u:=by intro _ _ z;cases z):Ext F H (upd F' p o) H':=
 ⟨a.ff.put (a.ff.free j),a.hh,fun b u e=>by
   by_cases i:b=p
   .subst i;rw[v7]at e;cases e;exact I
   .rw[v6 i]at e;exact a.fh b u e,fun b e n=>by
   by_cases i:b=p
   .subst i;exact G
   .rw[v6 i]at n;exact a.new b e n,fun b c u z=>by
   by_cases i:b=p
   .subst i;rw[v7]at z;exact absurd (Option.some.inj z) (q c u)
   .rw[v6 i]at z;exact a.nf b c u z⟩
inductive S where
 |sh (d:D)|own (ds:List D)|ob (p:Addr) (ds:List D)
 |rd (p:Addr) (ds:List D)
abbrev Ro:=List (Option S)
def RdF (F0 H0:Hp)(q:Addr)(ds:List D):Prop:=F0 q=none/\∃ ns:List Int,ds=ns.map D.int/\Rd H0 q (.lst (ns.map V.int))
structure Rl (K:W.Frag)(F0 H0 F H:Hp)(σ:St)(ρ:Ro):Prop where
 ext:Ext F0 H0 F H
 len:σ.length=ρ.length
 sh:∀(i:Nat) d,ρ[i]? =some (some (.sh d))->∃ v,σ[i]? =some (some v)/\Rep K F v d
 own:∀(i:Nat) ds,ρ[i]? =some (some (.own ds))->∃ p xs,σ[i]? =some (some (.ref p))/\F p=none/\H p=some (.lst xs)/\Reps K F xs ds/\H0 p=none
 inj:∀(i j:Nat) p ds es,i≠j->ρ[i]? =some (some (.own ds))->ρ[j]? =some (some (.own es))->σ[i]? =some (some (.ref p))->σ[j]? =some (some (.ref p))->False
 ob:∀(i:Nat) p ds,ρ[i]? =some (some (.ob p ds))->σ[i]? =some (some (.ref p))/\F p=none/\H0 p=none/\∃ xs,H p=some (.lst xs)/\Reps K F xs ds
 obn:∀(i j:Nat) p ds es,ρ[i]? =some (some (.ob p ds))->ρ[j]? =some (some (.own es))->σ[j]? =some (some (.ref p))->False
 ob1:∀(i j:Nat) p q ds es,ρ[i]? =some (some (.ob p ds))->ρ[j]? =some (some (.ob q es))->i=j
 rd:∀(i:Nat) q ds,ρ[i]? =some (some (.rd q ds))->σ[i]? =some (some (.ref q))/\RdF F0 H0 q ds
def nrd:Option S->Prop
 |some (.rd _ _)=>False
 |_=>True
theorem N5 {ρ:Ro}{i j:Nat}{x:Option S}{p:Addr}{ds:List D}(e:(ρ.set i x)[j]? =some (some (.rd p ds)))(G:nrd x:=by exact True.intro):i≠j/\ρ[j]? =some (some (.rd p ds)):=by
 by_cases q:i=j
 .subst q
  rcases Nat.lt_or_ge i ρ.length with z|z
  .rw[getElem?_set_self z]at e;cases e;exact G.elim
  .rw[getElem?_eq_none (by simpa using z)]at e;cases e
 .rw[getElem?_set_ne q]at e;exact⟨q,e⟩
def nob:Option S->Prop
 |some (.ob _ _)=>False
 |_=>True
theorem d5 {ρ:Ro}{i j:Nat}{x:Option S}{p:Addr}{ds:List D}(e:(ρ.set i x)[j]? =some (some (.ob p ds)))(G:nob x:=by exact True.intro):i≠j/\ρ[j]? =some (some (.ob p ds)):=by
 by_cases q:i=j
 .subst q
  rcases Nat.lt_or_ge i ρ.length with z|z
  .rw[getElem?_set_self z]at e;cases e;exact G.elim
  .rw[getElem?_eq_none (by simpa using z)]at e;cases e
 .rw[getElem?_set_ne q]at e;exact⟨q,e⟩
section
variable {K:W.Frag}{F0 H0 F H F' H':Hp}{σ:St}{ρ:Ro}
theorem Rl.fh (r:Rl K F0 H0 F H σ ρ):Same F H:=r.ext.fh
theorem Rl.go (r:Rl K F0 H0 F H σ ρ)(e:Ext F H F' H'):Rl K F0 H0 F' H' σ ρ where
 ext:=r.ext.trans e
 len:=r.len
 sh:=fun i d h=>let ⟨v,a,b⟩:=r.sh i d h;⟨v,a,b.mono e.ff⟩
 own:=fun i ds h=>by
  obtain⟨p,xs,a,b,c,d,z⟩:=r.own i ds h
  refine⟨p,xs,a,?_,e.hh _ _ c,d.mono e.ff,z⟩
  cases q:F' p with
  |none=>rfl
  |some o=>have:=e.new p b (by rw[q];simp);rw[this]at c;cases c
 inj:=r.inj
 ob:=fun i p ds h=>by
  obtain⟨a,b,c,xs,d,z⟩:=r.ob i p ds h
  refine⟨a,?_,c,xs,e.hh _ _ d,z.mono e.ff⟩
  cases q:F' p with
  |none=>rfl
  |some o=>have:=e.new p b (by rw[q];simp);rw[this]at d;cases d
 obn:=r.obn
 ob1:=r.ob1
 rd:=r.rd
theorem Rl.set (r:Rl K F0 H0 F H σ ρ){i:Nat}{v:V}{d:D}(h:Rep K F v d):Rl K F0 H0 F H (σ.set i (some v)) (ρ.set i (some (.sh d))) where
 ext:=r.ext
 len:=by simp[r.len]
 sh:=fun j d' e=>by
  by_cases L:i=j
  .subst L
   have J:i<ρ.length:=by
    rcases Nat.lt_or_ge i ρ.length with z|z
    .exact z
    .rw[getElem?_eq_none (by simpa using z)]at e;cases e
   rw[getElem?_set_self J]at e
   cases e
   exact⟨v,by rw[getElem?_set_self (by rw[r.len];exact J)],h⟩
  .rw[getElem?_set_ne L]at e ⊢
   exact r.sh j d' e
 own:=fun j ds e=>by
  by_cases L:i=j
  .subst L
   have J:i<ρ.length:=by
    rcases Nat.lt_or_ge i ρ.length with z|z
    .exact z
    .rw[getElem?_eq_none (by simpa using z)]at e;cases e
   rw[getElem?_set_self J]at e
   cases e
  .rw[getElem?_set_ne L]at e ⊢
   exact r.own j ds e
 inj:=fun j k p ds es N I G e3 O=>by
  have S:i≠j:=fun z=>by
   subst z
   have J:i<ρ.length:=by
    rcases Nat.lt_or_ge i ρ.length with z|z
    .exact z
    .rw[getElem?_eq_none (by simpa using z)]at I;cases I
   rw[getElem?_set_self J]at I;cases I
  have M:i≠k:=fun z=>by
   subst z
   have J:i<ρ.length:=by
    rcases Nat.lt_or_ge i ρ.length with z|z
    .exact z
    .rw[getElem?_eq_none (by simpa using z)]at G;cases G
   rw[getElem?_set_self J]at G;cases G
  rw[getElem?_set_ne S]at I e3
  rw[getElem?_set_ne M]at G O
  exact r.inj j k p ds es N I G e3 O
 ob:=fun j p ds e=>by
  obtain⟨n,e⟩:=d5 e
  rw[getElem?_set_ne n];exact r.ob j p ds e
 obn:=fun j k p ds es I G e3=>by
  obtain⟨n,I⟩:=d5 I
  have M:i≠k:=fun z=>by
   subst z
   have J:i<ρ.length:=by
    rcases Nat.lt_or_ge i ρ.length with z|z
    .exact z
    .rw[getElem?_eq_none (by simpa using z)]at G;cases G
   rw[getElem?_set_self J]at G;cases G
  rw[getElem?_set_ne M]at G e3
  exact r.obn j k p ds es I G e3
 ob1:=fun j k p q ds es I G=>r.ob1 j k p q ds es (d5 I).2 (d5 G).2
 rd:=fun j q ds e=>by
  obtain⟨n,e⟩:=N5 e
  rw[getElem?_set_ne n];exact r.rd j q ds e
theorem Rl.setOwn (r:Rl K F0 H0 F H σ ρ){i:Nat}{p:Addr}{xs:List V}{ds:List D}(Z:F p=none)(Y:H p=some (.lst xs))(h:Reps K F xs ds)(h0:H0 p=none)
  (fr:∀(j:Nat) es,i≠j->ρ[j]? =some (some (.own es))->σ[j]? =some (some (.ref p))->False) (fo:∀(j:Nat) q es,ρ[j]? =some (some (.ob q es))->q≠p):Rl K F0 H0 F H (σ.set i (some (.ref p))) (ρ.set i (some (.own ds))) where
 ext:=r.ext
 len:=by simp[r.len]
 sh:=fun j d' e=>by
  by_cases S:i=j
  .subst S
   have G:i<ρ.length:=by
    rcases Nat.lt_or_ge i ρ.length with z|z
    .exact z
    .rw[getElem?_eq_none (by simpa using z)]at e;cases e
   rw[getElem?_set_self G]at e
   cases e
  .rw[getElem?_set_ne S]at e ⊢
   exact r.sh j d' e
 own:=fun j es e=>by
  by_cases S:i=j
  .subst S
   have G:i<ρ.length:=by
    rcases Nat.lt_or_ge i ρ.length with z|z
    .exact z
    .rw[getElem?_eq_none (by simpa using z)]at e;cases e
   rw[getElem?_set_self G]at e
   cases e
   exact⟨p,xs,by rw[getElem?_set_self (by rw[r.len];exact G)],Z,Y,h,h0⟩
  .rw[getElem?_set_ne S]at e ⊢
   exact r.own j es e
 inj:=fun j k q es J N I L e3 M=>by
  by_cases U:i=j
  .subst U
   rw[getElem?_set_ne N]at L M
   have G:i<σ.length:=by
    rcases Nat.lt_or_ge i σ.length with z|z
    .exact z
    .rw[getElem?_eq_none (by simpa using z)]at e3;cases e3
   rw[getElem?_set_self G]at e3
   cases e3
   exact fr k J N L M
  .rw[getElem?_set_ne U]at I e3
   by_cases O:i=k
   .subst O
    have G:i<σ.length:=by
     rcases Nat.lt_or_ge i σ.length with z|z
     .exact z
     .rw[getElem?_eq_none (by simpa using z)]at M;cases M
    rw[getElem?_set_self G]at M
    cases M
    exact fr j es U I e3
   .rw[getElem?_set_ne O]at L M
    exact r.inj j k q es J N I L e3 M
 ob:=fun j q es e=>by
  obtain⟨n,e⟩:=d5 e
  rw[getElem?_set_ne n];exact r.ob j q es e
 obn:=fun j k q es J I L e3=>by
  obtain⟨n,I⟩:=d5 I
  by_cases O:i=k
  .subst O
   have G:i<σ.length:=by
    rcases Nat.lt_or_ge i σ.length with z|z
    .exact z
    .rw[getElem?_eq_none (by simpa using z)]at e3;cases e3
   rw[getElem?_set_self G]at e3
   cases e3
   exact fo j p es I rfl
  .rw[getElem?_set_ne O]at L e3
   exact r.obn j k q es J I L e3
 ob1:=fun j k p q ds es I L=>r.ob1 j k p q ds es (d5 I).2 (d5 L).2
 rd:=fun j q ds e=>by
  obtain⟨n,e⟩:=N5 e
  rw[getElem?_set_ne n];exact r.rd j q ds e
theorem Rl.freeze (r:Rl K F0 H0 F H σ ρ){i:Nat}{ds:List D}(h:ρ[i]? =some (some (.own ds))):∃ F',Rl K F0 H0 F' H σ (ρ.set i (some (.sh (.lst ds))))/\Same F F':=by
 obtain⟨p,xs,a,b,c,d,z⟩:=r.own i ds h
 have L:i<ρ.length:=(List.getElem?_eq_some_iff.mp h).1
 have e:Ext F0 H0 (upd F p (.lst xs)) H:=r.ext.freeze b z c
 have ff:Same F (upd F p (.lst xs)):=(Same.refl F).put b
 refine⟨upd F p (.lst xs),⟨e,by simp[r.len],fun j d' q=>?_,fun j es q=>?_,fun j k q es I S G J e3 e4=>?_,fun j q es G=>?_,fun j k q es I G J e3=>?_,fun j k q q' es I G J=>r.ob1 j k q q' es I (d5 G).2 (d5 J).2,fun j q es G=>r.rd j q es (N5 G).2⟩,ff⟩
 .by_cases hj:i=j
  .subst hj
   rw[getElem?_set_self L]at q
   cases q
   exact⟨_,a,.lst (SqL.of v7) (d.mono ff)⟩
  .rw[getElem?_set_ne hj]at q
   obtain⟨v,v1,v2⟩:=r.sh j d' q
   exact⟨v,v1,v2.mono ff⟩
 .by_cases hj:i=j
  .subst hj
   rw[getElem?_set_self L]at q
   cases q
  .rw[getElem?_set_ne hj]at q
   obtain⟨U,M,Y,b',c',d',Z⟩:=r.own j es q
   have O:U≠p:=fun w=>r.inj i j p ds es hj h q a (by rw[<-w];exact Y)
   exact⟨U,M,Y,by rw[v6 O];exact b',c',d'.mono ff,Z⟩
 .have n1:i≠j:=fun w=>by subst w;rw[getElem?_set_self L]at G;cases G
  have N:i≠k:=fun w=>by subst w;rw[getElem?_set_self L]at J;cases J
  rw[getElem?_set_ne n1]at G
  rw[getElem?_set_ne N]at J
  exact r.inj j k q es I S G J e3 e4
 .obtain⟨n,G⟩:=d5 G
  obtain⟨o1,o2,o3,zs,o4,o5⟩:=r.ob j q es G
  have O:q≠p:=fun w=>r.obn j i q es ds G h (by rw[w];exact a)
  exact⟨o1,by rw[v6 O];exact o2,o3,zs,o4,o5.mono ff⟩
 .obtain⟨n,G⟩:=d5 G
  have N:i≠k:=fun w=>by subst w;rw[getElem?_set_self L]at J;cases J
  rw[getElem?_set_ne N]at J
  exact r.obn j k q es I G J e3
theorem Rl.write (r:Rl K F0 H0 F H σ ρ){i:Nat}{p:Addr}{ys:List V}{ds es:List D}(h:ρ[i]? =some (some (.own ds)))(L:σ[i]? =some (some (.ref p)))(hy:Reps K F ys es):
  Rl K F0 H0 F (upd H p (.lst ys)) σ (ρ.set i (some (.own es))):=by
 obtain⟨p',a0,a,b,c,d,z⟩:=r.own i ds h
 rw[L]at a;cases a
 have hl:i<ρ.length:=(List.getElem?_eq_some_iff.mp h).1
 refine⟨⟨r.ext.ff,r.ext.hh.put z,r.ext.fh.put b,r.ext.new,r.ext.nf⟩,by simp[r.len],fun j d' q=>?_,fun j fs q=>?_,fun j k q fs fs' N G I e3 e4=>?_,fun j q fs G=>?_,fun j k q fs fs' G I e3=>?_,fun j k q q' es Y G I=>r.ob1 j k q q' es Y (d5 G).2 (d5 I).2,fun j q es G=>r.rd j q es (N5 G).2⟩
 .by_cases hj:i=j
  .subst hj
   rw[getElem?_set_self hl]at q
   cases q
  .rw[getElem?_set_ne hj]at q
   exact r.sh j d' q
 .by_cases hj:i=j
  .subst hj
   rw[getElem?_set_self hl]at q
   cases q
   exact⟨p,ys,L,b,v7,hy,z⟩
  .rw[getElem?_set_ne hj]at q
   obtain⟨p2,M,a2,b2,c2,d2,z2⟩:=r.own j fs q
   have J:p2≠p:=fun w=>r.inj i j p ds fs hj h q L (by rw[<-w];exact a2)
   exact⟨p2,M,a2,b2,by rw[v6 J];exact c2,d2,z2⟩
 .have back:∀(m:Nat) U,(ρ.set i (some (S.own es)))[m]? =some (some (.own U))->∃ O,ρ[m]? =some (some (.own O)):=fun m U e=>by
   by_cases hm:i=m
   .subst hm;exact⟨ds,h⟩
   .rw[getElem?_set_ne hm]at e;exact⟨U,e⟩
  obtain⟨g1,G⟩:=back j fs G
  obtain⟨g2,I⟩:=back k fs' I
  exact r.inj j k q g1 g2 N G I e3 e4
 .obtain⟨n,G⟩:=d5 G
  obtain⟨o1,o2,o3,zs,o4,o5⟩:=r.ob j q fs G
  have J:q≠p:=fun w=>r.obn j i q fs ds G h (by rw[w];exact L)
  exact⟨o1,o2,o3,zs,by rw[v6 J];exact o4,o5⟩
 .obtain⟨n,G⟩:=d5 G
  by_cases Z:i=k
  .subst Z;exact r.obn j i q fs ds G h e3
  .rw[getElem?_set_ne Z]at I
   exact r.obn j k q fs fs' G I e3
theorem Rl.writeB (r:Rl K F0 H0 F H σ ρ){i:Nat}{p:Addr}{ys:List V}{ds es:List D}(h:ρ[i]? =some (some (.ob p ds)))(hy:Reps K F ys es):
  Rl K F0 H0 F (upd H p (.lst ys)) σ (ρ.set i (some (.ob p es))):=by
 obtain⟨a,b,z,a0,c,d⟩:=r.ob i p ds h
 have Y:i<ρ.length:=(List.getElem?_eq_some_iff.mp h).1
 have I:∀(j:Nat) q fs,(ρ.set i (some (S.ob p es)))[j]? =some (some (.ob q fs))->j=i/\q=p/\fs=es:=fun j q fs e=>by
  by_cases J:i=j
  .subst J;rw[getElem?_set_self Y]at e;cases e;exact⟨rfl,rfl,rfl⟩
  .rw[getElem?_set_ne J]at e;exact absurd (r.ob1 i j p q ds fs h e) J
 have G:∀(j:Nat) fs,(ρ.set i (some (S.ob p es)))[j]? =some (some (.own fs))->i≠j/\ρ[j]? =some (some (.own fs)):=fun j fs e=>by
  by_cases J:i=j
  .subst J;rw[getElem?_set_self Y]at e;cases e
  .rw[getElem?_set_ne J]at e;exact⟨J,e⟩
 refine⟨⟨r.ext.ff,r.ext.hh.put z,r.ext.fh.put b,r.ext.new,r.ext.nf⟩,by simp[r.len],fun j d' q=>?_,fun j fs q=>?_,fun j k q fs fs' Z L M e3 N=>r.inj j k q fs fs' Z (G j fs L).2 (G k fs' M).2 e3 N,fun j q fs L=>?_,fun j k q fs fs' L M e3=>?_,fun j k q q' fs fs' L M=>?_,fun j q es L=>r.rd j q es (N5 L).2⟩
 .by_cases J:i=j
  .subst J;rw[getElem?_set_self Y]at q;cases q
  .rw[getElem?_set_ne J]at q;exact r.sh j d' q
 .obtain⟨n,e⟩:=G j fs q
  obtain⟨p2,O,a2,b2,c2,d2,z2⟩:=r.own j fs e
  have U:p2≠p:=fun w=>r.obn i j p ds fs h e (by rw[<-w];exact a2)
  exact⟨p2,O,a2,b2,by rw[v6 U];exact c2,d2,z2⟩
 .obtain⟨M,e3,N⟩:=I j q fs L
  subst M e3 N
  exact⟨a,b,z,ys,v7,hy⟩
 .obtain⟨N,e5,_⟩:=I j q fs L
  subst N e5
  exact r.obn j k q ds fs' h (G k fs' M).2 e3
 .rw[(I j q fs L).1,(I k q' fs' M).1]
end
theorem Rep.n' {K:W.Frag}{F:Hp}{x:V}(r:Rep K F x .non):x= .non:=by cases r;rfl
theorem Rep.b' {K:W.Frag}{F:Hp}{x:V}{i:Bool}(r:Rep K F x (.bl i)):x= .bl i:=by cases r;rfl
theorem Rep.i' {K:W.Frag}{F:Hp}{x:V}{i:Int}(r:Rep K F x (.int i)):x= .int i:=by cases r;rfl
theorem Rep.s' {K:W.Frag}{F:Hp}{x:V}{i:Str}(r:Rep K F x (.str i)):x= .str i:=by cases r;rfl
theorem Rl.rdF {K:W.Frag}{F0 H0 F H:Hp}{σ:St}{ρ:Ro}(r:Rl K F0 H0 F H σ ρ){i:Nat}{q:Addr}{ds:List D}(h:ρ[i]? =some (some (.rd q ds))):σ[i]? =some (some (.ref q))/\F q=none/\∃ ns:List Int,ds=ns.map D.int/\Rd H q (.lst (ns.map V.int))/\H0 q≠none:=by
 obtain⟨a,b,ns,e,z⟩:=r.rd i q ds h
 have j:H0 q≠none:=by rcases z with z|⟨o,z⟩ <;> rw[z] <;> simp
 refine⟨a,?_,ns,e,?_,j⟩
 .cases hF:F q with
  |none=>rfl
  |some u=>exact absurd (r.ext.new q b (by rw[hF];simp)) j
 .rcases z with z|⟨o,z⟩
  .exact .inl (r.ext.hh _ _ z)
  .exact .inr ⟨o,r.ext.hh _ _ z⟩
theorem yt4 {K:W.Frag}{F:Hp}:∀ ns:List Int,Reps K F (ns.map V.int) (ns.map D.int)
 |[]=>.nil
 |n::ns=>.cons (.int n) (yt4 ns)
theorem Rep.l' {K:W.Frag}{F:Hp}{x:V}{ds:List D}(r:Rep K F x (.lst ds)):∃ a xs,x= .ref a/\SqL K F a xs/\Reps K F xs ds:=by cases r with |lst s r=>exact⟨_,_,rfl,s,r⟩
theorem Rep.t' {K:W.Frag}{F:Hp}{x:V}{ds:List D}(r:Rep K F x (.tup ds)):∃ a xs,x= .ref a/\SqT K F a xs/\Reps K F xs ds:=by cases r with |tup s r=>exact⟨_,_,rfl,s,r⟩
end
section
abbrev ME:=Ro->Option D
abbrev ML:=Ro->Option (List D)
abbrev MB:=Ro->Option Bool
def TD (K:W.Frag)(m:ME):TE:=fun σ H Q=>∃ F0 H0 F ρ d,Rl K F0 H0 F H σ ρ/\m ρ=some d/\∀ v F' H',Ext F H F' H'->Rep K F' v d->Q v H'
def TF (K:W.Frag)(m:ML):TE:=fun σ H Q=>∃ F0 H0 F ρ ds,Rl K F0 H0 F H σ ρ/\m ρ=some ds/\∀ p xs F' H',Ext F H F' H'->H p=none->F' p=none->H' p=some (.lst xs)->Reps K F' xs ds->Q (.ref p) H'
def TB (K:W.Frag)(m:ML):TE:=fun σ H Q=>∃ F0 H0 F ρ ds,Rl K F0 H0 F H σ ρ/\m ρ=some ds/\∀ p xs F' H',Ext F H F' H'->SqL K H' p xs->Reps K F' xs ds->Q (.ref p) H'
def TC (K:W.Frag)(c:MB):TT:=fun σ H Q=>∃ F0 H0 F ρ b,Rl K F0 H0 F H σ ρ/\c ρ=some b/\∀ F' H',Ext F H F' H'->Q b H'
def TAs (K:W.Frag)(m:ML):TA:=fun σ H Q=>∃ F0 H0 F ρ ds,Rl K F0 H0 F H σ ρ/\m ρ=some ds/\∀ vs F' H',Ext F H F' H'->Reps K F' vs ds->Q vs H'
def PD (X:Cx)(e:Expr)(m:ME):Prop:=PE X e (TD X.K m)
def PF (X:Cx)(e:Expr)(m:ML):Prop:=PE X e (TF X.K m)
def PB (X:Cx)(e:Expr)(m:ML):Prop:=PE X e (TB X.K m)
def PC' (X:Cx)(e:Expr)(c:MB):Prop:=PT X e (TC X.K c)
def PCw (X:Cx)(e:Expr)(c:MB):Prop:=PW X e (TC X.K c)
def PAs (X:Cx)(es:List Expr)(m:ML):Prop:=PA X es (TAs X.K m)
section
variable {X:Cx}{a b c e:Expr}{ma mb:ME}{pos:Pos}
theorem PE.imp {t t':TE}(h:PE X e t)(i:∀ σ H Q,t' σ H Q->t σ H Q):PE X e t':=fun pins s σ H Q I q=>h pins s σ H Q I (i σ H Q q)
theorem PT.imp {t t':TT}(h:PT X e t)(i:∀ σ H Q,t' σ H Q->t σ H Q):PT X e t':=fun pins s σ H Q I q=>h pins s σ H Q I (i σ H Q q)
theorem PW.imp {t t':TT}(h:PW X e t)(i:∀ σ H Q,t' σ H Q->t σ H Q):PW X e t':=fun w pins s σ H Q I q=>h w pins s σ H Q I (i σ H Q q)
theorem PA.imp {es:List Expr}{t t':TA}(h:PA X es t)(i:∀ σ H Q,t' σ H Q->t σ H Q):PA X es t':=fun pos pins s σ H Q I q=>h pos pins s σ H Q I (i σ H Q q)
def mvar (i:Nat):ME:=fun ρ=>match ρ[i]? with |some (some (.sh d))=>some d|_=>none
def bvar (i:Nat):ML:=fun ρ=>match ρ[i]? with |some (some (.sh (.lst ds)))=>some ds|some (some (.own ds))=>some ds|some (some (.ob _ ds))=>some ds|some (some (.rd _ ds))=>some ds|_=>none
def mc (d:D):ME:=fun _=>some d
theorem z6 (i:Nat){x:Str}{pos:Pos}(h:PE X (.Name x pos) (tVar i)):PD X (.Name x pos) (mvar i):=h.imp fun σ H Q j=>by
 obtain⟨F0,H0,F,ρ,d,r,e,q⟩:=j
 unfold mvar at e
 split at e
 .rename_i h'
  cases e
  obtain⟨v,G,z⟩:=r.sh i _ h'
  exact⟨v,G,q v F H (.refl r.fh) z⟩
 .cases e
theorem w8 (i:Nat){x:Str}{pos:Pos}(h:PE X (.Name x pos) (tVar i)):PB X (.Name x pos) (bvar i):=h.imp fun σ H Q z=>by
 obtain⟨F0,H0,F,ρ,d,r,e,q⟩:=z
 unfold bvar at e
 split at e
 .rename_i ds h'
  cases e
  obtain⟨v,j,G⟩:=r.sh i _ h'
  cases G with
  |lst s J=>exact⟨_,j,q _ _ F H (.refl r.fh) (r.fh.seq s) J⟩
 .rename_i ds h'
  cases e
  obtain⟨p,xs,j,G,e3,I,_⟩:=r.own i _ h'
  exact⟨_,j,q _ _ F H (.refl r.fh) (SqL.of e3) I⟩
 .rename_i p ds h'
  cases e
  obtain⟨j,G,_,xs,e3,I⟩:=r.ob i p _ h'
  exact⟨_,j,q _ _ F H (.refl r.fh) (SqL.of e3) I⟩
 .rename_i p ds h'
  cases e
  obtain⟨j,G,ns,rfl,e3,_⟩:=r.rdF h'
  exact⟨_,j,q _ _ F H (.refl r.fh) (.inl e3) (yt4 ns)⟩
 .cases e
theorem w4 {i:Int}{j pos}:PD X (.Constant (.int i) j pos) (mc (.int i)):=pe_int.imp fun σ H Q z=>by
 obtain⟨F0,H0,F,ρ,d,r,e,q⟩:=z
 cases e;exact q _ F H (.refl r.fh) (.int i)
theorem S2 {b:Bool}{j pos}:PD X (.Constant (.bool b) j pos) (mc (.bl b)):=pe_bl.imp fun σ H Q i=>by
 obtain⟨F0,H0,F,ρ,d,r,e,q⟩:=i
 cases e;exact q _ F H (.refl r.fh) (.bl b)
theorem xh3 {j pos}:PD X (.Constant .none j pos) (mc .non):=pe_non.imp fun σ H Q i=>by
 obtain⟨F0,H0,F,ρ,d,r,e,q⟩:=i
 cases e;exact q _ F H (.refl r.fh) .non
theorem xh2 {x:Str}{j pos}:PD X (.Constant (.str x) j pos) (mc (.str x)):=pe_str.imp fun σ H Q i=>by
 obtain⟨F0,H0,F,ρ,d,r,e,q⟩:=i
 cases e;exact q _ F H (.refl r.fh) (.str x)
def mlst (m:ML):ME:=fun ρ=>(m ρ).map .lst
def l6 (m:ME):ML:=fun ρ=>match m ρ with |some (.lst ds)=>some ds|_=>none
theorem k7 {m:ML}(h:PF X e m):PD X e (mlst m):=h.imp fun σ H Q i=>by
 obtain⟨F0,H0,F,ρ,d,r,e,q⟩:=i
 unfold mlst at e
 cases hm:m ρ with
 |none=>rw[hm]at e;cases e
 |some ds=>
  rw[hm]at e;cases e
  refine⟨F0,H0,F,ρ,ds,r,hm,fun p xs F' H' x G j I z=>?_⟩
  exact q _ (upd F' p (.lst xs)) H' (x.freeze j G I) (.lst (SqL.of v7) (z.mono ((Same.refl F').put j)))
theorem E2 (h:PD X e ma):PB X e (l6 ma):=h.imp fun σ H Q i=>by
 obtain⟨F0,H0,F,ρ,d,r,e,q⟩:=i
 unfold l6 at e
 split at e
 .rename_i ds hm
  cases e
  refine⟨F0,H0,F,ρ,_,r,hm,fun v F' H' x j=>?_⟩
  cases j with
  |lst s z=>exact q _ _ F' H' x (x.fh.seq s) z
 .cases e
theorem g7 {m:ML}(h:PF X e m):PB X e m:=h.imp fun σ H Q ⟨F0,H0,F,ρ,d,r,e,q⟩=>
 ⟨F0,H0,F,ρ,d,r,e,fun p xs F' H' x z G j i=>q p xs F' H' x (SqL.of j) i⟩
@[irreducible] def m2 (f:D->D->Option D)(x y:ME):ME:=fun ρ=>(x ρ).bind fun d=>(y ρ).bind fun e=>f d e
def OpD (K:W.Frag)(r:R2)(f:D->D->Option D):Prop:=∀(F H:Hp)(x y:V)(d e g:D)(Q:VK),Same F H->Rep K F x d->Rep K F y e->f d e=some g->(∀ v F' H',Ext F H F' H'->Rep K F' v g->Q v H')->r x y H Q
theorem xq1 {f:D->D->Option D}{ρ:Ro}{g:D}(h:m2 f ma mb ρ=some g):∃ d e,ma ρ=some d/\mb ρ=some e/\f d e=some g:=by
 unfold m2 at h
 cases h1:ma ρ with
 |none=>rw[h1]at h;cases h
 |some d=>
  cases h2:mb ρ with
  |none=>rw[h1,h2]at h;cases h
  |some e=>rw[h1,h2]at h;exact⟨d,e,rfl,rfl,h⟩
theorem op_d {r:R2}{f:D->D->Option D}(L:OpD X.K r f){σ:St}{H:Hp}{Q:VK}(h:TD X.K (m2 f ma mb) σ H Q):tOp r (TD X.K ma) (TD X.K mb) σ H Q:=by
 obtain⟨F0,H0,F,ρ,g,rl,e,q⟩:=h
 obtain⟨d,z,h1,h2,M⟩:=xq1 e
 refine⟨F0,H0,F,ρ,d,rl,h1,fun x F1 H1 j J=>⟨F0,H0,F1,ρ,z,rl.go j,h2,fun y F2 H2 i I=>?_⟩⟩
 exact L F2 H2 x y d z g Q i.fh (J.mono i.ff) I M fun v F' H' G=>q v F' H' ((j.trans i).trans G)
theorem zp2 {op:Operator}{r:R2}{f:D->D->Option D}(i:OpR X (binaryOp op) r)(j:OpD X.K r f)(ha:PD X a ma)(q:PD X b mb):PD X (.BinOp a op b pos) (m2 f ma mb):=(xt2 i ha q).imp fun _ _ _ h=>op_d j h
theorem S1 {op:CmpOp}{r:R2}{f:D->D->Option D}(i:OpR X (compareOp op) r)(j:OpD X.K r f)(ha:PD X a ma)(q:PD X b mb)(hm:behindInMarks op b=false):PD X (.Compare a [op] [b] pos) (m2 f ma mb):=(yr5 i ha q hm).imp fun _ _ _ h=>op_d j h
def l0 (m:ME):MB:=fun ρ=>match m ρ with |some (.bl b)=>some b|_=>none
theorem k8 {op:CmpOp}{r:R2}{f:D->D->Option D}(j:OpR X (compareOp op) r)(z:OpD X.K r f)(ha:PD X a ma)(G:PD X b mb)(hm:behindInMarks op b=false):PC' X (.Compare a [op] [b] pos) (l0 (m2 f ma mb)):=(yt7 j ha G hm).imp fun σ H Q i=>by
 obtain⟨F0,H0,F,ρ,g,rl,e,q⟩:=i
 unfold l0 at e
 split at e
 .rename_i k hk
  cases e
  refine op_d z ⟨F0,H0,F,ρ,.bl g,rl,hk,fun v F' H' x r=>?_⟩
  cases r
  exact⟨_,rfl,q F' H' x⟩
 .cases e
def int2 (g:Int->Int->Option D):D->D->Option D
 | .int i,.int j=>g i j
 |_,_=>none
theorem zc9 {g:Int->Int->Option D}{d e w:D}(h:int2 g d e=some w):∃ i j,d= .int i/\e= .int j/\g i j=some w:=by
 cases d with
 |int i=>
  cases e with
  |int j=>exact⟨i,j,rfl,rfl,h⟩
  |_=>cases h
 |_=>cases h
theorem B5 {K:W.Frag}{g:Int->Int->V}{g':Int->Int->D}(I:∀ F i j,Rep K F (g i j) (g' i j)):OpD K (rI0 g) (int2 fun i j=>some (g' i j)):=by
 intro F H x y d e w Q s G z h q
 obtain⟨i,j,rfl,rfl,h'⟩:=zc9 h
 clear h
 cases h'
 exact⟨i,j,G.i',z.i',q _ F H (.refl s) (I F i j)⟩
theorem zp4 {K:W.Frag}{C:Int->Int->Prop}{ok:Int->Int->Bool}{g:Int->Int->V}{g':Int->Int->D}(L:∀ i j,ok i j=true->C i j)(J:∀ F i j,Rep K F (g i j) (g' i j)):
  OpD K (rI C g) (int2 fun i j=>if ok i j=true then some (g' i j)else none):=by
 intro F H x y d e w Q s I G h q
 obtain⟨i,j,rfl,rfl,h'⟩:=zc9 h
 clear h
 by_cases z:ok i j=true
 .rw[if_pos z]at h'
  cases h'
  exact⟨i,j,I.i',G.i',L i j z,q _ F H (.refl s) (J F i j)⟩
 .rw[if_neg z]at h'
  cases h'
def subD:D->D->Option D:=int2 fun i j=>some (.int (i-j))
def Q6 (i j:Int):Bool:=(decide (-(2^64)<i)&&decide (i<2^64)) || (decide (-(2^64)<j)&&decide (j<2^64))
def mulD:D->D->Option D:=int2 fun i j=>if Q6 i j=true then some (.int (i*j))else none
def A9 (_ j:Int):Bool:=decide (0<j)&&decide (j<1073741824)
def M4:D->D->Option D:=int2 fun i j=>if A9 i j=true then some (.int (i / j))else none
def B8 (_ j:Int):Bool:=decide (0<j)
def modD:D->D->Option D:=int2 fun i j=>if B8 i j=true then some (.int (i % j))else none
def C8 (i j:Int):Bool:=decide (0<=j)&&decide (j<=1000000)&&decide (i.natAbs<2^64)
def powD:D->D->Option D:=int2 fun i j=>if C8 i j=true then some (.int (i^j.toNat))else none
def yu6 (_ j:Int):Bool:=decide (0<=j)
def shrD:D->D->Option D:=int2 fun i j=>if yu6 i j=true then some (.int (i / 2^j.toNat))else none
def andD:D->D->Option D:=int2 fun i j=>some (.int (Builtin.bitAnd i j))
def ltD:D->D->Option D:=int2 fun i j=>some (.bl (decide (i<j)))
def leD:D->D->Option D:=int2 fun i j=>some (.bl (decide (i<=j)))
def gtD:D->D->Option D:=int2 fun i j=>some (.bl (decide (j<i)))
def geD:D->D->Option D:=int2 fun i j=>some (.bl (decide (j<=i)))
theorem xt6 {K:W.Frag}:OpD K (rI0 fun i j=>.int (i-j)) subD:=B5 fun F i j=>.int _
theorem xt9 {K:W.Frag}:OpD K (rI CMul fun i j=>.int (i*j)) mulD:=zp4 (fun i j h=>by
 unfold Q6 at h
 simp only[Bool.or_eq_true,Bool.and_eq_true,decide_eq_true_eq]at h
 exact h) fun F i j=>.int _
theorem ye1 {K:W.Frag}:OpD K (rI CDiv fun i j=>.int (i / j)) M4:=zp4 (fun i j h=>by
 unfold A9 at h
 simp only[Bool.and_eq_true,decide_eq_true_eq]at h
 exact h) fun F i j=>.int _
theorem xs0 {K:W.Frag}:OpD K (rI (fun _ j=>0<j) fun i j=>.int (i % j)) modD:=zp4 (fun i j h=>of_decide_eq_true h) fun F i j=>.int _
theorem xt8 {K:W.Frag}:OpD K (rI CPow fun i j=>.int (i^j.toNat)) powD:=zp4 (fun i j h=>by
 unfold C8 at h
 simp only[Bool.and_eq_true,decide_eq_true_eq]at h
 exact⟨h.1.1,h.1.2,h.2⟩) fun F i j=>.int _
theorem xt7 {K:W.Frag}:OpD K (rI (fun _ j=>0<=j) fun i j=>.int (i / 2^j.toNat)) shrD:=zp4 (fun i j h=>of_decide_eq_true h) fun F i j=>.int _
theorem xs3 {K:W.Frag}:OpD K (rI0 fun i j=>.int (Builtin.bitAnd i j)) andD:=B5 fun F i j=>.int _
theorem G1 {K:W.Frag}:OpD K (rI0 fun i j=>.bl (decide (i<j))) ltD:=B5 fun F i j=>.bl _
theorem zp5 {K:W.Frag}:OpD K (rI0 fun i j=>.bl (decide (j<i))) gtD:=B5 fun F i j=>.bl _
theorem V0 {K:W.Frag}:OpD K (rI0 fun i j=>.bl (decide (j<=i))) geD:=B5 fun F i j=>.bl _
def eqS:D->D->Option Bool
 | .non,.non=>some true| .non,.int _=>some false| .int _,.non=>some false| .non,.bl _=>some false| .bl _,.non=>some false| .non,.str _=>some false| .str _,.non=>some false
 | .int i,.int j=>some (i==j)| .bl i,.bl j=>some (i==j)| .str i,.str j=>some (i==j)
 | .int _,.str _=>some false| .str _,.int _=>some false| .bl _,.str _=>some false| .str _,.bl _=>some false
 |_,_=>none
def eqSD (d e:D):Option D:=(eqS d e).map .bl
def neSD (d e:D):Option D:=(eqS d e).map fun b=>.bl (!b)
def scV:D->V
 | .bl b=>.bl b| .int i=>.int i| .str x=>.str x|_=>.non
theorem ym7 {d e:D}{k:Bool}(h:eqS d e=some k):scal (scV d) (scV e)=true/\decide (scV d=scV e)=k:=by
 cases d with
 |non=>cases e <;> cases h <;> exact⟨rfl,rfl⟩
 |bl i=>
  cases e <;> cases h
  .exact⟨rfl,rfl⟩
  .exact⟨rfl,yk2⟩
  .exact⟨rfl,rfl⟩
 |int i=>
  cases e <;> cases h
  .exact⟨rfl,rfl⟩
  .exact⟨rfl,zg2⟩
  .exact⟨rfl,rfl⟩
 |str i=>
  cases e <;> cases h
  .exact⟨rfl,rfl⟩
  .exact⟨rfl,rfl⟩
  .exact⟨rfl,rfl⟩
  .exact⟨rfl,zg1⟩
 |_=>cases h
theorem yw3 {d e:D}{k:Bool}(h:eqS d e=some k){K:W.Frag}{F:Hp}{x:V}(r:Rep K F x d):x=scV d:=by
 cases d with
 |non=>exact r.n'
 |bl i=>exact r.b'
 |int i=>exact r.i'
 |str i=>exact r.s'
 |_=>cases h
theorem zh9 (d e:D)(k:Bool)(h:eqS d e=some k):∃ j,eqS e d=some j:=by
 cases d with
 |non=>cases e <;> cases h <;> exact⟨_,rfl⟩
 |bl i=>cases e <;> cases h <;> exact⟨_,rfl⟩
 |int i=>cases e <;> cases h <;> exact⟨_,rfl⟩
 |str i=>cases e <;> cases h <;> exact⟨_,rfl⟩
 |_=>cases h
theorem W7 {K:W.Frag}:OpD K rEq eqSD:=by
 intro F H x y d e w Q s z j h q
 unfold eqSD at h
 cases hk:eqS d e with
 |none=>rw[hk]at h;cases h
 |some k=>
  rw[hk]at h
  cases h
  obtain⟨G,i⟩:=zh9 d e k hk
  obtain⟨h1,h2⟩:=ym7 hk
  rw[yw3 hk z,yw3 i j]
  refine⟨h1,?_⟩
  rw[h2]
  exact q _ F H (.refl s) (.bl _)
theorem O1 {K:W.Frag}:OpD K rNe neSD:=by
 intro F H x y d e w Q s z j h q
 unfold neSD at h
 cases hk:eqS d e with
 |none=>rw[hk]at h;cases h
 |some k=>
  rw[hk]at h
  cases h
  obtain⟨G,i⟩:=zh9 d e k hk
  obtain⟨h1,h2⟩:=ym7 hk
  rw[yw3 hk z,yw3 i j]
  refine⟨h1,?_⟩
  rw[h2]
  exact q _ F H (.refl s) (.bl _)
def m1 (f:D->Option D)(x:ME):ME:=fun ρ=>(x ρ).bind f
def negD:D->Option D
 | .int i=>some (.int (-i))
 |_=>none
theorem yo7 {f:D->Option D}{ρ:Ro}{g:D}(h:m1 f ma ρ=some g):∃ d,ma ρ=some d/\f d=some g:=by
 unfold m1 at h
 cases h1:ma ρ with
 |none=>rw[h1]at h;cases h
 |some d=>rw[h1]at h;exact⟨d,rfl,h⟩
theorem J9 (ha:PD X a ma):PD X (.UnaryOp .USub a pos) (m1 negD ma):=(wy0 xn8 ha).imp fun σ H Q i=>by
 obtain⟨F0,H0,F,ρ,g,rl,e,q⟩:=i
 obtain⟨d,h1,h2⟩:=yo7 e
 refine⟨F0,H0,F,ρ,d,rl,h1,fun x F1 H1 j z=>?_⟩
 cases z <;> first| (cases h2;done)|skip
 cases h2
 exact⟨_,rfl,q _ F1 H1 j (.int _)⟩
def notD:D->Option D
 | .bl b=>some (.bl (!b))
 |_=>none
theorem yr7 (ha:PD X a ma):PD X (.UnaryOp .Not a pos) (m1 notD ma):=(xi8 ha).imp fun σ H Q i=>by
 obtain⟨F0,H0,F,ρ,g,rl,e,q⟩:=i
 obtain⟨d,h1,h2⟩:=yo7 e
 refine⟨F0,H0,F,ρ,d,rl,h1,fun x F1 H1 j z=>?_⟩
 cases z <;> first| (cases h2;done)|skip
 cases h2
 exact⟨_,rfl,q _ F1 H1 j (.bl _)⟩
def mand (x y:ME):ME:=fun ρ=>match x ρ with |some (.bl true)=>y ρ|some (.bl false)=>some (.bl false)|_=>none
theorem zw0 {op}(h:PD X a ma):PD X (.BoolOp op [a] pos) ma:=xi7 h
theorem G0 {rest:List Expr}(ha:PD X a ma)(J:PD X (.BoolOp .And (b::rest) pos) mb):PD X (.BoolOp .And (a::b::rest) pos) (mand ma mb):=(xh1 ha J).imp fun σ H Q i=>by
 obtain⟨F0,H0,F,ρ,g,rl,e,q⟩:=i
 unfold mand at e
 split at e
 .rename_i h1
  refine⟨F0,H0,F,ρ,_,rl,h1,fun x F1 H1 j z=>?_⟩
  cases z
  refine⟨true,rfl,?_⟩
  refine iteT ?_
  exact⟨F0,H0,F1,ρ,g,rl.go j,e,fun y F2 H2 G I=>q y F2 H2 (j.trans G) I⟩
 .rename_i h1
  cases e
  refine⟨F0,H0,F,ρ,_,rl,h1,fun x F1 H1 j z=>?_⟩
  cases z
  refine⟨false,rfl,?_⟩
  refine iteF ?_
  exact q _ F1 H1 j (.bl _)
 .cases e
def truD:D->Option Bool
 | .non=>some false
 | .bl b=>some b
 | .int i=>some (i != 0)
 | .str y=>if y.length<=sizeLine then some ((y.length:Int) != 0)else none
 | .lst ds=>some (!ds.isEmpty)
 | .tup ds=>some (!ds.isEmpty)
 | .exc _=>none
 | .ptr _=>none
 | .obj _ _ _=>none
def mtru (m:ME):MB:=fun ρ=>(m ρ).bind truD
theorem G3 {K:W.Frag}{F:Hp}{vs:List V}{ds:List D}(h:Reps K F vs ds):(!ds.isEmpty)= !vs.isEmpty:=by cases h <;> rfl
theorem Y5 (ha:PD X a ma)(J:∀ i,isTrue a X.env i=(do let v ← i;standAt a.pos;holding [v] (truthy v)):=by intro _;rfl):PC' X a (mtru ma):=(yf0 ha J).imp fun σ H Q j=>by
 obtain⟨F0,H0,F,ρ,b,rl,e,q⟩:=j
 unfold mtru at e
 cases h1:ma ρ with
 |none=>rw[h1]at e;cases e
 |some d=>
  rw[h1]at e
  refine⟨F0,H0,F,ρ,d,rl,h1,fun x F1 H1 z I=>⟨b,?_,q F1 H1 z⟩⟩
  cases I with
  |non=>cases e;rfl
  |bl=>cases e;rfl
  |int=>cases e;rfl
  |str x=>
   have e:(if x.length<=sizeLine then some ((x.length:Int) != 0)else none)=some b:=e
   split at e
   .rename_i hz
    cases e
    exact⟨hz,rfl⟩
   .cases e
  |lst s G=>cases e;exact .inl ⟨_,z.fh.seq s,G3 G⟩
  |tup s G=>cases e;exact .inr (.inl ⟨_,z.fh.seqT s,G3 G⟩)
  |exc=>cases e
  |ptr=>cases e
  |obj=>cases e
variable {ca cb:MB}
def cand (x y:MB):MB:=fun ρ=>match x ρ with |some true=>y ρ|some false=>some false|none=>none
def cor (x y:MB):MB:=fun ρ=>match x ρ with |some true=>some true|some false=>y ρ|none=>none
def cnot (x:MB):MB:=fun ρ=>(x ρ).map (!·)
theorem pc_w (h:PCw X a ca):PC' X a ca:=h.pt
theorem C6 (h:PC' X a ca):PCw X (.BoolOp .And [a] pos) ca:=xv8 h
theorem P1 (h:PC' X a ca):PCw X (.BoolOp .Or [a] pos) ca:=xj5 h
theorem B3 {rest:List Expr}(ha:PC' X a ca)(G:PCw X (.BoolOp .And (b::rest) pos) cb):PCw X (.BoolOp .And (a::b::rest) pos) (cand ca cb):=(xj6 ha G).imp fun σ H Q i=>by
 obtain⟨F0,H0,F,ρ,g,rl,e,q⟩:=i
 unfold cand at e
 split at e
 .rename_i h1
  refine⟨F0,H0,F,ρ,_,rl,h1,fun F1 H1 j=>?_⟩
  refine iteT ?_
  exact⟨F0,H0,F1,ρ,g,rl.go j,e,fun F2 H2 z=>q F2 H2 (j.trans z)⟩
 .rename_i h1
  cases e
  refine⟨F0,H0,F,ρ,_,rl,h1,fun F1 H1 j=>?_⟩
  refine iteF ?_
  exact q F1 H1 j
 .cases e
theorem S3 {rest:List Expr}(ha:PC' X a ca)(G:PCw X (.BoolOp .Or (b::rest) pos) cb):PCw X (.BoolOp .Or (a::b::rest) pos) (cor ca cb):=(wz9 ha G).imp fun σ H Q i=>by
 obtain⟨F0,H0,F,ρ,g,rl,e,q⟩:=i
 unfold cor at e
 split at e
 .rename_i h1
  cases e
  refine⟨F0,H0,F,ρ,_,rl,h1,fun F1 H1 j=>?_⟩
  refine iteT ?_
  exact q F1 H1 j
 .rename_i h1
  refine⟨F0,H0,F,ρ,_,rl,h1,fun F1 H1 j=>?_⟩
  refine iteF ?_
  exact⟨F0,H0,F1,ρ,g,rl.go j,e,fun F2 H2 z=>q F2 H2 (j.trans z)⟩
 .cases e
theorem S4 (ha:PC' X a ca):PC' X (.UnaryOp .Not a pos) (cnot ca):=(xj7 ha).imp fun σ H Q i=>by
 obtain⟨F0,H0,F,ρ,g,rl,e,q⟩:=i
 unfold cnot at e
 cases h1:ca ρ with
 |none=>rw[h1]at e;cases e
 |some k=>
  rw[h1]at e;cases e
  exact⟨F0,H0,F,ρ,k,rl,h1,fun F1 H1 j=>q F1 H1 j⟩
def mite (c:MB)(x y:ME):ME:=fun ρ=>match c ρ with |some true=>x ρ|some false=>y ρ|none=>none
theorem xy0 (G:PC' X c ca)(ha:PD X a ma)(I:PD X b mb):PD X (.IfExp c a b pos) (mite ca ma mb):=(yf8 G ha I).imp fun σ H Q j=>by
 obtain⟨F0,H0,F,ρ,g,rl,e,q⟩:=j
 unfold mite at e
 split at e
 .rename_i h1
  refine⟨F0,H0,F,ρ,_,rl,h1,fun F1 H1 i=>?_⟩
  refine iteT ?_
  exact⟨F0,H0,F1,ρ,g,rl.go i,e,fun v F2 H2 z=>q v F2 H2 (i.trans z)⟩
 .rename_i h1
  refine⟨F0,H0,F,ρ,_,rl,h1,fun F1 H1 i=>?_⟩
  refine iteF ?_
  exact⟨F0,H0,F1,ρ,g,rl.go i,e,fun v F2 H2 z=>q v F2 H2 (i.trans z)⟩
 .cases e
def anil:ML:=fun _=>some []
@[irreducible] def z8 (x:ME)(r:ML):ML:=fun ρ=>(x ρ).bind fun d=>(r ρ).bind fun ds=>some (d::ds)
theorem zw9 {r:ML}{ρ:Ro}{i:List D}(h:z8 ma r ρ=some i):∃ d ds,ma ρ=some d/\r ρ=some ds/\i=d::ds:=by
 unfold z8 at h
 cases h1:ma ρ with
 |none=>rw[h1]at h;cases h
 |some d=>
  cases h2:r ρ with
  |none=>rw[h1,h2]at h;cases h
  |some ds=>rw[h1,h2]at h;cases h;exact⟨d,ds,rfl,rfl,rfl⟩
theorem y7:PAs X [] anil:=pa_nil.imp fun σ H Q i=>by
 obtain⟨F0,H0,F,ρ,g,rl,e,q⟩:=i
 cases e;exact q [] F H (.refl rl.fh) .nil
theorem z0 {es:List Expr}{m:ML}(ha:PD X a ma)(L:PAs X es m)(J:starEach (a::es) X.env=(false,eval a X.env)::starEach es X.env:=by rfl):PAs X (a::es) (z8 ma m):=(h9 ha L J).imp fun σ H Q i=>by
 obtain⟨F0,H0,F,ρ,g,rl,e,q⟩:=i
 obtain⟨d,ds,h1,h2,rfl⟩:=zw9 e
 refine⟨F0,H0,F,ρ,d,rl,h1,fun x F1 H1 z I=>⟨F0,H0,F1,ρ,ds,rl.go z,h2,fun xs F2 H2 j G=>?_⟩⟩
 exact q _ F2 H2 (z.trans j) (.cons (I.mono j.ff) G)
@[irreducible] def m5 (m:ML):ML:=fun ρ=>match m ρ with |some ds=>if ds.length<=sizeLine then some ds else none|none=>none
theorem zx5 {m:ML}{ρ:Ro}{i:List D}(h:m5 m ρ=some i):m ρ=some i/\i.length<=sizeLine:=by
 unfold m5 at h
 cases h1:m ρ with
 |none=>rw[h1]at h;cases h
 |some ds=>
  rw[h1]at h
  have h:(if ds.length<=sizeLine then some ds else none)=some i:=h
  split at h
  .rename_i hz;cases h;exact⟨rfl,hz⟩
  .cases h
theorem m8 {es:List Expr}{m:ML}(h:PAs X es m):PF X (.List es pos) (m5 m):=(xi9 h).imp fun σ H Q i=>by
 obtain⟨F0,H0,F,ρ,g,rl,e,q⟩:=i
 obtain⟨h1,h2⟩:=zx5 e
 refine⟨F0,H0,F,ρ,g,rl,h1,fun vs F1 H1 j G=>⟨by rw[G.length];exact h2,fun p z=>?_⟩⟩
 exact q p vs F1 _ (j.trans (Ext.own j.fh z)) (j.hh.free z) (j.fh.free z) v7 G
def mtup (m:ML):ME:=fun ρ=>(m5 m ρ).map .tup
theorem zx9 {es:List Expr}{m:ML}{k:Nat}(h:PAs X es m):PD X (.Tuple es k pos) (mtup m):=(xz9 h).imp fun σ H Q i=>by
 obtain⟨F0,H0,F,ρ,g,rl,e,q⟩:=i
 unfold mtup at e
 cases h1:m5 m ρ with
 |none=>rw[h1]at e;cases e
 |some ds=>
  rw[h1]at e;cases e
  obtain⟨h1,h2⟩:=zx5 h1
  refine⟨F0,H0,F,ρ,ds,rl,h1,fun vs F1 H1 j z=>⟨by rw[z.length];exact h2,fun p G=>?_⟩⟩
  exact q _ _ _ (j.trans (Ext.laid j.fh G)) (.tup (SqT.of v7) (z.mono ((Same.refl F1).put (j.fh.free G))))
def mlen (m:ML):ME:=fun ρ=>(m ρ).map fun ds=>.int ds.length
@[irreducible] def mix (m:ML)(i:ME):ME:=fun ρ=>(m ρ).bind fun ds=>(i ρ).bind fun| .int k=>atI ds k|_=>none
theorem ya1 {K:W.Frag}{F:Hp}{vs:List V}{ds:List D}{k:Int}{d:D}(r:Reps K F vs ds)(h:atI ds k=some d):∃ v,atI vs k=some v/\Rep K F v d:=by
 unfold atI at h ⊢
 rw[r.length]
 cases q:ixN ds.length k with
 |none=>rw[q]at h;cases h
 |some j=>
  rw[q]at h
  exact r.get h
theorem c7 {G:ML}(ha:PB X a G)(N:PD X b mb)(M:yi7 b:=by exact fun _ _=>rfl):PD X (.Subscript a b pos) (mix G mb):=(wy1 xq5 ha N M).imp fun σ H Q j=>by
 obtain⟨F0,H0,F,ρ,g,rl,e,q⟩:=j
 unfold mix at e
 cases h1:G ρ with
 |none=>rw[h1]at e;cases e
 |some ds=>
  cases h2:mb ρ with
  |none=>rw[h1,h2]at e;cases e
  |some i=>
   rw[h1,h2]at e
   refine⟨F0,H0,F,ρ,ds,rl,h1,fun p xs F1 H1 I s1 L=>⟨F0,H0,F1,ρ,i,rl.go I,h2,fun y F2 H2 z J=>?_⟩⟩
   cases J <;> first| (cases e;done)|skip
   rename_i k
   obtain⟨v,S,O⟩:=ya1 (L.mono z.ff) (show atI ds k=some g from e)
   exact⟨p,xs,k,v,rfl,rfl,z.hh.seq s1,S,q v F2 H2 (I.trans z) O⟩
theorem yc9 {K:W.Frag}{F:Hp}{vs:List V}{ds:List D}(r:Reps K F vs ds)(lo hi:Option Int):Reps K F (cutV vs lo hi) ((ds.drop (HT.sIx ds.length 0 lo)).take (HT.sIx ds.length ds.length hi-HT.sIx ds.length 0 lo)):=by
 unfold cutV
 rw[r.length]
 exact(r.drop _).take _
def cutL (ds:List D)(lo hi:Option Int):List D:=(ds.drop (HT.sIx ds.length 0 lo)).take (HT.sIx ds.length ds.length hi-HT.sIx ds.length 0 lo)
abbrev MO:=Ro->Option (Option Int)
def V1:MO:=fun _=>some none
def Y8 (m:ME):MO:=fun ρ=>(m ρ).bind fun| .int i=>some (some i)|_=>none
def TOs (K:W.Frag)(m:MO):TO:=fun σ H Q=>∃ F0 H0 F ρ i,Rl K F0 H0 F H σ ρ/\m ρ=some i/\∀ F' H',Ext F H F' H'->Q i H'
def POs (X:Cx)(e:Option Expr)(m:MO):Prop:=PO X e (TOs X.K m)
theorem PO.imp {e:Option Expr}{t t':TO}(h:PO X e t)(i:∀ σ H Q,t' σ H Q->t σ H Q):PO X e t':=fun pins s σ H Q I q=>h pins s σ H Q I (i σ H Q q)
theorem Y3:POs X none V1:=PO.imp xu5 fun σ H Q j=>by obtain⟨F0,H0,F,ρ,i,rl,e,q⟩:=j;cases e;exact q F H (.refl rl.fh)
theorem Z4 (h:PD X a ma):POs X (some a) (Y8 ma):=PO.imp (xu4 h) fun σ H Q j=>by
 obtain⟨F0,H0,F,ρ,i,rl,e,q⟩:=j
 unfold Y8 at e
 cases h1:ma ρ with
 |none=>rw[h1]at e;cases e
 |some d=>
  rw[h1]at e
  refine⟨F0,H0,F,ρ,d,rl,h1,fun v F1 H1 z G=>?_⟩
  cases G <;> first| (cases e;done)|skip
  cases e
  exact⟨_,rfl,q F1 H1 z⟩
@[irreducible] def mcut (m:ML)(lo hi:MO):ML:=fun ρ=>(m ρ).bind fun ds=>(lo ρ).bind fun l=>(hi ρ).bind fun h=>some (cutL ds l h)
theorem xi4 {J:ML}{lo hi:Option Expr}{l h:MO}(ha:PB X a J)(U:POs X lo l)(hh:POs X hi h)(O:PE X e (tSl (rSlL X.K) (TB X.K J) (TOs X.K l) (TOs X.K h))):PF X e (mcut J l h):=O.imp fun σ H Q G=>by
 obtain⟨F0,H0,F,ρ,g,rl,e,q⟩:=G
 unfold mcut at e
 cases h1:J ρ with
 |none=>rw[h1]at e;cases e
 |some ds=>
  cases h2:l ρ with
  |none=>rw[h1,h2]at e;cases e
  |some i=>
   cases h3:h ρ with
   |none=>rw[h1,h2,h3]at e;cases e
   |some j=>
    rw[h1,h2,h3]at e;cases e
    refine⟨F0,H0,F,ρ,ds,rl,h1,fun p xs F1 H1 L s1 N=>⟨F0,H0,F1,ρ,i,rl.go L,h2,fun F2 H2 I=>⟨F0,H0,F2,ρ,j,(rl.go L).go I,h3,fun S Y z=>?_⟩⟩⟩
    refine⟨p,xs,rfl,z.hh.seq (I.hh.seq s1),fun w hw=>?_⟩
    have M:=(L.trans I).trans z
    exact q w _ S _ (M.trans (Ext.own z.fh hw)) (M.hh.free hw) (z.fh.free hw) v7 (yc9 (N.mono (I.ff.trans z.ff)) i j)
end
end
section
theorem zo7 (l:Addr)(j:Array Value)(n:Nat)(b:Addr)(i:Array Value)(G:Nat)(dd z:Option Addr)(sl q:Array (Option Value))(J:j.size+i.size<=sizeLine):
  Meets (Builtin.«list.__add__» ⟨[.ref l,.ref b],[]⟩) (fun _ R s=>s.heap.get? l=some { cls:=.type "list",dict:=dd,data:=.seq j n,slots:=sl }/\s.heap.get? b=some { cls:=.type "list",dict:=z,data:=.seq i G,slots:=q }/\R (.ok (.ret (Value.ref s.heap.objs.size))) { s with heap:=s.heap.push { cls:=Value.type "list",data:=Data.seq (j++i) },toks:=s.toks }):=
 .of_wp fun prog w A R s h=>by obtain⟨M,g,d,tk,os⟩:=s;obtain⟨I,L,h⟩:=h;have Y:=AutoSeq1.idx_int;have U:=AutoSeq1.sub_tuple_tuple;have S:=AutoSeq1.sub_list_list;have O:=AutoSeq1.sub_tuple_list;have N:=AutoSeq1.sub_list_tuple;wp_walk using AutoSeq1.wpAny_loadPart' I,AutoSeq1.wpAny_loadPart' L;exact⟨_,rfl,h⟩
section
variable {X:Cx}{a b c e:Expr}{ma mb:ME}{pos:Pos}
def xj4 (K:W.Frag):R2:=fun x y H Q=>∃ l b xs zs,x= .ref l/\y= .ref b/\SqL K H l xs/\SqL K H b zs/\xs.length+zs.length<=sizeLine/\∀ p,H p=none->Q (.ref p) (upd H p (.lst (xs++zs)))
theorem yq3:OpR X (binaryOp .Add) (xj4 X.K):=by
 intro pins s σ H x y v u Q I rx U h
 obtain⟨l,b,xs,zs,rfl,rfl,Z,hB,hz,q⟩:=h
 cases rx
 cases U
 obtain⟨its,r,⟨⟨cl,dd,dt,sl⟩,n,e,O,hd,N⟩,z⟩:=I.list Z
 obtain⟨i,M,⟨⟨a2,a1,a0,L⟩,Y,S,J,G,j⟩,z2⟩:=I.list hB
 simp only at O hd N J G j
 subst O hd N J G j
 have l1:=r.length
 have l2:=M.length
 refine concat_meets (T:="list") ⟨_,e,rfl⟩ ⟨_,S,rfl⟩ PySem.noFill_list_add PySem.seq_list_add F.slot_list_add F.entry_list_add (F.args_list_add_2 _ _) (zo7 l its.toArray n b i.toArray Y none none sl L (by rw[size_toArray,size_toArray];omega)) ⟨e,S,?_⟩
 have ea:its.toArray++i.toArray=(its++i).toArray:=by simp
 rw[ea]
 exact⟨.ref _,_,I.lnew (t':=s.toks) (r.append M) (by rw[length_append];omega),rfl,q _ I.fresh⟩
@[irreducible] def mcat (x y:ML):ML:=fun ρ=>(x ρ).bind fun ds=>(y ρ).bind fun es=>if ds.length+es.length<=sizeLine then some (ds++es)else none
theorem yp5 {x y:ML}{ρ:Ro}{i:List D}(h:mcat x y ρ=some i):∃ ds es,x ρ=some ds/\y ρ=some es/\ds.length+es.length<=sizeLine/\i=ds++es:=by
 unfold mcat at h
 cases h1:x ρ with
 |none=>rw[h1]at h;cases h
 |some ds=>
  cases h2:y ρ with
  |none=>rw[h1,h2]at h;cases h
  |some es=>
   rw[h1,h2]at h
   have h:(if ds.length+es.length<=sizeLine then some (ds++es)else none)=some i:=h
   split at h
   .rename_i hz;cases h;exact⟨ds,es,rfl,rfl,hz,rfl⟩
   .cases h
theorem X4 {x y:ML}(ha:PB X a x)(M:PB X b y):PF X (.BinOp a .Add b pos) (mcat x y):=(xt2 yq3 ha M).imp fun σ H Q j=>by
 obtain⟨F0,H0,F,ρ,g,rl,e,q⟩:=j
 obtain⟨ds,es,h1,h2,L,rfl⟩:=yp5 e
 refine⟨F0,H0,F,ρ,ds,rl,h1,fun p xs F1 H1 G s1 J=>⟨F0,H0,F1,ρ,es,rl.go G,h2,fun p2 ys F2 H2 i s2 I=>?_⟩⟩
 refine⟨p,p2,xs,ys,rfl,rfl,i.hh.seq s1,s2,by rw[J.length,I.length];exact L,fun w hw=>?_⟩
 have z:=G.trans i
 exact q w _ F2 _ (z.trans (Ext.own i.fh hw)) (z.hh.free hw) (i.fh.free hw) v7 ((J.mono i.ff).append I)
def addD:D->D->Option D
 | .int i,.int j=>some (.int (i+j))
 | .lst ds,.lst es=>if ds.length+es.length<=sizeLine then some (.lst (ds++es))else none
 |_,_=>none
theorem xs4 {K:W.Frag}:OpD K (fun x y H Q=>(rI0 fun i j=>V.int (i+j)) x y H Q\/xj4 K x y H Q) addD:=by
 intro F H x y d e w Q s N M h q
 cases d with
 |int i=>
  cases e with
  |int j=>
   cases h
   exact .inl ⟨_,_,N.i',M.i',q _ F H (.refl s) (.int _)⟩
  |_=>cases h
 |lst G=>
  cases e with
  |lst z=>
   obtain⟨p1,U,Z,s1,L⟩:=N.l'
   obtain⟨p2,S,Y,s2,J⟩:=M.l'
   have h:(if G.length+z.length<=sizeLine then some (D.lst (G++z))else none)=some w:=h
   by_cases I:G.length+z.length<=sizeLine
   .rw[if_pos I]at h
    cases h
    refine .inr ⟨_,_,_,_,Z,Y,s.seq s1,s.seq s2,by rw[L.length,J.length];exact I,fun p O=>?_⟩
    exact q _ _ _ (Ext.laid s O) (.lst (SqL.of v7) ((L.append J).mono ((Same.refl F).put (s.free O))))
   .rw[if_neg I]at h;cases h
  |_=>cases h
 |_=>cases h
theorem j7 (ha:PD X a ma)(i:PD X b mb):PD X (.BinOp a .Add b pos) (m2 addD ma mb):=zp2 (OpR.or xg2 yq3) xs4 ha i
theorem Y4 (ha:PD X a ma)(i:PD X b mb):PD X (.BinOp a .Sub b pos) (m2 subD ma mb):=zp2 xh5 xt6 ha i
theorem P4 (ha:PD X a ma)(i:PD X b mb):PD X (.BinOp a .Mult b pos) (m2 mulD ma mb):=zp2 xh9 xt9 ha i
theorem W6 (ha:PD X a ma)(i:PD X b mb):PD X (.BinOp a .FloorDiv b pos) (m2 M4 ma mb):=zp2 xs6 ye1 ha i
theorem i6 (ha:PD X a ma)(i:PD X b mb):PD X (.BinOp a .Mod b pos) (m2 modD ma mb):=zp2 xg0 xs0 ha i
theorem P3 (ha:PD X a ma)(i:PD X b mb):PD X (.BinOp a .Pow b pos) (m2 powD ma mb):=zp2 xh8 xt8 ha i
theorem zc1 (ha:PD X a ma)(i:PD X b mb):PD X (.BinOp a .RShift b pos) (m2 shrD ma mb):=zp2 xh6 xt7 ha i
theorem zi1 (ha:PD X a ma)(i:PD X b mb):PD X (.BinOp a .BitAnd b pos) (m2 andD ma mb):=zp2 xg1 xs3 ha i
@[irreducible] def X2 (f:List D->Option D)(m:ML):ME:=fun ρ=>(m ρ).bind f
def ya6 (K:W.Frag)(r:List V->Hp->VK->Prop)(f:List D->Option D):Prop:=∀(F H:Hp)(vs:List V)(ds:List D)(g:D)(Q:VK),Same F H->Reps K F vs ds->f ds=some g->(∀ v F' H',Ext F H F' H'->Rep K F' v g->Q v H')->r vs H Q
theorem zb7 {r:List V->Hp->VK->Prop}{f:List D->Option D}{m:ML}(G:ya6 X.K r f){σ:St}{H:Hp}{Q:VK}(h:TD X.K (X2 f m) σ H Q):tCB r (TAs X.K m) σ H Q:=by
 obtain⟨F0,H0,F,ρ,g,rl,e,q⟩:=h
 unfold X2 at e
 cases h1:m ρ with
 |none=>rw[h1]at e;cases e
 |some ds=>
  rw[h1]at e
  exact⟨F0,H0,F,ρ,ds,rl,h1,fun vs F1 H1 i z=>G F1 H1 vs ds g Q i.fh z e fun v F' H' j=>q v F' H' (i.trans j)⟩
def lenF:List D->Option D
 |[.lst ds]=>some (.int ds.length)
 |[.tup ds]=>some (.int ds.length)
 |[.str x]=>if x.length<=sizeLine then some (.int x.length)else none
 |_=>none
theorem yk9 {K:W.Frag}:ya6 K (fun xs H Q=>(∃ p ys,xs=[.ref p]/\(SqL K H p ys\/SqT K H p ys)/\Q (.int ys.length) H)\/(∃ z,xs=[.str z]/\z.length<=sizeLine/\Q (.int z.length) H)) lenF:=by
 intro F H vs ds g Q s r h q
 cases r with
 |nil=>cases h
 |cons r j=>
  cases j with
  |cons _ _=>revert h;unfold lenF;intro h;split at h <;> simp_all
  |nil=>
   cases r with
   |lst s1 i=>cases h;exact .inl ⟨_,_,rfl,.inl (s.seq s1),by rw[i.length];exact q _ F H (.refl s) (.int _)⟩
   |tup s1 i=>cases h;exact .inl ⟨_,_,rfl,.inr (s.seqT s1),by rw[i.length];exact q _ F H (.refl s) (.int _)⟩
   |str x=>
    have h:(if x.length<=sizeLine then some (D.int x.length)else none)=some g:=h
    split at h
    .rename_i hz;cases h;exact .inr ⟨_,rfl,hz,q _ F H (.refl s) (.int _)⟩
    .cases h
   |_=>cases h
theorem zc2 {e:Expr}{p:Pos}{m:ML}(j:Gl X "len")(hm:X.mg "len"=none)(ha:PAs X [e] m)(q:starEach [e] X.env=(false,eval e X.env)::starEach [] X.env:=by rfl)(i:(backTo pos (starEach [] X.env)).any (·.1)=false:=by rfl):PD X (.Call (.Name "len" p) [e] [] pos) (X2 lenF m):=
 (Z5 (CallR.or G6 zm9) j hm PySem.boot_len ha (by decide) (by decide) q i).imp fun _ _ _ h=>zb7 yk9 h
theorem u9 {e:Expr}{p:Pos}{m:ML}(J:Gl X "len")(hm:X.mg "len"=none)(ha:PB X e m)(I:starEach (e::[]) X.env=(false,eval e X.env)::starEach [] X.env:=by rfl)(L:starEach [e] X.env=(false,eval e X.env)::starEach [] X.env:=by rfl)(j:(backTo pos (starEach [] X.env)).any (·.1)=false:=by rfl):PD X (.Call (.Name "len" p) [e] [] pos) (mlen m):=
 (Z5 G6 J hm PySem.boot_len (h9 ha pa_nil I) (by decide) (by decide) L j).imp fun σ H Q i=>by
  obtain⟨F0,H0,F,ρ,g,rl,e,q⟩:=i
  unfold mlen at e
  cases h1:m ρ with
  |none=>rw[h1]at e;cases e
  |some ds=>
   rw[h1]at e;cases e
   refine⟨F0,H0,F,ρ,ds,rl,h1,fun p xs F1 H1 z s1 G=>⟨p,xs,rfl,.inl s1,?_⟩⟩
   rw[G.length]
   exact q _ F1 H1 z (.int _)
def absF:List D->Option D
 |[.int i]=>some (.int (if i<0 then -i else i))
 |_=>none
theorem yj0 {K:W.Frag}:ya6 K (fun xs H Q=>∃ i,xs=[.int i]/\Q (.int (if i<0 then -i else i)) H) absF:=by
 intro F H vs ds g Q s r h q
 cases r with
 |nil=>cases h
 |cons r j=>
  cases j with
  |cons _ _=>revert h;unfold absF;intro h;split at h <;> simp_all
  |nil=>
   cases r with
   |int i=>cases h;exact⟨_,rfl,q _ F H (.refl s) (.int _)⟩
   |_=>cases h
theorem xy2 {e:Expr}{p:Pos}{m:ML}(j:Gl X "abs")(hm:X.mg "abs"=none)(ha:PAs X [e] m)(q:starEach [e] X.env=(false,eval e X.env)::starEach [] X.env:=by rfl)(i:(backTo pos (starEach [] X.env)).any (·.1)=false:=by rfl):PD X (.Call (.Name "abs" p) [e] [] pos) (X2 absF m):=
 (Z5 yb6 j hm PyProof.Rows.boot_abs ha (by decide) (by decide) q i).imp fun _ _ _ h=>zb7 yj0 h
def two2 (k:Int->Int->Int):List D->Option D
 |[.int i,.int j]=>some (.int (k i j))
 |_=>none
theorem yh4 {k:Int->Int->Int}{ds:List D}{g:D}(h:two2 k ds=some g):∃ i j,ds=[.int i,.int j]/\g= .int (k i j):=by
 cases ds with
 |nil=>cases h
 |cons d ds=>
  cases ds with
  |nil=>cases d <;> cases h
  |cons e ds=>
   cases ds with
   |cons f ds=>cases d <;> first| (cases h;done)| (cases e <;> cases h)
   |nil=>
    cases d with
    |int i=>
     cases e with
     |int j=>cases h;exact⟨i,j,rfl,rfl⟩
     |_=>cases h
    |_=>cases h
theorem zm7 {K:W.Frag}{k:Int->Int->Int}:ya6 K (fun xs H Q=>∃ i j,xs=[.int i,.int j]/\Q (.int (k i j)) H) (two2 k):=by
 intro F H vs ds g Q s r h q
 obtain⟨i,j,rfl,rfl⟩:=yh4 h
 cases r with
 |cons r z=>
  cases z with
  |cons G z=>
   cases z
   rw[r.i',G.i']
   exact⟨_,_,rfl,q _ F H (.refl s) (.int _)⟩
def zy5:List D->Option D:=two2 fun i j=>if j>i then j else i
def yp4:List D->Option D:=two2 fun i j=>if j<i then j else i
theorem zu5 {x y:Expr}{p:Pos}{m:ML}(I:X.calm=true)(z:Gl X "max")(hm:X.mg "max"=none)(ha:PAs X [x,y] m)(G:starEach [x,y] X.env=(false,eval x X.env)::starEach [y] X.env:=by rfl)(q:(backTo pos (starEach [y] X.env)).any (·.1)=false:=by rfl):PD X (.Call (.Name "max" p) [x,y] [] pos) (X2 zy5 m):=
 (Z5 (yj4 I) z hm PyProof.Rows.boot_max ha (by decide) (by decide) G q).imp fun _ _ _ h=>zb7 (zm7 (k:=fun i j=>if j>i then j else i)) h
theorem zi0 {x y:Expr}{p:Pos}{m:ML}(I:X.calm=true)(z:Gl X "min")(hm:X.mg "min"=none)(ha:PAs X [x,y] m)(G:starEach [x,y] X.env=(false,eval x X.env)::starEach [y] X.env:=by rfl)(q:(backTo pos (starEach [y] X.env)).any (·.1)=false:=by rfl):PD X (.Call (.Name "min" p) [x,y] [] pos) (X2 yp4 m):=
 (Z5 (yj3 I) z hm PyProof.Rows.boot_min ha (by decide) (by decide) G q).imp fun _ _ _ h=>zb7 (zm7 (k:=fun i j=>if j<i then j else i)) h
def intF:List D->Option D
 |[.int i]=>some (.int i)
 |[.bl k]=>some (.int (if k then 1 else 0))
 |_=>none
theorem Z6 {e:Expr}{p:Pos}{m:ML}(L:Gl X "list")(hm:X.mg "list"=none)(ha:PB X e m)(J:bootBuiltins "list"=some (.type "list"))(G:starEach (e::[]) X.env=(false,eval e X.env)::starEach [] X.env:=by rfl)(z:(backTo pos (starEach [] X.env)).any (·.1)=false:=by rfl):PF X (.Call (.Name "list" p) [e] [] pos) m:=
 (B1 zm8 L hm J (h9 ha pa_nil G) (by decide) (by decide) G z).imp fun σ H Q i=>by
  obtain⟨F0,H0,F,ρ,ds,rl,e,q⟩:=i
  refine⟨F0,H0,F,ρ,ds,rl,e,fun p xs F1 H1 j s1 I=>⟨p,xs,rfl,.inl s1,fun w hw=>?_⟩⟩
  exact q w _ F1 _ (j.trans (Ext.own j.fh hw)) (j.hh.free hw) (j.fh.free hw) v7 I
end
end
section
inductive Out where
 |nx (ρ:Ro)|bk (ρ:Ro)|ct (ρ:Ro)|rt (d:D)|rf (ds:List D)|rp (d:D) (ds:List D)|rg (d:D) (p:Addr) (r:List D)|rgf (ds:List D) (p:Addr) (r:List D)
abbrev MS:=Ro->Option Out
def okO (K:W.Frag)(F0 H0 Fb:Hp)(Dn:Ends):Out->Prop
 | .nx ρ=>∀ F H σ,Rl K F0 H0 F H σ ρ->Same Fb F->Dn.nx σ H
 | .bk ρ=>∀ F H σ,Rl K F0 H0 F H σ ρ->Same Fb F->Dn.bk σ H
 | .ct ρ=>∀ F H σ,Rl K F0 H0 F H σ ρ->Same Fb F->Dn.ct σ H
 | .rt d=>∀ v F H,Ext F0 H0 F H->Rep K F v d->Dn.rt v H
 | .rf ds=>∀ p xs F H,Ext F0 H0 F H->H0 p=none->F p=none->H p=some (.lst xs)->Reps K F xs ds->Dn.rt (.ref p) H
 | .rp d ds=>∀ t v p xs F H,Ext F0 H0 F H->H0 t=none->H0 p=none->t≠p->F t=none->F p=none->H t=some (.tup [v,.ref p])->H p=some (.lst xs)->Rep K F v d->Reps K F xs ds->Dn.rt (.ref t) H
 | .rg d p r=>∀ v F H xs,Ext F0 H0 F H->Rep K F v d->F p=none->H p=some (.lst xs)->Reps K F xs r->Dn.rt v H
 | .rgf ds p r=>∀ q ys F H xs,Ext F0 H0 F H->H0 q=none->F q=none->q≠p->H q=some (.lst ys)->Reps K F ys ds->F p=none->H p=some (.lst xs)->Reps K F xs r->Dn.rt (.ref q) H
def TSd (K:W.Frag)(m:MS):TS:=fun Dn σ H=>∃ F0 H0 F ρ o,Rl K F0 H0 F H σ ρ/\m ρ=some o/\okO K F0 H0 F Dn o
theorem okO.mono {K:W.Frag}{F0 H0 j i:Hp}{z:Ends}(s:Same j i):∀{o:Out},okO K F0 H0 j z o->okO K F0 H0 i z o
 | .nx _,h=>fun F H σ rl q=>h F H σ rl (s.trans q)
 | .bk _,h=>fun F H σ rl q=>h F H σ rl (s.trans q)
 | .ct _,h=>fun F H σ rl q=>h F H σ rl (s.trans q)
 | .rt _,h=>h
 | .rf _,h=>h
 | .rp _ _,h=>h
 | .rg _ _ _,h=>h
 | .rgf _ _ _,h=>h
def PSd (X:Cx)(st:Stmt)(m:MS):Prop:=PS X st (TSd X.K m)
def PSsd (X:Cx)(st:List Stmt)(m:MS):Prop:=PSs X st (TSd X.K m)
section
variable {X:Cx}{a b c e:Expr}{ma mb:ME}{pos:Pos}{st:Stmt}{rest:List Stmt}{m1 m2':MS}
theorem PS.imp {t t':TS}(h:PS X st t)(i:∀ D σ H,t' D σ H->t D σ H):PS X st t':=fun pins s σ H D I q=>h pins s σ H D I (i D σ H q)
theorem PSs.imp {j:List Stmt}{t t':TS}(h:PSs X j t)(i:∀ D σ H,t' D σ H->t D σ H):PSs X j t':=fun pins s σ H D I q=>h pins s σ H D I (i D σ H q)
def g9:MS:=fun ρ=>some (.nx ρ)
def mseq (x y:MS):MS:=fun ρ=>match x ρ with |some (.nx ρ')=>y ρ'|o=>o
theorem t4:PSsd X [] g9:=pss_nil.imp fun D σ H i=>by obtain⟨F0,H0,F,ρ,o,rl,e,ok⟩:=i;cases e;exact ok F H σ rl (Same.refl _)
theorem y8 (h1:PSd X st m1)(h2:PSsd X rest m2'):PSsd X (st::rest) (mseq m1 m2'):=(zd5 h1 h2).imp fun D σ H i=>by
 obtain⟨F0,H0,F,ρ,o,rl,e,ok⟩:=i
 unfold mseq at e
 cases h:m1 ρ with
 |none=>rw[h]at e;cases e
 |some G=>
  rw[h]at e
  cases G with
  |nx ρ1=>exact⟨F0,H0,F,ρ,_,rl,h,fun F' H' q j z=>⟨F0,H0,F',ρ1,o,j,e,ok.mono z⟩⟩
  |bk ρ1=>cases e;exact⟨F0,H0,F,ρ,_,rl,h,ok⟩
  |ct ρ1=>cases e;exact⟨F0,H0,F,ρ,_,rl,h,ok⟩
  |rt d=>cases e;exact⟨F0,H0,F,ρ,_,rl,h,ok⟩
  |rf d=>cases e;exact⟨F0,H0,F,ρ,_,rl,h,ok⟩
  |rp d ds=>cases e;exact⟨F0,H0,F,ρ,_,rl,h,ok⟩
  |rg d p r=>cases e;exact⟨F0,H0,F,ρ,_,rl,h,ok⟩
  |rgf d p r=>cases e;exact⟨F0,H0,F,ρ,_,rl,h,ok⟩
theorem x9 (h1:PSd X st m1):PSsd X [st] m1:=ys0 h1
def mif (c:MB)(x y:MS):MS:=fun ρ=>match c ρ with |some true=>x ρ|some false=>y ρ|none=>none
theorem j3 {ca:MB}{x y:List Stmt}{mx q:MS}(I:PC' X c ca)(G:PSsd X x mx)(z:PSsd X y q):PSd X (.If c x y pos) (mif ca mx q):=(xj9 I G z).imp fun D σ H j=>by
 obtain⟨F0,H0,F,ρ,o,rl,e,ok⟩:=j
 unfold mif at e
 split at e
 .rename_i h1
  refine⟨F0,H0,F,ρ,_,rl,h1,fun F1 H1 i=>iteT ⟨F0,H0,F1,ρ,o,rl.go i,e,ok.mono i.ff⟩⟩
 .rename_i h1
  refine⟨F0,H0,F,ρ,_,rl,h1,fun F1 H1 i=>iteF ⟨F0,H0,F1,ρ,o,rl.go i,e,ok.mono i.ff⟩⟩
 .cases e
def zp9:MS:=fun _=>none
theorem C7:PSd X st zp9:=ps_never.imp fun D σ H i=>by obtain⟨F0,H0,F,ρ,o,rl,e,ok⟩:=i;cases e
def mset (i:Nat)(x:ME):MS:=fun ρ=>(x ρ).map fun d=>.nx (ρ.set i (some (.sh d)))
def Y9 (i:Nat)(x:ML):MS:=fun ρ=>(x ρ).map fun ds=>.nx (ρ.set i (some (.own ds)))
theorem xo6 {t:TE}{i:Nat}(h:PS X st (tAsg t (J3 i)))(G:∀ σ H Q,TD X.K ma σ H Q->t σ H Q):PSd X st (mset i ma):=h.imp fun D σ H j=>by
 obtain⟨F0,H0,F,ρ,o,rl,e,ok⟩:=j
 unfold mset at e
 cases h1:ma ρ with
 |none=>rw[h1]at e;cases e
 |some d=>
  rw[h1]at e;cases e
  exact G _ _ _ ⟨F0,H0,F,ρ,d,rl,h1,fun v F1 H1 q z=>ok F1 H1 _ ((rl.go q).set z) q.ff⟩
theorem xb4 {t:TE}{i:Nat}{mf:ML}(h:PS X st (tAsg t (J3 i)))(O:∀ σ H Q,TF X.K mf σ H Q->t σ H Q):PSd X st (Y9 i mf):=h.imp fun D σ H G=>by
 obtain⟨F0,H0,F,ρ,o,rl,e,ok⟩:=G
 unfold Y9 at e
 cases h1:mf ρ with
 |none=>rw[h1]at e;cases e
 |some ds=>
  rw[h1]at e;cases e
  refine O _ _ _ ⟨F0,H0,F,ρ,ds,rl,h1,fun p xs F1 H1 L I U S N=>ok F1 H1 _ ?_ L.ff⟩
  refine(rl.go L).setOwn U S N (rl.ext.hh.free I) (fun j es Y J M=>?_) fun j q es J z=>?_
  .obtain⟨q,ys,a1,a2,a3,_⟩:=rl.own j es J
   rw[a1]at M;cases M
   rw[I]at a3;cases a3
  .obtain⟨_,_,_,ys,a3,_⟩:=rl.ob j q es J
   rw[z,I]at a3;cases a3
theorem t5 {i:Nat}{x:Str}{pos':Pos}(I:X.N.Nodup)(hi:X.N[i]? =some x)(j:Loc X.env.scope x)(G:PD X e ma)(q:swapsWith e (some (.Name x pos')) pos.line X.env=pure false:=by rfl)(z:X.fn x=true\/X.env.scope.names.lookup x=some .local:=by first|exact .inl rfl|exact .inr rfl|assumption):
  PSd X (.Assign [.Name x pos'] e pos) (mset i ma):=xo6 (xz6 I hi j G q z) fun _ _ _ h=>h
theorem Y2 {i:Nat}{x:Str}{pos':Pos}{mf:ML}(I:X.N.Nodup)(hi:X.N[i]? =some x)(j:Loc X.env.scope x)(G:PF X e mf)(q:swapsWith e (some (.Name x pos')) pos.line X.env=pure false:=by rfl)(z:X.fn x=true\/X.env.scope.names.lookup x=some .local:=by first|exact .inl rfl|exact .inr rfl|assumption):
  PSd X (.Assign [.Name x pos'] e pos) (Y9 i mf):=xb4 (xz6 I hi j G q z) fun _ _ _ h=>h
def maug (i:Nat)(x:ME):MS:=fun ρ=>match ρ[i]? with |some (some (.sh (.int k)))=>(x ρ).bind (fun d=>match d with | .int j=>some (.nx (ρ.set i (some (.sh (.int (k+j))))))|_=>none)|_=>none
theorem xu2 {i:Nat}{x:Str}{pos':Pos}(L:X.N.Nodup)(hi:X.N[i]? =some x)(G:Loc X.env.scope x)(J:PD X e ma)(I:X.fn x=true\/X.env.scope.names.lookup x=some .local:=by first|exact .inl rfl|exact .inr rfl|assumption):
  PSd X (.AugAssign (.Name x pos') .Add e pos) (maug i ma):=(xi1 L hi G J xy7 I).imp fun D σ H j=>by
 obtain⟨F0,H0,F,ρ,o,rl,e,ok⟩:=j
 unfold maug at e
 split at e
 .rename_i k h1
  obtain⟨v,O,M⟩:=rl.sh i _ h1
  cases M
  cases h2:ma ρ with
  |none=>rw[h2]at e;cases e
  |some d=>
   rw[h2]at e
   refine⟨_,O,F0,H0,F,ρ,d,rl,h2,fun y F1 H1 q z=>?_⟩
   cases z <;> first| (cases e;done)|skip
   cases e
   exact⟨_,_,rfl,rfl,ok F1 H1 _ ((rl.go q).set (.int _)) q.ff⟩
 .cases e
def J0 (x:ME):MS:=fun ρ=>(x ρ).map fun _=>.nx ρ
theorem R6 (z:PD X e ma)(q:swapsWith e none pos.line X.env=pure false:=by rfl):PSd X (.Expr e pos) (J0 ma):=(zu1 z q).imp fun D σ H i=>by
 obtain⟨F0,H0,F,ρ,o,rl,e,ok⟩:=i
 unfold J0 at e
 cases h1:ma ρ with
 |none=>rw[h1]at e;cases e
 |some d=>
  rw[h1]at e;cases e
  exact⟨F0,H0,F,ρ,d,rl,h1,fun v F1 H1 j G=>ok F1 H1 _ (rl.go j) j.ff⟩
def mret (x:ME):MS:=fun ρ=>(x ρ).map .rt
def zy2 (x:ML):MS:=fun ρ=>(x ρ).map .rf
def O4 (i:Nat):MS:=fun ρ=>match ρ[i]? with |some (some (.own ds))=>some (.rf ds)|some (some (.sh d))=>some (.rt d)|_=>none
theorem u8 (z:PD X e ma):PSd X (.Return (some e) pos) (mret ma):=(ys3 z).imp fun D σ H i=>by
 obtain⟨F0,H0,F,ρ,o,rl,e,ok⟩:=i
 unfold mret at e
 cases h1:ma ρ with
 |none=>rw[h1]at e;cases e
 |some d=>
  rw[h1]at e;cases e
  exact⟨F0,H0,F,ρ,d,rl,h1,fun v F1 H1 j q=>ok v F1 H1 (rl.ext.trans j) q⟩
theorem E7 {mf:ML}(G:PF X e mf):PSd X (.Return (some e) pos) (zy2 mf):=(ys3 G).imp fun D σ H i=>by
 obtain⟨F0,H0,F,ρ,o,rl,e,ok⟩:=i
 unfold zy2 at e
 cases h1:mf ρ with
 |none=>rw[h1]at e;cases e
 |some ds=>
  rw[h1]at e;cases e
  exact⟨F0,H0,F,ρ,ds,rl,h1,fun p xs F1 H1 j z J I q=>ok p xs F1 H1 (rl.ext.trans j) (rl.ext.hh.free z) J I q⟩
theorem U4 (i:Nat){x:Str}{pos':Pos}(h:PE X (.Name x pos') (tVar i)):PSd X (.Return (some (.Name x pos')) pos) (O4 i):=(ys3 h).imp fun D σ H j=>by
 obtain⟨F0,H0,F,ρ,o,rl,e,ok⟩:=j
 unfold O4 at e
 split at e
 .rename_i ds h1
  cases e
  obtain⟨p,xs,z,q,e3,I,G⟩:=rl.own i _ h1
  exact⟨_,z,ok p xs F H rl.ext G q e3 I⟩
 .rename_i d h1
  cases e
  obtain⟨v,z,q⟩:=rl.sh i _ h1
  exact⟨_,z,ok v F H rl.ext q⟩
 .cases e
def mapp (i:Nat)(x:ME):MS:=fun ρ=>match ρ[i]? with |some (some (.own ds))=>(x ρ).bind fun d=>if ds.length<sizeLine then some (.nx (ρ.set i (some (.own (ds++[d])))))else none|_=>none
theorem c6 {i:Nat}{x:Str}{e:Expr}{z apos cpos:Pos}(U:PE X (.Name x z) (tVar i))(Y:PD X e ma)
  (O:∀ t,PA X [e] t->PE X (.Call (.Attribute (.Name x z) "append" apos) [e] [] cpos) (tBM X.K "list" yt5 (tVar i) t)) (S:PAs X [e] (z8 ma anil)) (M:swapsWith (.Call (.Attribute (.Name x z) "append" apos) [e] [] cpos) none pos.line X.env=pure false:=by rfl):
  PSd X (.Expr (.Call (.Attribute (.Name x z) "append" apos) [e] [] cpos) pos) (mapp i ma):=(zu1 (O _ S) M).imp fun D σ H j=>by
 obtain⟨F0,H0,F,ρ,o,rl,e,ok⟩:=j
 unfold mapp at e
 split at e
 .rename_i ds h1
  obtain⟨p,xs,I,e2,e3,G,Z⟩:=rl.own i _ h1
  cases h2:ma ρ with
  |none=>rw[h2]at e;cases e
  |some d=>
   rw[h2]at e
   have e:(if ds.length<sizeLine then some (Out.nx (ρ.set i (some (.own (ds++[d])))))else none)=some o:=e
   split at e
   .rename_i hz
    cases e
    refine⟨_,I,.inl ⟨rfl,_,SqL.of e3⟩,F0,H0,F,ρ,[d],rl,by unfold z8 anil;rw[h2];rfl,fun vs F1 H1 q L=>?_⟩
    cases L with
    |cons r J=>
     cases J
     have N:H1 p=some (.lst xs):=q.hh _ _ e3
     exact⟨p,xs,_,rfl,rfl,N,by rw[G.length];exact hz,ok F1 _ σ ((rl.go q).write h1 I ((G.mono q.ff).append (.cons r .nil))) q.ff⟩
   .cases e
 .cases e
def S6 (i:Nat)(ix v:ME):MS:=fun ρ=>(v ρ).bind fun d=>match ρ[i]? with
 |some (some (.own ds))=>(ix ρ).bind (fun x=>match x with | .int k=>(ixN ds.length k).map fun j=>.nx (ρ.set i (some (.own (ds.set j d))))|_=>none)
 |some (some (.ob p ds))=>(ix ρ).bind (fun x=>match x with | .int k=>(ixN ds.length k).map fun j=>.nx (ρ.set i (some (.ob p (ds.set j d))))|_=>none)
 |_=>none
theorem N9 {i:Nat}(U:PS X st (tAsg (TD X.K mb) (gSub (tVar i) (TD X.K ma) xj3))):PSd X st (S6 i ma mb):=U.imp fun D σ H J=>by
 obtain⟨F0,H0,F,ρ,o,rl,e,ok⟩:=J
 unfold S6 at e
 cases h1:mb ρ with
 |none=>rw[h1]at e;cases e
 |some d=>
  rw[h1]at e
  refine⟨F0,H0,F,ρ,d,rl,h1,fun y F1 H1 G S=>?_⟩
  dsimp only[Option.bind]at e
  split at e
  .rename_i ds h2
   obtain⟨p,xs,M,Z,e3,L,Y⟩:=(rl.go G).own i _ h2
   cases h3:ma ρ with
   |none=>rw[h3]at e;cases e
   |some O=>
    rw[h3]at e
    refine⟨_,M,F0,H0,F1,ρ,O,rl.go G,h3,fun z F2 H2 q N=>?_⟩
    cases N <;> first| (cases e;done)|skip
    rename_i k
    have e:(ixN ds.length k).map (fun j=>Out.nx (ρ.set i (some (.own (ds.set j d)))))=some o:=e
    cases h4:ixN ds.length k with
    |none=>rw[h4]at e;cases e
    |some j=>
     rw[h4]at e;cases e
     have I:=(rl.go G).go q
     refine⟨p,xs,k,j,rfl,rfl,q.hh _ _ e3,by rw[L.length];exact h4,ok F2 _ σ (I.write h2 M (Reps.set (S.mono q.ff) j (L.mono q.ff))) (G.ff.trans q.ff)⟩
  .rename_i p ds h2
   obtain⟨M,Z,Y,xs,e3,L⟩:=(rl.go G).ob i p _ h2
   cases h3:ma ρ with
   |none=>rw[h3]at e;cases e
   |some O=>
    rw[h3]at e
    refine⟨_,M,F0,H0,F1,ρ,O,rl.go G,h3,fun z F2 H2 q N=>?_⟩
    cases N <;> first| (cases e;done)|skip
    rename_i k
    have e:(ixN ds.length k).map (fun j=>Out.nx (ρ.set i (some (.ob p (ds.set j d)))))=some o:=e
    cases h4:ixN ds.length k with
    |none=>rw[h4]at e;cases e
    |some j=>
     rw[h4]at e;cases e
     have I:=(rl.go G).go q
     refine⟨p,xs,k,j,rfl,rfl,q.hh _ _ e3,by rw[L.length];exact h4,ok F2 _ σ (I.writeB h2 (Reps.set (S.mono q.ff) j (L.mono q.ff))) (G.ff.trans q.ff)⟩
  .cases e
def X3 (i:Nat)(m:MS):MS:=fun ρ=>match ρ[i]? with |some (some (.own ds))=>m (ρ.set i (some (.sh (.lst ds))))|_=>m ρ
theorem Y7 (i:Nat){j:List Stmt}{m:MS}(h:PSsd X j m):PSsd X j (X3 i m):=h.imp fun D σ H q=>by
 obtain⟨F0,H0,F,ρ,o,rl,e,ok⟩:=q
 unfold X3 at e
 split at e
 .rename_i ds h1
  obtain⟨F',z,G⟩:=rl.freeze h1
  exact⟨F0,H0,F',_,o,z,e,ok.mono G⟩
 .exact⟨F0,H0,F,ρ,o,rl,e,ok⟩
inductive Tg where
 |nm (i:Nat)|tp (is:List Nat)|nt (i:Nat) (is:List Nat)
def J8:List Nat->List D->Ro->Option Ro
 |[],[],ρ=>some ρ
 |i::is,d::ds,ρ=>J8 is ds (ρ.set i (some (.sh d)))
 |_,_,_=>none
def tgD:Tg->D->Ro->Option Ro
 | .nm i,d,ρ=>some (ρ.set i (some (.sh d)))
 | .tp is,.tup ds,ρ=>J8 is ds ρ
 | .nt i is,.tup [d,.tup ds],ρ=>J8 is ds (ρ.set i (some (.sh d)))
 |_,_,_=>none
def TGd (K:W.Frag)(g:Tg):TG:=fun v σ H Q=>∃ F0 H0 F ρ d ρ',Rl K F0 H0 F H σ ρ/\Rep K F v d/\tgD g d ρ=some ρ'/\∀ F' H' σ',Rl K F0 H0 F' H' σ' ρ'->Ext F H F' H'->Q σ' H'
def PGd (X:Cx)(tg:Expr)(g:Tg):Prop:=PG X tg (TGd X.K g)
theorem PG.imp {tg:Expr}{t t':TG}(h:PG X tg t)(i:∀ v σ H Q,t' v σ H Q->t v σ H Q):PG X tg t':=fun pins s σ H v u Q I r q=>h pins s σ H v u Q I r (i v σ H Q q)
theorem u6 {i:Nat}{x:Str}{pos:Pos}(h:PG X (.Name x pos) (J3 i)):PGd X (.Name x pos) (.nm i):=PG.imp h fun v σ H Q j=>by
 obtain⟨F0,H0,F,ρ,d,ρ',rl,r,e,q⟩:=j
 cases e;exact q F H _ (rl.set r) (.refl rl.fh)
def gAll:List Nat->TGs
 |[]=>gNil
 |i::is=>xd9 (J3 i) (gAll is)
theorem ym2 {K:W.Frag}{F0 H0 F H:Hp}{Q:St->Hp->Prop}:∀(is:List Nat)(vs:List V)(ds:List D)(σ:St)(ρ ρ':Ro),Rl K F0 H0 F H σ ρ->Reps K F vs ds->J8 is ds ρ=some ρ'->(∀ j,Rl K F0 H0 F H j ρ'->Q j H)->gAll is vs σ H Q
 |[],_,[],σ,ρ,ρ',rl,r,e,q=>by cases r;cases e;exact⟨rfl,q σ rl⟩
 |[],_,_::_,_,_,_,_,_,e,_=>by cases e
 |_::_,_,[],_,_,_,_,_,e,_=>by cases e
 |i::is,_,d::ds,σ,ρ,ρ',rl,r,e,q=>by
  cases r with
  |cons r z=>exact⟨_,_,rfl,ym2 is _ ds _ _ ρ' (rl.set r) z e q⟩
theorem zx6:∀(is:List Nat)(ds:List D)(ρ ρ':Ro),J8 is ds ρ=some ρ'->ds.length=is.length
 |[],[],_,_,_=>rfl
 |[],_::_,_,_,e=>by cases e
 |_::_,[],_,_,e=>by cases e
 |_::is,_::ds,ρ,ρ',e=>congrArg (·+1) (zx6 is ds _ ρ' e)
theorem W5 {es:List Expr}{k n:Nat}{is:List Nat}{pos:Pos}(h:PG X (.Tuple es k pos) (gTup X.K n (gAll is)))(hn:is.length=n:=by rfl):PGd X (.Tuple es k pos) (.tp is):=PG.imp h fun v σ H Q i=>by
 obtain⟨F0,H0,F,ρ,d,ρ',rl,r,e,q⟩:=i
 cases r with
 |tup s t=>exact⟨_,_,rfl,rl.fh.seqT s,by rw[t.length,zx6 _ _ _ _ e,hn],ym2 is _ _ σ ρ ρ' rl t e fun j z=>q F H j z (.refl rl.fh)⟩
 |_=>cases e
def masg (g:Tg)(x:ME):MS:=fun ρ=>(x ρ).bind fun d=>(tgD g d ρ).map .nx
theorem ys2 {g:Tg}(h:PS X st (tAsg (TD X.K ma) (TGd X.K g))):PSd X st (masg g ma):=h.imp fun D σ H i=>by
 obtain⟨F0,H0,F,ρ,o,rl,e,ok⟩:=i
 unfold masg at e
 cases h1:ma ρ with
 |none=>rw[h1]at e;cases e
 |some d=>
  rw[h1]at e
  have e:(tgD g d ρ).map Out.nx=some o:=e
  cases h2:tgD g d ρ with
  |none=>rw[h2]at e;cases e
  |some ρ'=>
   rw[h2]at e;cases e
   exact⟨F0,H0,F,ρ,d,rl,h1,fun v F1 H1 z I=>⟨F0,H0,F1,ρ,d,ρ',rl.go z,I,h2,fun F' H' j q G=>ok F' H' j q (z.ff.trans G.ff)⟩⟩
structure ItD (K:W.Frag)(F:Hp)(J:It)(its:List D):Prop where
 go:∀(i:Nat) F1 H1,Same F F1->Same F1 H1->i<its.length->J.go i H1
 yld:∀(i:Nat) F1 H1 x H2 d,Same F F1->Same F1 H1->its[i]? =some d->J.yld i H1 x H2->∃ F2,Ext F1 H1 F2 H2/\Rep K F2 x d
 stop:∀ F1 H1,Same F F1->Same F1 H1->J.stop its.length H1
def TId (K:W.Frag)(mi:ML):TI:=fun σ H R=>∃ F0 H0 F ρ its,Rl K F0 H0 F H σ ρ/\mi ρ=some its/\∀ J F' H',Ext F H F' H'->ItD K F' J its->R J H'
def PId (X:Cx)(tg iter:Expr)(mi:ML):Prop:=PI X tg iter (TId X.K mi)
theorem PI.imp {tg it:Expr}{t t':TI}(h:PI X tg it t)(i:∀ σ H R,t' σ H R->t σ H R):PI X tg it t':=fun pins s σ H R I q=>h pins s σ H R I (i σ H R q)
theorem yd8 {K:W.Frag}{F:Hp}{p:Addr}{xs:List V}{ds:List D}(s:SqL K F p xs)(r:Reps K F xs ds):ItD K F (Itl K p) ds where
 go:=fun i F1 H1 a b hi=>by
  obtain⟨v,e,_⟩:=r.get (getElem?_eq_getElem hi)
  exact⟨xs,v,b.seq (a.seq s),e⟩
 yld:=fun i F1 H1 x H2 d a b e y=>by
  obtain⟨rfl,y⟩:=y
  obtain⟨v,q,j⟩:=r.get e
  have:=y xs (b.seq (a.seq s))
  rw[q]at this;cases this
  exact⟨F1,.refl b,j.mono a⟩
 stop:=fun F1 H1 a b=>⟨xs,b.seq (a.seq s),by rw[r.length];exact Nat.le_refl _⟩
theorem d6 {tg:Expr}(hd:PD X e ma):PId X tg e (l6 ma):=PI.imp (xu9 hd) fun σ H R i=>by
 obtain⟨F0,H0,F,ρ,its,rl,e,q⟩:=i
 unfold l6 at e
 split at e
 .rename_i ds h1
  cases e
  refine⟨F0,H0,F,ρ,_,rl,h1,fun v F1 H1 j z=>?_⟩
  cases z with
  |lst s t=>exact⟨_,rfl,⟨_,j.fh.seq s⟩,q _ F1 H1 j (yd8 s t)⟩
 .cases e
def T3 (lo:Int)(n:Nat):List D:=(List.range n).map fun(i:Nat)=>D.int (lo+(i:Int))
theorem N7 (lo:Int)(n:Nat):(T3 lo n).length=n:=by unfold T3;simp
theorem zn0 {K:W.Frag}{F:Hp}{lo:Int}{n:Nat}:ItD K F (Itr lo n) (T3 lo n) where
 go:=fun i F1 H1 a b hi=>by rw[N7]at hi;exact hi
 yld:=fun i F1 H1 x H2 d a b e y=>by
  obtain⟨rfl,rfl⟩:=y
  unfold T3 at e
  rw[getElem?_map]at e
  have hi:i<n:=by
   rcases Nat.lt_or_ge i n with h|h
   .exact h
   .rw[getElem?_eq_none (by simpa using h)]at e;cases e
  rw[getElem?_range hi]at e
  cases e
  exact⟨F1,.refl b,.int _⟩
 stop:=fun F1 H1 a b=>by rw[N7];exact Nat.le_refl n
def okR (j:Int):Bool:=decide (-(2^62)<=j)&&decide (j<2^62)
def rng1:List D->Option (List D)
 |[.int j]=>if okR j=true then some (T3 0 j.toNat)else none
 |_=>none
def rng2:List D->Option (List D)
 |[.int i,.int j]=>if (okR i&&okR j)=true then some (T3 i (j-i).toNat)else none
 |_=>none
@[irreducible] def l5 (f:List D->Option (List D))(m:ML):ML:=fun ρ=>(m ρ).bind f
theorem Z8 {f:List D->Option (List D)}{m:ML}{ρ:Ro}{i:List D}(h:l5 f m ρ=some i):∃ ds,m ρ=some ds/\f ds=some i:=by
 unfold l5 at h
 cases h1:m ρ with
 |none=>rw[h1]at h;cases h
 |some ds=>rw[h1]at h;exact⟨ds,rfl,h⟩
theorem e9 {tg a:Expr}{m:ML}{p pos:Pos}(L:Gl X "range")(hm:X.mg "range"=none)(ha:PAs X [a] m)(J:starEach [a] X.env=[(false,eval a X.env)]:=by rfl):PId X tg (.Call (.Name "range" p) [a] [] pos) (l5 rng1 m):=PI.imp (yr1 L hm ha J) fun σ H R i=>by
 obtain⟨F0,H0,F,ρ,its,rl,e,q⟩:=i
 obtain⟨ds,h1,h2⟩:=Z8 e
 refine⟨F0,H0,F,ρ,ds,rl,h1,fun vs F1 H1 z I=>?_⟩
 unfold rng1 at h2
 split at h2
 .rename_i j
  split at h2
  .rename_i hk
   cases h2
   unfold okR at hk
   simp only[Bool.and_eq_true,decide_eq_true_eq]at hk
   cases I with
   |cons r G=>
    cases G;cases r
    exact⟨j,rfl,hk.1,hk.2,q _ F1 H1 z zn0⟩
  .cases h2
 .cases h2
theorem W9 {tg a b:Expr}{m:ML}{p pos:Pos}(O:Gl X "range")(hm:X.mg "range"=none)(ha:PAs X [a,b] m)(N:starEach [a,b] X.env=[(false,eval a X.env),(false,eval b X.env)]:=by rfl)(I:starEach [b] X.env=[(false,eval b X.env)]:=by rfl):PId X tg (.Call (.Name "range" p) [a,b] [] pos) (l5 rng2 m):=PI.imp (yr0 O hm ha N I) fun σ H R z=>by
 obtain⟨F0,H0,F,ρ,its,rl,e,q⟩:=z
 obtain⟨ds,h1,h2⟩:=Z8 e
 refine⟨F0,H0,F,ρ,ds,rl,h1,fun vs F1 H1 J M=>?_⟩
 unfold rng2 at h2
 split at h2
 .rename_i i j
  split at h2
  .rename_i hk
   cases h2
   unfold okR at hk
   simp only[Bool.and_eq_true,decide_eq_true_eq]at hk
   cases M with
   |cons r G=>
    cases G with
    |cons L G=>
     cases G;cases r;cases L
     exact⟨i,j,rfl,⟨hk.1.1,hk.1.2,hk.2.1,hk.2.2⟩,q _ F1 H1 J zn0⟩
  .cases h2
 .cases h2
def zip2:List D->Option (List D)
 |[.lst ds,.lst es]=>some (List.zipWith (fun d e=>.tup [d,e]) ds es)
 |_=>none
theorem yd7 {K:W.Frag}{F:Hp}{p q:Addr}{xs ys:List V}{ds es:List D}(s:SqL K F p xs)(r:Reps K F xs ds)(s':SqL K F q ys)(G:Reps K F ys es):ItD K F (Itz2 K p q) (List.zipWith (fun d e=>D.tup [d,e]) ds es) where
 go:=fun i F1 H1 a b hi=>by
  rw[length_zipWith]at hi
  obtain⟨v,e,_⟩:=r.get (getElem?_eq_getElem (show i<ds.length by omega))
  obtain⟨w,S,_⟩:=G.get (getElem?_eq_getElem (show i<es.length by omega))
  exact⟨xs,ys,v,w,b.seq (a.seq s),b.seq (a.seq s'),e,S⟩
 yld:=fun i F1 H1 x H2 d a b e y=>by
  obtain⟨t,u,v,rfl,J,rfl,z,j⟩:=y
  have z:=z xs (b.seq (a.seq s))
  have j:=j ys (b.seq (a.seq s'))
  obtain⟨Y,O,M⟩:=r.get' z
  obtain⟨U,N,L⟩:=G.get' j
  rw[getElem?_zipWith,O,N]at e
  cases e
  refine⟨upd F1 t (.tup [u,v]),Ext.laid b J,.tup (SqT.of v7) ?_⟩
  have I:Same F (upd F1 t (.tup [u,v])):=a.trans ((Same.refl F1).put (b.free J))
  exact .cons (M.mono I) (.cons (L.mono I) .nil)
 stop:=fun F1 H1 a b=>⟨xs,ys,b.seq (a.seq s),b.seq (a.seq s'),by rw[r.length,G.length,length_zipWith];omega⟩
theorem zd8 {es:List Expr}{tk:Nat}{tp:Pos}{a b:Expr}{m:ML}{p pos:Pos}(N:Gl X "zip")(hm:X.mg "zip"=none)(ha:PAs X [a,b] m)(M:starEach [a,b] X.env=[(false,eval a X.env),(false,eval b X.env)]:=by rfl)(G:starEach [b] X.env=[(false,eval b X.env)]:=by rfl):PId X (.Tuple es tk tp) (.Call (.Name "zip" p) [a,b] [] pos) (l5 zip2 m):=PI.imp (xu8 N hm ha M G) fun σ H R i=>by
 obtain⟨F0,H0,F,ρ,its,rl,e,q⟩:=i
 obtain⟨ds,h1,h2⟩:=Z8 e
 refine⟨F0,H0,F,ρ,ds,rl,h1,fun vs F1 H1 j L=>?_⟩
 unfold zip2 at h2
 split at h2
 .cases h2
  cases L with
  |cons r z=>
   cases z with
   |cons J z=>
    cases z
    cases r with
    |lst s t=>
     cases J with
     |lst s2 I=>exact⟨_,_,_,_,rfl,j.fh.seq s,j.fh.seq s2,q _ F1 H1 j (yd7 s t s2 I)⟩
 .cases h2
def G8:List D->List D->List D->List D
 |d::ds,e::es,f::fs=>.tup [d,e,f]::G8 ds es fs
 |_,_,_=>[]
theorem T9:∀ ds es fs,(G8 ds es fs).length=min ds.length (min es.length fs.length)
 |[],_,_=>by simp[G8]
 |_::_,[],_=>by simp[G8]
 |_::_,_::_,[]=>by simp[G8]
 |_::ds,_::es,_::fs=>by simp only[G8,length_cons,T9 ds es fs];omega
theorem zr4:∀ ds es fs (i:Nat) d e f,ds[i]? =some d->es[i]? =some e->fs[i]? =some f->(G8 ds es fs)[i]? =some (.tup [d,e,f])
 |[],_,_,_,_,_,_,h,_,_=>by simp at h
 |_::_,[],_,_,_,_,_,_,h,_=>by simp at h
 |_::_,_::_,[],_,_,_,_,_,_,h=>by simp at h
 |_::ds,_::es,_::fs,0,d,e,f,h1,h2,h3=>by simp at h1 h2 h3;subst h1 h2 h3;rfl
 |_::ds,_::es,_::fs,i+1,d,e,f,h1,h2,h3=>by
  have:=zr4 ds es fs i d e f (by simpa using h1) (by simpa using h2) (by simpa using h3)
  simpa[G8]using this
def zip3:List D->Option (List D)
 |[.lst ds,.lst es,.lst fs]=>some (G8 ds es fs)
 |_=>none
theorem yd6 {K:W.Frag}{F:Hp}{p q o:Addr}{xs ys zs:List V}{ds es fs:List D}(s:SqL K F p xs)(r:Reps K F xs ds)(s':SqL K F q ys)(L:Reps K F ys es)(j:SqL K F o zs)(z:Reps K F zs fs):ItD K F (Itz3 K p q o) (G8 ds es fs) where
 go:=fun i F1 H1 a b hi=>by
  rw[T9]at hi
  obtain⟨v,e,_⟩:=r.get (getElem?_eq_getElem (show i<ds.length by omega))
  obtain⟨w,e',_⟩:=L.get (getElem?_eq_getElem (show i<es.length by omega))
  obtain⟨u,N,_⟩:=z.get (getElem?_eq_getElem (show i<fs.length by omega))
  exact⟨xs,ys,zs,v,w,u,b.seq (a.seq s),b.seq (a.seq s'),b.seq (a.seq j),e,e',N⟩
 yld:=fun i F1 H1 x H2 d a b e y=>by
  obtain⟨t,u,v,w,rfl,O,rfl,J,I,G⟩:=y
  have J:=J xs (b.seq (a.seq s))
  have I:=I ys (b.seq (a.seq s'))
  have G:=G zs (b.seq (a.seq j))
  obtain⟨d1,e1,Y⟩:=r.get' J
  obtain⟨d2,Z,U⟩:=L.get' I
  obtain⟨d3,e3,S⟩:=z.get' G
  rw[zr4 _ _ _ i d1 d2 d3 e1 Z e3]at e
  cases e
  refine⟨upd F1 t (.tup [u,v,w]),Ext.laid b O,.tup (SqT.of v7) ?_⟩
  have M:Same F (upd F1 t (.tup [u,v,w])):=a.trans ((Same.refl F1).put (b.free O))
  exact .cons (Y.mono M) (.cons (U.mono M) (.cons (S.mono M) .nil))
 stop:=fun F1 H1 a b=>⟨xs,ys,zs,b.seq (a.seq s),b.seq (a.seq s'),b.seq (a.seq j),by rw[r.length,L.length,z.length,T9];omega⟩
theorem yf5 {es:List Expr}{tk:Nat}{tp:Pos}{a b c:Expr}{m:ML}{p pos:Pos}(U:Gl X "zip")(hm:X.mg "zip"=none)(ha:PAs X [a,b,c] m)(S:starEach [a,b,c] X.env=(false,eval a X.env)::starEach [b,c] X.env:=by rfl)(G:∀ pos,((backTo pos (starEach [b,c] X.env)).any fun x=>x.1)=false:=by intro _;rfl):PId X (.Tuple es tk tp) (.Call (.Name "zip" p) [a,b,c] [] pos) (l5 zip3 m):=PI.imp (xu7 U hm ha S G) fun σ H R j=>by
 obtain⟨F0,H0,F,ρ,its,rl,e,q⟩:=j
 obtain⟨ds,h1,h2⟩:=Z8 e
 refine⟨F0,H0,F,ρ,ds,rl,h1,fun vs F1 H1 z O=>?_⟩
 unfold zip3 at h2
 split at h2
 .cases h2
  cases O with
  |cons r i=>
   cases i with
   |cons N i=>
    cases i with
    |cons M i=>
    cases i
    cases r with
    |lst s t=>
     cases N with
     |lst s2 L=>
      cases M with
      |lst I J=>exact⟨_,_,_,_,_,_,rfl,z.fh.seq s,z.fh.seq s2,z.fh.seq I,q _ F1 H1 z (yd6 s t s2 L I J)⟩
 .cases h2
def J4:Nat->List D->List D
 |_,[]=>[]
 |i,d::ds=>.tup [.int i,d]::J4 (i+1) ds
theorem Y1:∀ i ds,(J4 i ds).length=ds.length
 |_,[]=>rfl
 |i,_::ds=>by simp[J4,Y1 (i+1) ds]
theorem M5:∀(k:Nat) ds (i:Nat) d,ds[i]? =some d->(J4 k ds)[i]? =some (.tup [.int ((k+i:Nat):Int),d])
 |_,[],_,_,h=>by simp at h
 |k,_::ds,0,d,h=>by simp at h;subst h;rfl
 |k,_::ds,i+1,d,h=>by
  have:=M5 (k+1) ds i d (by simpa using h)
  have e:k+1+i=k+(i+1):=by omega
  rw[e]at this
  simpa[J4]using this
def yw4:List D->Option (List D)
 |[.lst ds]=>some (J4 0 ds)
 |_=>none
theorem yd9 {K:W.Frag}{F:Hp}{p:Addr}{xs:List V}{ds:List D}(s:SqL K F p xs)(r:Reps K F xs ds):ItD K F (Ite K p) (J4 0 ds) where
 go:=fun i F1 H1 a b hi=>by
  rw[Y1]at hi
  obtain⟨v,e,_⟩:=r.get (getElem?_eq_getElem hi)
  exact⟨xs,v,b.seq (a.seq s),e⟩
 yld:=fun i F1 H1 x H2 d a b e y=>by
  obtain⟨t,u,rfl,q,rfl,j⟩:=y
  have j:=j xs (b.seq (a.seq s))
  obtain⟨J,I,z⟩:=r.get' j
  rw[M5 0 ds i J I,Nat.zero_add]at e
  cases e
  refine⟨upd F1 t (.tup [.int i,u]),Ext.laid b q,.tup (SqT.of v7) ?_⟩
  have G:Same F (upd F1 t (.tup [.int i,u])):=a.trans ((Same.refl F1).put (b.free q))
  exact .cons (.int _) (.cons (z.mono G) .nil)
 stop:=fun F1 H1 a b=>⟨xs,b.seq (a.seq s),by rw[r.length,Y1];exact Nat.le_refl _⟩
theorem zd9 {es:List Expr}{tk:Nat}{tp:Pos}{a:Expr}{m:ML}{p pos:Pos}(J:Gl X "enumerate")(hm:X.mg "enumerate"=none)(ha:PAs X [a] m)(I:starEach [a] X.env=[(false,eval a X.env)]:=by rfl):PId X (.Tuple es tk tp) (.Call (.Name "enumerate" p) [a] [] pos) (l5 yw4 m):=PI.imp (xt0 J hm ha I) fun σ H R i=>by
 obtain⟨F0,H0,F,ρ,its,rl,e,q⟩:=i
 obtain⟨ds,h1,h2⟩:=Z8 e
 refine⟨F0,H0,F,ρ,ds,rl,h1,fun vs F1 H1 j G=>?_⟩
 unfold yw4 at h2
 split at h2
 .cases h2
  cases G with
  |cons r z=>
   cases z
   cases r with
   |lst s t=>exact⟨_,_,rfl,j.fh.seq s,q _ F1 H1 j (yd9 s t)⟩
 .cases h2
end
end
section
def forD (g:Tg)(body:MS):List D->MS
 |[],ρ=>some (.nx ρ)
 |d::ds,ρ=>match tgD g d ρ with
  |some ρ1=>match body ρ1 with
   |some (.nx ρ2)=>forD g body ds ρ2
   |some (.ct ρ2)=>forD g body ds ρ2
   |some (.bk ρ2)=>some (.nx ρ2)
   |o=>o
  |none=>none
def mfor (mi:ML)(g:Tg)(body:MS):MS:=fun ρ=>(mi ρ).bind fun its=>forD g body its ρ
theorem Q0 {j:Type}{xs:List j}{i:Nat}{d:j}(h:xs[i]? =some d):xs.drop i=d::xs.drop (i+1):=by
 obtain⟨q,e⟩:=List.getElem?_eq_some_iff.mp h
 rw[drop_eq_getElem_cons q,e]
section
variable {X:Cx}{a b c e:Expr}{ma mb:ME}{pos:Pos}{st:Stmt}{rest:List Stmt}
theorem g8 {tg iter:Expr}{body:List Stmt}{mi:ML}{g:Tg}{mb:MS}(hp:PassesOwn (model X.prog X.w) X.A X.env X.xe)(hc:X.calm=true)(hi:PId X tg iter mi)(hg:PGd X tg g)(hb:PSsd X body mb)
  (hs:∀ x,foldedSetIterable iter X.env x=pure x:=by intro _;rfl):PSd X (.For tg iter body [] pos) (mfor mi g mb):=(xi0 hp hc hi hg hb hs).imp fun Dn σ H U=>by
 obtain⟨F0,H0,F,ρ,o,rl,e,ok⟩:=U
 unfold mfor at e
 cases h1:mi ρ with
 |none=>rw[h1]at e;cases e
 |some its=>
  rw[h1]at e
  have e:forD g mb its ρ=some o:=e
  refine⟨F0,H0,F,ρ,its,rl,h1,fun J F1 H1 x1 I=>?_⟩
  refine⟨fun i m L H'=>∃ F' ρ',Rl X.K F0 H0 F' H' L ρ'/\Same F1 F'/\i<=its.length/\m=its.length-i/\forD g mb (its.drop i) ρ'=some o,⟨_,F1,ρ,rl.go x1,Same.refl _,Nat.zero_le _,rfl,e⟩,?_⟩
  rintro i m L H' ⟨F',ρ',z,O,a2,rfl,j⟩
  by_cases M:i<its.length
  .right
   have hd:=getElem?_eq_getElem M
   refine⟨I.go i F' H' O z.fh M,fun N H2=>∃ F2 ρ2,Rl X.K F0 H0 F2 H2 N ρ2/\Same F1 F2/\forD g mb (its.drop (i+1)) ρ2=some o,?_,fun x H2 y=>?_⟩
   .rintro N H2 ⟨F2,ρ2,rl2,sf2,e2⟩
    exact⟨its.length-(i+1),by omega,F2,ρ2,rl2,sf2,M,rfl,e2⟩
   .obtain⟨F2,x2,r2⟩:=I.yld i F' H' x H2 _ O z.fh hd y
    rw[Q0 hd]at j
    unfold forD at j
    cases h2:tgD g its[i] ρ' with
    |none=>simp only[h2]at j;cases j
    |some ρ1=>
     simp only[h2]at j
     refine⟨F0,H0,F2,ρ',_,ρ1,z.go x2,r2,h2,fun F3 H3 a1 a0 x3=>?_⟩
     have s3:Same F1 F3:=(O.trans x2.ff).trans x3.ff
     cases h3:mb ρ1 with
     |none=>simp only[h3]at j;cases j
     |some o1=>
      simp only[h3]at j
      refine⟨F0,H0,F3,ρ1,o1,a0,h3,?_⟩
      cases o1 with
      |nx ρ2=>exact fun Z H4 G q S=>⟨Z,ρ2,q,s3.trans S,j⟩
      |ct ρ2=>exact fun Z H4 G q S=>⟨Z,ρ2,q,s3.trans S,j⟩
      |bk ρ2=>
       cases j
       exact fun Z H4 G q S=>ok Z H4 G q ((x1.ff.trans s3).trans S)
      |rt d=>cases j;exact ok
      |rf d=>cases j;exact ok
      |rp d ds=>cases j;exact ok
      |rg d p r=>cases j;exact ok
      |rgf d p r=>cases j;exact ok
  .left
   have Y:i=its.length:=by omega
   subst Y
   rw[drop_length]at j
   have j:some (Out.nx ρ')=some o:=j
   cases j
   exact⟨I.stop F' H' O z.fh,ok F' H' L z (x1.ff.trans O)⟩
end
end
section
def zs0 (src:List (Option Nat))(ρ:Ro):Ro:=src.map fun o=>o.bind fun i=>match ρ[i]? with |some (some (.sh d))=>some (.sh d)|_=>none
def U6 (g:Tg)(c:MB)(elt:ME):List D->Ro->List D->Option (List D)
 |[],_,acc=>some acc
 |d::ds,ρ,acc=>match tgD g d ρ with
  |some ρ1=>match c ρ1 with
   |some true=>match elt ρ1 with
    |some x=>if acc.length<sizeLine then U6 g c elt ds ρ1 (acc++[x])else none
    |none=>none
   |some false=>U6 g c elt ds ρ1 acc
   |none=>none
  |none=>none
@[irreducible] def l7 (src:List (Option Nat))(mi:ML)(g:Tg)(c:MB)(elt:ME):ML:=fun ρ=>(mi ρ).bind fun its=>U6 g c elt its (zs0 src ρ) []
def xn1 (ρ:Ro):Prop:=∀(i:Nat) ds,ρ[i]? ≠some (some (.own ds))/\(∀ p,ρ[i]? ≠some (some (.ob p ds)))/\∀ p,ρ[i]? ≠some (some (.rd p ds))
theorem Rl.blk {K:W.Frag}{F0 H0 F H:Hp}{σ:St}{ρ:Ro}(r:Rl K F0 H0 F H σ ρ)(src:List (Option Nat)):Rl K F H F H (blk0 src σ) (zs0 src ρ)/\xn1 (zs0 src ρ):=by
 have G:∀(i:Nat) x,(zs0 src ρ)[i]? =some (some x)->∃ d,x=S.sh d:=fun i x e=>by
  unfold zs0 at e
  rw[getElem?_map]at e
  cases h:src[i]? with
  |none=>rw[h]at e;cases e
  |some o=>
   rw[h]at e
   cases o with
   |none=>cases e
   |some k=>
    simp only[Option.map_some,Option.bind_some]at e
    split at e
    .cases e;exact⟨_,rfl⟩
    .cases e
 have I:xn1 (zs0 src ρ):=fun i ds=>⟨fun e=>(by obtain⟨d,z⟩:=G i _ e;cases z),fun p e=>(by obtain⟨d,z⟩:=G i _ e;cases z),fun p e=>(by obtain⟨d,z⟩:=G i _ e;cases z)⟩
 refine⟨⟨.refl r.fh,by unfold blk0 zs0;simp,fun i d e=>?_,fun i ds e=>absurd e (I i ds).1,fun i j p ds es _ e=>absurd e (I i ds).1,fun i p ds e=>absurd e ((I i ds).2.1 p),fun i j p ds es e=>absurd e ((I i ds).2.1 p),fun i j p q ds es e=>absurd e ((I i ds).2.1 p),fun i q ds e=>absurd e ((I i ds).2.2 q)⟩,I⟩
 unfold zs0 at e
 unfold blk0
 rw[getElem?_map]at e ⊢
 cases h:src[i]? with
 |none=>rw[h]at e;cases e
 |some o=>
  rw[h]at e
  cases o with
  |none=>cases e
  |some k=>
   simp only[Option.map_some,Option.bind_some]at e ⊢
   split at e
   .rename_i d' h'
    cases e
    obtain⟨v,L,J⟩:=r.sh k _ h'
    exact⟨v,by rw[L];rfl,J⟩
   .cases e
def NoRd (ρ:Ro):Prop:=∀(i:Nat) q ds,ρ[i]? ≠some (some (.rd q ds))
theorem NoRd.set {ρ:Ro}(h:NoRd ρ)(i:Nat)(d:D):NoRd (ρ.set i (some (.sh d))):=fun j q ds e=>h j q ds (N5 e).2
theorem NoRd.all:∀(is:List Nat)(ds:List D){ρ ρ':Ro},NoRd ρ->J8 is ds ρ=some ρ'->NoRd ρ'
 |[],[],ρ,ρ',h,e=>by cases e;exact h
 |[],_::_,_,_,_,e=>by cases e
 |_::_,[],_,_,_,e=>by cases e
 |i::is,d::ds,ρ,ρ',h,e=>NoRd.all is ds (h.set i d) e
theorem NoRd.tg {g:Tg}{d:D}{ρ ρ':Ro}(h:NoRd ρ)(e:tgD g d ρ=some ρ'):NoRd ρ':=by
 cases g with
 |nm i=>cases e;exact h.set i d
 |tp is=>cases d <;> first| (cases e;done)|exact NoRd.all is _ h e
 |nt i is=>
  cases d with
  |tup ds=>
   match ds,e with
   |[d,.tup ds],e=>exact NoRd.all is _ (h.set i d) e
  |_=>cases e
theorem Rl.rebase {K:W.Frag}{F1 F H:Hp}{σ:St}{ρ:Ro}{p:Addr}{xs ys:List V}(r:Rl K F1 (upd F1 p (.lst xs)) F H σ ρ)(G:F p=none)(J:F1 p=none)(I:NoRd ρ):Rl K F1 (upd F1 p (.lst ys)) F (upd H p (.lst ys)) σ ρ:=by
 have ne:∀ q,upd F1 p (.lst xs) q=none->q≠p:=fun q z w=>by rw[w,v7]at z;cases z
 refine⟨⟨r.ext.ff,fun b u e=>?_,r.fh.put G,fun b e n=>?_,r.ext.nf⟩,r.len,r.sh,fun i ds e=>?_,r.inj,fun i q ds e=>?_,r.obn,r.ob1,fun i q ds e=>absurd e (I i q ds)⟩
 .by_cases hb:b=p
  .subst hb;rw[v7]at e ⊢;exact e
  .rw[v6 hb]at e ⊢
   exact r.ext.hh b u (by rw[v6 hb];exact e)
 .have hb:b≠p:=fun w=>by rw[w,G]at n;exact n rfl
  rw[v6 hb];exact e
 .obtain⟨q,zs,a,b,c,d,z⟩:=r.own i ds e
  have j:=ne q z
  rw[v6 j]at z
  exact⟨q,zs,a,b,by rw[v6 j];exact c,d,by rw[v6 j];exact z⟩
 .obtain⟨a,b,z,zs,c,d⟩:=r.ob i q ds e
  have j:=ne q z
  rw[v6 j]at z
  exact⟨a,b,by rw[v6 j];exact z,zs,by rw[v6 j];exact c,d⟩
theorem Ext.acc {F H F' H':Hp}{p:Addr}{o:HO}(x:Ext F H F' H')(i:H p=none)(j:F' p=none):Ext F H F' (upd H' p o):=⟨x.ff,x.hh.put i,x.fh.put j,x.new,x.nf⟩
theorem Ext.stay {F' H' q G:Hp}{p:Addr}{o:HO}(z:Ext F' H' q G)(j:F' p=none)(i:H' p=some o):q p=none:=by
 cases qq:q p with
 |none=>rfl
 |some u=>have:=z.new p j (by rw[qq];simp);rw[this]at i;cases i
theorem Rl.noB {K:W.Frag}{F H:Hp}{σ:St}{ρ:Ro}{p:Addr}(r:Rl K F H F H σ ρ)(j:xn1 ρ)(G:H p=none):Rl K F (upd F p (.lst [])) F (upd H p (.lst [])) σ ρ:=
 ⟨⟨Same.refl F,r.fh.put2,r.fh.put (r.fh.free G),fun b e n=>absurd e n,fun _ _ _ z=>z⟩,r.len,r.sh,fun i ds e=>absurd e (j i ds).1,r.inj,fun i p ds e=>absurd e ((j i ds).2.1 p),r.obn,r.ob1,fun i q ds e=>absurd e ((j i ds).2.2 q)⟩
theorem yw5 {g:Tg}{c:MB}{elt:ME}{d:D}{ds acc out:List D}{ρ:Ro}(h:U6 g c elt (d::ds) ρ acc=some out):∃ ρ1,tgD g d ρ=some ρ1/\((c ρ1=some false/\U6 g c elt ds ρ1 acc=some out)\/∃ x,c ρ1=some true/\elt ρ1=some x/\acc.length<sizeLine/\U6 g c elt ds ρ1 (acc++[x])=some out):=by
 rw[U6]at h
 cases h2:tgD g d ρ with
 |none=>rw[h2]at h;cases h
 |some ρ1=>
  rw[h2]at h
  simp only at h
  refine⟨ρ1,rfl,?_⟩
  cases h3:c ρ1 with
  |none=>rw[h3]at h;cases h
  |some k=>
   rw[h3]at h
   cases k with
   |false=>exact .inl ⟨rfl,h⟩
   |true=>
    simp only at h
    cases h4:elt ρ1 with
    |none=>rw[h4]at h;cases h
    |some x=>
     rw[h4]at h
     simp only at h
     by_cases i:acc.length<sizeLine
     .rw[if_pos i]at h;exact .inr ⟨x,rfl,rfl,i,h⟩
     .rw[if_neg i]at h;cases h
theorem yk5 {K:PySem.W.Frag}{src:List (Option Nat)}{g:Tg}{c:MB}{elt:ME}{its out:List D}{F1 H1:Hp}{σ:St}{Y:Ro}{p:Addr}{J:It}{Q:VK}(f1:Same F1 H1)(hp:H1 p=none)(rb:Rl K F1 (upd F1 p (.lst [])) F1 (upd H1 p (.lst [])) (blk0 src σ) Y)(nr:NoRd Y)(I:ItD K F1 J its)(e:U6 g c elt its Y []=some out)
  (q:∀ xs F' H',Ext F1 H1 F' H'->F' p=none->H' p=some (.lst xs)->Reps K F' xs out->Q (.ref p) H'):
  ∃ W:Nat->Nat->St->Hp->Prop,(∃ m,W 0 m (blk0 src σ) (upd H1 p (.lst [])))/\∀ i m L H',W i m L H'->
   (J.stop i H'/\Q (.ref p) H')\/(J.go i H'/\∃ N:St->Hp->Prop,(∀ G H2,N G H2->∃ m',m'<m/\W (i+1) m' G H2)/\∀ x H2,J.yld i H' x H2->TGd K g x L H2 fun z H3=>TC K c z H3 fun b H4=>
    if b=true then TD K elt z H4 fun y H5=>∃ xs,H5 p=some (.lst xs)/\xs.length<sizeLine/\N z (upd H5 p (.lst (xs++[y])))else N z H4):=by
 have a3:F1 p=none:=f1.free hp
 refine⟨fun i m L H'=>∃ F' ρ' acc xs,Rl K F1 (upd F1 p (.lst xs)) F' H' L ρ'/\Ext F1 H1 F' H'/\H' p=some (.lst xs)/\F' p=none/\Reps K F' xs acc/\i<=its.length/\m=its.length-i/\U6 g c elt (its.drop i) ρ' acc=some out/\NoRd ρ',
  ⟨_,F1,Y,[],[],rb,(Ext.refl f1).acc hp a3,v7,a3,.nil,Nat.zero_le _,rfl,e,nr⟩,?_⟩
 clear rb e nr
 rintro i m L H' ⟨F',ρ',acc,xs,a1,xe,U,a4,ra,a8,rfl,e',a7⟩
 by_cases S:i<its.length
 .right
  have hd:=getElem?_eq_getElem S
  refine⟨I.go i F' H' xe.ff a1.fh S,fun G H2=>∃ F2 ρ2 j M,Rl K F1 (upd F1 p (.lst M)) F2 H2 G ρ2/\Ext F1 H1 F2 H2/\H2 p=some (.lst M)/\F2 p=none/\Reps K F2 M j/\U6 g c elt (its.drop (i+1)) ρ2 j=some out/\NoRd ρ2,?_,fun x H2 y=>?_⟩
  .rintro G H2 ⟨F2,ρ2,j,M,b1,b2,b3,b4,b5,b6,b7⟩
   exact⟨its.length-(i+1),Nat.sub_lt_sub_left S (Nat.lt_succ_self i),F2,ρ2,j,M,b1,b2,b3,b4,b5,S,rfl,b6,b7⟩
  .obtain⟨F2,x2,r2⟩:=I.yld i F' H' x H2 _ xe.ff a1.fh hd y
   rw[Q0 hd]at e'
   obtain⟨ρ1,h2,e3⟩:=yw5 e'
   have a2:=a7.tg h2
   clear e' I q y hd
   refine⟨F1,_,F2,ρ',_,ρ1,a1.go x2,r2,h2,fun F3 H3 z O x3=>?_⟩
   have a5:=x2.trans x3
   rcases e3 with⟨h3,e4⟩|⟨d,h3,h4,hz,e4⟩
   .refine⟨F1,_,F3,ρ1,false,O,h3,fun F4 H4 x4=>?_⟩
    have a0:=a5.trans x4
    exact iteF ⟨F4,ρ1,acc,xs,O.go x4,xe.trans a0,a0.hh _ _ U,a0.stay a4 U,ra.mono a0.ff,e4,a2⟩
   .refine⟨F1,_,F3,ρ1,true,O,h3,fun F4 H4 x4=>iteT ⟨F1,_,F4,ρ1,d,O.go x4,h4,fun v F5 H5 x5 r5=>?_⟩⟩
    have Z:=(a5.trans x4).trans x5
    have pn:=Z.stay a4 U
    exact⟨xs,Z.hh _ _ U,by rw[ra.length];exact hz,F5,ρ1,acc++[d],xs++[v],((O.go x4).go x5).rebase pn a3 a2,(xe.trans Z).acc hp pn,v7,pn,(ra.mono Z.ff).append (.cons r5 .nil),e4,a2⟩
 .left
  have a6:i=its.length:=Nat.le_antisymm a8 (Nat.le_of_not_lt S)
  subst a6
  rw[drop_length]at e'
  have e':some acc=some out:=e'
  cases e'
  exact⟨I.stop F' H' xe.ff a1.fh,q xs F' H' xe a4 U ra⟩
section
variable {X:Cx}{a b c e:Expr}{ma mb:ME}{pos:Pos}{st:Stmt}{rest:List Stmt}
def PTsd (X:Cx)(ifs:List Expr)(c:MB):Prop:=PTs X ifs (TC X.K c)
def cyes:MB:=fun _=>some true
theorem i9:PTsd X [] cyes:=fun pins s σ H Q I i=>by
 obtain⟨F0,H0,F,ρ,b,rl,e,q⟩:=i
 cases e
 exact xu0 pins s σ H Q I (q F H (.refl rl.fh))
theorem N8 {ca:MB}(h:PC' X c ca):PTsd X [c] ca:=xv9 h
theorem zg4 {K:W.Frag}{src:List (Option Nat)}{mi:ML}{g:Tg}{c:MB}{elt:ME}{σ:St}{H:Hp}{Q:VK}(h:TF K (l7 src mi g c elt) σ H Q):yu4 src (TId K mi) (TGd K g) (TC K c) (TD K elt) σ H Q:=by
 obtain⟨F0,H0,F,ρ,out,rl,e,q⟩:=h
 unfold l7 at e
 cases h1:mi ρ with
 |none=>rw[h1]at e;cases e
 |some its=>
  rw[h1]at e
  refine⟨F0,H0,F,ρ,its,rl,h1,fun J F1 H1 j I p z=>?_⟩
  obtain⟨rb,M⟩:=(rl.go j).blk src
  exact yk5 j.fh z (rb.noB M z) (fun i q ds=>(M i ds).2.2 q) I e fun xs F' H' xe L G N=>q p xs F' H' (j.trans xe) (j.hh.free z) L G N
theorem d8 {sc:Scope}{N:List Str}{src:List (Option Nat)}{tg elt iter:Expr}{i:List Expr}{mi:ML}{g:Tg}{cc:MB}{j:ME}(B:Blk X sc N src)(J:X.calm=true)
  (hi:PId X tg iter mi) (G:∀ C fp s H,PGd (f9 X sc C N fp s H) tg g) (q:∀ C fp s H,PTsd (f9 X sc C N fp s H) i cc) (I:∀ C fp s H,PD (f9 X sc C N fp s H) elt j)
  (z:∀ x,foldedSetIterable iter X.env x=pure x:=by intro _;rfl):
  PF X (.ListComp elt [⟨tg,iter,i,0⟩] sc pos) (l7 src mi g cc j):=(xt3 (g:=TGd X.K g) (tc:=TC X.K cc) (te:=TD X.K j) B J hi (fun C fp s H=>G C fp s H) (fun C fp s H=>q C fp s H) (fun C fp s H=>I C fp s H) z).imp fun _ _ _ h=>zg4 h
theorem xz8 {mf:ML}{σ:St}{H:Hp}{Q:VK}(h:TD X.K (mlst mf) σ H Q):TF X.K mf σ H Q:=by
 obtain⟨F0,H0,F,ρ,d,r,e,q⟩:=h
 unfold mlst at e
 cases hm:mf ρ with
 |none=>rw[hm]at e;cases e
 |some ds=>
  rw[hm]at e;cases e
  refine⟨F0,H0,F,ρ,ds,r,hm,fun p xs F' H' x z i G j=>?_⟩
  exact q _ (upd F' p (.lst xs)) H' (x.freeze i z G) (.lst (SqL.of v7) (j.mono ((Same.refl F').put i)))
theorem zd6 {i:Nat}{src:List (Option Nat)}{mi:ML}{g:Tg}{cc:MB}{j:ME}(h:PS X st (tAsg (yu4 src (TId X.K mi) (TGd X.K g) (TC X.K cc) (TD X.K j)) (J3 i))):PSd X st (Y9 i (l7 src mi g cc j)):=xb4 h fun _ _ _ q=>zg4 q
theorem zp1 {i:Nat}{src:List (Option Nat)}{mi:ML}{g:Tg}{cc:MB}{j:ME}(h:PS X st (tAsg (yu4 src (TId X.K mi) (TGd X.K g) (TC X.K cc) (TD X.K j)) (J3 i))):PSd X st (mset i (mlst (l7 src mi g cc j))):=xo6 h fun _ _ _ q=>zg4 (xz8 q)
def U9 (c:MB)(body:MS):Nat->MS
 |0,_=>none
 |n+1,ρ=>match c ρ with
  |some true=>match body ρ with
   |some (.nx ρ2)=>U9 c body n ρ2
   |some (.ct ρ2)=>U9 c body n ρ2
   |some (.bk ρ2)=>some (.nx ρ2)
   |o=>o
  |some false=>some (.nx ρ)
  |none=>none
theorem zp0 {body:List Stmt}{ca:MB}{mb:MS}(n:Nat)(Y:PassesOwn (model X.prog X.w) X.A X.env X.xe)(Z:PC' X c ca)(hb:PSsd X body mb):PSd X (.While c body [] pos) (U9 ca mb n):=(yf3 Y Z hb).imp fun Dn σ H L=>by
 obtain⟨F0,H0,F,ρ,o,rl,e,ok⟩:=L
 refine⟨fun m z H'=>∃ F' ρ',Rl X.K F0 H0 F' H' z ρ'/\Same F F'/\U9 ca mb m ρ'=some o,⟨n,F,ρ,rl,Same.refl _,e⟩,?_⟩
 rintro m z H' ⟨F',ρ',G,S,i⟩
 cases m with
 |zero=>cases i
 |succ m=>
  unfold U9 at i
  cases h1:ca ρ' with
  |none=>simp only[h1]at i;cases i
  |some k=>
   refine⟨F0,H0,F',ρ',k,G,h1,fun F1 H1 N=>?_⟩
   cases k with
   |false=>
    simp only[h1]at i
    cases i
    exact iteF (ok F1 H1 z (G.go N) (S.trans N.ff))
   |true=>
    simp only[h1]at i
    refine iteT ⟨fun I H2=>∃ F2 ρ2,Rl X.K F0 H0 F2 H2 I ρ2/\Same F F2/\U9 ca mb m ρ2=some o,fun I H2 ⟨F2,ρ2,a1,a2,a3⟩=>⟨m,Nat.lt_succ_self m,F2,ρ2,a1,a2,a3⟩,?_⟩
    cases h2:mb ρ' with
    |none=>simp only[h2]at i;cases i
    |some U=>
     simp only[h2]at i
     refine⟨F0,H0,F1,ρ',U,G.go N,h2,?_⟩
     have s1:=S.trans N.ff
     cases U with
     |nx ρ2=>exact fun M O q j J=>⟨M,ρ2,j,s1.trans J,i⟩
     |ct ρ2=>exact fun M O q j J=>⟨M,ρ2,j,s1.trans J,i⟩
     |bk ρ2=>cases i;exact fun M O q j J=>ok M O q j (s1.trans J)
     |rt d=>cases i;exact ok
     |rf d=>cases i;exact ok
     |rp d ds=>cases i;exact ok
     |rg d p r=>cases i;exact ok
     |rgf d p r=>cases i;exact ok
inductive Rt where
 |sh (d:D)|fr (ds:List D)|pr (d:D) (ds:List D)
abbrev MF:=List D->Option Rt
def okT (K:W.Frag)(F H:Hp)(Q:VK):Rt->Prop
 | .sh d=>∀ v F' H',Ext F H F' H'->Rep K F' v d->Q v H'
 | .fr ds=>∀ p xs F' H',Ext F H F' H'->H p=none->F' p=none->H' p=some (.lst xs)->Reps K F' xs ds->Q (.ref p) H'
 | .pr d ds=>∀ t v p xs F' H',Ext F H F' H'->H t=none->H p=none->t≠p->F' t=none->F' p=none->H' t=some (.tup [v,.ref p])->H' p=some (.lst xs)->Rep K F' v d->Reps K F' xs ds->Q (.ref t) H'
def spR (K:W.Frag)(n:Nat)(m:MF):Sp:=fun vs H Q _=>vs.length=n/\∃ F ds r,Same F H/\Reps K F vs ds/\m ds=some r/\okT K F H Q r
def f7 (n:Nat)(ds:List D):Ro:=ds.map (fun d=>some (.sh d))++List.replicate (n-ds.length) none
def runB (n:Nat)(m:MS):MF:=fun ds=>match m (f7 n ds)with
 |some (.nx _)=>some (.sh .non)
 |some (.rt d)=>some (.sh d)
 |some (.rf es)=>some (.fr es)
 |some (.rp d es)=>some (.pr d es)
 |_=>none
theorem zv9 {K:W.Frag}{F H:Hp}{N:List Str}{vs:List V}{ds:List D}(s:Same F H)(r:Reps K F vs ds):Rl K F H F H (start N vs) (f7 N.length ds):=by
 have get:∀(i:Nat) x,(f7 N.length ds)[i]? =some (some x)->∃ d,x=S.sh d/\ds[i]? =some d:=fun i x e=>by
  unfold f7 at e
  by_cases hi:i<ds.length
  .rw[getElem?_append_left (by simpa using hi),getElem?_map]at e
   cases q:ds[i]? with
   |none=>rw[q]at e;cases e
   |some d=>rw[q]at e;cases e;exact⟨d,rfl,rfl⟩
  .rw[getElem?_append_right (by simpa using hi),getElem?_replicate]at e
   split at e <;> cases e
 refine⟨.refl s,?_,fun i d e=>?_,fun i ds e=>?_,fun i j p ds es _ e=>?_,fun i p ds e=>?_,fun i j p ds es e=>?_,fun i j p q ds es e=>?_,fun i q ds e=>(by obtain⟨d',z,_⟩:=get i _ e;cases z)⟩
 .unfold start f7;simp[r.length]
 .obtain⟨d',z,e2⟩:=get i _ e
  cases z
  obtain⟨v,e3,I⟩:=r.get e2
  have G:i<vs.length:=(List.getElem?_eq_some_iff.mp e3).1
  refine⟨v,?_,I⟩
  unfold start
  rw[getElem?_append_left (by simpa using G),getElem?_map,e3];rfl
 .obtain⟨d',z,_⟩:=get i _ e
  cases z
 .obtain⟨d',z,_⟩:=get i _ e
  cases z
 .obtain⟨d',z,_⟩:=get i _ e
  cases z
 .obtain⟨d',z,_⟩:=get i _ e
  cases z
 .obtain⟨d',z,_⟩:=get i _ e
  cases z
theorem Fun.okD {P:Program}{w:World}{K:W.Frag}{mg:Str->Option Value}{base:Heap}{x qual:Str}{st:Stmt}{f:Addr}{fd:FuncData}{N ps:List Str}{k:Nat}{m:MS}(J:Fun K x qual st f fd)(I:FnScope N ps (y9 st))
  (i:∀(cdv:Value)(A:Around)(outer:List Env)(s:Shared)(H:Hp)(E:XK),Room k (A.deeper (envOfC qual (y9 st) s.heap.objs.size f cdv))->PSsd (cxOf CX0 P w K mg base N qual (y9 st) f cdv A outer s H E).nox (u7 st) m):
  FnOk P w K mg base CX0 (k+1) f fd ps (spR K ps.length (runB N.length m)):=by
 refine J.ok I (fun vs H Q E h=>h.1) fun cdv A outer s H vs Q E G h=>?_
 obtain⟨L,F,ds,r,q,z,e,ok⟩:=h
 unfold runB at e
 cases h1:m (f7 N.length ds)with
 |none=>rw[h1]at e;cases e
 |some o=>
  rw[h1]at e
  refine⟨_,i cdv A outer s H E G,F,H,F,f7 N.length ds,o,zv9 q z,h1,?_⟩
  cases o with
  |nx ρ=>cases e;exact fun F' H' j rl _=>ok .non F' H' rl.ext .non
  |rt d=>cases e;exact ok
  |rf es=>cases e;exact ok
  |rp d es=>cases e;exact ok
  |rg d p r=>cases e
  |rgf d p r=>cases e
  |bk ρ=>cases e
  |ct ρ=>cases e
@[irreducible] def u5 (f:MF)(m:ML):ME:=fun ρ=>(m ρ).bind fun ds=>match f ds with |some (.sh d)=>some d|some (.fr es)=>some (.lst es)|some (.pr d es)=>some (.tup [d,.lst es])|none=>none
@[irreducible] def zo2 (f:MF)(m:ML):ML:=fun ρ=>(m ρ).bind fun ds=>match f ds with |some (.fr es)=>some es|_=>none
variable {E:XK}{es:List Expr}{mf:MF}{m:ML}
theorem v5 {n:Nat}(h:∀ t,PA X es t->PE X e (yh9 (spR X.K n mf) [] E t))(hl:es.length=n)(ha:PAs X es m)(hm:∀ ρ ds,m ρ=some ds->ds.length=es.length):PD X e (u5 mf m):=(h _ ha).imp fun σ H Q G=>by
 obtain⟨F0,H0,F,ρ,d,rl,e,q⟩:=G
 unfold u5 at e
 cases h1:m ρ with
 |none=>rw[h1]at e;cases e
 |some ds=>
  rw[h1]at e
  refine⟨F0,H0,F,ρ,ds,rl,h1,fun vs F1 H1 j L=>?_⟩
  dsimp only[Option.bind]at e
  show spR X.K n mf (vs++[]) H1 Q E
  rw[append_nil]
  refine⟨by rw[L.length,hm ρ ds h1,hl],F1,ds,?_⟩
  split at e
  .rename_i d' h2
   cases e
   exact⟨_,j.fh,L,h2,fun v F2 H2 z M=>q v F2 H2 (j.trans z) M⟩
  .rename_i es' h2
   cases e
   exact⟨_,j.fh,L,h2,fun p xs F2 H2 z N Z hH M=>q _ (upd F2 p (.lst xs)) H2 (j.trans (z.freeze Z N hH)) (.lst (SqL.of v7) (M.mono ((Same.refl F2).put Z)))⟩
  .rename_i d' es' h2
   cases e
   refine⟨_,j.fh,L,h2,fun t v p xs F2 H2 z ht N I U J O S rv rs=>?_⟩
   have x3:=z.freeze J N S
   have i:upd F2 p (.lst xs) t=none:=by rw[v6 I];exact U
   have s2:Same F2 (upd F2 p (.lst xs)):=(Same.refl F2).put J
   have Y:Same (upd F2 p (.lst xs)) (upd (upd F2 p (.lst xs)) t (.tup [v,.ref p])):=(Same.refl _).put i
   exact q _ (upd (upd F2 p (.lst xs)) t (.tup [v,.ref p])) H2 (j.trans (x3.freeze i ht O)) (.tup (SqT.of v7) (.cons (rv.mono (s2.trans Y)) (.cons (.lst (SqL.of (by rw[v6 (Ne.symm I)];exact v7)) (rs.mono (s2.trans Y))) .nil)))
  .cases e
theorem xt1 {n:Nat}(h:∀ t,PA X es t->PE X e (yh9 (spR X.K n mf) [] E t))(L:es.length=n)(ha:PAs X es m)(hm:∀ ρ ds,m ρ=some ds->ds.length=es.length):PF X e (zo2 mf m):=(h _ ha).imp fun σ H Q i=>by
 obtain⟨F0,H0,F,ρ,d,rl,e,q⟩:=i
 unfold zo2 at e
 cases h1:m ρ with
 |none=>rw[h1]at e;cases e
 |some ds=>
  rw[h1]at e
  refine⟨F0,H0,F,ρ,ds,rl,h1,fun vs F1 H1 j z=>?_⟩
  dsimp only[Option.bind]at e
  show spR X.K n mf (vs++[]) H1 Q E
  rw[append_nil]
  refine⟨by rw[z.length,hm ρ ds h1,L],F1,ds,?_⟩
  split at e
  .rename_i es' h2
   cases e
   exact⟨_,j.fh,z,h2,fun p xs F2 H2 G J N M I=>q p xs F2 H2 (j.trans G) (j.hh.free J) N M I⟩
  .cases e
theorem w5 (ρ:Ro)(ds:List D)(h:anil ρ=some ds):ds.length=0:=by cases h;rfl
theorem z7 {x:ME}{r:ML}{n:Nat}(i:∀ ρ ds,r ρ=some ds->ds.length=n)(ρ:Ro)(ds:List D)(h:z8 x r ρ=some ds):ds.length=n+1:=by
 obtain⟨d,es,_,h2,rfl⟩:=zw9 h
 rw[length_cons,i ρ es h2]
end
end
section
section
variable {X:Cx}{a b c e:Expr}{ma mb:ME}{pos:Pos}
def bl2 (g:Bool->Bool->Bool):D->D->Option D
 | .bl i,.bl j=>some (.bl (g i j))
 |_,_=>none
def wz7:List V->Hp->VK->Prop:=fun vs H Q=>∃ j:Int,vs=[.int j]/\∀ p,H p=none->Q (.ref p) (upd H p (.rng 0 j))
theorem yj2:CallR X (.type "range") wz7:=by
 intro pins s σ H xs us Q I r h
 obtain⟨j,rfl,q⟩:=h
 obtain⟨u,rfl,t,rfl⟩:=P6 r
 refine call_range_1 ⟨.ref s.heap.objs.size,_,I.laid (o:=.rng 0 j) (fun b o e=>Heap.get?_push_of_some _ e) (Nat.le_refl _) ⟨_,_,_,Heap.get?_push_size _ rfl⟩,rfl,q _ I.fresh⟩
def wz6:List V->Hp->VK->Prop:=fun vs H Q=>∃ i j:Int,vs=[.int i,.int j]/\∀ p,H p=none->Q (.ref p) (upd H p (.rng i j))
theorem yj1:CallR X (.type "range") wz6:=by
 intro pins s σ H xs us Q I r h
 obtain⟨i,j,rfl,q⟩:=h
 obtain⟨u,w,rfl,⟨t,rfl⟩,⟨t',rfl⟩⟩:=zr8 r
 refine call_range_2 ⟨.ref s.heap.objs.size,_,I.laid (o:=.rng i j) (fun b o e=>Heap.get?_push_of_some _ e) (Nat.le_refl _) ⟨_,_,_,Heap.get?_push_size _ rfl⟩,rfl,q _ I.fresh⟩
theorem C4 {K:W.Frag}{F:Hp}:∀ ns:List Int,Reps K F (ns.map V.int) (ns.map D.int)
 |[]=>.nil
 |n::ns=>.cons (.int n) (C4 ns)
theorem xm5 {K:W.Frag}{m:MF}(h:∀ ns:List Int,ns.length<=63->m [.lst (ns.map .int)]=some (.sh (.bl true)))(H:Hp)(a:Addr)(ns:List Int)(i:ns.length<=63)(j:SqL K H a (ns.map V.int))(E:XK):
  spR K 1 m [.ref a] H (fun v _=>v= .bl true) E:=
 ⟨rfl,H,_,_,Same.refl H,.cons (.lst j (C4 ns)) .nil,h ns i,fun v F' H' _ r=>by cases r;rfl⟩
end
end
section
def xo5 (fsc:Scope)(fN:List Str)(sc:Scope)(N:List Str)(src:List (Option Nat)):Bool:=
 (sc.kind== .function)&&sc.names.all (fun y=>y.2 != .cell)&&sc.names.all (fun y=>y.2 != .local || sc.names.lookup y.1==some .local)
  &&sc.names.all (fun y=>y.2 != .free || (fsc.names.lookup y.1==some .cell || fsc.names.lookup y.1==some .free))&&(src.length==N.length)
  &&(List.range src.length).all fun j=>match src[j]? with
   |some (some i)=>match N[j]? with
    |some x=>fN[i]? ==some x&&sc.names.lookup x==some .free
    |none=>false
   |_=>true
theorem b9 {X:Cx}{sc:Scope}{N:List Str}{src:List (Option Nat)}(q:Scope)(J:List Str)(h1:X.env.scope=q)(h2:X.N=J)(h:xo5 q J sc N src=true):Blk X sc N src:=by
 unfold xo5 at h
 simp only[Bool.and_eq_true,all_eq_true,beq_iff_eq,Bool.or_eq_true,bne_iff_ne,ne_eq]at h
 obtain⟨⟨⟨⟨⟨Y,U⟩,S⟩,O⟩,M⟩,L⟩:=h
 refine⟨Y,U,fun y G I=>?_,fun y G I=>?_,fun j i e=>?_,M⟩
 .rcases S y G with z|z
  .exact absurd I z
  .exact z
 .have k:∀ x,X.env.kindOf x=q.names.lookup x:=fun x=>by rw[<-h1];rfl
  rw[k]
  rcases O y G with z|z
  .exact absurd I z
  .exact z
 .have hj:j<src.length:=(List.getElem?_eq_some_iff.mp e).1
  have:=L j (List.mem_range.mpr hj)
  rw[e]at this
  simp only at this
  cases hx:N[j]? with
  |none=>rw[hx]at this;cases this
  |some x=>
   rw[hx]at this
   simp only[Bool.and_eq_true,beq_iff_eq]at this
   exact⟨x,rfl,by rw[h2];exact this.1,this.2⟩
end
section
theorem B0 {X:Cx}{a:Expr}{i:ML}{lo hi:Option Expr}{l h:MO}{p2 pos:Pos}(ha:PB X a i)(j:POs X lo l)(hh:POs X hi h):PF X (.Subscript a (.Slice lo hi none p2) pos) (mcut i l h):=xi4 ha j hh (yf7 xw5 ha j hh)
end
section
def zipE (f:D->D->Option Bool):List D->List D->Option Bool
 |d::ds,e::es=>(f d e).bind fun a=>(zipE f ds es).bind fun b=>some (a&&b)
 |_,_=>some true
def eqF:Nat->D->D->Option Bool
 |0,_,_=>none
 |n+1,.lst ds,.lst es=>if ds.length=es.length then zipE (eqF n) ds es else some false
 |n+1,.tup ds,.tup es=>(zipE (eqF n) ds es).map fun b=>b&&ds.length==es.length
 |_+1,d,e=>eqS d e
theorem zv0 {f:D->D->Option Bool}:∀{ds es:List D}{k:Bool},zipE f ds es=some k->∃ g:Nat->Bool,(∀ j d e,ds[j]? =some d->es[j]? =some e->f d e=some (g j))/\k=(List.range (min ds.length es.length)).all g
 |[],es,k,h=>by
  have h:some true=some k:=by simpa[zipE]using h
  cases h
  exact⟨fun _=>true,by simp,by simp⟩
 |_::_,[],k,h=>by
  have h:some true=some k:=by simpa[zipE]using h
  cases h
  exact⟨fun _=>true,by simp,by simp⟩
 |d::ds,e::es,k,h=>by
  unfold zipE at h
  cases h1:f d e with
  |none=>rw[h1]at h;cases h
  |some a=>
   rw[h1]at h
   cases h2:zipE f ds es with
   |none=>rw[h2]at h;cases h
   |some b=>
    rw[h2]at h
    have h:some (a&&b)=some k:=h
    cases h
    obtain⟨g,q,i⟩:=zv0 h2
    refine⟨fun j=>match j with |0=>a|j+1=>g j,?_,?_⟩
    .intro j d' e' hd he
     cases j with
     |zero=>simp at hd he;subst hd he;exact h1
     |succ j=>exact q j d' e' (by simpa using hd) (by simpa using he)
    .rw[i,length_cons,length_cons,Nat.add_min_add_right,range_succ_eq_map,all_cons,all_map]
     rfl
section
variable {X:Cx}{pins:List (Addr×Obj)}{σ:St}{H:Hp}{s:Shared}
theorem Inv.xat (I:Inv X pins σ H s){a C:Addr}(h:H a=some (.ext (XAt a C))):XAt a C s.heap:=(show ObjOk X.prog X.w H s.heap a (.ext (XAt a C))from I.hok a _ h).1
theorem D7 {f:D->D->Option Bool}(i:∀{v:V}{d e:D}{k:Bool},Rep X.K H v d->Rep X.K H v e->f d e=some k->k=true):∀{vs:List V}{ds es:List D}{k:Bool},Reps X.K H vs ds->Reps X.K H vs es->zipE f ds es=some k->k=true
 |_,_,_,_,.nil,.nil,h=>by simp[zipE]at h;exact h
 |_::_,d::ds,e::es,k,.cons r1 s1,.cons r2 s2,h=>by
  unfold zipE at h
  cases h1:f d e with
  |none=>rw[h1]at h;cases h
  |some a=>
   rw[h1]at h
   cases h2:zipE f ds es with
   |none=>rw[h2]at h;cases h
   |some b=>
    rw[h2]at h
    have h:some (a&&b)=some k:=h
    cases h
    rw[i r1 r2 h1,D7 i s1 s2 h2];rfl
theorem Rep.eqT (I:Inv X pins σ H s):∀(n:Nat){v:V}{d e:D}{k:Bool},Rep X.K H v d->Rep X.K H v e->eqF n d e=some k->k=true
 |0,_,_,_,_,_,_,h=>by simp[eqF]at h
 |n+1,v,d,e,k,r1,r2,h=>by
  cases r1 with
  |non=>cases r2;exact(Option.some.inj (show some true=some k from h)).symm
  |bl b=>cases r2;exact(Option.some.inj (show some (b==b)=some k from h)).symm.trans (beq_self_eq_true b)
  |int b=>cases r2;exact(Option.some.inj (show some (b==b)=some k from h)).symm.trans (beq_self_eq_true b)
  |str b=>cases r2;exact(Option.some.inj (show some (b==b)=some k from h)).symm.trans (beq_self_eq_true b)
  |lst z q=>
   cases r2 with
   |lst j i=>
    have e:=I.list_inj z j
    subst e
    simp only[eqF]at h
    split at h
    .exact D7 (fun a b c=>Rep.eqT I n a b c) q i h
    .rename_i hl;exact absurd (q.length.symm.trans i.length) hl
   |_=>cases h
  |tup z q=>
   cases r2 with
   |tup j i=>
    have e:=I.tuple_inj z j
    subst e
    simp only[eqF]at h
    cases hz:zipE (eqF n) _ _ with
    |none=>rw[hz]at h;cases h
    |some G=>
     rw[hz]at h
     have h:=Option.some.inj h
     rw[<-h,D7 (fun a b c=>Rep.eqT I n a b c) q i hz,q.length.symm.trans i.length]
     simp
   |_=>cases h
  |_=>cases h
open PySem.SeqAt in
theorem xb0 {K:W.Frag}{H:Hp}{A:Around}{s:Shared}{x y:V}{v u:Value}{d e:D}{k:Bool}(I:Rep K H x d)(G:Rep K H y e)(q:RelV x v)(j:RelV y u)(h:eqS d e=some k):EqAt A s v u k/\RcAt A s v u k/\RcNeAt A s v u (!k):=by
 obtain⟨L,z⟩:=zh9 d e k h
 rw[yw3 h I]at q
 rw[yw3 z G]at j
 clear I G z
 cases d with
 |non=>
  cases q
  cases e with
  |non=>cases j;cases h;exact⟨EqAt.same _,.none_none,.none_none⟩
  |bl b=>cases j;cases h;exact⟨.none_bool _,.none_bool _,.none_bool _⟩
  |int b=>obtain⟨t,rfl⟩:=j;cases h;exact⟨.none_int _ _,.none_int _ _,.none_int _ _⟩
  |str b=>obtain⟨t,rfl⟩:=j;cases h;exact⟨.none_str _ _,.none_str _ _,.none_str _ _⟩
  |_=>cases h
 |bl i=>
  cases q
  cases e with
  |non=>cases j;cases h;exact⟨.bool_none _,.bool_none _,.bool_none _⟩
  |bl b=>cases j;cases h;exact⟨.bool_bool _ _,.bool_bool _ _,.bool_bool _ _⟩
  |str b=>obtain⟨t,rfl⟩:=j;cases h;exact⟨.bool_str _ _ _,.bool_str _ _ _,.bool_str _ _ _⟩
  |_=>cases h
 |int i=>
  obtain⟨J,rfl⟩:=q
  cases e with
  |non=>cases j;cases h;exact⟨.int_none _ _,.int_none _ _,.int_none _ _⟩
  |int b=>obtain⟨t,rfl⟩:=j;cases h;exact⟨.int_int _ _ _ _,.int_int _ _ _ _,.int_int _ _ _ _⟩
  |str b=>obtain⟨t,rfl⟩:=j;cases h;exact⟨.int_str _ _ _ _,.int_str _ _ _ _,.int_str _ _ _ _⟩
  |_=>cases h
 |str i=>
  obtain⟨J,rfl⟩:=q
  cases e with
  |non=>cases j;cases h;exact⟨.str_none _ _,.str_none _ _,.str_none _ _⟩
  |bl b=>cases j;cases h;exact⟨.str_bool _ _ _,.str_bool _ _ _,.str_bool _ _ _⟩
  |int b=>obtain⟨t,rfl⟩:=j;cases h;exact⟨.str_int _ _ _ _,.str_int _ _ _ _,.str_int _ _ _ _⟩
  |str b=>obtain⟨t,rfl⟩:=j;cases h;exact⟨.str_str _ _ _ _,.str_str _ _ _ _,.str_str _ _ _ _⟩
  |_=>cases h
 |_=>cases h
theorem xp9 {n:Nat}{d e:D}{k:Bool}(h:eqF (n+1) d e=some k):eqS d e=some k\/(∃ ds es,d= .lst ds/\e= .lst es/\(if ds.length=es.length then zipE (eqF n) ds es else some false)=some k)\/∃ ds es i,d= .tup ds/\e= .tup es/\zipE (eqF n) ds es=some i/\(i&&ds.length==es.length)=k:=by
 cases d with
 |lst ds=>
  cases e with
  |lst es=>exact .inr (.inl ⟨ds,es,rfl,rfl,h⟩)
  |_=>exact .inl h
 |tup ds=>
  cases e with
  |tup es=>
   have h:((zipE (eqF n) ds es).map fun b=>b&&ds.length==es.length)=some k:=h
   cases hz:zipE (eqF n) ds es with
   |none=>rw[hz]at h;cases h
   |some i=>rw[hz]at h;exact .inr (.inr ⟨ds,es,i,rfl,rfl,hz,Option.some.inj h⟩)
  |_=>exact .inl h
 |_=>exact .inl h
theorem zc8 {K:W.Frag}{H:Hp}{A:Around}{s:Shared}{n:Nat}{xs ys:List V}{ds es:List D}{its i:List Value}{g:Nat->Bool}(ih:∀{x y:V}{v u:Value}{d e:D}{k:Bool},Rep K H x d->Rep K H y e->RelV x v->RelV y u->eqF n d e=some k->PySem.SeqAt.EqAt A s v u k)(Z:Reps K H xs ds)(z:Reps K H ys es)(Y:Vals xs its)(q:Vals ys i)
  (g1:∀(j:Nat) d e,ds[j]? =some d->es[j]? =some e->eqF n d e=some (g j)) (j:Nat) (h1:j<its.toArray.size) (h2:j<i.toArray.size):PySem.SeqAt.EqAt A s its.toArray[j] i.toArray[j] (g j):=by
 have z1:its.length=ds.length:=by rw[<-Y.length,Z.length]
 have z2:i.length=es.length:=by rw[<-q.length,z.length]
 simp only[size_toArray]at h1 h2
 obtain⟨d',J⟩:∃ d',ds[j]? =some d':=⟨_,getElem?_eq_getElem (z1 ▸ h1)⟩
 obtain⟨U,I⟩:∃ U,es[j]? =some U:=⟨_,getElem?_eq_getElem (z2 ▸ h2)⟩
 obtain⟨v',O,L⟩:=Z.get J
 obtain⟨u',S,M⟩:=z.get I
 obtain⟨p,hp,rp⟩:=Y.get O
 obtain⟨p2,G,N⟩:=q.get S
 have e1:its.toArray[j]=p:=by
  rw[getElem?_eq_getElem h1]at hp
  simpa using hp
 have e2:i.toArray[j]=p2:=by
  rw[getElem?_eq_getElem h2]at G
  simpa using G
 rw[e1,e2]
 exact ih L M rp N (g1 j d' U J I)
open PySem.SeqAt in
theorem ym6 (I:Inv X pins σ H s):∀(n:Nat){A:Around}{x y:V}{v u:Value}{d e:D}{k:Bool},A.units+n<cLine->Rep X.K H x d->Rep X.K H y e->RelV x v->RelV y u->eqF n d e=some k->EqAt A s v u k/\RcAt A s v u k/\RcNeAt A s v u (!k)
 |0,A,x,y,v,u,d,e,k,hu,r1,r2,q1,q2,h=>by simp[eqF]at h
 |n+1,A,x,y,v,u,d,e,k,hu,r1,r2,q1,q2,h=>by
  have z:A.units<cLine:=by omega
  have a0:A.in1.units+n<cLine:=by show A.units+1+n<cLine;omega
  rcases xp9 h with h1|⟨ds,es,rfl,rfl,h1⟩|⟨ds,es,kk,rfl,rfl,S,hk⟩
  .exact xb0 r1 r2 q1 q2 h1
  .obtain⟨a,xs,rfl,sq,rs⟩:=r1.l'
   obtain⟨b,ys,rfl,J,q⟩:=r2.l'
   cases q1;cases q2
   obtain⟨its,Z,⟨o,m,ho,hc,_,hd⟩,_⟩:=I.list sq
   obtain⟨i,G,⟨o2,m2,L,N,_,M⟩,_⟩:=I.list J
   have U:s.heap.IsList a its.toArray:=⟨o,ho,hc,m,hd⟩
   have L2:s.heap.IsList b i.toArray:=⟨o2,L,N,m2,M⟩
   clear ho hc hd L N M
   have Y:its.length=ds.length:=by rw[<-Z.length,rs.length]
   have z2:i.length=es.length:=by rw[<-G.length,q.length]
   have j:RcAt A s (.ref a) (.ref b) k/\RcNeAt A s (.ref a) (.ref b) (!k):=by
    by_cases hl:ds.length=es.length
    .rw[if_pos hl]at h1
     obtain⟨g,g1,g2⟩:=zv0 h1
     have he:=zc8 (fun a b c d e=>(ym6 I n a0 a b c d e).1) rs q Z G g1
     have S:its.toArray.size=i.toArray.size:=by simp only[size_toArray];rw[Y,z2,hl]
     have hk:k=(List.range its.toArray.size).all g:=by
      rw[g2];simp only[size_toArray];rw[Y,hl,Nat.min_self]
     rw[hk]
     exact⟨.lists U L2 S z he,.lists U L2 S z he⟩
    .rw[if_neg hl]at h1
     cases h1
     have S:(its.toArray.size != i.toArray.size)=true:=by simp only[size_toArray];rw[Y,z2];exact bne_iff_ne.mpr hl
     exact⟨.lists_lengths U L2 S z,.lists_lengths U L2 S z⟩
   refine⟨?_,j⟩
   by_cases O:a=b
   .subst O
    rw[Rep.eqT I (n+1) (.lst sq rs) (.lst J q) h]
    exact EqAt.same _
   .exact .of_refs O j.1
  .obtain⟨a,xs,rfl,sq,rs⟩:=r1.t'
   obtain⟨b,ys,rfl,J,q⟩:=r2.t'
   cases q1;cases q2
   obtain⟨its,Z,⟨o,ho,hc,m,hd⟩,_⟩:=I.tuple sq
   obtain⟨i,G,⟨o2,L,N,m2,M⟩,_⟩:=I.tuple J
   have U:s.heap.IsTuple a its.toArray:=⟨o,ho,hc,m,hd⟩
   have L2:s.heap.IsTuple b i.toArray:=⟨o2,L,N,m2,M⟩
   clear ho hc hd L N M
   have Y:its.length=ds.length:=by rw[<-Z.length,rs.length]
   have z2:i.length=es.length:=by rw[<-G.length,q.length]
   have j:RcAt A s (.ref a) (.ref b) k/\RcNeAt A s (.ref a) (.ref b) (!k):=by
    obtain⟨g,g1,g2⟩:=zv0 S
    have he:=zc8 (fun a b c d e=>(ym6 I n a0 a b c d e).1) rs q Z G g1
    have hk:k=((List.range (min its.toArray.size i.toArray.size)).all g&&its.toArray.size==i.toArray.size):=by
     rw[<-hk,g2];simp only[size_toArray];rw[Y,z2]
    rw[hk]
    exact⟨.tuples U L2 z he,.tuples U L2 z he⟩
   refine⟨?_,j⟩
   by_cases O:a=b
   .subst O
    rw[Rep.eqT I (n+1) (.tup sq rs) (.tup J q) h]
    exact EqAt.same _
   .exact .of_refs O j.1
end
end
section
section
variable {X:Cx}{a b c e:Expr}{ma mb:ME}{la lb:ML}{pos:Pos}
def rEqF (K:W.Frag)(neg:Bool):R2:=fun x y H Q=>∃ d e k,Rep K H x d/\Rep K H y e/\eqF 8 d e=some k/\Q (.bl (if neg then !k else k)) H
theorem yq2 (G:X.A.units+64<cLine):OpR X (compareOp .Eq) (rEqF X.K false):=by
 intro pins s σ H x y v u Q I rx i h
 obtain⟨d,e,k,z,j,h,q⟩:=h
 exact(ym6 I 8 (by omega) z j rx i h).2.1 X.prog X.w _ _ ⟨.bl k,H,I,rfl,q⟩
theorem zc3 (G:X.A.units+64<cLine):OpR X (compareOp .NotEq) (rEqF X.K true):=by
 intro pins s σ H x y v u Q I rx i h
 obtain⟨d,e,k,z,j,h,q⟩:=h
 exact(ym6 I 8 (by omega) z j rx i h).2.2 X.prog X.w _ _ ⟨.bl (!k),H,I,rfl,q⟩
def eqFD (neg:Bool)(d e:D):Option D:=(eqF 8 d e).map fun k=>.bl (if neg then !k else k)
@[irreducible] def meqB (neg:Bool)(x y:ML):ME:=fun ρ=>(x ρ).bind fun ds=>(y ρ).bind fun es=>eqFD neg (.lst ds) (.lst es)
theorem xb1 {neg:Bool}{σ:St}{H:Hp}{Q:VK}(h:TD X.K (meqB neg la lb) σ H Q):tOp (rEqF X.K neg) (TB X.K la) (TB X.K lb) σ H Q:=by
 obtain⟨F0,H0,F,ρ,g,rl,e,q⟩:=h
 unfold meqB at e
 cases h1:la ρ with
 |none=>rw[h1]at e;cases e
 |some ds=>
  cases h2:lb ρ with
  |none=>rw[h1,h2]at e;cases e
  |some es=>
   rw[h1,h2]at e
   have e:eqFD neg (.lst ds) (.lst es)=some g:=e
   refine⟨F0,H0,F,ρ,ds,rl,h1,fun p xs F1 H1 j s1 I=>⟨F0,H0,F1,ρ,es,rl.go j,h2,fun p2 z F2 H2 i s2 G=>?_⟩⟩
   unfold eqFD at e
   cases hk:eqF 8 (.lst ds) (.lst es)with
   |none=>rw[hk]at e;cases e
   |some k=>
    rw[hk]at e;cases e
    exact⟨_,_,k,.lst (i.hh.seq s1) (I.mono (i.ff.trans i.fh)),.lst s2 (G.mono i.fh),hk,q _ F2 H2 (j.trans i) (.bl _)⟩
theorem xy1 {op:CmpOp}{neg:Bool}(i:OpR X (compareOp op) (rEqF X.K neg))(ha:PB X a la)(j:PB X b lb)(hm:behindInMarks op b=false):PD X (.Compare a [op] [b] pos) (meqB neg la lb):=(yr5 i ha j hm).imp fun _ _ _ h=>xb1 h
theorem zp3 {op:CmpOp}{neg:Bool}(j:OpR X (compareOp op) (rEqF X.K neg))(ha:PB X a la)(z:PB X b lb)(hm:behindInMarks op b=false):PC' X (.Compare a [op] [b] pos) (l0 (meqB neg la lb)):=(yt7 j ha z hm).imp fun σ H Q i=>by
 obtain⟨F0,H0,F,ρ,g,rl,e,q⟩:=i
 unfold l0 at e
 split at e
 .rename_i k hk
  cases e
  refine xb1 ⟨F0,H0,F,ρ,.bl g,rl,hk,fun v F' H' x r=>?_⟩
  cases r
  exact⟨_,rfl,q F' H' x⟩
 .cases e
def tyD:D->String
 | .non=>"NoneType"| .bl _=>"bool"| .int _=>"int"| .str _=>"str"| .lst _=>"list"| .tup _=>"tuple"| .exc _=>"?"| .ptr _=>"?"| .obj _ _ _=>"?"
def kitB (t c:String):Option Bool:=if t="?" then none else if (Value.type t==Value.type c)=true then some true else if W.kitMeta c=true then (fastBuiltinMro t).map (·.contains (Value.type c))else none
theorem zo8 {K:W.Frag}{t c:String}{k:Bool}(h:kitB t c=some k):t≠"?"/\W.kitOne K (.type t) (.type c)=some k:=by
 unfold kitB at h
 split at h
 .cases h
 .rename_i z;exact⟨z,h⟩
theorem xq8 {pins:List (Addr×Obj)}{σ:St}{H:Hp}{s:Shared}{A:Around}{E:Value->Shared->Prop}{Q:Value->Shared->Prop}{c:Value}{k:Bool}{x:V}{d:D}{u:Value}(I:Inv X pins σ H s)(rx:RelV x u)(r:Rep X.K H x d)
  (e:tyD d≠"?"/\W.kitOne X.K (.type (tyD d)) c=some k) (h:∀ tk,Q (.bool k) { s with toks:=tk }):wpAny (model X.prog X.w) A (call (.builtin "isinstance") [u,c]) Q E s:=by
 obtain⟨q,e⟩:=e
 cases r with
 |exc _ _=>exact absurd rfl q
 |ptr _=>exact absurd rfl q
 |obj _ _ _ _ _=>exact absurd rfl q
 |non=>exact M1 I rx .non e h
 |bl y=>exact M1 I rx (.bl y) e h
 |int i=>exact M1 I rx (.int i) e h
 |str y=>exact M1 I rx (.str y) e h
 |lst j M=>
  cases rx
  obtain⟨its,L,⟨o,m,G,J,_,hd⟩,_⟩:=I.list j
  exact W.kia_one W.kitx_list I.kIn ⟨_,G,J⟩ e (fun z=>nomatch z) h
 |tup j M=>
  cases rx
  obtain⟨its,L,⟨o,G,J,m,hd⟩,_⟩:=I.tuple j
  exact W.kia_one W.kitx_tuple I.kIn ⟨_,G,J⟩ e (fun z=>nomatch z) h
def rIsi (K:W.Frag)(c:String):List V->Hp->VK->Prop:=fun vs H Q=>∃ x d k,vs=[x,.ty c]/\Rep K H x d/\kitB (tyD d) c=some k/\Q (.bl k) H
theorem yb3 {c:String}:CallR X (.builtin "isinstance") (rIsi X.K c):=by
 intro pins s σ H xs us Q I r h
 obtain⟨x,d,k,rfl,rd,e,q⟩:=h
 obtain⟨u,w,rfl,rx,i⟩:=zr8 r
 cases i
 exact xq8 I rx rd (zo8 e) fun tk=>⟨.bl k,H,I.tok _,rfl,q⟩
@[irreducible] def misi (c:String)(m:ME):ME:=fun ρ=>(m ρ).bind fun d=>(kitB (tyD d) c).map .bl
theorem T4 {c:Str}{C:String}{p p2:Pos}(O:Gl X "isinstance")(hm:X.mg "isinstance"=none)(I:Gl X c)(G:X.mg c=none)(N:bootBuiltins c=some (.type C))(ha:PD X a ma)
  (hn:c≠"__name__":=by decide) (hd:(c==("__debug__":Str))=false:=by decide)
  (L:starEach (a::[.Name c p2]) X.env=(false,eval a X.env)::starEach [.Name c p2] X.env:=by rfl) (j:starEach [.Name c p2] X.env=(false,eval (.Name c p2) X.env)::starEach [] X.env:=by rfl)
  (z:(backTo pos (starEach [.Name c p2] X.env)).any (·.1)=false:=by rfl):PD X (.Call (.Name "isinstance" p) [a,.Name c p2] [] pos) (misi C ma):=
 (Z5 (yb3 (c:=C)) O hm PyProof.Rows.boot_isinstance (h9 ha (h9 (zu4 (v:=.ty C) I G N rfl hn hd) pa_nil j) L) (by decide) (by decide) L z).imp fun σ H Q i=>by
  obtain⟨F0,H0,F,ρ,g,rl,e,q⟩:=i
  unfold misi at e
  cases h1:ma ρ with
  |none=>rw[h1]at e;cases e
  |some d=>
   rw[h1]at e
   have e:(kitB (tyD d) C).map D.bl=some g:=e
   cases h2:kitB (tyD d) C with
   |none=>rw[h2]at e;cases e
   |some k=>
    rw[h2]at e;cases e
    exact⟨F0,H0,F,ρ,d,rl,h1,fun v F1 H1 J M=>⟨v,d,k,rfl,M.mono J.fh,h2,q _ F1 H1 J (.bl _)⟩⟩
end
end
section
theorem M3 (its:List Value):∀ i:List Nat,(∀ j∈i,j<its.length)->i.filterMap (its.toArray[·]?)=i.map fun j=>its.getD j Value.none
 |[],_=>rfl
 |j::i,h=>by
  have z:=h j (by simp)
  have e:its.toArray[j]? =some (its.getD j Value.none):=by simp[getD_eq_getElem?_getD,z]
  rw[filterMap_cons,e,map_cons,M3 its i fun k q=>h k (by simp[q])]
theorem zv3 (its:List Value):slicePick its.toArray none none (some (-1))=its.reverse.toArray:=by
 have z:sliceBounds none none (some (-1)) its.toArray.size=((its.length:Int)-1,-1,-1):=by
  simp[sliceBounds]
 have q:sliceRange ((its.length:Int)-1) (-1) (-1)=(List.range its.length).map fun(k:Nat)=>((its.length:Int)-1 + -1*(k:Int)).toNat:=by
  unfold sliceRange
  have:(if (-1:Int)>0 then (if (its.length:Int)-1 < -1 then (-1-((its.length:Int)-1) + -1-1) / -1 else 0)else (if (its.length:Int)-1 > -1 then ((its.length:Int)-1 - -1 - -1-1) / (- -1)else 0))=(its.length:Int):=by
   rw[if_neg (by decide)]
   split
   .rw[show (- -1:Int)=1 by decide,Int.ediv_one];omega
   .omega
  simp only[this,Int.toNat_natCast]
 unfold slicePick
 rw[z]
 show ((sliceRange ((its.length:Int)-1) (-1) (-1)).filterMap (its.toArray[·]?)).toArray=_
 rw[q,M3]
 .congr 1
  apply ext_getElem
  .simp
  .intro i h1 h2
   simp only[length_map,length_range]at h1
   simp only[getElem_map,getElem_range,getElem_reverse]
   have e:((its.length:Int)-1 + -1*(i:Int)).toNat=its.length-1-i:=by omega
   rw[e]
   simp[getD_eq_getElem?_getD,show its.length-1-i<its.length by omega]
 .intro j hj
  simp only[mem_map,mem_range]at hj
  obtain⟨k,G,rfl⟩:=hj
  omega
section
variable {X:Cx}{a b c e k:Expr}{te:TE}{ma mb:ME}{la lb:ML}{pos p2:Pos}{st:Stmt}
def tRev (K:W.Frag)(te:TE)(tk:TO):TE:=fun σ H Q=>te σ H fun x H1=>tk σ H1 fun o H2=>o=some (-1)/\∃ a xs,x= .ref a/\SqL K H2 a xs/\∀ p,H2 p=none->Q (.ref p) (upd H2 p (.lst xs.reverse))
theorem xi6 {J:Option Expr}{tk:TO}(he:PE X e te)(hk:PO X J tk)(G:∀ v i:Value,subscripted (.Slice none none J p2) false v i=operate [v,i] (getItem v i)):PE X (.Subscript e (.Slice none none J p2) pos) (tRev X.K te tk):=by
 intro pins s σ H Q I h
 refine Subscript_ (thn (he pins s σ H _ I h) fun v s1 j=>?_)
 obtain⟨x,H1,I1,S,U⟩:=j
 refine wpAny_Slice ?_
 rw[evalPart_none]
 refine wpAny_pure (wpAny_pure (thn (hk pins s1 σ H1 _ I1 U) fun M z j=>?_))
 obtain⟨o,H3,I3,Y,eo,a,xs,ex,hx,q⟩:=j
 subst eo ex
 cases S
 have L:Inv X pins σ H3 { z with heap:=z.heap.push { cls:=.type "slice",data:=.fields #[.none,.none,M] } }:=I3.kept (t':=z.toks) fun b ob q=>Heap.get?_push_of_some _ q
 obtain⟨its,r,N,Z⟩:=L.list hx
 have O:=r.length
 show wpAny (model X.prog X.w) X.A (subscriptTail e (.Slice none none J p2) (.ref a) (.ref z.heap.objs.size)) (EP X pins σ Q) X.xe { z with heap:=z.heap.push { cls:=.type "slice",data:=.fields #[.none,.none,M] } }
 refine tail_any (ops:=[.ref a,.ref z.heap.objs.size]) N.isList.typeIs slot_list_getitem.lookup ?_ (G _ _)
 refine wpAny_getItem_list_slice N.isList (Heap.IsSliceOf.new ..) .none .none Y (by simp) ?_ (by rw[size_toArray] <;> omega)
 rw[zv3]
 refine⟨.ref _,_,L.laid (t':=z.toks) (o:=.lst xs.reverse) (fun b ob q=>Heap.get?_push_of_some _ q) (Nat.le_refl _) ?_,rfl,q _ (L.hok.fresh (Nat.le_refl _))⟩
 refine⟨by rw[length_reverse];exact Z,_,0,?_,Heap.get?_push_size _ rfl⟩
 exact Vals.reverse r
@[irreducible] def mrev (m:ML)(k:MO):ML:=fun ρ=>(m ρ).bind fun ds=>match k ρ with |some (some (-1))=>some ds.reverse|_=>none
theorem xi3 {I:Option Expr}{mk:MO}(ha:PB X a la)(N:POs X I mk)(z:∀ v i:Value,subscripted (.Slice none none I p2) false v i=operate [v,i] (getItem v i):=by intro _ _;with_unfolding_all rfl):PF X (.Subscript a (.Slice none none I p2) pos) (mrev la mk):=(xi6 ha N z).imp fun σ H Q G=>by
 obtain⟨F0,H0,F,ρ,g,rl,e,q⟩:=G
 unfold mrev at e
 cases h1:la ρ with
 |none=>rw[h1]at e;cases e
 |some ds=>
  rw[h1]at e
  dsimp only[Option.bind]at e
  split at e
  .rename_i h2
   cases e
   refine⟨F0,H0,F,ρ,ds,rl,h1,fun p xs F1 H1 L s1 M=>⟨F0,H0,F1,ρ,_,rl.go L,h2,fun F2 H2 j=>⟨rfl,p,xs,rfl,j.hh.seq s1,fun w hw=>?_⟩⟩⟩
   have J:=L.trans j
   exact q w _ F2 _ (J.trans (Ext.own j.fh hw)) (J.hh.free hw) (j.fh.free hw) v7 (M.mono j.ff).reverse
  .cases e
end
end
section
section
variable {X:Cx}{a b c e:Expr}{ma mb:ME}{la lb:ML}{pos:Pos}{st:Stmt}
def zo9 (t c1 c2:String):Option Bool:=match kitB t c1 with |some true=>some true|some false=>(match kitB t c2 with |some true=>some true|some false=>some false|none=>none)|none=>none
theorem xq4 {K:W.Frag}{t c1 c2:String}{k:Bool}(h:zo9 t c1 c2=some k):t≠"?"/\W.kitAny K (.type t) [.type c1,.type c2]=some k:=by
 unfold zo9 at h
 split at h
 .rename_i q1
  obtain⟨z,e⟩:=zo8 (K:=K) q1
  refine⟨z,?_⟩
  unfold W.kitAny;rw[e];exact h
 .rename_i q1
  obtain⟨z,e⟩:=zo8 (K:=K) q1
  refine⟨z,?_⟩
  unfold W.kitAny;rw[e]
  split at h
  .rename_i q2
   unfold W.kitAny;rw[(zo8 (K:=K) q2).2];exact h
  .rename_i q2
   unfold W.kitAny;rw[(zo8 (K:=K) q2).2];exact h
  .cases h
 .cases h
theorem yc1 {pins:List (Addr×Obj)}{σ:St}{H:Hp}{s:Shared}{A:Around}{E:Value->Shared->Prop}{Q:Value->Shared->Prop}{k:Bool}{x:V}{d:D}{u:Value}{tp:Addr}{dd:Option Addr}{its:List Value}{n:Nat}{sl:Array (Option Value)}(I:Inv X pins σ H s)(rx:RelV x u)(r:Rep X.K H x d)
  (j:s.heap.get? tp=some ⟨.type "tuple",dd,.seq its.toArray n,sl⟩)
  (e:tyD d≠"?"/\W.kitAny X.K (.type (tyD d)) its=some k) (h:∀ tk,Q (.bool k) { s with toks:=tk }):wpAny (model X.prog X.w) A (call (.builtin "isinstance") [u,.ref tp]) Q E s:=by
 obtain⟨G,e⟩:=e
 cases r with
 |exc _ _=>exact absurd rfl G
 |ptr _=>exact absurd rfl G
 |obj _ _ _ _ _=>exact absurd rfl G
 |non=>cases rx;exact W.kia_tup W.kitx_none I.kIn True.intro j e (fun z=>nomatch z) h
 |bl y=>cases rx;exact W.kia_tup W.kitx_bool I.kIn True.intro j e (fun z=>nomatch z) h
 |int i=>obtain⟨t,rfl⟩:=rx;exact W.kia_tup W.kitx_int I.kIn True.intro j e (fun z=>nomatch z) h
 |str y=>obtain⟨t,rfl⟩:=rx;exact W.kia_tup W.kitx_str I.kIn True.intro j e (fun z=>nomatch z) h
 |lst q N=>
  cases rx
  obtain⟨its,M,⟨o,m,J,L,_,hd⟩,_⟩:=I.list q
  exact W.kia_tup W.kitx_list I.kIn ⟨_,J,L⟩ j e (fun z=>nomatch z) h
 |tup q N=>
  cases rx
  obtain⟨its,M,⟨o,J,L,m,hd⟩,_⟩:=I.tuple q
  exact W.kia_tup W.kitx_tuple I.kIn ⟨_,J,L⟩ j e (fun z=>nomatch z) h
def wz8 (K:W.Frag)(c1 c2:String):List V->Hp->VK->Prop:=fun vs H Q=>∃ x p d k,vs=[x,.ref p]/\H p=some (.tup [.ty c1,.ty c2])/\Rep K H x d/\zo9 (tyD d) c1 c2=some k/\Q (.bl k) H
theorem yj5 {c1 c2:String}:CallR X (.builtin "isinstance") (wz8 X.K c1 c2):=by
 intro pins s σ H xs us Q I r h
 obtain⟨x,p,d,k,rfl,M,rd,e,q⟩:=h
 obtain⟨u,w,rfl,rx,G⟩:=zr8 r
 cases G
 obtain⟨z,its,j,⟨⟨cls,dd,data,sl⟩,N,i,n,hd⟩⟩:=(show ObjOk X.prog X.w H s.heap p (.tup [.ty c1,.ty c2])from I.hok p _ M)
 obtain⟨S,O,rfl,L,J⟩:=zr8 j
 cases L;cases J
 simp only at i hd
 subst i hd
 exact yc1 I rx rd N (xq4 e) fun tk=>⟨.bl k,H,I.tok _,rfl,q⟩
@[irreducible] def zt4 (c1 c2:String)(m:ME):ME:=fun ρ=>(m ρ).bind fun d=>(zo9 (tyD d) c1 c2).map .bl
theorem zu6 {c1 c2:Str}{C1 C2:String}{p j p2 z:Pos}{i}(hg:Gl X "isinstance")(hm:X.mg "isinstance"=none)(a1:Gl X c1)(Z:X.mg c1=none)(J:bootBuiltins c1=some (.type C1))(a0:Gl X c2)(Y:X.mg c2=none)(I:bootBuiltins c2=some (.type C2))(ha:PD X a ma)
  (U:c1≠"__name__":=by decide) (a3:(c1==("__debug__":Str))=false:=by decide) (S:c2≠"__name__":=by decide) (a2:(c2==("__debug__":Str))=false:=by decide)
  (hs:starEach (a::[.Tuple [.Name c1 j,.Name c2 p2] i z]) X.env=(false,eval a X.env)::starEach [.Tuple [.Name c1 j,.Name c2 p2] i z] X.env:=by rfl) (N:starEach [.Tuple [.Name c1 j,.Name c2 p2] i z] X.env=(false,eval (.Tuple [.Name c1 j,.Name c2 p2] i z) X.env)::starEach [] X.env:=by rfl)
  (M:starEach [.Name c1 j,.Name c2 p2] X.env=(false,eval (.Name c1 j) X.env)::starEach [.Name c2 p2] X.env:=by rfl) (L:starEach [.Name c2 p2] X.env=(false,eval (.Name c2 p2) X.env)::starEach [] X.env:=by rfl)
  (O:(backTo pos (starEach [.Tuple [.Name c1 j,.Name c2 p2] i z] X.env)).any (·.1)=false:=by rfl):PD X (.Call (.Name "isinstance" p) [a,.Tuple [.Name c1 j,.Name c2 p2] i z] [] pos) (zt4 C1 C2 ma):=
 (Z5 (yj5 (c1:=C1) (c2:=C2)) hg hm PyProof.Rows.boot_isinstance (h9 ha (h9 (xz9 (h9 (zu4 (v:=.ty C1) a1 Z J rfl U a3) (h9 (zu4 (v:=.ty C2) a0 Y I rfl S a2) pa_nil L) M)) pa_nil N) hs) (by decide) (by decide) hs O).imp fun σ H Q G=>by
  obtain⟨F0,H0,F,ρ,g,rl,e,q⟩:=G
  unfold zt4 at e
  cases h1:ma ρ with
  |none=>rw[h1]at e;cases e
  |some d=>
   rw[h1]at e
   have e:(zo9 (tyD d) C1 C2).map D.bl=some g:=e
   cases h2:zo9 (tyD d) C1 C2 with
   |none=>rw[h2]at e;cases e
   |some k=>
    rw[h2]at e;cases e
    refine⟨F0,H0,F,ρ,d,rl,h1,fun v F1 H1 i r1=>⟨by show 2<=sizeLine;rw[sizeLine_eq];decide,fun w hw=>?_⟩⟩
    exact⟨v,w,d,k,rfl,v7,r1.mono (i.fh.put (i.fh.free hw)),h2,q _ F1 _ (i.trans (Ext.own i.fh hw)) (.bl _)⟩
end
end
section
section
variable {K:W.Frag}{F0 H0 F H:Hp}{σ:St}{ρ:Ro}
theorem Rl.freezeP (r:Rl K F0 H0 F H σ ρ){i:Nat}{ds:List D}(h:ρ[i]? =some (some (.own ds))):∃ p xs,F p=none/\Rl K F0 H0 (upd F p (.lst xs)) H σ (ρ.set i (some (.sh (.lst ds)))):=by
 obtain⟨p,xs,a,b,c,d,z⟩:=r.own i ds h
 have L:i<ρ.length:=(List.getElem?_eq_some_iff.mp h).1
 have e:Ext F0 H0 (upd F p (.lst xs)) H:=r.ext.freeze b z c
 have ff:Same F (upd F p (.lst xs)):=(Same.refl F).put b
 refine⟨p,xs,b,⟨e,by simp[r.len],fun j d' q=>?_,fun j es q=>?_,fun j k q es I S G J e3 e4=>?_,fun j q es G=>?_,fun j k q es I G J e3=>?_,fun j k q q' es I G J=>r.ob1 j k q q' es I (d5 G).2 (d5 J).2,fun j q es G=>r.rd j q es (N5 G).2⟩⟩
 .by_cases hj:i=j
  .subst hj
   rw[getElem?_set_self L]at q
   cases q
   exact⟨_,a,.lst (SqL.of v7) (d.mono ff)⟩
  .rw[getElem?_set_ne hj]at q
   obtain⟨v,v1,v2⟩:=r.sh j d' q
   exact⟨v,v1,v2.mono ff⟩
 .by_cases hj:i=j
  .subst hj
   rw[getElem?_set_self L]at q
   cases q
  .rw[getElem?_set_ne hj]at q
   obtain⟨U,M,Y,b',c',d',Z⟩:=r.own j es q
   have O:U≠p:=fun w=>r.inj i j p ds es hj h q a (by rw[<-w];exact Y)
   exact⟨U,M,Y,by rw[v6 O];exact b',c',d'.mono ff,Z⟩
 .have n1:i≠j:=fun w=>by subst w;rw[getElem?_set_self L]at G;cases G
  have N:i≠k:=fun w=>by subst w;rw[getElem?_set_self L]at J;cases J
  rw[getElem?_set_ne n1]at G
  rw[getElem?_set_ne N]at J
  exact r.inj j k q es I S G J e3 e4
 .obtain⟨n,G⟩:=d5 G
  obtain⟨o1,o2,o3,zs,o4,o5⟩:=r.ob j q es G
  have O:q≠p:=fun w=>r.obn j i q es ds G h (by rw[w];exact a)
  exact⟨o1,by rw[v6 O];exact o2,o3,zs,o4,o5.mono ff⟩
 .obtain⟨n,G⟩:=d5 G
  have N:i≠k:=fun w=>by subst w;rw[getElem?_set_self L]at J;cases J
  rw[getElem?_set_ne N]at J
  exact r.obn j k q es I G J e3
end
def isSc:D->Bool
 | .lst _=>false
 | .tup _=>false
 | .exc _=>false
 | .ptr _=>false
 | .obj _ _ _=>false
 |_=>true
theorem xm6 {K:W.Frag}{F G:Hp}{v:V}{d:D}(h:isSc d=true)(r:Rep K F v d):Rep K G v d:=by
 cases r with
 |non=>exact .non
 |bl b=>exact .bl b
 |int i=>exact .int i
 |str x=>exact .str x
 |lst _ _=>cases h
 |tup _ _=>cases h
 |exc _ _=>cases h
 |ptr _=>cases h
 |obj _ _ _ _ _=>cases h
end
section
section
variable {X:Cx}{a b c e:Expr}{ma mb mz:ME}{la lb:ML}{pos:Pos}
def flV:D->Option V
 | .non=>some .non| .bl b=>some (.bl b)| .int i=>some (.int i)| .str x=>some (.str x)
 |_=>none
def flVs:List D->Option (List V)
 |[]=>some []
 |d::r=>match flV d with |some v=>(match flVs r with |some vs=>some (v::vs)|none=>none)|none=>none
theorem zh6 {K:W.Frag}{F:Hp}{v u:V}{d:D}(r:Rep K F v d)(h:flV d=some u):v=u/\zy7 u=true:=by
 cases r <;> cases h <;> exact⟨rfl,rfl⟩
theorem A8 {K:W.Frag}{F:Hp}:∀{vs us:List V}{ds:List D},Reps K F vs ds->flVs ds=some us->vs=us/\us.all zy7=true
 |_,_,_,.nil,h=>by cases h;exact⟨rfl,rfl⟩
 |_,_,_,.cons (d:=d) (ds:=ds) r t,h=>by
  unfold flVs at h
  cases h1:flV d with
  |none=>rw[h1]at h;cases h
  |some u=>
   cases h2:flVs ds with
   |none=>rw[h1,h2]at h;cases h
   |some us=>
    rw[h1,h2]at h;cases h
    obtain⟨z,q⟩:=zh6 r h1
    obtain⟨j,i⟩:=A8 t h2
    subst z j
    exact⟨rfl,by rw[all_cons,q,i];rfl⟩
def inDs (neg:Bool)(d:D)(ds:List D):Option D:=match flV d,flVs ds with
 |some v,some vs=>some (.bl (if neg then !inV v vs else inV v vs))
 |_,_=>none
def inD (neg:Bool):D->D->Option D
 |d,.lst ds=>inDs neg d ds
 |d,.tup ds=>inDs neg d ds
 |_,_=>none
theorem zn4 {neg:Bool}{d w:D}{ds:List D}(h:inDs neg d ds=some w):∃ v vs,flV d=some v/\flVs ds=some vs/\w= .bl (if neg then !inV v vs else inV v vs):=by
 unfold inDs at h
 split at h
 .rename_i v vs h1 h2;cases h;exact⟨v,vs,h1,h2,rfl⟩
 .cases h
theorem xy3 {K:W.Frag}{neg:Bool}:OpD K (rIn K neg) (inD neg):=by
 intro F H x y d e w Q s L M h q
 cases M with
 |lst i j=>
  obtain⟨v,vs,h1,h2,rfl⟩:=zn4 (show inDs neg d _=some w from h)
  obtain⟨J,I⟩:=zh6 L h1
  obtain⟨G,z⟩:=A8 j h2
  subst J G
  exact⟨_,_,rfl,.inl (s.seq i),I,z,q _ F H (.refl s) (.bl _)⟩
 |tup i j=>
  obtain⟨v,vs,h1,h2,rfl⟩:=zn4 (show inDs neg d _=some w from h)
  obtain⟨J,I⟩:=zh6 L h1
  obtain⟨G,z⟩:=A8 j h2
  subst J G
  exact⟨_,_,rfl,.inr (s.seqT i),I,z,q _ F H (.refl s) (.bl _)⟩
 |_=>cases d <;> cases h
theorem U0:∀{ns:List Int}{its:List Value},Vals (ns.map V.int) its->∃ xs:List (Int×Tok),its.toArray=intItems xs.toArray/\xs.map (·.1)=ns
 |[],_,.nil=>⟨[],by unfold intItems;simp,rfl⟩
 |n::ns,_,.cons r t=>by
  obtain⟨k,rfl⟩:=r
  obtain⟨xs,h1,h2⟩:=U0 t
  refine⟨(n,k)::xs,?_,by rw[map_cons,h2]⟩
  have:=congrArg Array.toList h1
  unfold intItems at this ⊢
  simp at this ⊢
  exact this
def E4:List D->Option (List Int)
 |[]=>some []
 | .int i::r=>match E4 r with |some ns=>some (i::ns)|none=>none
 |_=>none
theorem R9 {K:W.Frag}{F:Hp}:∀{vs:List V}{ds:List D}{ns:List Int},Reps K F vs ds->E4 ds=some ns->vs=ns.map V.int
 |_,_,_,.nil,h=>by cases h;rfl
 |_,_,_,.cons (d:=d) (ds:=ds) r t,h=>by
  cases r with
  |int i=>
   unfold E4 at h
   cases h1:E4 ds with
   |none=>simp only[h1]at h;cases h
   |some ns=>simp only[h1]at h;cases h;rw[R9 t h1];rfl
  |_=>cases h
theorem M2:∀ ns:List Int,E4 (ns.map D.int)=some ns
 |[]=>rfl
 |n::ns=>by show (match E4 (ns.map D.int)with |some ns=>some (n::ns)|none=>none)=_;rw[M2 ns]
def xm2:List (Str×Str)->List DictEntry->Prop
 |[],[]=>True
 | (k,v)::r,e::es=>(∃ t,e.key= .str k t)/\(∃ t,e.val= .str v t)/\xm2 r es
 |_,_=>False
structure KTab (w:World)(K:W.Frag)(a:Addr)(tab:List (Str×Str)):Prop where
 ns:(a==sysModules)=false
 nd:(tab.map (·.1)).Nodup
 obj:∃ es ep,K.lookup a=some ⟨.type "dict",none,.dict es ep,#[]⟩/\xm2 tab es.toList/\∀ e∈es.toList,∀ k t,e.key= .str k t->e.hash=hashStr w k
end
end
section
section
variable {prog:Program}{w:World}{A:Around}{E:Value->Shared->Prop}{s:Shared}
structure ApT (z TO i1 i2 l:Addr):Prop where
 lz:l≠z
 lTO:l≠TO
 l1:l≠i1
 l2:l≠i2
end
end
section
section
variable {prog:Program}{w:World}{A:Around}{E:Value->Shared->Prop}{s:Shared}
end
section
variable {X:Cx}
end
end
section
section
variable {X:Cx}{a b c e:Expr}{ma mb:ME}{la lb:ML}{pos:Pos}
end
section
variable {K:W.Frag}{F0 H0 F H H':Hp}{σ:St}{ρ:Ro}
end
section
variable {X:Cx}{a b c e3:Expr}{ma mb:ME}{la lb:ML}{pos:Pos}{E:XK}{es:List Expr}{mf:MF}{m:ML}{rb:List Stmt}{mx:MS}{cc:MB}{y:D}
end
end
section
abbrev MEm:=Ro->Option (D×Ro)
abbrev MLm:=Ro->Option (List D×Ro)
section
variable {X:Cx}{a b c e:Expr}{ma mb:ME}{na nb:MEm}{pos:Pos}{es:List Expr}
variable {st:Stmt}
end
abbrev MG:=Addr->List D->List D->Option (Rt×List D)
end
section
section
variable {K:W.Frag}{F0 H0 F H F' H':Hp}{σ:St}{ρ:Ro}
end
open Classical in
section
variable {X:Cx}{e:Expr}{pos:Pos}{es:List Expr}{E:XK}{mf:MG}{m:MLm}
end
end
section
section
variable {X:Cx}{a b c e:Expr}{ma mb:ME}{pos:Pos}
end
def noL:D->Bool
 | .tup ds=>ds.all isSc
 |d=>isSc d
@[irreducible] def yp6 (i:Nat)(m:ME):ME:=fun ρ=>match ρ[i]? with
 |some (some (.own ds))=>(match m (ρ.set i (some (.sh (.lst ds))))with |some d=>if noL d=true then some d else none|none=>none)
 |_=>m ρ
theorem yu8 {K:W.Frag}{F G:Hp}:∀{vs:List V}{ds:List D},ds.all isSc=true->Reps K F vs ds->Reps K G vs ds
 |_,_,_,.nil=>.nil
 |_,_,h,.cons r t=>by
  rw[all_cons,Bool.and_eq_true]at h
  exact .cons (xm6 h.1 r) (yu8 h.2 t)
theorem xr2 {K:W.Frag}{F:Hp}{p:Addr}{xs:List V}{v:V}{d:D}(q:F p=some (.lst xs))(h:noL d=true)(r:Rep K F v d):Rep K (fun b=>if b=p then none else F b) v d:=by
 cases r with
 |non=>exact .non
 |bl b=>exact .bl b
 |int i=>exact .int i
 |str x=>exact .str x
 |lst _ _=>cases h
 |exc _ _=>cases h
 |ptr _=>cases h
 |obj _ _ _ _ _=>cases h
 |tup j G=>
  rename_i a ys ds
  refine .tup ?_ (yu8 h G)
  rcases j with (j|⟨o,j⟩)|j
  .have hne:a≠p:=fun z=>by rw[z,q]at j;cases j
   exact .inl (.inl (by show (if a=p then none else F a)=_;rw[if_neg hne];exact j))
  .have hne:a≠p:=fun z=>by rw[z,q]at j;cases j
   exact .inl (.inr ⟨o,by show (if a=p then none else F a)=_;rw[if_neg hne];exact j⟩)
  .exact .inr j
theorem xt5 {X:Cx}{e:Expr}{m:ME}(i:Nat)(h:PD X e m):PD X e (yp6 i m):=h.imp fun σ H Q I=>by
 obtain⟨F0,H0,F,ρ,d,rl,e,q⟩:=I
 unfold yp6 at e
 split at e
 .rename_i ds h1
  obtain⟨p,xs,N,J⟩:=rl.freezeP h1
  split at e
  .rename_i d' h2
   split at e
   .rename_i hs
    cases e
    refine⟨F0,H0,_,_,d,J,h2,fun v F2 H2 G M=>?_⟩
    have L:F2 p=some (.lst xs):=G.ff _ _ v7
    refine q v (fun b=>if b=p then none else F2 b) H2 ⟨fun b o j=>?_,G.hh,fun b o j=>?_,fun b j hn=>?_,fun b o u z=>by
     have z:(if b=p then none else F2 b)=some (.frz o u):=z
     split at z
     .cases z
     .rename_i hne
      have:=G.nf b o u z
      rwa [v6 hne]at this⟩ (xr2 L hs M)
    .have hne:b≠p:=fun w=>by rw[w,N]at j;cases j
     show (if b=p then none else F2 b)=some o
     rw[if_neg hne]
     exact G.ff b o (by rw[v6 hne];exact j)
    .have j:(if b=p then none else F2 b)=some o:=j
     split at j
     .cases j
     .exact G.fh b o j
    .have hn:(if b=p then none else F2 b)≠none:=hn
     split at hn
     .exact absurd rfl hn
     .rename_i hne
      exact G.new b (by rw[v6 hne];exact j) hn
   .cases e
  .cases e
 .exact⟨F0,H0,F,ρ,d,rl,e,q⟩
end
section
def LtAt (A:Around)(s:Shared)(v u:Value)(k:Bool):Prop:=∀(prog:Program)(w:World)(E:Value->Shared->Prop)(Q:Value->Shared->Prop),Q (.bool k) s->wpAny (model prog w) A (richCompare .Lt v u) Q E s
def yv1 (A:Around)(s:Shared):List Value->List Value->Bool->Prop
 |[],[],k=>k=false
 |[],_::_,k=>k=true
 |_::_,[],k=>k=false
 |y::ys,x::xs,k=>∃ e,SeqAt.EqAt A s y x e/\((e=true/\yv1 A s ys xs k)\/(e=false/\LtAt A s y x k))
section
open PySem.SeqAt
open PySem.AutoSeq1 (wpAny_loadPart')
open PySem.MeetsSeq PySem.MeetsSeq2 PySem.MeetsSeq3
set_option maxHeartbeats 4000000 in
theorem xn9 (l b:Addr)(j i:Array Value)(n U:Nat)(dd O:Option Addr)(sl L:Array (Option Value))(k:Bool):
  Meets (Builtin.«tuple.__lt__» ⟨[.ref l,.ref b],[]⟩)
   (fun A R s=>s.heap.get? l=some { cls:=.type "tuple",dict:=dd,data:=.seq j n,slots:=sl }/\s.heap.get? b=some { cls:=.type "tuple",dict:=O,data:=.seq i U,slots:=L }/\
    yv1 A.in1 s j.toList i.toList k/\R (.ok (.ret (.bool k))) s):=
 .of_wp fun prog w A R s h=>by
  obtain⟨S,g,d,tk,os⟩:=s;obtain⟨hl,hb,Z,h⟩:=h
  have f2:=AutoSeq1.sub_tuple_tuple
  wp_walk using wpAny_loadPart' hl,wpAny_loadPart' hb,wpAny_forIn_list _ (fun rest b s'=>b.1=none/\s'=⟨S,g,d,tk,os⟩/\∃(vs ws:List Value),rest=vs.zip ws/\
   vs.length+i.size=ws.length+j.size/\yv1 A.in1 ⟨S,g,d,tk,os⟩ vs ws k) _
  case turn=>
   rintro⟨y,x⟩ rest b s' ⟨J,rfl,vs,ws,G,q,z⟩
   cases vs with
   |nil=>rw[zip_nil_left]at G;cases G
   |cons a vs=>
    cases ws with
    |nil=>rw[zip_nil_right]at G;cases G
    |cons c ws=>
     rw[zip_cons_cons]at G
     injection G with M I
     injection M with Y N
     subst Y N
     simp only[length_cons]at q
     obtain⟨e,he,z⟩:=z
     refine wpAny_bind (he prog w _ _ ?_)
     rcases z with⟨rfl,z⟩|⟨rfl,z⟩
     .wp_walk
      exact⟨rfl,rfl,vs,ws,I,by omega,z⟩
     .have hri:=z prog w
      wp_walk using hri
      exact⟨_,rfl,by simpa using h⟩
  case fin=>
   rintro⟨b1,b2⟩ s' ⟨J,rfl,vs,ws,G,q,z⟩
   simp only at J
   subst J
   have hv:k=decide (j.size<i.size):=by
    cases vs with
    |nil=>
     cases ws with
     |nil=>
      simp only[length_nil]at q
      rw[show k=false from z]
      exact(decide_eq_false (by omega)).symm
     |cons c ws=>
      simp only[length_nil,length_cons]at q
      rw[show k=true from z]
      exact(decide_eq_true (by omega)).symm
    |cons a vs=>
     cases ws with
     |nil=>
      simp only[length_nil,length_cons]at q
      rw[show k=false from z]
      exact(decide_eq_false (by omega)).symm
     |cons c ws=>
      rw[zip_cons_cons]at G
      cases G
   rw[hv]at h
   wp_walk
   exact⟨_,rfl,by simpa[Builtin.Tuple.tupleCompareSizes]using h⟩
  case h=>
   exact⟨rfl,rfl,j.toList,i.toList,rfl,by simp;omega,Z⟩
set_option maxHeartbeats 4000000 in
theorem zh2 (l b:Addr)(q j:Array Value)(n n2:Nat)(dd Z:Option Addr)(sl S:Array (Option Value))(r:Bool)(k:Nat):
  ∀ i:Nat,q.size-i=k->i<=q.size->i<=j.size->Meets (Builtin.«list.__eq__.loop» ⟨[.ref l,.ref b,rawInt i,rawInt 0],[]⟩)
   (fun A R s=>s.heap.get? l=some { cls:=.type "list",dict:=dd,data:=.seq q n,slots:=sl }/\s.heap.get? b=some { cls:=.type "list",dict:=Z,data:=.seq j n2,slots:=S }/\
    yv1 A.in1 s (q.toList.drop i) (j.toList.drop i) r/\R (.ok (.ret (.bool r))) s):=by
 induction k with
 |zero=>
  intro i hk h1 h2 prog w A R s h
  obtain⟨hp,g,d,tk,os⟩:=s;obtain⟨M,N,G,h⟩:=h
  wp_walk using wpAny_loadPart' M,wpAny_loadPart' N
  have I:q[((i:Nat):Int).toNat]? =none:=by simp;omega
  have Y:q.toList.drop i=[]:=drop_eq_nil_of_le (by simp;omega)
  rw[Y]at G
  have U:r=decide (q.size<j.size):=by
   cases J:j.toList.drop i with
   |nil=>
    rw[J]at G
    have:j.size<=i:=by simpa using J
    rw[show r=false from G]
    exact(decide_eq_false (by omega)).symm
   |cons c ws=>
    rw[J]at G
    have:i<j.size:=by
     rcases Nat.lt_or_ge i j.size with z|z
     .exact z
     .rw[drop_eq_nil_of_le (by simpa using z)]at J;cases J
    rw[show r=true from G]
    exact(decide_eq_true (by omega)).symm
  rw[I]
  wp_walk using wpAny_loadPart' M,wpAny_loadPart' N
  rw[U]at h
  exact h
 |succ k ih=>
  intro i hk h1 h2 prog w A R s h
  obtain⟨hp,g,d,tk,os⟩:=s;obtain⟨M,N,G,h⟩:=h
  have O:i<q.size:=by omega
  have I:q[((i:Nat):Int).toNat]? =some q[i]:=by simp[O]
  have Y:q.toList.drop i=q[i]::q.toList.drop (i+1):=by rw[drop_eq_getElem_cons (by simpa using O)];simp
  have hc:((i:Int)+1)=((i+1:Nat):Int):=by push_cast;rfl
  rw[Y]at G
  by_cases L:i<j.size
  .have hi2:j[((i:Nat):Int).toNat]? =some j[i]:=by simp[L]
   have J:j.toList.drop i=j[i]::j.toList.drop (i+1):=by rw[drop_eq_getElem_cons (by simpa using L)];simp
   rw[J]at G
   obtain⟨e,he,G⟩:=G
   wp_walk using wpAny_loadPart' M,wpAny_loadPart' N
   rw[I,hi2]
   refine wpAny_bind (he prog w _ _ ?_)
   rcases G with⟨rfl,G⟩|⟨rfl,G⟩
   .wp_walk
    rw[hc]
    exact⟨plainId_quiet plain_eq_loop _,codeAny_builtin entry_eq_loop (by
     rw[Around.under_plainId plain_eq_loop _]
     exact ih (i+1) (by omega) (by omega) (by omega) prog w A R _ ⟨M,N,G,h⟩)⟩
   .have hri:=G prog w
    wp_walk using wpAny_loadPart' M,wpAny_loadPart' N
    rw[I,hi2]
    wp_walk using hri
    exact h
  .have hi2:j[((i:Nat):Int).toNat]? =none:=by simp;omega
   have J:j.toList.drop i=[]:=drop_eq_nil_of_le (by simp;omega)
   rw[J]at G
   have U:r=decide (q.size<j.size):=by
    rw[show r=false from G]
    exact(decide_eq_false (by omega)).symm
   wp_walk using wpAny_loadPart' M,wpAny_loadPart' N
   rw[I,hi2]
   wp_walk using wpAny_loadPart' M,wpAny_loadPart' N
   rw[U]at h
   exact h
set_option maxHeartbeats 4000000 in
theorem xd0 (l b:Addr)(j i:Array Value)(n G:Nat)(dd z:Option Addr)(sl q:Array (Option Value))(r:Bool):
  Meets (Builtin.«list.__lt__» ⟨[.ref l,.ref b],[]⟩)
   (fun A R s=>s.heap.get? l=some { cls:=.type "list",dict:=dd,data:=.seq j n,slots:=sl }/\s.heap.get? b=some { cls:=.type "list",dict:=z,data:=.seq i G,slots:=q }/\
    yv1 A.in1 s j.toList i.toList r/\R (.ok (.ret (.bool r))) s):=by
 intro prog w A R s h
 obtain⟨M,g,d,tk,os⟩:=s;obtain⟨I,J,L,h⟩:=h
 have N:=AutoSeq1.sub_list_list
 wp_walk using wpAny_loadPart' I,wpAny_loadPart' J
 exact⟨plainId_quiet plain_eq_loop _,codeAny_builtin entry_eq_loop (by
  rw[Around.under_plainId plain_eq_loop _]
  exact zh2 l b j i n G dd z sl q r _ 0 rfl (Nat.zero_le _) (Nat.zero_le _) prog w A R _ ⟨I,J,by simpa using L,h⟩)⟩
end
def lexF (eq lt:D->D->Option Bool):List D->List D->Option Bool
 |[],[]=>some false
 |[],_::_=>some true
 |_::_,[]=>some false
 |d::ds,e::es=>match eq d e with
  |some true=>lexF eq lt ds es
  |some false=>lt d e
  |none=>none
def ltF:Nat->D->D->Option Bool
 |0,_,_=>none
 |n+1,.lst ds,.lst es=>lexF (eqF n) (ltF n) ds es
 |n+1,.tup ds,.tup es=>lexF (eqF n) (ltF n) ds es
 |_+1,.int i,.int j=>some (decide (i<j))
 |_+1,_,_=>none
section
variable {X:Cx}{pins:List (Addr×Obj)}{σ:St}{H:Hp}{s:Shared}
theorem yn1 (I:Inv X pins σ H s)(n:Nat){A:Around}(j:A.units+n<cLine)(i:∀{x y:V}{v u:Value}{d e:D}{k:Bool},Rep X.K H x d->Rep X.K H y e->RelV x v->RelV y u->ltF n d e=some k->LtAt A s v u k):
  ∀{xs ys:List V}{vs us:List Value}{ds es:List D}{k:Bool},Reps X.K H xs ds->Reps X.K H ys es->Vals xs vs->Vals ys us->lexF (eqF n) (ltF n) ds es=some k->yv1 A s vs us k
 |_,_,_,_,_,_,k,.nil,.nil,.nil,.nil,h=>by cases h;exact rfl
 |_,_,_,_,_,_,k,.nil,.cons _ _,.nil,.cons _ _,h=>by cases h;exact rfl
 |_,_,_,_,_,_,k,.cons _ _,.nil,.cons _ _,.nil,h=>by cases h;exact rfl
 |_,_,_,_,_,_,k,.cons (d:=d) r1 t1,.cons (d:=e) r2 t2,.cons q1 p1,.cons q2 p2,h=>by
  unfold lexF at h
  cases hq:eqF n d e with
  |none=>rw[hq]at h;cases h
  |some b=>
   rw[hq]at h
   refine⟨b,(ym6 I n j r1 r2 q1 q2 hq).1,?_⟩
   cases b with
   |true=>exact .inl ⟨rfl,yn1 I n j i t1 t2 p1 p2 h⟩
   |false=>exact .inr ⟨rfl,i r1 r2 q1 q2 h⟩
theorem xq2 (I:Inv X pins σ H s):∀(n:Nat){A:Around}{x y:V}{v u:Value}{d e:D}{k:Bool},A.units+n<cLine->Rep X.K H x d->Rep X.K H y e->RelV x v->RelV y u->ltF n d e=some k->LtAt A s v u k
 |0,A,x,y,v,u,d,e,k,hu,r1,r2,q1,q2,h=>by simp[ltF]at h
 |n+1,A,x,y,v,u,d,e,k,hu,r1,r2,q1,q2,h=>by
  have Z:A.units<cLine:=by omega
  have M:A.in1.units+n<cLine:=by show A.units+1+n<cLine;omega
  cases d with
  |int i=>
   cases e with
   |int j=>
    obtain rfl:=r1.i'
    obtain rfl:=r2.i'
    obtain⟨t,rfl⟩:=q1
    obtain⟨t',rfl⟩:=q2
    cases h
    exact fun prog w E Q hQ=>HT.rcLt_int A s i t j t' prog w E Q hQ
   |_=>cases h
  |lst a6=>
   cases e with
   |lst a5=>
    obtain⟨a1,a4,rfl,sq,rs⟩:=r1.l'
    obtain⟨a2,a3,rfl,O,U⟩:=r2.l'
    cases q1;cases q2
    obtain⟨its,vr,⟨⟨cls,dd,data,sl⟩,m,ho,hc,a8,hd⟩,_⟩:=I.list sq
    obtain⟨q,N,⟨⟨a0,Y,data2,S⟩,m2,z,J,a7,G⟩,_⟩:=I.list O
    simp only at hc hd J G
    subst hc hd J G
    have L:=yn1 I n M (fun a b c d e=>xq2 I n M a b c d e) rs U vr N (show lexF (eqF n) (ltF n) _ _=some k from h)
    intro prog w E Q hQ
    exact richCompare_meets_room (op:=.Lt) ⟨_,ho,rfl⟩ ⟨_,z,rfl⟩ PySem.F.slot_list_lt PySem.F.entry_list_lt (PySem.F.args_list_lt_2 _ _) (xd0 _ _ its.toArray q.toArray m m2 dd Y sl S k)
     ⟨ho,z,by simpa using L,show Value.bool k≠Value.notImplemented/\Q (.bool k) s from⟨(fun x=>nomatch x),hQ⟩⟩ Z
   |_=>cases h
  |tup a6=>
   cases e with
   |tup a5=>
    obtain⟨a1,a4,rfl,sq,rs⟩:=r1.t'
    obtain⟨a2,a3,rfl,O,U⟩:=r2.t'
    cases q1;cases q2
    obtain⟨its,vr,⟨⟨cls,dd,data,sl⟩,ho,hc,m,hd⟩,_⟩:=I.tuple sq
    obtain⟨q,N,⟨⟨a0,Y,data2,S⟩,z,J,m2,G⟩,_⟩:=I.tuple O
    simp only at hc hd J G
    subst hc hd J G
    have L:=yn1 I n M (fun a b c d e=>xq2 I n M a b c d e) rs U vr N (show lexF (eqF n) (ltF n) _ _=some k from h)
    intro prog w E Q hQ
    exact richCompare_meets_room (op:=.Lt) ⟨_,ho,rfl⟩ ⟨_,z,rfl⟩ PySem.F.slot_tuple_lt PySem.F.entry_tuple_lt (PySem.F.args_tuple_lt_2 _ _) (xn9 _ _ its.toArray q.toArray m m2 dd Y sl S k)
     ⟨ho,z,by simpa using L,show Value.bool k≠Value.notImplemented/\Q (.bool k) s from⟨(fun x=>nomatch x),hQ⟩⟩ Z
   |_=>cases h
  |_=>cases h
end
end
section
def ya5 (X:Cx)(kv:Value)(mk:D->Option D):Prop:=∀(pins:List (Addr×Obj))(σ:St)(H F:Hp)(s:Shared)(x:V)(u:Value)(d kd:D),Inv X pins σ H s->Same F H->Rep X.K F x d->RelV x u->mk d=some kd->
 wpAny (model X.prog X.w) X.A.in1 (call kv [u]) (fun w s'=>∃ y F' H',Inv X pins σ H' s'/\RelV y w/\Ext F H F' H'/\Rep X.K F' y kd) (fun _ _=>False) s
def shOf:Option Rt->Option D
 |some (.sh d)=>some d
 |some (.fr es)=>some (.lst es)
 |_=>none
theorem zc7 {X:Cx}{k:Nat}{f:Addr}{fd:FuncData}{p:Str}{m:MF}(F:FnOk X.prog X.w X.K X.mg X.base CX0 k f fd [p] (spR X.K 1 m))(U:Room k X.A.in1)(Z:Binds X.K fd [p] []):ya5 X (.ref f) (fun d=>shOf (m [d])):=by
 intro pins σ H J s x u d M I L r rx hm
 have hm:shOf (m [d])=some M:=hm
 have sp:spR X.K 1 m [x] H (fun v H'=>∃ F',Ext J H F' H'/\Rep X.K F' v M) E0:=by
  cases h:m [d]with
  |none=>rw[h]at hm;cases hm
  |some t=>
   rw[h]at hm
   cases t with
   |sh g=>cases hm;exact⟨rfl,J,[d],_,L,.cons r .nil,h,fun v F' H' j G=>⟨F',j,G⟩⟩
   |fr gs=>cases hm;exact⟨rfl,J,[d],_,L,.cons r .nil,h,fun q xs F' H' j Y N hH S=>⟨upd F' q (.lst xs),j.freeze N Y hH,.lst (SqL.of v7) (S.mono ((Same.refl F').put N))⟩⟩
   |pr _ _=>cases hm
 have i:=I.env0
 have env:Env0 X.prog X.w X.K X.mg X.base X.A.in1 X.stack s H:=⟨i.frames,i.mod,i.bs,i.bsz,i.funs,i.frf,i.hok,i.bare⟩
 refine wpAny_call (codeAny_mono (F.run X.A.in1 X.stack s H ⟨[u],[]⟩ [u] [x] _ E0 U env (Z s [u] I.kIn rfl) (.cons rx .nil) sp) fun r s' z=>?_)
 cases r with
 |error e=>exact z.elim
 |ok fl=>
  cases fl with
  |ret v=>
   obtain⟨y,H',I',O,F',j,G⟩:=I.after z
   exact⟨y,F',H',I',O,j,G⟩
  |next=>exact z.elim
  |brk=>exact z.elim
  |cont=>exact z.elim
def minF (mk:D->Option D):List D->D->D->Option D
 |[],b,_=>some b
 |d::ds,b,kb=>match mk d with
  |some kd=>(match ltF 8 kd kb with |some true=>minF mk ds d kd|some false=>minF mk ds b kb|none=>none)
  |none=>none
section
variable {X:Cx}{pins:List (Addr×Obj)}{σ:St}
theorem FpOk.now {H H':Hp}{b:Addr}(h:FpOk X pins H b)(hn:H' b=none):FpOk X pins H' b:=⟨hn,h.2⟩
theorem Inv.pin2 {H:Hp}{s:Shared}{a b:Addr}{j ob:Obj}(I:Inv X pins σ H s)(ha:FpOk X pins H a)(q:FpOk X pins H b)(G:s.heap.get? a=some j)(z:s.heap.get? b=some ob)(L:∀ v,j.data≠ .cell v)(J:∀ v,ob.data≠ .cell v):Inv X (pins++[(a,j),(b,ob)]) σ H s:=
 I.pins_of fun p i=>by
  rcases List.mem_append.mp i with i|i
  .exact I.pin p (mem_append_right _ i)
  .simp only[mem_cons,not_mem_nil,or_false]at i
   rcases i with rfl|rfl
   .exact⟨G,ha.1,ha.2.1,ha.2.2.1,L⟩
   .exact⟨z,q.1,q.2.1,q.2.2.1,J⟩
set_option maxHeartbeats 8000000 in
theorem ye7 {q:Addr}{mk:D->Option D}(hk:ya5 X (.ref q) mk)(hc:X.calm=true)(hu:X.A.units+64<cLine){l I S:Addr}{xs:List V}{ds:List D}{kw:List (Str×Value)}{dm:D}(Y:I≠S)(ad:l≠I)(ac:l≠S):
  ∀(r j:Nat)(H F H0 F0:Hp)(s:Shared)(xb yb:V)(M N:Value)(db G:D)(c:Nat)(R:Result->Shared->Prop),
   ds.length-(j+1)=r->j+1<=ds.length->Inv X pins σ H s->Ext F0 H0 F H->SqL X.K H l xs->Reps X.K F xs ds->s.heap.IsListIter I l (j+1)->s.heap.get? S=some (seqObj "list" #[M,N] c)->FpOk X pins H I->FpOk X pins H S->
   RelV xb M->Rep X.K F xb db->RelV yb N->Rep X.K F yb G->minF mk (ds.drop (j+1)) db G=some dm->
   (∀ x v F' H' s',Inv X pins σ H' s'->RelV x v->Ext F0 H0 F' H'->Rep X.K F' x dm->R (.ok (.ret v)) s')->
   codeAny (model X.prog X.w) X.A (.builtin "min.loop" ⟨[.ref I,.ref q,.ref S],kw⟩) R s:=by
 have L:(toString "min"++toString ".loop":String)="min.loop":=by decide
 intro r
 induction r with
 |zero=>
  intro j H F H0 F0 s xb yb M N db G c R hr hj I' ext sq rs U hS fI fS rb pb ry py hm hR
  have a8:j+1=ds.length:=by omega
  obtain⟨its,vr,pl,_⟩:=I'.list sq
  have zl:its.length=ds.length:=by rw[<-vr.length,rs.length]
  rw[a8,drop_length]at hm
  have hm:some db=some dm:=hm
  cases hm
  refine codeAny_builtin PySem.F.entry_min_loop ?_
  rw[Around.under_plainId PySem.F.plain_min_loop _]
  show wpAny _ X.A.in1 (seqItems? (.ref S) >>= _) _ _ _
  refine wpAny_bind (wpAny_seqItems hS rfl ?_)
  show wpAny _ X.A.in1 (tryCatch (pyNext (.ref I)) _ >>= _) _ _ _
  refine wpAny_bind (wpAny_tryCatch (wpAny_pyNext_list_end (I'.ok.hd hc) U pl.isList (by simp;omega) fun h' a3=>?_))
  have ab:h'.get? S=some (seqObj "list" #[M,N] c):=a3 S _ (Ne.symm Y) hS
  have s1:=Heap.SameBut.update h' S (Obj.mapSeq fun _=>(#[]:Array Value))
  show wpAny _ X.A.in1 (updateSeq S (fun _=>#[]) >>= _) _ _ _
  refine wpAny_bind ?_
  refine wpAny_updateSeq ab rfl (wpAny_bind (wpAny_letGo (wpAny_pure ?_)))
  have I9:Inv X pins σ H { s with heap:=h'.update S (Obj.mapSeq fun _=>(#[]:Array Value)),toks:=s.toks }:=I'.turnedL (fp:=[I,S]) (t':=s.toks) (fun b o i e=>by
   simp only[mem_cons,not_mem_nil,or_false,not_or]at i
   exact(s1.2 b i.2).trans (a3 b o i.1 e)) (fun b i=>by
   simp only[mem_cons,not_mem_nil,or_false]at i
   rcases i with rfl|rfl <;> assumption)
  exact hR xb M F H _ I9 rb ext pb
 |succ r ih=>
  intro j H F H0 F0 s xb yb M N db G c R hr hj I' ext sq rs U hS fI fS rb pb ry py hm hR
  have O:j+1<ds.length:=by omega
  obtain⟨its,vr,pl,_⟩:=I'.list sq
  have zl:its.length=ds.length:=by rw[<-vr.length,rs.length]
  obtain⟨d,hd⟩:∃ d,ds[j+1]? =some d:=⟨_,getElem?_eq_getElem O⟩
  obtain⟨x,hx,px⟩:=rs.get hd
  obtain⟨v,hv,rx⟩:=vr.get hx
  rw[Q0 hd]at hm
  unfold minF at hm
  cases hkd:mk d with
  |none=>rw[hkd]at hm;cases hm
  |some kd=>
   rw[hkd]at hm
   dsimp only at hm
   refine codeAny_builtin PySem.F.entry_min_loop ?_
   rw[Around.under_plainId PySem.F.plain_min_loop _]
   show wpAny _ X.A.in1 (seqItems? (.ref S) >>= _) _ _ _
   refine wpAny_bind (wpAny_seqItems hS rfl ?_)
   show wpAny _ X.A.in1 (tryCatch (pyNext (.ref I)) _ >>= _) _ _ _
   refine wpAny_bind (wpAny_tryCatch (wpAny_pyNext_list_item U pl.isList (by simpa using hv) fun h1 a5 s1=>?_))
   have I1:Inv X pins σ H { s with heap:=h1,toks:=s.toks }:=I'.turnedL (fp:=[I]) (fun b o i e=>s1.extBut b o (by simpa using i) e) (fun b i=>by rw[List.mem_singleton.mp i];exact fI)
   have aa:h1.get? S=some (seqObj "list" #[M,N] c):=s1.extBut _ _ (Ne.symm Y) hS
   obtain⟨oI,eI,cI,dI⟩:=id a5
   have Ip:=I1.pin2 fI fS eI aa (fun v z=>by rw[dI]at z;cases z) (fun v z=>by cases z)
   show wpAny _ X.A.in1 (tryCatch (holding [v] (call (.ref q) [v])) _ >>= _) _ _ _
   refine wpAny_bind (wpAny_tryCatch (wpAny_holding (wpAny_mono (hk (pins++[(I,oI),(S,seqObj "list" #[M,N] c)]) σ H F _ x v d kd Ip ext.fh px rx hkd) (fun w s2 hw=>?_) fun _ _ z=>z.elim)))
   obtain⟨y,F2,H2,I2,a1,J,a2⟩:=hw
   have pI:=I2.pin (I,oI) (by simp)
   have pS:=I2.pin (S,seqObj "list" #[M,N] c) (by simp)
   have a0:Inv X pins σ H2 s2:=I2.unpinned
   have a7:FpOk X pins H2 I:=fI.now pI.2.1
   have Z:FpOk X pins H2 S:=fS.now pS.2.1
   have a4:s2.heap.IsListIter I l (j+1+1):=⟨oI,pI.1,cI,dI⟩
   cases hlt8:ltF 8 kd G with
   |none=>rw[hlt8]at hm;cases hm
   |some bt=>
    rw[hlt8]at hm
    have a6:=xq2 a0 8 (A:=X.A.in1) (by show X.A.units+1+8<cLine;omega) (a2.mono J.fh) ((py.mono J.ff).mono J.fh) a1 ry hlt8
    show wpAny _ X.A.in1 (tryCatch (holding [v,w] (richCompare .Lt w N >>= _)) _ >>= _) _ _ _
    refine wpAny_bind (wpAny_tryCatch (wpAny_holding (wpAny_bind (a6 X.prog X.w _ _ ?_))))
    refine wpAny_bind (wpAny_holding (wpAny_truthy_bool ?_))
    refine wpAny_bind (wpAny_letGo (wpAny_pure ?_))
    cases bt with
    |true=>
     have s3:=Heap.SameBut.update s2.heap S (Obj.mapSeq fun _=>#[v,w])
     obtain⟨c2,a9⟩:∃ c2,(s2.heap.update S (Obj.mapSeq fun _=>#[v,w])).get? S=some (seqObj "list" #[v,w] c2):=⟨_,get?_update_seq pS.1 fun _=>#[v,w]⟩
     simp only[if_true]
     refine wpAny_bind ?_
     refine wpAny_updateSeq pS.1 rfl (wpAny_bind (wpAny_letGo ?_))
     rw[L]
     have I3:Inv X pins σ H2 { s2 with heap:=s2.heap.update S (Obj.mapSeq fun _=>#[v,w]),toks:=s2.toks }:=a0.turnedL (fp:=[S]) (fun b o i e=>(s3.2 b (by simpa using i)).trans e) (fun b i=>by rw[List.mem_singleton.mp i];exact Z)
     refine wpAny_pure ⟨plainId_quiet PySem.F.plain_min_loop _,ih (j+1) H2 F2 H0 F0 _ x y v w d kd c2 R (by omega) O I3 (ext.trans J) (J.hh.seq sq) (rs.mono J.ff) ⟨oI,(s3.2 I Y).trans pI.1,cI,dI⟩ a9 a7 Z rx (px.mono J.ff) a1 a2 hm hR⟩
    |false=>
     simp only[Bool.false_eq_true,if_false]
     refine wpAny_bind (wpAny_letGo ?_)
     rw[L]
     refine wpAny_pure ⟨plainId_quiet PySem.F.plain_min_loop _,ih (j+1) H2 F2 H0 F0 _ xb yb M N db G c R (by omega) O a0 (ext.trans J) (J.hh.seq sq) (rs.mono J.ff) a4 pS.1 a7 Z rb (pb.mono J.ff) ry (py.mono J.ff) hm hR⟩
end
end
section
theorem ze1 (a v u:Value):argsOk "min" ⟨[a],[(Str.ofString "key",v),(Str.ofString "default",u)]⟩:=by unfold argsOk;kernel_rfl
def minD (mk:D->Option D)(ds:List D)(d0:D):Option D:=match ds with
 |[]=>some d0
 |d::ds=>(match mk d with |some kd=>minF mk ds d kd|none=>none)
section
variable {X:Cx}{pins:List (Addr×Obj)}{σ:St}
set_option maxHeartbeats 8000000 in
theorem xr6 {q:Addr}{mk:D->Option D}(hk:ya5 X (.ref q) mk)(hc:X.calm=true)(hu:X.A.units+64<cLine){l:Addr}{xs:List V}{ds:List D}{dm d0:D}{H F:Hp}{s:Shared}{x0:V}{N:Value}{E:Value->Shared->Prop}{Q:Value->Shared->Prop}
  (I:Inv X pins σ H s) (sf:Same F H) (sq:SqL X.K H l xs) (rs:Reps X.K F xs ds) (r0:RelV x0 N) (p0:Rep X.K F x0 d0) (hm:minD mk ds d0=some dm)
  (hQ:∀ x v F' H' s',Inv X pins σ H' s'->RelV x v->Ext F H F' H'->Rep X.K F' x dm->Q v s'):
  wpAny (model X.prog X.w) X.A (call (.builtin "min") [.ref l] [(Str.ofString "key",.ref q),(Str.ofString "default",N)]) Q E s:=by
 have G:(toString "min"++toString ".loop":String)="min.loop":=by decide
 obtain⟨its,vr,pl,_⟩:=I.list sq
 have Z:=pl.isList
 obtain⟨ol,a6,_⟩:=id Z
 have a0:l<s.heap.objs.size:=Heap.lt_size a6
 refine kmk_tree PySem.F.kind_min PySem.F.plain_min PySem.F.entry_min (ze1 _ _ _) ?_
 show wpAny _ X.A.in1 (Builtin.Builtins.bindParams "min" ["key","default"] 0 ⟨[],[(Str.ofString "key",.ref q),(Str.ofString "default",N)]⟩ >>= _) _ _ s
 refine wpAny_bind (wpAny_of_eq (show Builtin.Builtins.bindParams "min" ["key","default"] 0 ⟨[],[(Str.ofString "key",.ref q),(Str.ofString "default",N)]⟩=pure [some (.ref q),some N]from rfl) ?_)
 refine wpAny_bind (wpAny_pure ?_)
 refine wpAny_bind (wpAny_pyIter_list Z ?_)
 refine wpAny_bind (wpAny_newList ?_ (Nat.zero_le _))
 rw[G]
 refine wpAny_pure ⟨plainId_quiet PySem.F.plain_min_loop _,?_⟩
 generalize L:({ cls:=.type "list_iterator",data:=.fields #[.ref l,.int 0 0] }:Obj)=oI0
 have hS:(s.heap.push oI0).objs.size=s.heap.objs.size+1:=size_push' ..
 have a8:l≠s.heap.objs.size:=Nat.ne_of_lt a0
 have a7:l≠(s.heap.push oI0).objs.size:=by rw[hS];exact Nat.ne_of_lt (Nat.lt_succ_of_lt a0)
 have M:s.heap.objs.size≠(s.heap.push oI0).objs.size:=by rw[hS];exact Nat.ne_of_lt (Nat.lt_succ_self _)
 have gI:((s.heap.push oI0).push (seqObj "list" #[] 0)).get? s.heap.objs.size=some oI0:=Heap.get?_push_of_some _ (Heap.get?_push_size _ (by rw[<-L];rfl))
 have gS:((s.heap.push oI0).push (seqObj "list" #[] 0)).get? (s.heap.push oI0).objs.size=some (seqObj "list" #[] 0):=Heap.get?_push_size _ rfl
 have fI:FpOk X pins H s.heap.objs.size:=I.fpOk (Nat.le_refl _) (I.hok.fresh (Nat.le_refl _))
 have fS:FpOk X pins H (s.heap.push oI0).objs.size:=I.fpOk (by rw[hS];exact Nat.le_succ _) (I.hok.fresh (by rw[hS];exact Nat.le_succ _))
 have I0:Inv X pins σ H { s with heap:=(s.heap.push oI0).push (seqObj "list" #[] 0),toks:=s.toks }:=I.turnedL (fp:=[]) (fun b o _ e=>Heap.get?_push_of_some _ (Heap.get?_push_of_some _ e)) (fun b j=>by cases j)
 generalize (s.heap.push oI0).objs.size=S at*
 generalize hI:s.heap.objs.size=J at*
 generalize (s.heap.push oI0).push (seqObj "list" #[] 0)=h0 at*
 have a2:h0.IsListIter J l 0:=⟨_,gI,by rw[<-L],by rw[<-L];rfl⟩
 have zl:its.length=ds.length:=by rw[<-vr.length,rs.length]
 obtain⟨its',U,Y,_⟩:=I0.list sq
 have O:its'.length=ds.length:=by rw[<-U.length,rs.length]
 refine codeAny_builtin PySem.F.entry_min_loop ?_
 rw[Around.under_plainId PySem.F.plain_min_loop _]
 show wpAny _ X.A.in1 (seqItems? (.ref S) >>= _) _ _ _
 refine wpAny_bind (wpAny_seqItems gS rfl ?_)
 show wpAny _ X.A.in1 (tryCatch (pyNext (.ref J)) _ >>= _) _ _ _
 cases ds with
 |nil=>
  have hm:some d0=some dm:=hm
  cases hm
  refine wpAny_bind (wpAny_tryCatch (wpAny_pyNext_list_end (I.ok.hd hc) a2 Y.isList (by simp at O ⊢;simp[O]) fun h' a9=>?_))
  refine wpAny_bind (wpAny_rule (wpAny_pure ?_))
  have I9:=I0.turnedL (h':=h') (fp:=[J]) (t':=s.toks) (fun b o j e=>a9 b o (by simpa using j) e) (fun b j=>by rw[List.mem_singleton.mp j];exact fI)
  exact hQ x0 N F H _ I9 r0 (Ext.refl sf) p0
 |cons d ds=>
  obtain⟨x,hx,px⟩:=rs.get (i:=0) (d:=d) rfl
  obtain⟨v,hv,rx⟩:=U.get hx
  unfold minD at hm
  dsimp only at hm
  cases hkd:mk d with
  |none=>rw[hkd]at hm;cases hm
  |some kd=>
   rw[hkd]at hm
   dsimp only at hm
   refine wpAny_bind (wpAny_tryCatch (wpAny_pyNext_list_item a2 Y.isList (by simpa using hv) fun h1 a1 s1=>?_))
   have I1:=I0.turnedL (h':=h1) (t':=s.toks) (fp:=[J]) (fun b o j e=>s1.extBut b o (by simpa using j) e) (fun b j=>by rw[List.mem_singleton.mp j];exact fI)
   have ab:h1.get? S=some (seqObj "list" #[] 0):=s1.extBut _ _ (Ne.symm M) gS
   obtain⟨oI,eI,cI,dI⟩:=id a1
   have Ip:=I1.pin2 fI fS eI ab (fun v z=>by rw[dI]at z;cases z) (fun v z=>by cases z)
   show wpAny _ X.A.in1 (tryCatch (holding [v] (call (.ref q) [v])) _ >>= _) _ _ _
   refine wpAny_bind (wpAny_tryCatch (wpAny_holding (wpAny_mono (hk (pins++[(J,oI),(S,seqObj "list" #[] 0)]) σ H F _ x v d kd Ip sf px rx hkd) (fun w s2 hw=>?_) fun _ _ z=>z.elim)))
   obtain⟨y,F2,H2,I2,a4,x2,a5⟩:=hw
   have pI:=I2.pin (J,oI) (by simp)
   have pS:=I2.pin (S,seqObj "list" #[] 0) (by simp)
   have ad:Inv X pins σ H2 s2:=I2.unpinned
   have ac:FpOk X pins H2 J:=fI.now pI.2.1
   have a3:FpOk X pins H2 S:=fS.now pS.2.1
   have s3:=Heap.SameBut.update s2.heap S (Obj.mapSeq fun _=>#[v,w])
   obtain⟨c2,aa⟩:∃ c2,(s2.heap.update S (Obj.mapSeq fun _=>#[v,w])).get? S=some (seqObj "list" #[v,w] c2):=⟨_,get?_update_seq pS.1 fun _=>#[v,w]⟩
   show wpAny _ X.A.in1 (updateSeq S (fun _=>#[v,w]) >>= _) _ _ _
   refine wpAny_bind (wpAny_updateSeq pS.1 rfl ?_)
   rw[G]
   have I3:Inv X pins σ H2 { s2 with heap:=s2.heap.update S (Obj.mapSeq fun _=>#[v,w]),toks:=s2.toks }:=ad.turnedL (fp:=[S]) (fun b o j e=>(s3.2 b (by simpa using j)).trans e) (fun b j=>by rw[List.mem_singleton.mp j];exact a3)
   refine wpAny_pure ⟨plainId_quiet PySem.F.plain_min_loop _,ye7 hk hc hu (ds:=d::ds) (dm:=dm) M a8 a7 _ 0 H2 F2 H F _ x y v w d kd c2 _ rfl (by simp) I3 x2 (x2.hh.seq sq) (rs.mono x2.ff) ⟨oI,(s3.2 J M).trans pI.1,cI,dI⟩ aa ac a3 rx (px.mono x2.ff) a4 a5 hm fun x v F' H' s' a b c d=>hQ x v F' H' s' a b c d⟩
@[irreducible] def zi3 (mk:D->Option D)(m:ML)(md:ME):ME:=fun ρ=>(m ρ).bind fun ds=>(md ρ).bind fun d0=>minD mk ds d0
theorem yy9 {mk:D->Option D}{m:ML}{i:ME}{ρ:Ro}{g:D}(h:zi3 mk m i ρ=some g):∃ ds j,m ρ=some ds/\i ρ=some j/\minD mk ds j=some g:=by
 unfold zi3 at h
 cases h1:m ρ with
 |none=>rw[h1]at h;cases h
 |some d=>
  cases h2:i ρ with
  |none=>rw[h1,h2]at h;cases h
  |some e=>rw[h1,h2]at h;exact⟨d,e,rfl,rfl,h⟩
theorem zc4 {mk:D->Option D}{m:ML}{i:ME}{ρ:Ro}{ds:List D}{j:D}(h1:m ρ=some ds)(h2:i ρ=some j):zi3 mk m i ρ=minD mk ds j:=by
 unfold zi3
 rw[h1,h2];rfl
theorem yr8 {q:Addr}{mk:D->Option D}{x:Str}{p pf kp z pos:Pos}{e ed:Expr}{m:ML}{md:ME}(hk:ya5 X (.ref q) mk)(hc:X.calm=true)(hu:X.A.units+64<cLine)(hg:Gl X "min")(hm:X.mg "min"=none)(U:Gl X x)(S:X.mg x=some (.ref q))(ha:PB X e m)(hd:PD X ed md)
  (Y:(x==("__debug__":Str))=false:=by decide) (O:starEach (e::[]) X.env=(false,eval e X.env)::starEach [] X.env:=by rfl):
  PD X (.Call (.Name "min" p) [e] [⟨some "key",.Name x pf,kp⟩,⟨some "default",ed,z⟩] pos) (zi3 mk m md):=by
 intro pins s σ H Q I h
 obtain⟨F0,H0,F,ρ,g,rl,em,q0⟩:=h
 obtain⟨ds,d0,h1,h2,h3⟩:=yy9 em
 refine wpAny_Call_Name_kw (W0 I hg hm PyProof.Rows.boot_min ?_ (by decide) (by decide))
 have A:=h9 ha pa_nil O pos pins s σ H (fun vs H1=>∃ p xs F1,vs=[.ref p]/\Ext F H F1 H1/\SqL X.K H1 p xs/\Reps X.K F1 xs ds) I ⟨F0,H0,F,ρ,ds,rl,h1,fun p xs F1 H1 G s1 N=>⟨p,xs,F1,rfl,G,s1,N⟩⟩
 refine callWith_kw (thn A fun us s1 i=>?_) (by rw[O];rfl) (by rw[O];rfl)
 obtain⟨vs,H1,I1,N,p,xs,F1,Z,G,sq,rs⟩:=i
 subst Z
 obtain⟨u,rfl,ru⟩:=P6 N
 cases ru
 have B:=zu2 (nm:=some "key") (kpos:=kp) (yr4 (v:=.ref q) (pos:=pf) U S rfl Y) (zu2 (nm:=some "default") (kpos:=z) hd ys6) pos pins s1 σ H1 (fun vs H2=>∃ y F2,vs=[.ref q,y]/\Ext F1 H1 F2 H2/\Rep X.K F2 y d0) I1 ⟨F0,H0,F1,ρ,d0,rl.go G,h2,fun y F2 H2 j M=>⟨y,F2,rfl,j,M⟩⟩
 refine thn B fun us s2 i=>?_
 obtain⟨vs,H2,I2,M,y,F2,Z,j,p0⟩:=i
 subst Z
 obtain⟨u1,u2,rfl,L,J⟩:=zr8 M
 cases L
 exact xr6 hk hc hu I2 j.fh (j.hh.seq sq) (rs.mono j.ff) J p0 h3 fun x v F' H' s' I' rx x3 px=>⟨x,H',I',rx,q0 x F' H' ((G.trans j).trans x3) px⟩
end
end
section
section
variable {prog:Program}{w:World}{A:Around}{E:Value->Shared->Prop}{s:Shared}
theorem T0:isSubtype (.type "range_iterator") (.type "reversed")=pure false:=by rw[isSubtype_type];kernel_rfl
def P0 (x left step:Int):Obj:={ cls:=.type "range_iterator",dict:=none,data:=.fields #[rawInt x,rawInt left,rawInt step],slots:=#[] }
theorem N3 {l:Addr}{j:Int}{t u v:Tok}{Q:Value->Shared->Prop}(i:IsRange s.heap l 0 j 1 t u v)(h1:-(2^62)<=j)(h2:j<2^62)
  (h:Q (.ref s.heap.objs.size) { s with heap:=s.heap.push (P0 ((j.toNat:Int)-1) j.toNat (-1)) }):wpAny (model prog w) A (call (.builtin "range.__reversed__") [.ref l]) Q E s:=by
 have G:s.TypeIs (.ref l) "range":=⟨_,i,rfl⟩
 refine wpAny_call_entry F.slot_range_reversed G F.entry_range_reversed ?_ (F.args_range_reversed_1 _)
 have q:Builtin.Range.rangeSize 0 j 1=(j.toNat:Int):=by rw[rangeSize_one];split <;> omega
 unfold Builtin.«range.__reversed__»
 refine wpAny_bind (wpAny_of_eq (a:=Value.ref l) rfl ?_)
 unfold Builtin.Range.rangeFields
 refine wpAny_bind ?_
 refine wpAny_bind (wpAny_field i rfl (x:=.int 0 t) rfl ?_)
 refine wpAny_bind (wpAny_of_eq (a:=some (0:Int)) rfl ?_)
 refine wpAny_bind (wpAny_field i rfl (x:=.int j u) rfl ?_)
 refine wpAny_bind (wpAny_of_eq (a:=some j) rfl ?_)
 refine wpAny_bind (wpAny_field i rfl (x:=.int 1 v) rfl ?_)
 refine wpAny_bind (wpAny_of_eq (a:=some (1:Int)) rfl ?_)
 refine wpAny_pure ?_
 dsimp only
 rw[q]
 have z:(Builtin.Range.rangeFitsLong 0&&Builtin.Range.rangeFitsLong j&&Builtin.Range.rangeFitsLong 1&&Builtin.Range.rangeFitsLong (-1)&&Builtin.Range.rangeFitsLong (0-1)&&Builtin.Range.rangeFitsLong (j.toNat:Int))=true:=by
  simp only[Builtin.Range.rangeFitsLong,Bool.and_eq_true,decide_eq_true_eq]
  omega
 simp only[z,Bool.not_true,Bool.false_eq_true,if_false,if_true]
 have e:(0:Int)+((j.toNat:Int)-1)*1=(j.toNat:Int)-1:=by omega
 rw[e]
 exact wpAny_bind (wpAny_newObj_type (wpAny_pure ⟨_,rfl,h⟩))
theorem M8 {l:Addr}{j:Int}{t u v:Tok}{Q₁:Value->Shared->Prop}(i:IsRange s.heap l 0 j 1 t u v)(h1:-(2^62)<=j)(h2:j<2^62)
  (h:Q₁ (.ref s.heap.objs.size) { s with heap:=s.heap.push (P0 ((j.toNat:Int)-1) j.toNat (-1)) }):
  codeAny (model prog w) A (.call (.builtin "reversed.__new__") ⟨[.type "reversed",.ref l],[]⟩) (wants Q₁ E) s:=by
 have q:s.TypeIs (.ref l) "range":=⟨_,i,rfl⟩
 refine codeAny_of_tree ?_
 show wpAny _ A.in1 (do checkBuiltinCall "reversed.__new__" ⟨[.type "reversed",.ref l],[]⟩;again (.builtin "reversed.__new__" ⟨[.type "reversed",.ref l],[]⟩)) _ _ s
 refine wpAny_bind (wpAny_of_eq (F.newCall_reversed_1 _) (wpAny_pure ⟨plainId_quiet F.plain_reversed_new _,codeAny_builtin F.entry_reversed_new ?_⟩))
 rw[Around.under_plainId F.plain_reversed_new _]
 unfold Builtin.«reversed.__new__»
 refine wpAny_bind (wpAny_of_eq (newClass_reversed _) ?_)
 try dsimp only
 refine wpAny_bind (wpAny_of_eq (a:=()) (by first|rfl|kernel_rfl) ?_)
 refine wpAny_bind (wpAny_of_eq (a:=()) (by first|rfl|kernel_rfl) ?_)
 try dsimp only
 refine wpAny_bind (wpAny_specialOf q F.slot_range_reversed.lookup ?_)
 try dsimp only
 refine wpAny_bind (wpAny_of_eq (F.slot_range_reversed.bind _) ?_)
 try dsimp only
 first
 |rw[if_neg (show ¬ ((Value.builtin "range.__reversed__"==Value.none)=true)from Bool.false_ne_true)]
 | (show wpAny _ _ (if (Value.builtin "range.__reversed__"==Value.none)=true then _ else _) _ _ _;rw[if_neg (show ¬ ((Value.builtin "range.__reversed__"==Value.none)=true)from Bool.false_ne_true)])
 refine wpAny_bind (wpAny_rule ?_)
 refine wpAny_bind (m:=runValue (.call (.builtin "range.__reversed__") ⟨[.ref l],[]⟩)) (show wpAny _ _ (call (.builtin "range.__reversed__") [.ref l]) _ _ _ from N3 i h1 h2 ?_)
 first
 |exact wpAny_pure h
 |exact wpAny_bind (wpAny_pure (wpAny_pure h))
theorem N1 {l:Addr}{j:Int}{t u v:Tok}{Q:Value->Shared->Prop}(q:IsRange s.heap l 0 j 1 t u v)(h1:-(2^62)<=j)(h2:j<2^62)
  (h:Q (.ref s.heap.objs.size) { s with heap:=s.heap.push (P0 ((j.toNat:Int)-1) j.toNat (-1)) }):wpAny (model prog w) A (call (.type "reversed") [.ref l]) Q E s:=by
 refine callType_other (U:="range_iterator") (Q₁:=fun obj i=>obj= .ref s.heap.objs.size/\i={ s with heap:=s.heap.push (P0 ((j.toNat:Int)-1) j.toNat (-1)) }) (by decide +kernel) F.create_reversed ⟨_,_,F.mro_reversed⟩ F.made_reversed T0 (F.typeCall_reversed_1 _) (M8 q h1 h2 ⟨rfl,rfl⟩) ?_
 rintro obj i ⟨rfl,rfl⟩
 exact⟨⟨_,Heap.get?_push_size _ rfl,rfl⟩,h⟩
end
def Itdn (hi:Int)(n:Nat):It:=⟨fun i _=>i<n,fun i H x H'=>H'=H/\x= .int (hi-i),fun i _=>n<=i⟩
theorem zq1 {P:Program}{w:World}{K:PySem.W.Frag}{tg:Expr}(it:Addr)(lo:Int)(n:Nat):Turn P w K tg (Itdn lo n) [it] it (fun i h=>IsRangeIter h it (lo+(i:Nat)*(-1)) ((n:Int)-(i:Nat)) (-1)) where
 mem:=by simp
 obj:=fun i h st b j=>by
  have e:b=it:=by simpa using j
  subst e
  exact⟨_,st,fun v z=>by
   have z':Data.fields _=Data.cell v:=z
   cases z'⟩
 keep:=fun i h h' st k=>k it (by simp) _ st
 item:=by
  intro X M hw N L i pins s σ H E I G st J
  subst M hw N
  obtain⟨Z,Y,f2,U,S,O⟩:=G it (by simp)
  have W:=Walks.range (prog:=X.prog) (w:=X.w) (I.ok.hd L) it lo (-1) n
  refine W.item i s _ _ J st fun v h' tk hv q kk=>?_
  obtain⟨t,rfl⟩:=hv
  have I1:Inv X pins σ H { s with heap:=h',toks:=tk }:=I.turned (fun b o j e=>kk b o (by simpa using j) e) Z Y U S O
  refine⟨_,rfl,yc3 (s:={ s with heap:=h',toks:=tk }) (n:="range_iterator") q rfl rfl (by decide) ⟨.int (lo-i),H,I1,⟨t,?_⟩,⟨rfl,rfl⟩,q,fun b j=>(G b j).1⟩⟩
  rw[show lo+(i:Int)*(-1)=lo-i by omega]
 done:=by
  intro X M hw N L i pins s σ H E I G st J
  subst M hw N
  obtain⟨Z,Y,f2,U,S,O⟩:=G it (by simp)
  exact wpAny_pyNext_range_end (I.ok.hd L) st (by have:n<=i:=J;omega) fun h' eb=>⟨rfl,I.turned (t':=s.toks) (fun b o j e=>eb b o j e) Z Y U S O⟩
 self:=fun _ _ _ _ _ st h=>wpAny_pyIter_rangeiter st h
section
variable {X:Cx}
def zm3 (n:Nat):List D:=(List.range n).map fun(i:Nat)=>D.int ((n:Int)-1-(i:Int))
theorem G4 (n:Nat):(zm3 n).length=n:=by unfold zm3;simp
theorem yc0 {K:W.Frag}{F:Hp}{n:Nat}:ItD K F (Itdn ((n:Int)-1) n) (zm3 n) where
 go:=fun i F1 H1 a b hi=>by rw[G4]at hi;exact hi
 yld:=fun i F1 H1 x H2 d a b e y=>by
  obtain⟨rfl,rfl⟩:=y
  unfold zm3 at e
  rw[getElem?_map]at e
  have hi:i<n:=by
   rcases Nat.lt_or_ge i n with h|h
   .exact h
   .rw[getElem?_eq_none (by simpa using h)]at e;cases e
  rw[getElem?_range hi]at e
  cases e
  exact⟨F1,.refl b,.int _⟩
 stop:=fun F1 H1 a b=>by rw[G4];exact Nat.le_refl n
def rngD:List D->Option (List D)
 |[.int j]=>if okR j=true then some (zm3 j.toNat)else none
 |_=>none
theorem ys9 {tg a:Expr}{m:ML}{p p2 pos i:Pos}(hg:Gl X "reversed")(hm:X.mg "reversed"=none)(U:Gl X "range")(S:X.mg "range"=none)(ha:PAs X [a] m)(he:starEach [a] X.env=(false,eval a X.env)::starEach [] X.env:=by rfl)
  (z:∀ pos,(backTo pos (starEach [] X.env)).any (·.1)=false:=by intro _;rfl)
  (Y:starEach (Expr.Call (.Name "range" p2) [a] [] i::[]) X.env=(false,eval (Expr.Call (.Name "range" p2) [a] [] i) X.env)::starEach [] X.env:=by rfl):
  PId X tg (.Call (.Name "reversed" p) [.Call (.Name "range" p2) [a] [] i] [] pos) (l5 rngD m):=by
 intro pins s σ H R I h
 obtain⟨F0,H0,F,ρ,its,rl,e,q⟩:=h
 obtain⟨ds,h1,h2⟩:=Z8 e
 have A:=h9 (B1 yj2 U S boot_range ha (by decide) (by decide) he (z _)) pa_nil Y pos pins s σ H (fun vs H1=>∃ p j F1 H2,vs=[.ref p]/\ds=[.int j]/\H2 p=none/\H1=upd H2 p (.rng 0 j)/\Ext F H F1 H2) I ⟨F0,H0,F,ρ,ds,rl,h1,fun vs F1 H1 L O=>by
  unfold rngD at h2
  split at h2
  .rename_i j
   cases O with
   |cons r rr=>
    cases rr;cases r
    exact⟨j,rfl,fun p hp=>⟨p,j,F1,H1,rfl,rfl,hp,rfl,L⟩⟩
  .cases h2⟩
 refine Call_ (W0 I hg hm boot_reversed (PyProof.Rows.callWith_type1 (thn A fun us s1 G=>?_) Y (z _)))
 obtain⟨vs,H1,N,O,q1⟩:=G
 obtain⟨l,j,F1,H2,ev,ed,hn,eH,L⟩:=q1
 subst ev ed eH
 obtain⟨u,rfl,ru⟩:=P6 O
 cases ru
 have h2:(if okR j=true then some (zm3 j.toNat)else none)=some its:=h2
 split at h2
 case isFalse=>cases h2
 rename_i M
 cases h2
 unfold okR at M
 simp only[Bool.and_eq_true,decide_eq_true_eq]at M
 obtain⟨t,u,v,eo⟩:=N.hok l _ v7
 refine N1 (j:=j) eo M.1 M.2 ?_
 have J:IsRangeIter (s1.heap.push (P0 ((j.toNat:Int)-1) j.toNat (-1))) s1.heap.objs.size ((j.toNat:Int)-1) j.toNat (-1):=Heap.get?_push_size _ rfl
 refine wpAny_pyIter_rangeiter J ?_
 have Z:Ext F H F1 (upd H2 l (.rng 0 j)):=L.trans (Ext.own L.fh hn)
 refine⟨s1.heap.objs.size,[s1.heap.objs.size],_,_,_,rfl,N.kept (t':=s1.toks) fun b o e=>Heap.get?_push_of_some _ e,zq1 _ ((j.toNat:Int)-1) j.toNat,?_,fun b hb=>?_,q _ F1 _ Z yc0⟩
 .have e1:((j.toNat:Int)-1)+((0:Nat):Int)*(-1)=(j.toNat:Int)-1:=by simp
  have e2:((j.toNat:Nat):Int)-((0:Nat):Int)=j.toNat:=by simp
  show IsRangeIter _ _ (((j.toNat:Int)-1)+((0:Nat):Int)*(-1)) (((j.toNat:Nat):Int)-((0:Nat):Int)) (-1)
  rw[e1,e2]
  exact J
 .have e:b=s1.heap.objs.size:=by simpa using hb
  subst e
  exact N.fpOk (Nat.le_refl _) (N.hok.fresh (Nat.le_refl _))
end
end
section
section
variable {X:Cx}{a b:Expr}{pos:Pos}
end
end
section
section
variable {X:Cx}{e:Expr}{pos:Pos}{es:List Expr}{E:XK}{mf:MG}{st:Stmt}{na:MEm}
end
section
variable {X:Cx}{a b:Expr}{pos:Pos}
def zj9 (n:Nat)(k:Int):Bool:=decide (-(2^62)<=k)&&decide (k<2^62)&&decide (n*k.toNat<=sizeLine)
@[irreducible] def mrep (x:ML)(y:ME):ML:=fun ρ=>(x ρ).bind fun ds=>match y ρ with
 |some (.int k)=>if zj9 ds.length k=true then some (List.replicate k.toNat ds).flatten else none
 |_=>none
theorem yp1 {x:ML}{y:ME}{ρ:Ro}{i:List D}(h:mrep x y ρ=some i):∃ ds k,x ρ=some ds/\y ρ=some (.int k)/\zj9 ds.length k=true/\i=(List.replicate k.toNat ds).flatten:=by
 unfold mrep at h
 cases h1:x ρ with
 |none=>rw[h1]at h;cases h
 |some ds=>
  rw[h1,Option.bind_some]at h
  split at h
  .rename_i k h2
   split at h
   .rename_i hk
    exact⟨ds,k,rfl,h2,hk,(Option.some.inj h).symm⟩
   .cases h
  .cases h
theorem yp2 {x:ML}{y:ME}{ρ:Ro}{ds:List D}{k:Int}(h1:x ρ=some ds)(h2:y ρ=some (.int k))(i:zj9 ds.length k=true):mrep x y ρ=some (List.replicate k.toNat ds).flatten:=by
 unfold mrep
 rw[h1,Option.bind_some,h2]
 simp only[i,if_true]
theorem zq7 {K:W.Frag}{F:Hp}{xs:List V}{ds:List D}(r:Reps K F xs ds):∀ k:Nat,Reps K F (List.replicate k xs).flatten (List.replicate k ds).flatten
 |0=>.nil
 |k+1=>by
  rw[replicate_succ,replicate_succ,flatten_cons,flatten_cons]
  exact r.append (zq7 r k)
theorem yr3 {x:ML}{y:ME}(ha:PF X a x)(M:PD X b y):PF X (.BinOp a .Mult b pos) (mrep x y):=(xt2 xh7 ha M).imp fun σ H Q j=>by
 obtain⟨F0,H0,F,ρ,g,rl,e,q⟩:=j
 obtain⟨ds,k,h1,h2,z,rfl⟩:=yp1 e
 unfold zj9 at z
 simp only[Bool.and_eq_true,decide_eq_true_eq]at z
 refine⟨F0,H0,F,ρ,ds,rl,h1,fun p xs F1 H1 I O S N J=>⟨F0,H0,F1,ρ,.int k,rl.go I,h2,fun v F2 H2 i L=>?_⟩⟩
 cases L
 refine⟨p,k,xs,rfl,rfl,i.hh _ _ N,by omega,by omega,by rw[J.length];exact z.2,fun w hw=>?_⟩
 have G:=I.trans i
 exact q w _ F2 _ (G.trans (Ext.own i.fh hw)) (G.hh.free hw) (i.fh.free hw) v7 (zq7 (J.mono i.ff) k.toNat)
end
end
section
section
variable {X:Cx}{pins:List (Addr×Obj)}{σ:St}
end
end
section
theorem ze2 (a v u:Value):argsOk "max" ⟨[a],[(Str.ofString "key",v),(Str.ofString "default",u)]⟩:=by unfold argsOk;kernel_rfl
def G2:D->Option D
 | .lst ds=>some (.int ds.length)
 |_=>none
def gtI:D->D->Option Bool
 | .int i,.int j=>some (decide (i>j))
 |_,_=>none
def maxF:List D->D->D->Option D
 |[],b,_=>some b
 |d::ds,b,kb=>match G2 d with
  |some kd=>(match gtI kd kb with |some true=>maxF ds d kd|some false=>maxF ds b kb|none=>none)
  |none=>none
def maxD (ds:List D)(d0:D):Option D:=match ds with
 |[]=>some d0
 |d::ds=>(match G2 d with |some kd=>maxF ds d kd|none=>none)
theorem xp3 {d e:D}{k:Bool}(h:gtI d e=some k):∃ i j,d= .int i/\e= .int j/\k=decide (i>j):=by
 cases d with
 |int i=>
  cases e with
  |int j=>cases h;exact⟨i,j,rfl,rfl,rfl⟩
  |_=>cases h
 |_=>cases h
theorem ww3 {K:W.Frag}{F F':Hp}{A:Around}{s:Shared}{x y:V}{v u:Value}{d e:D}{k:Bool}(z:Rep K F x d)(q:Rep K F' y e)(I:RelV x v)(G:RelV y u)(h:gtI d e=some k)(prog:Program)(w:World)(E:Value->Shared->Prop)(Q:Value->Shared->Prop)(J:Q (.bool k) s):wpAny (model prog w) A (richCompare .Gt v u) Q E s:=by
 obtain⟨i,j,rfl,rfl,rfl⟩:=xp3 h
 obtain rfl:=z.i'
 obtain rfl:=q.i'
 obtain⟨t,rfl⟩:=I
 obtain⟨t',rfl⟩:=G
 exact CmpOf.ints_gt (prog:=prog) (w:=w) (A:=A) (P:=fun n v=>∃ t,v= .int (if n=1 then i else j) t) (fun n=>if n=1 then i else j) (fun i v h=>h) 1 0 _ _ _ _ _ ⟨t,rfl⟩ ⟨t',rfl⟩ J
section
variable {X:Cx}{pins:List (Addr×Obj)}{σ:St}
theorem yn3 (pins:List (Addr×Obj))(σ:St)(H F:Hp)(s:Shared)(x:V)(u:Value)(d q:D)(I:Inv X pins σ H s)(j:Same F H)(r:Rep X.K F x d)(rx:RelV x u)(hm:G2 d=some q):
  wpAny (model X.prog X.w) X.A.in1 (call (.builtin "len") [u]) (fun w s'=>∃ y F' H',Inv X pins σ H' s'/\RelV y w/\Ext F H F' H'/\Rep X.K F' y q) (fun _ _=>False) s:=by
 cases r <;> first| (cases hm;done)|skip
 rename_i a xs ds z G
 cases hm
 cases rx
 have hn:=A0
 obtain⟨its,J,pl,L⟩:=I.list (j.seq z)
 have i:=J.length
 refine Calls.call_len_list pl.isList (by simp only[size_toArray] <;> omega) ⟨.int ds.length,F,H,I.tok _,⟨s.toks+1,by rw[size_toArray,<-i,G.length]⟩,.refl j,.int _⟩
set_option maxHeartbeats 8000000 in
theorem yd1 (hc:X.calm=true)(hu:X.A.units+64<cLine){l I S:Addr}{xs:List V}{ds:List D}{kw:List (Str×Value)}{dm:D}(U:I≠S)(ad:l≠I)(ac:l≠S):
  ∀(r j:Nat)(H F H0 F0:Hp)(s:Shared)(Z yb:V)(J L:Value)(db q:D)(c:Nat)(R:Result->Shared->Prop),
   ds.length-(j+1)=r->j+1<=ds.length->Inv X pins σ H s->Ext F0 H0 F H->SqL X.K H l xs->Reps X.K F xs ds->s.heap.IsListIter I l (j+1)->s.heap.get? S=some (seqObj "list" #[J,L] c)->FpOk X pins H I->FpOk X pins H S->
   RelV Z J->Rep X.K F Z db->RelV yb L->Rep X.K F yb q->maxF (ds.drop (j+1)) db q=some dm->
   (∀ x v F' H' s',Inv X pins σ H' s'->RelV x v->Ext F0 H0 F' H'->Rep X.K F' x dm->R (.ok (.ret v)) s')->
   codeAny (model X.prog X.w) X.A (.builtin "max.loop" ⟨[.ref I,.builtin "len",.ref S],kw⟩) R s:=by
 have G:(toString "max"++toString ".loop":String)="max.loop":=by decide
 intro r
 induction r with
 |zero=>
  intro j H F H0 F0 s Z yb J L db q c R hr hj I' ext sq rs O hS fI fS rb pb ry py hm hR
  have a8:j+1=ds.length:=by omega
  obtain⟨its,vr,pl,_⟩:=I'.list sq
  have zl:its.length=ds.length:=by rw[<-vr.length,rs.length]
  rw[a8,drop_length]at hm
  have hm:some db=some dm:=hm
  cases hm
  refine codeAny_builtin PySem.F.entry_max_loop ?_
  rw[Around.under_plainId PySem.F.plain_max_loop _]
  show wpAny _ X.A.in1 (seqItems? (.ref S) >>= _) _ _ _
  refine wpAny_bind (wpAny_seqItems hS rfl ?_)
  show wpAny _ X.A.in1 (tryCatch (pyNext (.ref I)) _ >>= _) _ _ _
  refine wpAny_bind (wpAny_tryCatch (wpAny_pyNext_list_end (I'.ok.hd hc) O pl.isList (by simp;omega) fun h' a2=>?_))
  have ab:h'.get? S=some (seqObj "list" #[J,L] c):=a2 S _ (Ne.symm U) hS
  have s1:=Heap.SameBut.update h' S (Obj.mapSeq fun _=>(#[]:Array Value))
  show wpAny _ X.A.in1 (updateSeq S (fun _=>#[]) >>= _) _ _ _
  refine wpAny_bind ?_
  refine wpAny_updateSeq ab rfl (wpAny_bind (wpAny_letGo (wpAny_pure ?_)))
  have I9:Inv X pins σ H { s with heap:=h'.update S (Obj.mapSeq fun _=>(#[]:Array Value)),toks:=s.toks }:=I'.turnedL (fp:=[I,S]) (t':=s.toks) (fun b o i e=>by
   simp only[mem_cons,not_mem_nil,or_false,not_or]at i
   exact(s1.2 b i.2).trans (a2 b o i.1 e)) (fun b i=>by
   simp only[mem_cons,not_mem_nil,or_false]at i
   rcases i with rfl|rfl <;> assumption)
  exact hR Z J F H _ I9 rb ext pb
 |succ r ih=>
  intro j H F H0 F0 s Z yb J L db q c R hr hj I' ext sq rs O hS fI fS rb pb ry py hm hR
  have N:j+1<ds.length:=by omega
  obtain⟨its,vr,pl,_⟩:=I'.list sq
  have zl:its.length=ds.length:=by rw[<-vr.length,rs.length]
  obtain⟨d,hd⟩:∃ d,ds[j+1]? =some d:=⟨_,getElem?_eq_getElem N⟩
  obtain⟨x,hx,px⟩:=rs.get hd
  obtain⟨v,hv,rx⟩:=vr.get hx
  rw[Q0 hd]at hm
  unfold maxF at hm
  cases hkd:G2 d with
  |none=>rw[hkd]at hm;cases hm
  |some kd=>
   rw[hkd]at hm
   dsimp only at hm
   refine codeAny_builtin PySem.F.entry_max_loop ?_
   rw[Around.under_plainId PySem.F.plain_max_loop _]
   show wpAny _ X.A.in1 (seqItems? (.ref S) >>= _) _ _ _
   refine wpAny_bind (wpAny_seqItems hS rfl ?_)
   show wpAny _ X.A.in1 (tryCatch (pyNext (.ref I)) _ >>= _) _ _ _
   refine wpAny_bind (wpAny_tryCatch (wpAny_pyNext_list_item O pl.isList (by simpa using hv) fun h1 a4 s1=>?_))
   have I1:Inv X pins σ H { s with heap:=h1,toks:=s.toks }:=I'.turnedL (fp:=[I]) (fun b o i e=>s1.extBut b o (by simpa using i) e) (fun b i=>by rw[List.mem_singleton.mp i];exact fI)
   have aa:h1.get? S=some (seqObj "list" #[J,L] c):=s1.extBut _ _ (Ne.symm U) hS
   obtain⟨oI,eI,cI,dI⟩:=id a4
   have Ip:=I1.pin2 fI fS eI aa (fun v z=>by rw[dI]at z;cases z) (fun v z=>by cases z)
   show wpAny _ X.A.in1 (tryCatch (holding [v] (call (.builtin "len") [v])) _ >>= _) _ _ _
   refine wpAny_bind (wpAny_tryCatch (wpAny_holding (wpAny_mono (yn3 (pins++[(I,oI),(S,seqObj "list" #[J,L] c)]) σ H F _ x v d kd Ip ext.fh px rx hkd) (fun w s2 hw=>?_) fun _ _ z=>z.elim)))
   obtain⟨y,F2,H2,I2,a0,M,a1⟩:=hw
   have pI:=I2.pin (I,oI) (by simp)
   have pS:=I2.pin (S,seqObj "list" #[J,L] c) (by simp)
   have a7:Inv X pins σ H2 s2:=I2.unpinned
   have a6:FpOk X pins H2 I:=fI.now pI.2.1
   have Y:FpOk X pins H2 S:=fS.now pS.2.1
   have a3:s2.heap.IsListIter I l (j+1+1):=⟨oI,pI.1,cI,dI⟩
   cases hlt8:gtI kd q with
   |none=>rw[hlt8]at hm;cases hm
   |some bt=>
    rw[hlt8]at hm
    have a5:=ww3 (A:=X.A.in1) (s:=s2) a1 py a0 ry hlt8
    show wpAny _ X.A.in1 (tryCatch (holding [v,w] (richCompare .Gt w L >>= _)) _ >>= _) _ _ _
    refine wpAny_bind (wpAny_tryCatch (wpAny_holding (wpAny_bind (a5 X.prog X.w _ _ ?_))))
    refine wpAny_bind (wpAny_holding (wpAny_truthy_bool ?_))
    refine wpAny_bind (wpAny_letGo (wpAny_pure ?_))
    cases bt with
    |true=>
     have s3:=Heap.SameBut.update s2.heap S (Obj.mapSeq fun _=>#[v,w])
     obtain⟨c2,a9⟩:∃ c2,(s2.heap.update S (Obj.mapSeq fun _=>#[v,w])).get? S=some (seqObj "list" #[v,w] c2):=⟨_,get?_update_seq pS.1 fun _=>#[v,w]⟩
     simp only[if_true]
     refine wpAny_bind ?_
     refine wpAny_updateSeq pS.1 rfl (wpAny_bind (wpAny_letGo ?_))
     rw[G]
     have I3:Inv X pins σ H2 { s2 with heap:=s2.heap.update S (Obj.mapSeq fun _=>#[v,w]),toks:=s2.toks }:=a7.turnedL (fp:=[S]) (fun b o i e=>(s3.2 b (by simpa using i)).trans e) (fun b i=>by rw[List.mem_singleton.mp i];exact Y)
     refine wpAny_pure ⟨plainId_quiet PySem.F.plain_max_loop _,ih (j+1) H2 F2 H0 F0 _ x y v w d kd c2 R (by omega) N I3 (ext.trans M) (M.hh.seq sq) (rs.mono M.ff) ⟨oI,(s3.2 I U).trans pI.1,cI,dI⟩ a9 a6 Y rx (px.mono M.ff) a0 a1 hm hR⟩
    |false=>
     simp only[Bool.false_eq_true,if_false]
     refine wpAny_bind (wpAny_letGo ?_)
     rw[G]
     refine wpAny_pure ⟨plainId_quiet PySem.F.plain_max_loop _,ih (j+1) H2 F2 H0 F0 _ Z yb J L db q c R (by omega) N a7 (ext.trans M) (M.hh.seq sq) (rs.mono M.ff) a3 pS.1 a6 Y rb (pb.mono M.ff) ry (py.mono M.ff) hm hR⟩
set_option maxHeartbeats 8000000 in
theorem xr7 (hc:X.calm=true)(hu:X.A.units+64<cLine){l:Addr}{xs:List V}{ds:List D}{dm d0:D}{H F:Hp}{s:Shared}{x0:V}{M:Value}{E:Value->Shared->Prop}{Q:Value->Shared->Prop}
  (I:Inv X pins σ H s) (sf:Same F H) (sq:SqL X.K H l xs) (rs:Reps X.K F xs ds) (r0:RelV x0 M) (p0:Rep X.K F x0 d0) (hm:maxD ds d0=some dm)
  (hQ:∀ x v F' H' s',Inv X pins σ H' s'->RelV x v->Ext F H F' H'->Rep X.K F' x dm->Q v s'):
  wpAny (model X.prog X.w) X.A (call (.builtin "max") [.ref l] [(Str.ofString "key",.builtin "len"),(Str.ofString "default",M)]) Q E s:=by
 have q:(toString "max"++toString ".loop":String)="max.loop":=by decide
 obtain⟨its,vr,pl,_⟩:=I.list sq
 have Y:=pl.isList
 obtain⟨ol,a5,_⟩:=id Y
 have Z:l<s.heap.objs.size:=Heap.lt_size a5
 refine kmk_tree PySem.F.kind_max PySem.F.plain_max PySem.F.entry_max (ze2 _ _ _) ?_
 show wpAny _ X.A.in1 (Builtin.Builtins.bindParams "max" ["key","default"] 0 ⟨[],[(Str.ofString "key",.builtin "len"),(Str.ofString "default",M)]⟩ >>= _) _ _ s
 refine wpAny_bind (wpAny_of_eq (show Builtin.Builtins.bindParams "max" ["key","default"] 0 ⟨[],[(Str.ofString "key",.builtin "len"),(Str.ofString "default",M)]⟩=pure [some (.builtin "len"),some M]from rfl) ?_)
 refine wpAny_bind (wpAny_pure ?_)
 refine wpAny_bind (wpAny_pyIter_list Y ?_)
 refine wpAny_bind (wpAny_newList ?_ (Nat.zero_le _))
 rw[q]
 refine wpAny_pure ⟨plainId_quiet PySem.F.plain_max_loop _,?_⟩
 generalize G:({ cls:=.type "list_iterator",data:=.fields #[.ref l,.int 0 0] }:Obj)=oI0
 have hS:(s.heap.push oI0).objs.size=s.heap.objs.size+1:=size_push' ..
 have a7:l≠s.heap.objs.size:=Nat.ne_of_lt Z
 have a6:l≠(s.heap.push oI0).objs.size:=by rw[hS];exact Nat.ne_of_lt (Nat.lt_succ_of_lt Z)
 have L:s.heap.objs.size≠(s.heap.push oI0).objs.size:=by rw[hS];exact Nat.ne_of_lt (Nat.lt_succ_self _)
 have gI:((s.heap.push oI0).push (seqObj "list" #[] 0)).get? s.heap.objs.size=some oI0:=Heap.get?_push_of_some _ (Heap.get?_push_size _ (by rw[<-G];rfl))
 have gS:((s.heap.push oI0).push (seqObj "list" #[] 0)).get? (s.heap.push oI0).objs.size=some (seqObj "list" #[] 0):=Heap.get?_push_size _ rfl
 have fI:FpOk X pins H s.heap.objs.size:=I.fpOk (Nat.le_refl _) (I.hok.fresh (Nat.le_refl _))
 have fS:FpOk X pins H (s.heap.push oI0).objs.size:=I.fpOk (by rw[hS];exact Nat.le_succ _) (I.hok.fresh (by rw[hS];exact Nat.le_succ _))
 have I0:Inv X pins σ H { s with heap:=(s.heap.push oI0).push (seqObj "list" #[] 0),toks:=s.toks }:=I.turnedL (fp:=[]) (fun b o _ e=>Heap.get?_push_of_some _ (Heap.get?_push_of_some _ e)) (fun b j=>by cases j)
 generalize (s.heap.push oI0).objs.size=S at*
 generalize hI:s.heap.objs.size=J at*
 generalize (s.heap.push oI0).push (seqObj "list" #[] 0)=h0 at*
 have a1:h0.IsListIter J l 0:=⟨_,gI,by rw[<-G],by rw[<-G];rfl⟩
 have zl:its.length=ds.length:=by rw[<-vr.length,rs.length]
 obtain⟨its',O,U,_⟩:=I0.list sq
 have N:its'.length=ds.length:=by rw[<-O.length,rs.length]
 refine codeAny_builtin PySem.F.entry_max_loop ?_
 rw[Around.under_plainId PySem.F.plain_max_loop _]
 show wpAny _ X.A.in1 (seqItems? (.ref S) >>= _) _ _ _
 refine wpAny_bind (wpAny_seqItems gS rfl ?_)
 show wpAny _ X.A.in1 (tryCatch (pyNext (.ref J)) _ >>= _) _ _ _
 cases ds with
 |nil=>
  have hm:some d0=some dm:=hm
  cases hm
  refine wpAny_bind (wpAny_tryCatch (wpAny_pyNext_list_end (I.ok.hd hc) a1 U.isList (by simp at N ⊢;simp[N]) fun h' a8=>?_))
  refine wpAny_bind (wpAny_rule (wpAny_pure ?_))
  have I9:=I0.turnedL (h':=h') (fp:=[J]) (t':=s.toks) (fun b o j e=>a8 b o (by simpa using j) e) (fun b j=>by rw[List.mem_singleton.mp j];exact fI)
  exact hQ x0 M F H _ I9 r0 (Ext.refl sf) p0
 |cons d ds=>
  obtain⟨x,hx,px⟩:=rs.get (i:=0) (d:=d) rfl
  obtain⟨v,hv,rx⟩:=O.get hx
  unfold maxD at hm
  dsimp only at hm
  cases hkd:G2 d with
  |none=>rw[hkd]at hm;cases hm
  |some kd=>
   rw[hkd]at hm
   dsimp only at hm
   refine wpAny_bind (wpAny_tryCatch (wpAny_pyNext_list_item a1 U.isList (by simpa using hv) fun h1 a0 s1=>?_))
   have I1:=I0.turnedL (h':=h1) (t':=s.toks) (fp:=[J]) (fun b o j e=>s1.extBut b o (by simpa using j) e) (fun b j=>by rw[List.mem_singleton.mp j];exact fI)
   have aa:h1.get? S=some (seqObj "list" #[] 0):=s1.extBut _ _ (Ne.symm L) gS
   obtain⟨oI,eI,cI,dI⟩:=id a0
   have Ip:=I1.pin2 fI fS eI aa (fun v z=>by rw[dI]at z;cases z) (fun v z=>by cases z)
   show wpAny _ X.A.in1 (tryCatch (holding [v] (call (.builtin "len") [v])) _ >>= _) _ _ _
   refine wpAny_bind (wpAny_tryCatch (wpAny_holding (wpAny_mono (yn3 (pins++[(J,oI),(S,seqObj "list" #[] 0)]) σ H F _ x v d kd Ip sf px rx hkd) (fun w s2 hw=>?_) fun _ _ z=>z.elim)))
   obtain⟨y,F2,H2,I2,a3,x2,a4⟩:=hw
   have pI:=I2.pin (J,oI) (by simp)
   have pS:=I2.pin (S,seqObj "list" #[] 0) (by simp)
   have ac:Inv X pins σ H2 s2:=I2.unpinned
   have ab:FpOk X pins H2 J:=fI.now pI.2.1
   have a2:FpOk X pins H2 S:=fS.now pS.2.1
   have s3:=Heap.SameBut.update s2.heap S (Obj.mapSeq fun _=>#[v,w])
   obtain⟨c2,a9⟩:∃ c2,(s2.heap.update S (Obj.mapSeq fun _=>#[v,w])).get? S=some (seqObj "list" #[v,w] c2):=⟨_,get?_update_seq pS.1 fun _=>#[v,w]⟩
   show wpAny _ X.A.in1 (updateSeq S (fun _=>#[v,w]) >>= _) _ _ _
   refine wpAny_bind (wpAny_updateSeq pS.1 rfl ?_)
   rw[q]
   have I3:Inv X pins σ H2 { s2 with heap:=s2.heap.update S (Obj.mapSeq fun _=>#[v,w]),toks:=s2.toks }:=ac.turnedL (fp:=[S]) (fun b o j e=>(s3.2 b (by simpa using j)).trans e) (fun b j=>by rw[List.mem_singleton.mp j];exact a2)
   refine wpAny_pure ⟨plainId_quiet PySem.F.plain_max_loop _,yd1 hc hu (ds:=d::ds) (dm:=dm) L a7 a6 _ 0 H2 F2 H F _ x y v w d kd c2 _ rfl (by simp) I3 x2 (x2.hh.seq sq) (rs.mono x2.ff) ⟨oI,(s3.2 J L).trans pI.1,cI,dI⟩ a9 ab a2 rx (px.mono x2.ff) a3 a4 hm fun x v F' H' s' a b c d=>hQ x v F' H' s' a b c d⟩
@[irreducible] def K9 (m:ML)(md:ME):ME:=fun ρ=>(m ρ).bind fun ds=>(md ρ).bind fun d0=>maxD ds d0
theorem zo0 {m:ML}{i:ME}{ρ:Ro}{g:D}(h:K9 m i ρ=some g):∃ ds j,m ρ=some ds/\i ρ=some j/\maxD ds j=some g:=by
 unfold K9 at h
 cases h1:m ρ with
 |none=>rw[h1]at h;cases h
 |some d=>
  cases h2:i ρ with
  |none=>rw[h1,h2]at h;cases h
  |some e=>rw[h1,h2]at h;exact⟨d,e,rfl,rfl,h⟩
theorem yx0 {m:ML}{i:ME}{ρ:Ro}{ds:List D}{j:D}(h1:m ρ=some ds)(h2:i ρ=some j):K9 m i ρ=maxD ds j:=by
 unfold K9
 rw[h1,h2];rfl
theorem yr9 {p Y kp j pos:Pos}{e U:Expr}{m:ML}{Z:ME}(hc:X.calm=true)(hu:X.A.units+64<cLine)(hg:Gl X "max")(hm:X.mg "max"=none)(O:Gl X "len")(N:X.mg "len"=none)(ha:PB X e m)(hd:PD X U Z)
  (M:starEach (e::[]) X.env=(false,eval e X.env)::starEach [] X.env:=by rfl):
  PD X (.Call (.Name "max" p) [e] [⟨some "key",.Name "len" Y,kp⟩,⟨some "default",U,j⟩] pos) (K9 m Z):=by
 intro pins s σ H Q I h
 obtain⟨F0,H0,F,ρ,g,rl,em,q0⟩:=h
 obtain⟨ds,d0,h1,h2,h3⟩:=zo0 em
 refine wpAny_Call_Name_kw (W0 I hg hm PyProof.Rows.boot_max ?_ (by decide) (by decide))
 have A:=h9 ha pa_nil M pos pins s σ H (fun vs H1=>∃ p xs F1,vs=[.ref p]/\Ext F H F1 H1/\SqL X.K H1 p xs/\Reps X.K F1 xs ds) I ⟨F0,H0,F,ρ,ds,rl,h1,fun p xs F1 H1 z s1 L=>⟨p,xs,F1,rfl,z,s1,L⟩⟩
 refine callWith_kw (thn A fun us s1 i=>?_) (by rw[M];rfl) (by rw[M];rfl)
 obtain⟨vs,H1,I1,L,p,xs,F1,S,z,sq,rs⟩:=i
 subst S
 obtain⟨u,rfl,ru⟩:=P6 L
 cases ru
 show wpAny _ _ (evalAll ((do let v ← eval (.Name "len" Y) X.env;standAt pos;pure v)::(backToKw pos (keywordEach [⟨some "default",U,j⟩] X.env)).map (·.2))) _ _ s1
 refine wpAny_evalAll_cons (wpAny_bind (W0 I1 O N boot_len (wpAny_bind (wpAny_standAt (wpAny_pure ?_))) (by decide) (by decide)))
 have B:=zu2 (nm:=some "default") (kpos:=j) hd ys6 pos pins s1 σ H1 (fun vs H2=>∃ y F2,vs=[y]/\Ext F1 H1 F2 H2/\Rep X.K F2 y d0) I1 ⟨F0,H0,F1,ρ,d0,rl.go z,h2,fun y F2 H2 q J=>⟨y,F2,rfl,q,J⟩⟩
 refine thn B fun us s2 i=>?_
 obtain⟨vs,H2,I2,J,y,F2,S,q,p0⟩:=i
 subst S
 obtain⟨u2,rfl,G⟩:=P6 J
 exact xr7 hc hu I2 q.fh (q.hh.seq sq) (rs.mono q.ff) G p0 h3 fun x v F' H' s' I' rx x3 px=>⟨x,H',I',rx,q0 x F' H' ((z.trans q).trans x3) px⟩
end
end
section
section
variable {X:Cx}{pins:List (Addr×Obj)}{σ:St}
end
section
variable {X:Cx}
end
end
section
section
variable {X:Cx}{pins:List (Addr×Obj)}{σ:St}
end
end
end L2
namespace L2
open List
open PySem PySem.Spec PyProof.Rows PySem.Builtin PySem.Builtin.Str
section
section
variable {X:Cx}{a b c e o:Expr}{ma mb mo:ME}{pos:Pos}
end
end
section
section
variable {X:Cx}{a b c e o:Expr}{ma mb mo:ME}{pos:Pos}
end
end
end L2
namespace L2
open List
open PySem PySem.Spec PyProof.Rows
section
def yg2 (src:List (Option Nat)):Prop:=∀ i j k:Nat,src[i]? =some (some k)->src[j]? =some (some k)->i=j
theorem yg1 {src:List (Option Nat)}(h:∀ i,i<src.length->∀ j,j<src.length->src[i]? =src[j]?->src[i]? =some none\/i=j):yg2 src:=fun i j k hi q=>by
 have G:=(List.getElem?_eq_some_iff.mp hi).1
 have z:=(List.getElem?_eq_some_iff.mp q).1
 rcases h i G j z (by rw[hi,q])with e|e
 .rw[hi]at e;cases e
 .exact e
theorem zf7 {src:List (Option Nat)}{σ:St}{i k:Nat}{v:V}(h:src[i]? =some (some k))(j:σ[k]? =some (some v)):(blk0 src σ)[i]? =some (some v):=by
 unfold blk0
 rw[getElem?_map,h]
 simp only[Option.map_some,Option.bind_some,j];rfl
theorem zk1 {src:List (Option Nat)}{σ:St}{i k:Nat}{v:V}(h:src[i]? =some (some k))(j:(blk0 src σ)[i]? =some (some v)):σ[k]? =some (some v):=by
 unfold blk0 at j
 rw[getElem?_map,h]at j
 simp only[Option.map_some,Option.bind_some]at j
 cases hk:σ[k]? with
 |none=>rw[hk]at j;cases j
 |some o=>rw[hk]at j;simpa using j
section
variable {X:Cx}{a b c e o:Expr}{ma mb mo:ME}{pos:Pos}{st:Stmt}
def rSum (K:W.Frag):List V->Hp->VK->Prop:=fun vs H Q=>∃(p:Addr)(ns:List Int),vs=[.ref p]/\SqL K H p (ns.map V.int)/\Q (.int ns.sum) H
theorem yb2 (G:X.calm=true):CallR X (.builtin "sum") (rSum X.K):=by
 intro pins s σ H xs us Q I r h
 obtain⟨p,ns,rfl,z,q⟩:=h
 obtain⟨u,rfl,rx⟩:=P6 r
 cases rx
 obtain⟨its,j,pl,L⟩:=I.list z
 obtain⟨J,h1,h2⟩:=U0 j
 have i:=pl.isList
 rw[h1]at i
 refine sum_intListG (I.ok.hd G) i fun h' tk t' k=>?_
 refine⟨.int ns.sum,H,I.kept k,⟨t',?_⟩,q⟩
 rw[preSum_eq,take_of_length_le (by simp),<-h2]
@[irreducible] def msum (m:ML):ME:=fun ρ=>match m ρ with |some ds=>(match E4 ds with |some ns=>some (.int ns.sum)|none=>none)|none=>none
theorem yr6 {p:Pos}{m:ML}(N:X.calm=true)(L:Gl X "sum")(hm:X.mg "sum"=none)(ha:PB X e m)(I:bootBuiltins "sum"=some (.builtin "sum"))(J:starEach (e::[]) X.env=(false,eval e X.env)::starEach [] X.env:=by rfl)(M:starEach [e] X.env=(false,eval e X.env)::starEach [] X.env:=by rfl)(j:(backTo pos (starEach [] X.env)).any (·.1)=false:=by rfl):PD X (.Call (.Name "sum" p) [e] [] pos) (msum m):=
 (Z5 (yb2 N) L hm I (h9 ha pa_nil J) (by decide) (by decide) M j).imp fun σ H Q i=>by
  obtain⟨F0,H0,F,ρ,g,rl,e,q⟩:=i
  unfold msum at e
  cases h1:m ρ with
  |none=>rw[h1]at e;cases e
  |some ds=>
   rw[h1]at e
   cases h2:E4 ds with
   |none=>simp only[h2]at e;cases e
   |some ns=>
    simp only[h2]at e;cases e
    refine⟨F0,H0,F,ρ,ds,rl,h1,fun p xs F1 H1 z s1 G=>⟨p,ns,rfl,?_,q _ F1 H1 z (.int _)⟩⟩
    rw[<-R9 G h2];exact s1
end
end
section
section
variable {prog:Program}{w:World}{A:Around}{E:Value->Shared->Prop}{s:Shared}{l:Addr}{xs:Array (Int×Tok)}
end
section
variable {X:Cx}{a b c e o:Expr}{ma mb mo:ME}{pos:Pos}{st:Stmt}
end
section
variable {X:Cx}{a b c e:Expr}{na nb:MEm}{pos:Pos}{st:Stmt}{es:List Expr}{E:XK}{mf:MF}{m:MLm}
abbrev MBm:=Ro->Option (Bool×Ro)
end
end
section
section
variable {X:Cx}{a b c e:Expr}{na nb:MEm}{pos:Pos}{st:Stmt}{es:List Expr}{m:MLm}
end
end
section
section
variable {X:Cx}{e:Expr}{na:MEm}{pos:Pos}{st:Stmt}{es:List Expr}{m:ML}{mf:MG}{E:XK}
def zp8:List D->Bool
 |[]=>true
 | .int _::r=>zp8 r
 |_=>false
theorem zq6 {K:W.Frag}{F F':Hp}:∀{vs:List V}{ds:List D},zp8 ds=true->Reps K F vs ds->Reps K F' vs ds
 |_,[],_,.nil=>.nil
 |_,d::ds,h,.cons r rr=>by
  cases r with
  |int k=>exact .cons (.int k) (zq6 h rr)
  |_=>cases h
open Classical in
end
end
section
section
variable {X:Cx}
end
end
section
section
variable {X:Cx}{e:Expr}{pos:Pos}
def rAny (K:W.Frag):List V->Hp->VK->Prop:=fun vs H Q=>∃(p:Addr)(ns:List Int),vs=[.ref p]/\SqL K H p (ns.map V.int)/\Q (.bl (ns.any fun i=>i != 0)) H
theorem xb5 (xs:Array (Int×Tok)):(List.range (intItems xs).size).any (fun i=>numAt xs i != 0)=(xs.toList.map (·.1)).any fun i=>i != 0:=by
 rw[Bool.eq_iff_iff,any_eq_true,any_eq_true]
 constructor
 .rintro⟨i,hi,h⟩
  have hi:i<xs.size:=by simpa[intItems]using hi
  refine⟨numAt xs i,?_,h⟩
  refine List.mem_map.mpr ⟨xs[i],by simp,?_⟩
  simp[numAt,hi]
 .rintro⟨v,hv,h⟩
  obtain⟨p,q,rfl⟩:=List.mem_map.mp hv
  obtain⟨i,hi,rfl⟩:=getElem_of_mem q
  have j:i<xs.size:=by simpa using hi
  refine⟨i,by simpa[intItems]using j,?_⟩
  simpa[numAt,j]using h
theorem yb5 (S:X.calm=true):CallR X (.builtin "any") (rAny X.K):=by
 intro pins s σ H xs us Q I r h
 obtain⟨p,ns,rfl,M,q⟩:=h
 obtain⟨u,rfl,rx⟩:=P6 r
 cases rx
 obtain⟨its,L,pl,Z⟩:=I.list M
 obtain⟨z,h1,h2⟩:=U0 L
 have J:=pl.isList
 rw[h1]at J
 refine call_any_walk (iter_intList J fun G e st O j=>?_)
 subst e
 refine⟨_,_,_,_,_,_,fun i=>numAt z.toArray i != 0,rfl,Walks.list (A:=X.A.in1) (I.ok.hd S) _ p j (intItems z.toArray),st,fun i v s' Q' E' Y U=>?_,fun h' tk N=>?_⟩
 .obtain⟨t,rfl⟩:=intItems_at Y
  exact truthy_int U
 .refine⟨.bl (ns.any fun i=>i != 0),H,I.kept (old_kept N),?_,q⟩
  rw[xb5]
  show Value.bool _=Value.bool _
  rw[<-h2]
@[irreducible] def many (m:ML):ME:=fun ρ=>match m ρ with |some ds=>(match E4 ds with |some ns=>some (.bl (ns.any fun i=>i != 0))|none=>none)|none=>none
theorem xh4 {p:Pos}{m:ML}(M:X.calm=true)(J:Gl X "any")(hm:X.mg "any"=none)(ha:PB X e m)(G:bootBuiltins "any"=some (.builtin "any"))(I:starEach (e::[]) X.env=(false,eval e X.env)::starEach [] X.env:=by rfl)(L:starEach [e] X.env=(false,eval e X.env)::starEach [] X.env:=by rfl)(i:(backTo pos (starEach [] X.env)).any (·.1)=false:=by rfl):PD X (.Call (.Name "any" p) [e] [] pos) (many m):=
 (Z5 (yb5 M) J hm G (h9 ha pa_nil I) (by decide) (by decide) L i).imp fun σ H Q N=>by
  obtain⟨F0,H0,F,ρ,g,rl,e,q⟩:=N
  unfold many at e
  cases h1:m ρ with
  |none=>rw[h1]at e;cases e
  |some ds=>
   rw[h1]at e
   cases h2:E4 ds with
   |none=>simp only[h2]at e;cases e
   |some ns=>
    simp only[h2]at e;cases e
    refine⟨F0,H0,F,ρ,ds,rl,h1,fun p xs F1 H1 j s1 z=>⟨p,ns,rfl,?_,q _ F1 H1 j (.bl _)⟩⟩
    rw[<-R9 z h2];exact s1
end
end
section
def xj2 (sc fsc:Scope):Scope:={ sc with names:=sc.names.map fun(n,k)=>if (k== .free&&fsc.kind== .function&&fsc.names.lookup n==some .cell)then (n,.cell)else (n,k) }
theorem xo4 {X:Cx}{i sc:Scope}{q N:List Str}{src:List (Option Nat)}{C:Addr}{fp:List Addr}{s:Shared}{H:Hp}(j:Scope)(h1:X.env.scope=j)(h:xo5 (xj2 i j) q sc N src=true):Blk (f9 X i C q fp s H) sc N src:=
 b9 (xj2 i j) q (by rw[<-h1];rfl) rfl h
section
variable {X:Cx}{e:Expr}{ma:ME}{pos:Pos}
end
end
section
section
variable {X:Cx}{e:Expr}{ma:ME}{pos:Pos}
end
end
section
section
variable {prog:Program}{w:World}{A:Around}{E:Value->Shared->Prop}{s:Shared}
end
section
variable {X:Cx}
end
end
section
section
variable {X:Cx}{a:Expr}{na:MEm}{pos:Pos}{ca:MBm}
end
end
section
section
variable {X:Cx}{a b:Expr}{m:ML}{pos:Pos}
end
end
end L2
namespace L2
open List
open PySem PySem.Spec PyProof.Rows PySem.W PySem.Builtin PySem.Builtin.ObjectAttr PySem.Builtin.Getset_descriptor
section
structure XCls (K:W.Frag)(C:Addr):Prop where
 ga:findIn K (.ref C) "__getattribute__"=some (some (.builtin "BaseException.__getattribute__"))
 nog:findIn K (.ref C) "__getattr__"=some none
 cl:findIn K (.ref C) "__class__"=some (some (.builtin "object.__class__"))
 ob:mroIn K C (.type "object")=some true
 be:mroIn K C (.type "BaseException")=some true
section
variable {prog:Program}{w:World}{A:Around}{E:Value->Shared->Prop}{K:W.Frag}{x C:Addr}{ox:Obj}{h:Heap}{g:Array GenState}{d:Drawn}{t:Nat}{os:OsState}
theorem xn6 {tp:Value}{R:Result->Shared->Prop}(X:K.In h)(LT:∀ M:Model,Looks M h (typeOf (.ref x)) (.ref C))(hm:mroIn K C (.type "object")=some true)
  (i:R (.ok (.ret (.ref C))) ⟨h,g,d,t,os⟩):codeAny (model prog w) A (.call (.builtin "getset_descriptor.__get__") ⟨[.builtin "object.__class__",.ref x,tp],[]⟩) R ⟨h,g,d,t,os⟩:=by
 have q:=LT (model prog w)
 have j:=looks_mroIn (M:=model prog w) X hm
 refine codeAny_call_builtin F.slot_gs_get.plain F.entry_gs_get (F.slot_gs_get.check _ _ _ _ _ _ _ _ F.typeOf_object_class (F.args_gs_get _ _ tp) ?_)
 unfold Builtin.«getset_descriptor.__get__» descrGet
 rw[dga_obj]
 refine wpAny_bind (wpAny_pure ?_)
 unfold descrGetter;unfold descrCheckInstance;unfold descrNameAndClass isInstance
 simp only[KF.owner_class]
 repeat lk
 refine And.intro (Code.quiet_builtin _ (by decide +kernel)) (codeAny_builtin F.entry_object_class ?_)
 unfold Builtin.«object.__class__»;unfold shownTypeOf
 repeat lk
 exact i
theorem yh2 {tk:Tok}{Q:PySem.Fin->Shared->Prop}(Z:XCls K C)(X:K.In h)(LT:∀ M:Model,Looks M h (typeOf (.ref x)) (.ref C))(i:Q (.done (.ret (.ref C))) ⟨h,g,d,t,os⟩):
  wpAny (model prog w) A (Builtin.«object.__getattribute__» ⟨[.ref x,.str "__class__" tk],[]⟩) Q E ⟨h,g,d,t,os⟩:=by
 have G:=LT (model prog w)
 have z:=looks_findIn (M:=model prog w) X Z.cl
 have L2:Looks (model prog w) h (typeOf (.builtin "object.__class__")) (.type "getset_descriptor"):=Looks.of_pure F.typeOf_object_class
 have q:Looks (model prog w) h (typeLookup (.type "getset_descriptor") "__get__") (some (.builtin "getset_descriptor.__get__")):=Looks.of_pure F.slot_gs_get.lookup
 have j:Looks (model prog w) h (typeLookup (.type "getset_descriptor") "__set__") (some (.builtin "getset_descriptor.__set__")):=Looks.of_pure F.slot_gs_set.lookup
 repeat (first|with_reducible refine wpAny_call (xn6 X LT Z.ob ?_)|lk)
 exact i
theorem xx7 {tk:Tok}{R:Result->Shared->Prop}(Z:XCls K C)(X:K.In h)(LT:∀ M:Model,Looks M h (typeOf (.ref x)) (.ref C))(i:R (.ok (.ret (.ref C))) ⟨h,g,d,t,os⟩):
  codeAny (model prog w) A (.call (.builtin "BaseException.__getattribute__") ⟨[.ref x,.str "__class__" tk],[]⟩) R ⟨h,g,d,t,os⟩:=by
 have k1:builtinKind "BaseException.__getattribute__"=some .slot:=by decide +kernel
 have k2:splitId "BaseException.__getattribute__"=some ("BaseException","__getattribute__"):=by decide +kernel
 have k3:=F.args_bexc_ga (.ref x) (.str "__class__" tk)
 have q:=LT (model prog w)
 have j:=looks_mroIn (M:=model prog w) X Z.be
 refine codeAny_call_builtin (by decide +kernel) F.entry_bexc_ga ?_
 simp only[checkBuiltinCall,k1,k2]
 refine wpAny_bind ?_
 unfold isInstance
 refine wpAny_bind (q.at (j.at ?_))
 rw[if_neg (by decide)]
 exact wpAny_of_eq (a:=()) k3 (yh2 Z X LT i)
theorem yh3 {Q:Option Value->Shared->Prop}(Z:XCls K C)(X:K.In h)(LT:∀ M:Model,Looks M h (typeOf (.ref x)) (.ref C))(i:Q (some (.ref C)) ⟨h,g,d,t+1,os⟩):
  wpAny (model prog w) A (getAttr? (.ref x) "__class__") Q E ⟨h,g,d,t,os⟩:=by
 have G:=LT (model prog w)
 have q:=looks_findIn (M:=model prog w) X Z.ga
 have L2:=looks_findIn (M:=model prog w) X Z.nog
 unfold getAttr? getAttrBy? getAttrBy
 refine wpAny_bind (wpAny_mkText (wpAny_bind (wpAny_attempt (wpAny_holding (wpAny_bind (G.at (wpAny_bind (q.at ?_))))))))
 dsimp only
 rw[if_neg (by intro z;rw[Bool.and_eq_true]at z;exact absurd z.2 (by decide))]
 unfold getAttrByItsOwn hookBefore
 rw[if_pos (by rfl)]
 refine wpAny_bind (L2.at (wpAny_bind (wpAny_attempt (wpAny_holding ?_))))
 unfold callGetattribute
 rw[if_neg (by decide)]
 unfold boundAndCalled
 have j:bindSpecial (.builtin "BaseException.__getattribute__") (.ref x)=pure (.builtin "BaseException.__getattribute__",[.ref x]):=F.attr_ValueError.ga.bind _
 refine wpAny_bind (wpAny_of_eq j (wpAny_call (xx7 Z X LT ?_)))
 exact handed_on rfl (wpAny_pure i)
theorem XAt.looks {a C:Addr}(p:XAt a C h)(M:Model):Looks M h (typeOf (.ref a)) (.ref C):=by
 obtain⟨o,vs,h1,h2,_⟩:=p
 exact h2 ▸ (Looks.ld h1).andThen .now
theorem yd5 {a C:Addr}(Z:XCls K C):KitX K (.ref a) (.ref C) (XAt a C) where
 ty:=fun M h _ p=>p.looks M
 it:=fun M h X _=>by
  have q:=Z.ob
  unfold mroIn at q
  cases hc:clsIn K C with
  |none=>rw[hc]at q;cases q
  |some cd=>
   unfold clsIn at hc
   split at hc
   .rename_i c' d' cd' sl' ho
    intro N J L s1 G j
    unfold isType loadHead
    exact wpAny_bind (wpAny_loadPart (G _ _ (X C _ ho)) (wpAny_pure j))
   .cases hc
 ne:=fun h tp dd its n sl X i=>by
  refine Bool.eq_false_iff.mpr fun z=>?_
  have e:C=tp:=Value.ref.inj (beq_iff_eq.mp z)
  subst e
  have q:=Z.ob
  unfold mroIn at q
  cases hc:clsIn K C with
  |none=>rw[hc]at q;cases q
  |some cd=>
   unfold clsIn at hc
   split at hc
   .rename_i c' d' cd' sl' ho
    cases (X _ _ ho).symm.trans i
   .cases hc
 ca:=fun{prog w A E Q s} X p I=>by
  obtain⟨hh,g,d,t,os⟩:=s
  exact yh3 Z X p.looks I
end
end
end L2
namespace L2
open List
open PySem PySem.Spec PyProof.Rows
section
structure Flown (P:Program)(w:World)(outer:List Env)(H:Hp)(s:Shared)(H':Hp)(B h':Heap):Prop where
 un:Un (frs outer) [] H H' s.heap h'
 ok:HOk P w H' h'
 st:B.StaysIn h'
 trk:∀ b o,H' b=some o->∃ ob,B.get? b=some ob
 old:∀ b o,s.heap.get? b=some o->b∉frs outer->∃ ob,B.get? b=some ob
def CXx (P:Program)(w:World):CXT:=fun outer H s E ev s'=>∃(e C:Addr)(a0:Value)(H':Hp)(B:Heap),ev= .ref e/\s'.os=s.os/\AllBare s'.gens/\Flown P w outer H s H' B s'.heap/\
 Heap.FlyingW B outer e (.ref C) a0 s'.heap/\E (.ref C) none H'
section
variable {P:Program}{w:World}{outer:List Env}{H H':Hp}{s:Shared}{B h1 h2 base:Heap}
theorem Flown.on (f:Flown P w outer H s H' B h1)(fr:h1.FunFrames base outer)(st:B.StaysIn h2)(O:h1.UpToSlots h2):Flown P w outer H s H' B h2:=by
 have same:∀ b o,h1.get? b=some o->(∃ ob,B.get? b=some ob)->h2.get? b=some o:=fun b o e J=>by
  obtain⟨ob,L⟩:=J
  have:=f.st b ob L
  rw[e]at this;cases this
  exact st b o L
 have i:∀ b o,b∈frs outer->h1.get? b=some o->∃ sl,h2.get? b=some { o with slots:=sl }:=fun b o j e=>by
  obtain⟨_,o',N,hd⟩:=fr.mem j
  rw[e]at N;cases N
  exact O b o e hd
 refine⟨⟨fun b o e n j I=>same b o (f.un.keep b o e n j I) (f.old b o e j),fun b o e n j I=>?_,f.un.free,fun b o e I=>?_,f.un.tups,f.un.frzs,f.un.tbls⟩,fun b u e=>?_,st,f.trk,f.old⟩
 .obtain⟨sl,e1⟩:=f.un.slot b o e n j I
  obtain⟨G,M⟩:=i b _ j e1
  exact⟨G,M⟩
 .by_cases j:b∈frs outer
  .obtain⟨o1,e1⟩:=f.un.there b o e I
   obtain⟨G,M⟩:=i b _ j e1
   exact⟨_,M⟩
  .obtain⟨ob,L⟩:=f.old b o e j
   exact⟨ob,st b ob L⟩
 .refine(f.ok b u e).stay (fun c v S q=>same c v q ?_) (fun _ q=>q) fun _ _ q=>q
  rcases S with z|z
  .rw[z];exact f.trk b u e
  .exact f.trk c _ z
end
structure Top (X:Cx):Prop where
 stk:X.stack=X.env::X.outer
 frm:X.env.frame=some X.env.locals
 ex:X.ex=[]
section
variable {X:Cx}{pins:List (Addr×Obj)}{σ:St}{H H':Hp}{s:Shared}{B h1:Heap}
theorem Flown.inv {s':Shared}(I:Inv X pins σ H s)(f:Flown X.prog X.w X.stack H s H' B s'.heap)(os:s'.os=s.os)(bare:AllBare s'.gens):Inv X pins σ H' s':=
 I.call' (ch:=[]) os f.un f.ok bare fun b z=>absurd z (by simp)
theorem Flown.out {s':Shared}(T:Top X)(I:Inv X pins σ H s)(f:Flown X.prog X.w X.stack H s H' B s'.heap)(os:s'.os=s.os)(bare:AllBare s'.gens):Flown X.prog X.w X.outer X.H₀ X.s₀ H' B s'.heap:=by
 have G:=f.inv I os bare
 refine⟨by have:=G.base;rw[T.ex]at this;exact this,f.ok,f.st,f.trk,fun b o e j=>?_⟩
 obtain⟨i,q⟩:=I.base.there b o e (by rw[T.ex];simp)
 refine f.old b i q fun z=>?_
 rcases List.mem_cons.mp (I.stkSub b z)with z|z
 .exact absurd (Nat.lt_of_lt_of_le (Heap.lt_size e) I.ok.above) (by rw[z];exact Nat.lt_irrefl _)
 .exact j z
end
theorem ObjOk.there {P:Program}{w:World}{H:Hp}{h:Heap}{a:Addr}{o:HO}(x:ObjOk P w H h a o):∃ ob,h.get? a=some ob:=by
 cases o with
 |lst xs=>obtain⟨_,_,_,_,e⟩:=x;exact⟨_,e⟩
 |tup xs=>obtain⟨_,_,_,⟨_,e,_⟩⟩:=x;exact⟨_,e⟩
 |dK kvs=>obtain⟨_,_,_,_,o,_,_,e,_⟩:=x;exact⟨_,e⟩
 |dT kvs=>obtain⟨_,_,_,_,o,_,_,e,_⟩:=x;exact⟨_,e⟩
 |set S n=>obtain⟨o,_,_,_,e,_⟩:=x;exact⟨_,e⟩
 |ins C dx fs=>obtain⟨_,_,_,e,_⟩:=x;exact⟨_,e⟩
 |own y=>exact x
 |xd fs=>obtain⟨_,⟨_,_,_,e,_⟩,_⟩:=x;exact⟨_,e⟩
 |rng lo hi=>obtain⟨_,_,_,e⟩:=x;exact⟨_,e⟩
 |frz ob u=>exact⟨_,x.1⟩
 |tbl ps=>exact⟨_,show h.get? a=some _ from x⟩
 |met f y=>exact⟨_,show h.get? a=some _ from x⟩
 |ext φ=>exact x.2.1
abbrev bmV:List Value:=[.type "ValueError",.type "Exception",.type "BaseException",.type "object"]
theorem xobj {K:W.Frag}{h:Heap}{C:Addr}{j:List Value}{i:String}(X:K.In h)(q:W.excIn K C j i=true):
  ∃ bm N nm S bs hdct sn sub ab col dd k0 k1 k2 k3 k5 J,h.get? C=some (excClassObj nm S C N bs bm hdct sn sub ab col dd k0 k1 k2 k3 k5 i)/\h.Ns N J/\J "__init__"=none/\OwnTail h j bm:=by
 unfold W.excIn at q
 split at q
 .rename_i d1 cd sl ho
  split at q
  .rename_i C1 bm k0 k1 k2 k3 n1 k5 hm hs
   simp only[beq_iff_eq,Bool.not_eq_true',Bool.and_eq_true]at q
   obtain⟨⟨⟨⟨⟨O,M⟩,I⟩,L⟩,z⟩,G⟩:=q
   subst O M
   obtain⟨a1,a2,a3,a4,a5,a6,a7,a8,a9,Z,Y⟩:=cd
   dsimp only at hm I z G
   subst hm I
   obtain⟨l⟩:=sl
   have U:l=[k0,k1,k2,k3,some (.builtin n1),k5]:=hs
   subst U
   exact⟨bm,_,_,_,_,_,_,_,_,_,_,k0,k1,k2,k3,k5,_,X _ _ ho,.of_isNs (W.isNs_of_in X z),W.nsMap_none_of_in X z G,W.tail_of_in X L⟩
  .cases q
 .cases q
def XC (K:W.Frag)(c:Str)(C:Addr):Prop:=W.nsIn K mainGlobals c=some (some (.ref C))/\xx8 K C=some c
def RXp (X:Cx)(pins:List (Addr×Obj))(W:Str->St->Hp->Prop)(ev:Value)(s3:Shared):Prop:=
 ∃(e C:Addr)(a0:Value)(σ':St)(H1:Hp)(s1:Shared)(H':Hp)(B:Heap)(c:Str),ev= .ref e/\Inv X pins σ' H1 s1/\s3.os=s1.os/\AllBare s3.gens/\Flown X.prog X.w X.stack H1 s1 H' B s3.heap/\
  Heap.FlyingW B X.stack e (.ref C) a0 s3.heap/\XC X.K c C/\W c σ' H'
def RX (X:Cx)(pins:List (Addr×Obj))(W:Str->St->Hp->Prop)(ev:Value)(s':Shared):Prop:=
 wpAny (model X.prog X.w) X.A (noteFrame ev X.env) (fun _ s2=>wpAny (model X.prog X.w) X.A (setFlight ev none) (fun _ s3=>RXp X pins W ev s3) noE s2) noE s'
section
variable {X:Cx}{pins:List (Addr×Obj)}{σ:St}{H:Hp}{s:Shared}{W:Str->St->Hp->Prop}
theorem xw8 {E:XK}{J:Value}{s':Shared}(T:Top X)(I:Inv X pins σ H s)(h:CXx X.prog X.w X.stack H s E J s')(N:∀ v o H',E v o H'->∃ c C,v= .ref C/\XC X.K c C/\W c σ H'):RX X pins W J s':=by
 obtain⟨e,C,a0,H',B,rfl,os,bare,f,fl,q⟩:=h
 obtain⟨c,S,z,L,w⟩:=N _ _ _ q
 cases z
 have fr:X.A.frames=some (X.env::X.outer):=by rw[<-T.stk];exact I.ok.frames
 have G:=fl
 rw[T.stk]at fl
 refine wpAny_looks_onW fr T.frm fl fun h1 hh M=>?_
 have O:=f.on G.2.2.1 hh.1 M
 refine wpAny_landsW hh fun h2 i j=>?_
 rw[<-T.stk]at i hh
 exact⟨e,C,a0,σ,H,s,H',B,c,rfl,I,os,bare,O.on hh.2.2.1 i.1 j,i,L,w⟩
theorem xw7 {e C:Addr}{c:Str}{us:List Value}{h1:Heap}(T:Top X)(I:Inv X pins σ H s)(hm:Heap.MadeExcOf s.heap h1 e (.ref C) us)(M:XC X.K c C)(q:W c σ H):RX X pins W (.ref e) { s with heap:=h1 }:=by
 have fr:X.A.frames=some (X.env::X.outer):=by rw[<-T.stk];exact I.ok.frames
 have G:∀ env∈X.stack,∀ a,env.frame=some a->a∈frs X.stack:=fun env j a ha=>List.mem_filterMap.mpr ⟨env,j,ha⟩
 have ff:=PySem.W.funFrames_hide I.stack G
 have i:(PySem.W.hideAll s.heap (frs X.stack)).StaysIn s.heap:=fun b o z=>PySem.W.of_hideAll _ z
 have Z:Flown X.prog X.w X.stack H s H (PySem.W.hideAll s.heap (frs X.stack)) s.heap:=
  ⟨Un.refl,I.hok,i,fun b o z=>(by
   obtain⟨ob,eb⟩:=(I.hok b o z).there
   exact⟨ob,PySem.W.hideAll_get _ eb fun y=>by rw[I.stkFree b y]at z;cases z⟩),fun b o z U=>⟨o,PySem.W.hideAll_get _ z U⟩⟩
 obtain⟨t,j,S,ht⟩:=hm.there
 have J:s.heap.FunFrames (PySem.W.hideAll s.heap (frs X.stack)) (X.env::X.outer):=by rw[<-T.stk];exact ff
 have L:(PySem.W.hideAll s.heap (frs X.stack)).get? e=none:=by
  cases z:(PySem.W.hideAll s.heap (frs X.stack)).get? e with
  |none=>rfl
  |some o=>have:=i e o z;rw[hm.new]at this;cases this
 have key:wpAny (model X.prog X.w) X.A (noteFrame (.ref e) X.env) (fun _ s2=>wpAny (model X.prog X.w) X.A (setFlight (.ref e) none) (fun _ N=>RXp X pins W (.ref e) N) noE s2) noE { s with heap:=h1 }:=by
  unfold noteFrame
  simp only[T.frm]
  refine wpAny_bind (wpAny_field (s:={ s with heap:=h1 }) (x:=Value.none) j rfl (by rfl) ?_)
  rw[if_neg (by decide)]
  refine wpAny_newEntryW (s:={ s with heap:=h1 }) (a0:=.ref t) fr (J.of_keeps fun b o z _=>⟨o,hm.keeps b o z,rfl⟩) T.frm j (fun b o z=>hm.keeps b o (i b o z)) L rfl (by simp) (by rfl) fun h2 Y=>?_
  obtain⟨k1,k2,k3,O⟩:=Y
  rw[<-T.stk]at k2
  exact⟨e,C,.ref t,σ,H,s,H,_,c,rfl,I,rfl,I.bare,Z.on I.stack k1 ((Heap.UpToSlots.of_keeps hm.keeps).trans O),⟨k1,L,k2,k3⟩,M,q⟩
 exact key
theorem yt1 {E:XK}{j:Value}{s':Shared}(T:Top X)(h:RX X pins (fun c _ H'=>∀ C,XC X.K c C->E (.ref C) none H') j s'):
  wpAny (model X.prog X.w) X.A (leaving X.env j) (fun _ i=>CXx X.prog X.w X.outer X.H₀ X.s₀ E j i) (fun N i=>CXx X.prog X.w X.outer X.H₀ X.s₀ E N i) s':=by
 unfold leaving
 refine wpAny_bind (wpAny_mono h (fun _ s2 h2=>wpAny_mono h2 (fun _ O M=>?_) fun _ _ z=>z.elim) fun _ _ z=>z.elim)
 obtain⟨e,C,a0,G,H1,s1,H',B,c,rfl,I,os,bare,f,fl,J,q⟩:=M
 obtain⟨l1,l2,l3,L⟩:=fl
 rw[T.stk]at l3
 exact⟨e,C,a0,H',B,rfl,by rw[os];exact I.os,bare,f.out T I os bare,⟨l1,l2,l3.2.2,L⟩,q C J⟩
end
abbrev Cx.bear (X:Cx)(pins:List (Addr×Obj))(E:Value->Shared->Prop):Cx:={ X with pn:=X.pn++pins,xe:=E }
section
variable {X:Cx}{pins pins':List (Addr×Obj)}{σ:St}{H:Hp}{s:Shared}{E:Value->Shared->Prop}
theorem Cx.Ok.bear (ok:X.Ok):(X.bear pins E).Ok:=⟨ok.mod,ok.kind,ok.glob,ok.blt,ok.above,ok.inj,ok.has,ok.cab,ok.hd,ok.frames,ok.stk,ok.exf,ok.bs,ok.bsz,ok.noex,ok.exfs,ok.funs,ok.frf⟩
theorem Cx.Ok.unbear (ok:(X.bear pins E).Ok):X.Ok:=⟨ok.mod,ok.kind,ok.glob,ok.blt,ok.above,ok.inj,ok.has,ok.cab,ok.hd,ok.frames,ok.stk,ok.exf,ok.bs,ok.bsz,ok.noex,ok.exfs,ok.funs,ok.frf⟩
theorem Inv.bear (I:Inv X (pins++pins') σ H s):Inv (X.bear pins E) pins' σ H s:=⟨I.ok.bear,I.os,I.bare,I.base,I.loc,I.cell,I.free,I.freeC,fun p i=>I.pin p (by rw[<-append_assoc];exact i),I.hok,I.len⟩
theorem Inv.unbear (I:Inv (X.bear pins E) pins' σ H s):Inv X (pins++pins') σ H s:=⟨I.ok.unbear,I.os,I.bare,I.base,I.loc,I.cell,I.free,I.freeC,fun p i=>I.pin p (by rw[<-append_assoc]at i;exact i),I.hok,I.len⟩
theorem Inv.fewer (I:Inv X (pins++pins') σ H s):Inv X pins σ H s:=⟨I.ok,I.os,I.bare,I.base,I.loc,I.cell,I.free,I.freeC,fun p i=>I.pin p (by rw[<-append_assoc];exact mem_append_left _ i),I.hok,I.len⟩
theorem SP.unbear {D:Ends}{f:Flow}{s':Shared}(h:SP (X.bear pins E) pins' D f s'):SP X (pins++pins') D f s':=by
 cases f with
 |next=>obtain⟨i,H',I,q⟩:=h;exact⟨i,H',I.unbear,q⟩
 |brk=>obtain⟨i,H',I,q⟩:=h;exact⟨i,H',I.unbear,q⟩
 |cont=>obtain⟨i,H',I,q⟩:=h;exact⟨i,H',I.unbear,q⟩
 |ret u=>obtain⟨v,i,H',I,r,q⟩:=h;exact⟨v,i,H',I.unbear,r,q⟩
variable (nx:X.xe=noE)
include nx
theorem PT.bear {e:Expr}{t:TT}(h:PT X e t):PT (X.bear pins E) e t:=fun pins' s σ H Q I hw=>
 wpAny_mono (h _ s σ H Q I.unbear hw) (fun _ _ ⟨H',i,q⟩=>⟨H',i.bear,q⟩) fun _ _ z=>by rw[nx]at z;exact z.elim
theorem PA.bear {es:List Expr}{t:TA}(h:PA X es t):PA (X.bear pins E) es t:=fun pos pins' s σ H Q I hw=>
 wpAny_mono (h pos _ s σ H Q I.unbear hw) (fun _ _ ⟨v,H',i,r,q⟩=>⟨v,H',i.bear,r,q⟩) fun _ _ z=>by rw[nx]at z;exact z.elim
end
end
section
abbrev MXe:=Ro->Option Str
abbrev MXs:=Ro->Option (Str×Ro)
abbrev WX:=Str->St->Hp->Prop
def TXe (K:PySem.W.Frag)(x:MXe)(W:WX):St->Hp->Prop:=fun σ H=>∃ F0 H0 F ρ c,Rl K F0 H0 F H σ ρ/\x ρ=some c/\∀ F' H',Ext F H F' H'->W c σ H'
def TXs (K:PySem.W.Frag)(x:MXs)(W:WX):St->Hp->Prop:=fun σ H=>∃ F0 H0 F ρ c ρ',Rl K F0 H0 F H σ ρ/\x ρ=some (c,ρ')/\∀ F' H' σ',Rl K F0 H0 F' H' σ' ρ'->Same F F'->W c σ' H'
abbrev Cx.rx (X:Cx)(pins:List (Addr×Obj))(W:WX):Cx:=X.bear pins (RX X pins W)
def PEX (X:Cx)(e:Expr)(x:MXe):Prop:=∀ pins W,PE (X.rx pins W) e fun σ H _=>TXe X.K x W σ H
def PSX (X:Cx)(st:Stmt)(x:MXs):Prop:=∀ pins W,PS (X.rx pins W) st fun _ σ H=>TXs X.K x W σ H
def PSsX (X:Cx)(st:List Stmt)(x:MXs):Prop:=∀ pins W,PSs (X.rx pins W) st fun _ σ H=>TXs X.K x W σ H
def xE (x:MXe):MXs:=fun ρ=>(x ρ).map fun c=>(c,ρ)
theorem xE_e {K:PySem.W.Frag}{x:MXe}{W:WX}{σ:St}{H:Hp}(h:TXs K (xE x) W σ H):TXe K x W σ H:=by
 obtain⟨F0,H0,F,ρ,c,ρ',rl,e,w⟩:=h
 unfold xE at e
 cases h1:x ρ with
 |none=>rw[h1]at e;cases e
 |some j=>
  rw[h1]at e;cases e
  exact⟨F0,H0,F,ρ,c,rl,h1,fun F' H' i=>w F' H' σ (rl.go i) i.ff⟩
section
variable {X:Cx}{st:Stmt}{rest:List Stmt}{e c:Expr}{pos:Pos}
def xn4:MXs:=fun _=>none
theorem zq9:PSsX X rest xn4:=fun _ _ _ _ _ _ _ _ i=>by obtain⟨_,_,_,_,_,_,_,z,_⟩:=i;cases z
theorem yt9 {x:MXs}(h:PSX X st x):PSsX X (st::rest) x:=fun pins W=>(zd5 (h pins W) (zq9 pins W)).imp fun _ _ _ q=>q
theorem zd4 {x:MXs}(h:PSX X st x):PSsX X [st] x:=fun pins W=>ys0 (h pins W)
def xif (c:MB)(x y:MXs):MXs:=fun ρ=>match c ρ with |some true=>x ρ|some false=>y ρ|none=>none
theorem xj8 {ca:MB}{a b:List Stmt}{J I:MXs}(nx:X.xe=noE)(L:PC' X c ca)(ha:PSsX X a J)(M:PSsX X b I):PSX X (.If c a b pos) (xif ca J I):=fun pins W=>
 (xj9 (PT.bear nx L) (ha pins W) (M pins W)).imp fun D σ H z=>by
  obtain⟨F0,H0,F,ρ,c,ρ',rl,e,w⟩:=z
  unfold xif at e
  split at e
  .rename_i h1
   exact⟨F0,H0,F,ρ,_,rl,h1,fun F1 H1 q=>iteT ⟨F0,H0,F1,ρ,c,ρ',rl.go q,e,fun F' H' i j G=>w F' H' i j (q.ff.trans G)⟩⟩
  .rename_i h1
   exact⟨F0,H0,F,ρ,_,rl,h1,fun F1 H1 q=>iteF ⟨F0,H0,F1,ρ,c,ρ',rl.go q,e,fun F' H' i j G=>w F' H' i j (q.ff.trans G)⟩⟩
  .cases e
theorem yf1 {x:MXe}(h:PEX X e x)(i:swapsWith e none pos.line X.env=pure false:=by rfl):PSX X (.Expr e pos) (xE x):=fun pins W=>(zu1 (h pins W) i).imp fun _ _ _ q=>xE_e q
abbrev MFX:=List D->Option Str
def spX (K:W.Frag)(n:Nat)(x:MFX):Sp:=fun vs H _ E=>vs.length=n/\∃ F ds c,Same F H/\Reps K F vs ds/\x ds=some c/\∀ C F' H',XC K c C->Ext F H F' H'->E (.ref C) none H'
@[irreducible] def yv5 (x:MFX)(m:ML):MXe:=fun ρ=>(m ρ).bind x
theorem yf6 {k n:Nat}{f:Addr}{fd:FuncData}{ps:List Str}{J:MFX}{m:ML}{x:Str}{p:Pos}{es:List Expr}(nx:X.xe=noE)(T:Top X)(F:FnOk X.prog X.w X.K X.mg X.base (CXx X.prog X.w) k f fd ps (spX X.K n J))(hr:Room k X.A)(hg:Gl X x)(hm:X.mg x=some (.ref f))
  (hk:PySem.W.keepIn X.K (.ref f)=true) (hb:Binds X.K fd ps []) (hl:(e::es).length=n) (ha:PAs X (e::es) m) (S:∀ ρ ds,m ρ=some ds->ds.length=(e::es).length)
  (Y:(x==("__debug__":Str))=false:=by decide) (he:starEach (e::es) X.env=(false,eval e X.env)::starEach es X.env:=by rfl) (O:(backTo pos (starEach es X.env)).any (·.1)=false:=by rfl):
  PEX X (.Call (.Name x p) (e::es) [] pos) (yv5 J m):=by
 intro pins W pins' s σ H Q I h
 obtain⟨F0,H0,F1,ρ,c,rl,i,w⟩:=h
 unfold yv5 at i
 cases h1:m ρ with
 |none=>rw[h1]at i;cases i
 |some ds=>
  rw[h1]at i
  have i:J ds=some c:=i
  have Z:PA (X.rx pins W) (e::es) (TAs X.K m):=PA.bear nx ha
  refine wpAny_Call_Name_kw (J1 I hg hm ?_ Y)
  refine PySem.W.callWith_K (h₀:=X.base) I.ok.mod.kin hk (thn (Z pos pins' s σ H (fun vs H1=>vs.length=n/\∃ F2,Ext F1 H F2 H1/\Reps X.K F2 vs ds) I ⟨F0,H0,F1,ρ,ds,rl,h1,fun vs F2 H2 L M=>⟨by rw[M.length,S ρ ds h1,hl],F2,L,M⟩⟩) fun us s1 ⟨vs,H1,N,r,hn,F2,L,M⟩=>⟨N.kIn,?_⟩) he O
  have j:spX X.K n J vs H1 (fun _ _=>False) (fun v _ H'=>∃ c C,v= .ref C/\XC X.K c C/\W c σ H'):=⟨hn,F2,ds,c,L.fh,M,i,fun C F' H' xc x3=>⟨c,C,rfl,xc,w F' H' (L.trans x3)⟩⟩
  have U:us.length=ps.length:=by rw[<-r.length];exact F.len _ _ _ _ j
  have G:=hb s1 us N.kIn (by rw[append_nil];exact U)
  rw[append_nil]at G
  refine wpAny_call (codeAny_mono (F.run X.A X.stack s1 H1 ⟨us,[]⟩ us vs _ _ hr N.env0 G r j) fun r' s' q=>?_)
  cases r' with
  |error ev=>exact xw8 (E:=fun v _ H'=>∃ c C,v= .ref C/\XC X.K c C/\W c σ H') T N.unbear.fewer q fun v o H' z=>z
  |ok fl=>
   cases fl with
   |ret u=>obtain⟨_,_,_,_,_,_,_,z⟩:=q;exact z.elim
   |next=>exact False.elim q
   |brk=>exact False.elim q
   |cont=>exact False.elim q
def zr5 (c:Str)(m:ML):MXs:=fun ρ=>(m ρ).map fun _=>(c,ρ)
theorem yt8 {C:Addr}{x:Str}{es:List Expr}{m:ML}{n:Nat}{np cpos:Pos}(nx:X.xe=noE)(T:Top X)(hc:X.calm=true)(hg:Gl X x)(hm:X.mg x=some (.ref C))(Z:XC X.K x C)(q:PySem.W.excIn X.K C bmV "ValueError.__new__"=true)
  (ha:PAs X (e::es) m) (hl:∀ ρ ds,m ρ=some ds->ds.length=n) (hn:n<=sizeLine) (M:(x==("__debug__":Str))=false:=by decide)
  (U:starEach (e::es) X.env=(false,eval e X.env)::starEach es X.env:=by rfl) (z:(backTo cpos (starEach es X.env)).any (·.1)=false:=by rfl):
  PSX X (.Raise (some (.Call (.Name x np) (e::es) [] cpos)) none pos) (zr5 x m):=by
 intro pins W pins' s σ H D I h
 obtain⟨F0,H0,F1,ρ,c,ρ',rl,i,w⟩:=h
 unfold zr5 at i
 cases h1:m ρ with
 |none=>rw[h1]at i;cases i
 |some ds=>
  rw[h1]at i;cases i
  obtain⟨bm,N,nm,qn,bs,hdct,sn,sub,ab,col,dd,k0,k1,k2,k3,k5,mN,hC,hN,G,Y⟩:=xobj I.mod.kin q
  have O:PA (X.rx pins W) (e::es) (TAs X.K m):=PA.bear nx ha
  have h2:=O cpos pins' s σ H (fun vs H1=>vs.length=n/\W x σ H1) I ⟨F0,H0,F1,ρ,ds,rl,h1,fun vs F2 H2 S r2=>⟨by rw[r2.length];exact hl ρ ds h1,w F2 H2 σ (rl.go S) S.ff⟩⟩
  refine wpAny_Raise_call_subT (C:=C) (N:=N) (bm:=bm) (nm:=nm) (q:=qn) (bs:=bs) (sub:=sub) (sn:=sn) (hdct:=hdct) (col:=col) (ab:=ab) (dd:=dd) (k0:=k0) (k1:=k1) (k2:=k2) (k3:=k3) (k5:=k5) PySem.F.excBase_ValueError (Y.hasType PySem.F.excBase_ValueError.hasBase) (I.ok.hd hc) ?_ G (J1 I hg hm ⟨rfl,?_⟩ M)
  .rw[U]
   show (false || (backTo cpos (starEach es X.env)).any (·.1))=false
   rw[z];rfl
  .rw[U]at h2 ⊢
   refine Calls.evalArgs_plain (wpAny_mono h2 (fun us s2 ⟨vs,H1,j,r1,L,q1⟩=>⟨rfl,by rw[<-r1.length,L];exact hn,j.bk _ _ hC,hN.keeps j.bk,Y.keeps j.bk,fun h3 a J=>?_⟩) fun _ _ y=>y)
   exact xw7 T j.unbear.fewer J Z q1
def runX (n:Nat)(x:MXs):MFX:=fun ds=>(x (f7 n ds)).map (·.1)
theorem Fun.okX {P:Program}{w:World}{K:PySem.W.Frag}{mg:Str->Option Value}{base:Heap}{x qual:Str}{st:Stmt}{f:Addr}{fd:FuncData}{N ps:List Str}{k:Nat}{m:MXs}(Fn:Fun K x qual st f fd)(Sc:FnScope N ps (y9 st))
  (i:∀(cdv:Value)(A:Around)(outer:List Env)(s:Shared)(H:Hp)(E:XK),Room k (A.deeper (envOfC qual (y9 st) s.heap.objs.size f cdv))->PSsX (cxOf (CXx P w) P w K mg base N qual (y9 st) f cdv A outer s H E).nox (u7 st) m):
  FnOk P w K mg base (CXx P w) (k+1) f fd ps (spX K ps.length (runX N.length m)):=by
 obtain⟨oc,od,kV,doc,pm,an,cdv,ct,osl,rfl,S,j⟩:=Fn.ex
 refine xc1 S j Sc (fun vs H Q E h=>h.1) fun A outer s H vs Q E U h=>?_
 obtain⟨hl,F,ds,c,M,O,e,L⟩:=h
 unfold runX at e
 cases h1:m (f7 N.length ds)with
 |none=>rw[h1]at e;cases e
 |some o=>
  obtain⟨Z,ρ'⟩:=o
  rw[h1]at e;cases e
  have Y:=i cdv A outer s H E U
  let W:WX:=fun c _ H'=>∀ C,XC K c C->E (.ref C) none H'
  refine⟨fun _ σ H=>TXs K m W σ H,fun pins s1 σ H1 D I q=>?_,F,H,F,f7 N.length ds,Z,ρ',zv9 M O,h1,fun F' H' G rl _ C J=>L C F' H' J rl.ext⟩
  have I1:Inv (cxOf (CXx P w) P w K mg base N qual (y9 st) f cdv A outer s H E).nox (pins++[]) σ H1 s1:=by rw[append_nil];exact I.wish _
  refine wpAny_mono (Y pins W [] s1 σ H1 D I1.bear q) (fun fl s' z=>?_) fun ev s' z=>?_
  .have:=z.unbear
   rw[append_nil]at this
   exact this.unwish
  .exact yt1 (X:=(cxOf (CXx P w) P w K mg base N qual (y9 st) f cdv A outer s H E).nox) ⟨rfl,rfl,rfl⟩ z
end
end
section
section
variable {X:Cx}{pins:List (Addr×Obj)}{E:Value->Shared->Prop}(nx:X.xe=noE)
include nx
end
section
variable {X:Cx}{e c:Expr}{pos:Pos}{st:Stmt}{rest:List Stmt}
end
end
section
abbrev Cx.inX (X:Cx)(a:Addr):Cx:={ X with A:=X.A.mark (some (.ref a)),calm:=false }
section
variable {X:Cx}{pins:List (Addr×Obj)}{σ:St}{H:Hp}{s:Shared}{a C:Addr}
theorem Cx.Ok.inX (ok:X.Ok):(X.inX a).Ok:=⟨ok.mod,ok.kind,ok.glob,ok.blt,ok.above,ok.inj,ok.has,ok.cab,(fun z=>by cases z),ok.frames,ok.stk,ok.exf,ok.bs,ok.bsz,ok.noex,ok.exfs,ok.funs,ok.frf⟩
theorem Inv.inX (I:Inv X pins σ H s):Inv (X.inX a) pins σ H s:=⟨I.ok.inX,I.os,I.bare,I.base,I.loc,I.cell,I.free,I.freeC,I.pin,I.hok,I.len⟩
theorem Inv.outX (ok:X.Ok)(I:Inv (X.inX a) pins σ H s):Inv X pins σ H s:=⟨ok,I.os,I.bare,I.base,I.loc,I.cell,I.free,I.freeC,I.pin,I.hok,I.len⟩
theorem Inv.gone {i:Nat}{n:Str}{h':Heap}{t':Nat}{v:Option Value}{m:Str->Option Value}(I:Inv X pins σ H s)(hN:X.N.Nodup)(hi:X.N[i]? =some n)(hm:s.heap.Ns X.env.locals m)(hn:h'.Ns X.env.locals (fun x=>if x=n then v else m x))(G:Heap.SameBut X.env.locals s.heap h'):
  Inv X pins (σ.set i none) H { s with heap:=h',toks:=t' }:=by
 have old:∀ b o,X.s₀.heap.get? b=some o->b≠X.env.locals:=fun b o e=>Nat.ne_of_lt (Nat.lt_of_lt_of_le (Heap.lt_size e) I.ok.above)
 refine⟨I.ok,I.os,I.bare,⟨fun b o e n hb M=>(G.2 b (old b o e)).trans (I.base.keep b o e n hb M),fun b o e n hb M=>?_,I.base.free,fun b o e M=>?_,I.base.tups,I.base.frzs,I.base.tbls⟩,⟨_,hn,fun j y u L J e3=>?_⟩,fun y c e=>?_,I.free,I.freeC,fun p hp=>?_,fun b ob e=>?_,by rw[length_set];exact I.len⟩
 .obtain⟨sl,L⟩:=I.base.slot b o e n hb M
  exact⟨sl,(G.2 b (old b o e)).trans L⟩
 .obtain⟨o1,L⟩:=I.base.there b o e M
  exact⟨o1,(G.2 b (old b o e)).trans L⟩
 .have hj:j≠i:=fun z=>by
   subst z
   have hl:j<σ.length:=by
    rcases Nat.lt_or_ge j σ.length with z|z
    .exact z
    .rw[getElem?_eq_none (by simpa using z)]at J;cases J
   rw[getElem?_set_self hl]at J;cases J
  rw[getElem?_set_ne (Ne.symm hj)]at J
  obtain⟨m0,Y,Z⟩:=I.loc
  have U:∀ z,m0 z=m z:=fun z=>by
   obtain⟨oo,es,ep,ho,hd,_,hf⟩:=Y
   obtain⟨a1,a2,a3,O,S,_,a0⟩:=hm
   rw[ho]at O;cases O
   rw[hd]at S;cases S
   rw[<-hf,<-a0]
  obtain⟨w,r,l⟩:=Z j y u L J e3
  refine⟨w,r,?_⟩
  have hy:y≠n:=fun z=>hj (zu7 hN L (z ▸ hi))
  rcases l with⟨k,q⟩|⟨k,c,e,z⟩
  .exact .inl ⟨k,by show (if y=n then v else m y)=some w;rw[if_neg hy,<-U];exact q⟩
  .exact .inr ⟨k,c,e,z.sameBut G (I.cne y c e)⟩
 .obtain⟨w,z⟩:=I.cell y c e
  exact⟨w,z.sameBut G (I.cne y c e)⟩
 .obtain⟨e,n,ne,nf,d⟩:=I.pin p hp
  exact⟨(G.2 p.1 ne).trans e,n,ne,nf,d⟩
 .refine(I.hok b ob e).stay (fun c u hc q=>(G.2 c ?_).trans q) (fun _ q=>q) fun _ _ q=>q
  rintro rfl
  rcases hc with z|z
  .rw[<-z,I.free]at e;cases e
  .rw[I.free]at z;cases z
theorem Inv.track {o:HO}(I:Inv X pins σ H s)(M:X.s₀.heap.get? a=none)(L:a≠X.env.locals)(J:∀ x c,X.env.cells.lookup x=some c->c≠a)(G:∀ p∈X.pn++pins,p.1≠a)(hn:H a=none)(new:ObjOk X.prog X.w (upd H a o) s.heap a o):
  Inv X pins σ (upd H a o) s:=by
 have nb:∀ b o,X.s₀.heap.get? b=some o->b≠a:=fun b o e z=>by rw[z,M]at e;cases e
 refine⟨I.ok,I.os,I.bare,⟨I.base.keep,I.base.slot,fun b o e n j=>?_,I.base.there,fun b xs e=>?_,fun b o u e=>?_,fun b ps e=>?_⟩,I.loc,I.cell,?_,fun x c e=>?_,fun p i=>?_,fun b u e=>?_,I.len⟩
 .rw[v6 (nb b o e)];exact I.base.free b o e n j
 .have:=I.base.tups b xs e
  rw[v6 (l9 this hn)];exact this
 .have:=I.base.frzs b o u e
  rw[v6 (l9 this hn)];exact this
 .obtain⟨more,this⟩:=I.base.tbls b ps e
  exact⟨more,by rw[v6 (l9 this hn)];exact this⟩
 .rw[v6 (Ne.symm L)];exact I.free
 .rw[v6 (J x c e)];exact I.freeC x c e
 .obtain⟨e,n,r⟩:=I.pin p i
  exact⟨e,by rw[v6 (G p i)];exact n,r⟩
 .by_cases hb:b=a
  .subst hb;rw[v7]at e;cases e;exact new
  .rw[v6 hb]at e
   exact(I.hok b u e).stay (fun c v _ q=>q) (fun c q=>by rw[v6 (l9 q hn)];exact q) fun c xs q=>by rw[v6 (l9 q hn)];exact q
end
theorem Rl.drop {K:W.Frag}{F0 H0 F H:Hp}{σ:St}{ρ:Ro}(r:Rl K F0 H0 F H σ ρ)(i:Nat):Rl K F0 H0 F H (σ.set i none) (ρ.set i none):=by
 have get:∀(j:Nat) x,(ρ.set i none)[j]? =some (some x)->i≠j/\ρ[j]? =some (some x):=fun j x e=>by
  by_cases G:i=j
  .subst G
   have L:i<ρ.length:=by
    rcases Nat.lt_or_ge i ρ.length with z|z
    .exact z
    .rw[getElem?_eq_none (by simpa using z)]at e;cases e
   rw[getElem?_set_self L]at e;cases e
  .rw[getElem?_set_ne G]at e;exact⟨G,e⟩
 have N:∀(j:Nat) x,(σ.set i none)[j]? =some (some x)->σ[j]? =some (some x):=fun j x e=>by
  by_cases G:i=j
  .subst G
   have L:i<σ.length:=by
    rcases Nat.lt_or_ge i σ.length with z|z
    .exact z
    .rw[getElem?_eq_none (by simpa using z)]at e;cases e
   rw[getElem?_set_self L]at e;cases e
  .rw[getElem?_set_ne G]at e;exact e
 refine⟨r.ext,by simp[r.len],fun j d e=>?_,fun j ds e=>?_,fun j k p ds es M J I e3 O=>r.inj j k p ds es M (get j _ J).2 (get k _ I).2 (N j _ e3) (N k _ O),fun j p ds e=>?_,fun j k p ds es J I e3=>r.obn j k p ds es (get j _ J).2 (get k _ I).2 (N k _ e3),fun j k p q ds es J I=>r.ob1 j k p q ds es (get j _ J).2 (get k _ I).2,fun j q ds e=>?_⟩
 .obtain⟨n,e⟩:=get j _ e
  rw[getElem?_set_ne n];exact r.sh j d e
 .obtain⟨n,e⟩:=get j _ e
  rw[getElem?_set_ne n];exact r.own j ds e
 .obtain⟨n,e⟩:=get j _ e
  rw[getElem?_set_ne n];exact r.ob j p ds e
 .obtain⟨n,e⟩:=get j _ e
  rw[getElem?_set_ne n];exact r.rd j _ _ e
@[irreducible] def mtry (names:List Str)(mb:MS)(xb:MXs)(i:Nat)(ms:MS):MS:=fun ρ=>match mb ρ with
 |some o=>some o
 |none=>match xb ρ with
  |some (c,ρ1)=>if c∈names then (match ms (ρ1.set i (some (.sh (.exc c))))with |some (.nx ρ2)=>some (.nx (ρ2.set i none))|_=>none)else none
  |none=>none
section
variable {X:Cx}{pos np hpos:Pos}
theorem xu1 {body J:List Stmt}{b0:Stmt}{mb ms:MS}{xb:MXs}{names:List Str}{x n:Str}{Wa:Addr}{i:Nat}(nx:X.xe=noE)(T:Top X)(hg:Gl X x)(hm:X.mg x=some (.ref Wa))
  (ai:∀ c∈names,∀ C,XC X.K c C->PySem.W.exmOne X.K (.ref C) (.ref Wa)=some true) (hN:X.N.Nodup) (hi:X.N[i]? =some n) (hl:X.env.scope.names.lookup n=some .local)
  (hb:PSsd X body mb) (hx:PSsX X body xb) (hs:∀ a,PSsd (X.inX a) (b0::J) ms) (ag:(x==("__debug__":Str))=false:=by decide):
  PSd X (.Try body [.ExceptHandler (some (.Name x np)) (some n) (b0::J) hpos] [] [] pos) (mtry names mb xb i ms):=by
 intro pins s σ H D I ⟨F0,H0,F,ρ,o,rl,e,ok⟩
 unfold mtry at e
 refine wpAny_Try_except ?_
 cases h1:mb ρ with
 |some o1=>
  rw[h1]at e;cases e
  refine wpAny_mono (hb pins s σ H D I ⟨F0,H0,F,ρ,o,rl,h1,ok⟩) (fun f s1 h=>?_) fun _ _ z=>by rw[nx]at z;exact z.elim
  cases f with
  |next=>
   obtain⟨G,H1,I1,q⟩:=h
   exact pss_nil pins s1 G H1 D I1 q
  |brk=>exact h
  |cont=>exact h
  |ret u=>exact h
 |none=>
  rw[h1]at e
  cases h2:xb ρ with
  |none=>rw[h2]at e;cases e
  |some cr=>
   obtain⟨c,ρ1⟩:=cr
   rw[h2]at e
   dsimp only at e
   split at e
   .rename_i hc
    cases h3:ms (ρ1.set i (some (.sh (.exc c))))with
    |none=>rw[h3]at e;cases e
    |some o3=>
     rw[h3]at e
     cases o3 with
     |nx ρ2=>
      cases e
      let W:WX:=fun c' Y H'=>c'=c/\∃ F',Rl X.K F0 H0 F' H' Y ρ1/\Same F F'
      have I0:Inv X (pins++[]) σ H s:=by rw[append_nil];exact I
      refine wpAny_mono (hx pins W [] s σ H { nx:=fun _ _=>False,rt:=fun _ _=>False } I0.bear ⟨F0,H0,F,ρ,c,ρ1,rl,h2,fun F' H' Y ab sf=>⟨rfl,F',ab,sf⟩⟩) (fun f s1 h=>?_) fun ev s1 h=>?_
      .cases f with
       |next=>obtain⟨_,_,_,z⟩:=h;exact z.elim
       |brk=>obtain⟨_,_,_,z⟩:=h;exact z.elim
       |cont=>obtain⟨_,_,_,z⟩:=h;exact z.elim
       |ret u=>obtain⟨_,_,_,_,_,z⟩:=h;exact z.elim
      refine wpAny_mono h (fun _ s2 h2=>wpAny_mono h2 (fun _ s3 h3=>?_) fun _ _ z=>z.elim) fun _ _ z=>z.elim
      obtain⟨a,C,a0,G,H1,sa,H',B,c',rfl,S,os,bare,f,fl,xc,rfl,F1,Z,a7⟩:=h3
      have I3:Inv X pins G H' s3:=f.inv S os bare
      have LT:∀ M:Model,PySem.W.Looks M s3.heap (typeOf (.ref a)) (.ref C):=fun M=>by
       obtain⟨ob,e1,e2⟩:=fl.there
       exact e2 ▸ (PySem.W.Looks.ld e1).andThen .now
      refine wpAny_handleBy_cons (codeAny_handlers_test (J1 (X:=X.inX a) I3.inX hg hm ((PySem.W.exm_one I3.kIn (LT _) (ai _ hc C xc)).here ?_) ag)) (by intro z;cases z)
      refine codeAny_handlers_suite_as ?_
      refine lands_againW fl fun h4 O a4=>?_
      have f4:=f.on fl.2.2.1 O.1 a4
      have I4:Inv X pins G H' { s3 with heap:=h4 }:=f4.inv S os bare
      obtain⟨oe,vs,he,af,a1,_⟩:=O.first
      have ac:a∉frs X.stack:=fun z=>by
       obtain⟨_,o',e',ah⟩:=O.2.2.1.mem z
       rw[he]at e';cases e'
       exact ah vs a1
      have j:sa.heap.get? a=none:=by
       cases z:sa.heap.get? a with
       |none=>rfl
       |some o'=>
        obtain⟨ob,eb⟩:=f4.old a o' z ac
        have:=O.2.1
        rw[eb]at this;cases this
      have Ha:H' a=none:=by
       cases z:H' a with
       |none=>rfl
       |some o'=>
        obtain⟨ob,eb⟩:=f4.trk a o' z
        have:=O.2.1
        rw[eb]at this;cases this
      have y0:X.s₀.heap.get? a=none:=by
       cases z:X.s₀.heap.get? a with
       |none=>rfl
       |some o'=>
        obtain⟨o2,e2⟩:=S.base.there a o' z (by rw[T.ex];simp)
        rw[j]at e2;cases e2
      have yL:a≠X.env.locals:=fun z=>by
       obtain⟨m,⟨o',_,_,L,_⟩,_⟩:=S.loc
       rw[<-z,j]at L;cases L
      have yC:∀ y c,X.env.cells.lookup y=some c->c≠a:=fun y c e z=>by
       obtain⟨v,o',L,_⟩:=S.cell y c e
       rw[z,j]at L;cases L
      have yP:∀ p∈X.pn++pins,p.1≠a:=fun p hp z=>by
       have:=(S.pin p hp).1
       rw[z,j]at this;cases this
      have xat:XAt a C h4:=⟨oe,vs,he,af,a1⟩
      have I5:Inv X pins G (upd H' a (.ext (XAt a C))) { s3 with heap:=h4 }:=I4.track y0 yL yC yP Ha ⟨xat,⟨oe,he⟩,fun g1 g2 z k=>by
       obtain⟨o',a3,z1,z2,z3⟩:=z
       exact⟨o',a3,k o' z1,z2,z3⟩⟩
      have x5:Ext F1 H' (upd F1 a (.ext (XAt a C))) (upd H' a (.ext (XAt a C))):=Ext.laid Z.fh Ha
      have a9:=(Z.go x5).set (i:=i) (v:=.ref a) (d:=.exc c') (.exc xc v7)
      refine E5 (X:=X.inX a) I5.inX hN hi (.inl hl) (v:=.ref a) rfl (fun s5 I6=>?_) (.inr hl)
      let D2:Ends:={ nx:=fun U H2=>∃ F2,Rl X.K F0 H0 F2 H2 U ρ2/\Same F F2,rt:=fun _ _=>False }
      refine wpAny_mono (hs a pins s5 _ _ D2 I6 ⟨F0,H0,_,_,_,a9,h3,fun F2 H2 U aa a6=>⟨F2,aa,(a7.trans x5.ff).trans a6⟩⟩) (fun aj s6 h6=>?_) fun _ _ z=>by rw[show (X.inX a).xe=X.xe from rfl,nx]at z;exact z.elim
      cases aj with
      |next=>
       obtain⟨a2,H6,I7,F6,a8,a5⟩:=h6
       have I8:Inv X pins a2 H6 s6:=I7.outX I.ok
       obtain⟨m,hn,ak⟩:=id I8.loc
       refine wpAny_nameGoes_keeps hl hn (by rw[I.ok.kind];rfl) fun h7 v ae ad=>?_
       exact⟨_,H6,I8.gone hN hi hn ae ad,ok F6 H6 _ (a8.drop i) a5⟩
      |brk=>obtain⟨_,_,_,z⟩:=h6;exact z.elim
      |cont=>obtain⟨_,_,_,z⟩:=h6;exact z.elim
      |ret u=>obtain⟨_,_,_,_,_,z⟩:=h6;exact z.elim
     |_=>cases e
   .cases e
end
end
section
structure RoomN (k:Nat)(A:Around):Prop where
 dp:A.depth+3*k+5<recursionLimit
 un:A.units+16*k+200<cLine
theorem RoomN.mono {j k:Nat}{A:Around}(r:RoomN k A)(h:j<=k):RoomN j A:=⟨by have:=r.dp;omega,by have:=r.un;omega⟩
theorem RoomN.deeper {k:Nat}{A:Around}(r:RoomN (k+1) A)(env:Env):RoomN k (A.deeper env):=
 ⟨by have:=r.dp;show A.depth+1+3*k+5<_;omega,by have:=r.un;show A.units+3+16*k+200<_;omega⟩
theorem Room.mark {k:Nat}{A:Around}(r:Room k A)(v:Option Value):RoomN k (A.mark v):=⟨r.dp,r.un⟩
structure FnOkN (P:Program)(w:World)(K:W.Frag)(mg:Str->Option Value)(base:Heap)(CX:CXT)(k:Nat)(f:Addr)(fd:FuncData)(ps:List Str)(sp:Sp):Prop where
 len:∀ vs H Q E,sp vs H Q E->vs.length=ps.length
 run:∀(A:Around)(outer:List Env)(s:Shared)(H:Hp)(args:Args)(us:List Value)(vs:List V)(Q:VK)(E:XK),RoomN k A->Env0 P w K mg base A outer s H->BindsTo s fd args (ps.zip us)->Vals vs us->sp vs H Q E->
  codeAny (model P w) A (.call (.ref f) args) (CR CX outer P w H s Q E) s
theorem FnOkN.mono {P:Program}{w:World}{K:W.Frag}{mg:Str->Option Value}{base:Heap}{CX:CXT}{j k:Nat}{f:Addr}{fd:FuncData}{ps:List Str}{sp:Sp}(F:FnOkN P w K mg base CX j f fd ps sp)(h:j<=k):FnOkN P w K mg base CX k f fd ps sp:=
 ⟨F.len,fun A outer s H args us vs Q E i=>F.run A outer s H args us vs Q E (i.mono h)⟩
abbrev yk3 (CX:CXT)(P:Program)(w:World)(K:W.Frag)(mg:Str->Option Value)(base:Heap)(N:List Str)(qual:Str)(scope:Scope)(f:Addr)(cd:Value)(A:Around)(outer:List Env)(s:Shared)(H:Hp)(E:XK):Cx:=
 { cxOf CX P w K mg base N qual scope f cd A outer s H E with calm:=false }
theorem yx7 {CX:CXT}{P:Program}{w:World}{K:W.Frag}{mg:Str->Option Value}{base:Heap}{N ps:List Str}{qual:Str}{scope:Scope}{f:Addr}{cd:Value}{A:Around}{outer:List Env}{s s1:Shared}{H:Hp}{E:XK}{us:List Value}{vs:List V}
  (S:FnScope N ps scope) (i:Env0 P w K mg base A outer s H) (j:vs.length=ps.length) (r:Vals vs us)
  (x:InCallC s s.heap.objs.size (bindL (envOfC qual scope s.heap.objs.size f cd).kindOf (ps.zip us) fun _=>none) (cellsFrom (s.heap.objs.size+1) scope.names []) (bindC (envOfC qual scope s.heap.objs.size f cd).kindOf (ps.zip us) fun _=>none) s1):
  Inv (yk3 CX P w K mg base N qual scope f cd A outer s H E) [] (start N vs) H s1:=by
 have q:Env0 P w K mg base { A with handled:=none } outer s H:=⟨i.frames,i.mod,i.bs,i.bsz,i.funs,i.frf,i.hok,i.bare⟩
 have I:=zn2 (CX:=CX) (E:=E) (A:={ A with handled:=none }) (qual:=qual) (f:=f) (cd:=cd) S rfl q j r x
 exact⟨⟨I.ok.mod,I.ok.kind,I.ok.glob,I.ok.blt,I.ok.above,I.ok.inj,I.ok.has,I.ok.cab,(fun z=>by cases z),Around.frames_deeper i.frames,I.ok.stk,I.ok.exf,I.ok.bs,I.ok.bsz,I.ok.noex,I.ok.exfs,I.ok.funs,I.ok.frf⟩,I.os,I.bare,I.base,I.loc,I.cell,I.free,I.freeC,I.pin,I.hok,I.len⟩
theorem xc0 {CX:CXT}{P:Program}{w:World}{K:W.Frag}{mg:Str->Option Value}{base:Heap}{k:Nat}{f:Addr}{name qual:Str}{i:Arguments}{body:List Stmt}{scope:Scope}{dV kV doc pm cdv ct oc:Value}{an od:Option Addr}
  {osl:Array (Option Value)} {N ps:List Str} {sp:Sp} (lk:K.lookup f=some ⟨oc,od,.func (W.fnOf name qual i body scope dV kV doc pm an cdv ct),osl⟩) (Z:W.codeIn K cdv qual=true) (S:FnScope N ps scope)
  (len:∀ vs H Q E,sp vs H Q E->vs.length=ps.length)
  (G:∀(A:Around)(outer:List Env)(s:Shared)(H:Hp)(vs:List V)(Q:VK)(E:XK),RoomN k (A.deeper (envOfC qual scope s.heap.objs.size f cdv))->sp vs H Q E->
   ∃ t,PSs (yk3 CX P w K mg base N qual scope f cdv A outer s H E) body t/\t { nx:=fun _ H'=>Q .non H',rt:=Q } (start N vs) H):
  FnOkN P w K mg base CX (k+1) f (W.fnOf name qual i body scope dV kV doc pm an cdv ct) ps sp:=by
 refine⟨len,fun A outer s H args us vs Q E hr O hb r M=>?_⟩
 have hl:=len _ _ _ _ M
 have KX:K.In s.heap:=O.mod.kin.keeps fun b o e=>(O.bs b o e).1
 have Y:s.heap.NoLimit:=O.mod.nolimit.keeps fun b o e=>(O.bs b o e).1
 have z:∀ y∈ps.zip us,scope.names.lookup y.1=some .local\/(scope.names.lookup y.1=some .cell/\((cellsFrom (s.heap.objs.size+1) scope.names []).lookup y.1).isSome=true):=fun⟨n,v⟩ hy=>by
  rcases S.par n (of_mem_zip hy).1 with q|q
  .exact .inl q
  .exact .inr ⟨q,W.cellsFrom_some _ _ _ (.inl q)⟩
 refine codeAny_call_function (by have:=hr.dp;omega) (KX _ _ lk) rfl S.co S.gen rfl (W.codeRec_of KX Z) (hb _ _ _ _ ?_)
 refine wpAny_newFunctionEnv_cells S.kind z fun env he s1 x=>?_
 subst he
 refine⟨Y.keeps x.toInCall.keep,codeAny_func ?_⟩
 obtain⟨t,ht,hq⟩:=G A outer s H vs Q E (hr.deeper _) M
 have I:Inv (yk3 CX P w K mg base N qual scope f cdv A outer s H E) [] (start N vs) H s1:=yx7 S O hl r x
 refine wpAny_mono (ht [] s1 (start N vs) H _ I hq) (fun fl s' L=>?_) fun e s' L=>L
 have fin:∀{j:St}{H':Hp}{v:V}{u:Value},Inv (yk3 CX P w K mg base N qual scope f cdv A outer s H E) [] j H' s'->RelV v u->Q v H'->CE outer P w H s Q u s':=
  fun{j H' v u} J U q=>⟨v,H',J.os,J.bare,J.base,J.hok,U,q⟩
 cases fl with
 |ret u=>
  obtain⟨v,j,H',J,U,q⟩:=L
  exact fin J U q
 |next=>
  obtain⟨j,H',J,q⟩:=L
  exact fin (v:=V.non) (u:=Value.none) J rfl q
 |brk=>
  obtain⟨_,_,_,q⟩:=L
  exact False.elim q
 |cont=>
  obtain⟨_,_,_,q⟩:=L
  exact False.elim q
theorem Fun.okN {P:Program}{w:World}{K:W.Frag}{mg:Str->Option Value}{base:Heap}{x qual:Str}{st:Stmt}{f:Addr}{fd:FuncData}{N ps:List Str}{k:Nat}{m:MS}(M:Fun K x qual st f fd)(L:FnScope N ps (y9 st))
  (i:∀(cdv:Value)(A:Around)(outer:List Env)(s:Shared)(H:Hp)(E:XK),RoomN k (A.deeper (envOfC qual (y9 st) s.heap.objs.size f cdv))->PSsd (yk3 CX0 P w K mg base N qual (y9 st) f cdv A outer s H E).nox (u7 st) m):
  FnOkN P w K mg base CX0 (k+1) f fd ps (spR K ps.length (runB N.length m)):=by
 obtain⟨oc,od,kV,doc,pm,an,cdv,ct,osl,rfl,I,j⟩:=M.ex
 refine xc0 I j L (fun vs H Q E h=>h.1) fun A outer s H vs Q E J h=>?_
 obtain⟨O,F,ds,r,z,G,e,ok⟩:=h
 unfold runB at e
 cases h1:m (f7 N.length ds)with
 |none=>rw[h1]at e;cases e
 |some o=>
  rw[h1]at e
  refine⟨_,(i cdv A outer s H E J).nox,F,H,F,f7 N.length ds,o,zv9 z G,h1,?_⟩
  cases o with
  |nx ρ=>cases e;exact fun F' H' q rl _=>ok .non F' H' rl.ext .non
  |rt d=>cases e;exact ok
  |rf es=>cases e;exact ok
  |rp d es=>cases e;exact ok
  |rg d p r=>cases e
  |rgf d p r=>cases e
  |bk ρ=>cases e
  |ct ρ=>cases e
section
variable {X:Cx}{CX:CXT}{k:Nat}{f:Addr}{fd:FuncData}{ps:List Str}{sp:Sp}{dvs:List V}{ds:List Value}{E:XK}{x:Str}{p pos:Pos}{e:Expr}{es:List Expr}{t:TA}
theorem yf9 (F:FnOkN X.prog X.w X.K X.mg X.base CX k f fd ps sp)(M:RoomN k X.A)(S:Gl X x)(hm:X.mg x=some (.ref f))(O:W.keepIn X.K (.ref f)=true)(Y:Binds X.K fd ps ds)(hd:Vals dvs ds)(L:za4 CX X E)
  (ha:PA X (e::es) t) (G:(x==("__debug__":Str))=false:=by decide) (U:starEach (e::es) X.env=(false,eval e X.env)::starEach es X.env:=by rfl) (z:(backTo pos (starEach es X.env)).any (·.1)=false:=by rfl):
  PE X (.Call (.Name x p) (e::es) [] pos) (yh9 sp dvs E t):=by
 intro pins s σ H Q I h
 refine wpAny_Call_Name_kw (J1 I S hm ?_ G)
 refine W.callWith_K (h₀:=X.base) I.ok.mod.kin O (thn (ha pos pins s σ H _ I h) fun us s1 ⟨vs,H1,j,r,q⟩=>⟨j.kIn,?_⟩) U z
 have J:Vals (vs++dvs) (us++ds):=r.append hd
 have N:(us++ds).length=ps.length:=by rw[<-J.length];exact F.len _ _ _ _ q
 refine wpAny_call (codeAny_mono (F.run X.A X.stack s1 H1 ⟨us,[]⟩ (us++ds) (vs++dvs) Q E M j.env0 (Y s1 us j.kIn N) J q) fun r s' i=>?_)
 cases r with
 |error e=>exact L pins σ H1 s1 e s' j i
 |ok fl=>
  cases fl with
  |ret u=>exact j.after i
  |next=>exact False.elim i
  |brk=>exact False.elim i
  |cont=>exact False.elim i
end
@[irreducible] def misX (tab:List (Str×Bool))(m:ME):ME:=fun ρ=>match m ρ with |some (.exc c)=>(tab.lookup c).map .bl|_=>none
section
variable {X:Cx}{a:Expr}{ma:ME}{pos:Pos}
def rIsX (K:W.Frag)(cv:Value)(tab:List (Str×Bool))(y:V):List V->Hp->VK->Prop:=fun vs H Q=>∃ b c k,vs=[.ref b,y]/\(∃ C,XC K c C/\H b=some (.ext (XAt b C)))/\tab.lookup c=some k/\Q (.bl k) H
theorem zb6 {cv:Value}{y:V}{tab:List (Str×Bool)}(j:∀ u,RelV y u->u=cv)(L:∀ c k,tab.lookup c=some k->∀ C,XC X.K c C->XCls X.K C/\W.kitOne X.K (.ref C) cv=some k):CallR X (.builtin "isinstance") (rIsX X.K cv tab y):=by
 intro pins s σ H xs us Q I r h
 obtain⟨b,c,k,rfl,⟨C,i,M⟩,e,q⟩:=h
 obtain⟨u,w,rfl,rx,G⟩:=zr8 r
 cases rx
 cases j w G
 obtain⟨z,J⟩:=L c k e C i
 exact W.kia_one (yd5 z) I.kIn (I.xat M) J (fun z=>nomatch z) fun tk=>⟨.bl k,H,I.tok _,rfl,q⟩
theorem yn6 {cv:Value}{y:V}{tab:List (Str×Bool)}{ty:TE}(G:∀ σ H Q,Q y H->ty σ H Q){σ:St}{H:Hp}{Q:VK}(h:TD X.K (misX tab ma) σ H Q):tCB (rIsX X.K cv tab y) (yh8 (TD X.K ma) (yh8 ty tNil)) σ H Q:=by
 obtain⟨F0,H0,F,ρ,g,rl,e,q⟩:=h
 unfold misX at e
 split at e
 .rename_i c h1
  cases h2:tab.lookup c with
  |none=>rw[h2]at e;cases e
  |some k=>
   rw[h2]at e;cases e
   refine⟨F0,H0,F,ρ,_,rl,h1,fun v F1 H1 i z=>?_⟩
   cases z with
   |exc j I=>exact G _ _ _ ⟨_,c,k,rfl,⟨_,j,i.fh _ _ I⟩,h2,q _ F1 H1 i (.bl _)⟩
 .cases e
theorem B2 {c:Str}{i:Addr}{p p2:Pos}{tab:List (Str×Bool)}(M:Gl X "isinstance")(hm:X.mg "isinstance"=none)(I:Gl X c)(G:X.mg c=some (.ref i))(ha:PD X a ma)
  (L:∀ c k,tab.lookup c=some k->∀ C,XC X.K c C->XCls X.K C/\W.kitOne X.K (.ref C) (.ref i)=some k) (hd:(c==("__debug__":Str))=false:=by decide)
  (J:starEach (a::[.Name c p2]) X.env=(false,eval a X.env)::starEach [.Name c p2] X.env:=by rfl) (j:starEach [.Name c p2] X.env=(false,eval (.Name c p2) X.env)::starEach [] X.env:=by rfl)
  (q:(backTo pos (starEach [.Name c p2] X.env)).any (·.1)=false:=by rfl):PD X (.Call (.Name "isinstance" p) [a,.Name c p2] [] pos) (misX tab ma):=
 (Z5 (zb6 (y:=.ref i) (cv:=.ref i) (fun u z=>z) L) M hm PyProof.Rows.boot_isinstance (h9 ha (h9 (yr4 (v:=.ref i) I G rfl hd) pa_nil j) J) (by decide) (by decide) J q).imp fun σ H Q h=>yn6 (fun _ _ _ z=>z) h
theorem xt4 {c:Str}{T:String}{p p2:Pos}{tab:List (Str×Bool)}(M:Gl X "isinstance")(hm:X.mg "isinstance"=none)(G:Gl X c)(q:X.mg c=none)(J:bootBuiltins c=some (.type T))(ha:PD X a ma)
  (L:∀ c k,tab.lookup c=some k->∀ C,XC X.K c C->XCls X.K C/\W.kitOne X.K (.ref C) (.type T)=some k) (hn:c≠"__name__":=by decide) (hd:(c==("__debug__":Str))=false:=by decide)
  (I:starEach (a::[.Name c p2]) X.env=(false,eval a X.env)::starEach [.Name c p2] X.env:=by rfl) (i:starEach [.Name c p2] X.env=(false,eval (.Name c p2) X.env)::starEach [] X.env:=by rfl)
  (j:(backTo pos (starEach [.Name c p2] X.env)).any (·.1)=false:=by rfl):PD X (.Call (.Name "isinstance" p) [a,.Name c p2] [] pos) (misX tab ma):=
 (Z5 (zb6 (y:=.ty T) (cv:=.type T) (fun u z=>z) L) M hm PyProof.Rows.boot_isinstance (h9 ha (h9 (zu4 (v:=.ty T) G q J rfl hn hd) pa_nil i) I) (by decide) (by decide) I j).imp fun σ H Q h=>yn6 (fun _ _ _ z=>z) h
end
def xx6 (K:W.Frag)(C:Addr):Bool:=
 (W.findIn K (.ref C) "__getattribute__"==some (some (.builtin "BaseException.__getattribute__")))&&(W.findIn K (.ref C) "__getattr__"==some none)&&(W.findIn K (.ref C) "__class__"==some (some (.builtin "object.__class__")))&&
  (W.mroIn K C (.type "object")==some true)&&(W.mroIn K C (.type "BaseException")==some true)
theorem S0 {K:W.Frag}{C:Addr}(h:xx6 K C=true):XCls K C:=by
 unfold xx6 at h
 simp only[Bool.and_eq_true,beq_iff_eq]at h
 exact⟨h.1.1.1.1,h.1.1.1.2,h.1.1.2,h.1.2,h.2⟩
theorem XC.eq {K:W.Frag}{c:Str}{C x:Addr}(h:XC K c C)(e:W.nsIn K mainGlobals c=some (some (.ref x))):C=x:=by
 have:=h.1.symm.trans e
 cases this;rfl
theorem Y0 {P:Str->Bool->Prop}:∀{tab:List (Str×Bool)},(∀ p∈tab,P p.1 p.2)->∀ c k,tab.lookup c=some k->P c k:=fun h c k e=>h (c,k) (PySem.mem_of_lookup e)
end
section
section
variable {X:Cx}{a:Expr}{ma:ME}{pos:Pos}
open PySem.SeqAt in
end
end
section
end
section
section
variable {X:Cx}{v:Expr}{mv:ME}{pos:Pos}
end
theorem us1 {P:List Value->Prop}(h:∀ a,P [a]):∀ us:List Value,us.length=1->P us
 |[a],_=>h a
theorem us2 {P:List Value->Prop}(h:∀ a b,P [a,b]):∀ us:List Value,us.length=2->P us
 |[a,b],_=>h a b
theorem us3 {P:List Value->Prop}(h:∀ a b c,P [a,b,c]):∀ us:List Value,us.length=3->P us
 |[a,b,c],_=>h a b c
theorem us4 {P:List Value->Prop}(h:∀ a b c d,P [a,b,c,d]):∀ us:List Value,us.length=4->P us
 |[a,b,c,d],_=>h a b c d
end
section
def insI (a:Int):List Int->List Int
 |[]=>[a]
 |b::r=>if a<=b then a::b::r else b::insI a r
def zt7:List Int->List Int
 |[]=>[]
 |a::r=>insI a (zt7 r)
theorem A6 (a:Int):∀ r,(insI a r).Perm (a::r)
 |[]=>.refl _
 |b::r=>by
  unfold insI
  split
  .exact .refl _
  .exact((A6 a r).cons b).trans (.swap a b r)
theorem R8:∀ ns,(zt7 ns).Perm ns
 |[]=>.refl _
 |a::r=>(A6 a _).trans ((R8 r).cons a)
theorem A5 (a:Int):∀ r,r.Pairwise (·<=·)->(insI a r).Pairwise (·<=·)
 |[],_=>pairwise_singleton ..
 |b::r,h=>by
  have h':=List.pairwise_cons.mp h
  unfold insI
  split
  .rename_i hab
   refine List.pairwise_cons.mpr ⟨fun x i=>?_,h⟩
   rcases List.mem_cons.mp i with e|i
   .rw[e];exact hab
   .exact Int.le_trans hab (h'.1 x i)
  .rename_i hab
   refine List.pairwise_cons.mpr ⟨fun x i=>?_,A5 a r h'.2⟩
   rcases List.mem_cons.mp ((A6 a r).mem_iff.mp i)with e|i
   .rw[e];omega
   .exact h'.1 x i
theorem S8:∀ ns,(zt7 ns).Pairwise (·<=·)
 |[]=>.nil
 |a::r=>A5 a _ (S8 r)
theorem P8:∀{a b:List Int},a.Perm b->a.Pairwise (·<=·)->b.Pairwise (·<=·)->a=b
 |[],b,p,_,_=>(List.Perm.nil_eq p)
 |x::a,[],p,_,_=>absurd p.length_eq (by simp)
 |x::a,y::b,p,ha,hb=>by
  have h1:=List.pairwise_cons.mp ha
  have h2:=List.pairwise_cons.mp hb
  have e:x=y:=by
   have m1:x∈y::b:=p.mem_iff.mp mem_cons_self
   have m2:y∈x::a:=p.mem_iff.mpr mem_cons_self
   rcases List.mem_cons.mp m1 with e|m1
   .exact e
   .rcases List.mem_cons.mp m2 with e|m2
    .exact e.symm
    .have:=h2.1 x m1
     have:=h1.1 y m2
     omega
  subst e
  rw[P8 ((perm_cons x).mp p) h1.2 h2.2]
theorem zn1 (ns:List Int):(zt7 ns).length=ns.length:=(R8 ns).length_eq
theorem zn3:∀{ns:List Int}{its:List Value},Vals (ns.map V.int) its->IntsAre its ns
 |[],_,.nil=>.nil
 |n::ns,_,.cons r t=>by
  obtain⟨k,rfl⟩:=r
  exact .cons n k (zn3 t)
theorem zx3:∀{ns:List Int}{its:List Value},IntsAre its ns->Vals (ns.map V.int) its
 |[],_,.nil=>.nil
 |n::ns,_,.cons _ k t=>.cons ⟨k,rfl⟩ (zx3 t)
section
variable {X:Cx}{e:Expr}{pos:Pos}
def xv7 (K:W.Frag):List V->Hp->VK->Prop:=fun vs H Q=>∃(p:Addr)(ns:List Int),vs=[.ref p]/\SqL K H p (ns.map V.int)/\ns.length<64/\∀ q,H q=none->Q (.ref q) (upd H q (.lst ((zt7 ns).map V.int)))
theorem zf3:CallR X (.builtin "sorted") (xv7 X.K):=by
 intro pins s σ H xs us Q I r h
 obtain⟨p,ns,rfl,J,j,q⟩:=h
 obtain⟨u,rfl,rx⟩:=P6 r
 cases rx
 obtain⟨its,G,pl,U⟩:=I.list J
 have L:its.length=ns.length:=by rw[<-G.length,length_map]
 refine sorted_ints pl.isList (zn3 G) (by rw[L];exact j) fun out i S O N=>?_
 have e:i=zt7 ns:=P8 (O.trans (R8 ns).symm) N (S8 ns)
 subst e
 obtain⟨c,M⟩:=sortedAll_at s.heap its out
 refine⟨.ref (s.heap.objs.size+1),_,I.laid (t':=s.toks) (o:=.lst ((zt7 ns).map V.int)) (fun b o z=>sortedAll_old z) (Nat.le_succ _) ⟨?_,out.toList,c,zx3 S,by simpa using M⟩,rfl,q _ (I.hok.fresh (Nat.le_succ _))⟩
 rw[length_map,zn1,sizeLine_eq];omega
@[irreducible] def K8 (m:ML):ML:=fun ρ=>match m ρ with |some ds=>(match E4 ds with |some ns=>if ns.length<64 then some ((zt7 ns).map .int)else none|none=>none)|none=>none
theorem yr2 {p:Pos}{m:ML}(L:Gl X "sorted")(hm:X.mg "sorted"=none)(ha:PB X e m)(I:bootBuiltins "sorted"=some (.builtin "sorted"))(J:starEach (e::[]) X.env=(false,eval e X.env)::starEach [] X.env:=by rfl)(M:starEach [e] X.env=(false,eval e X.env)::starEach [] X.env:=by rfl)(z:(backTo pos (starEach [] X.env)).any (·.1)=false:=by rfl):PF X (.Call (.Name "sorted" p) [e] [] pos) (K8 m):=
 (Z5 zf3 L hm I (h9 ha pa_nil J) (by decide) (by decide) M z).imp fun σ H Q i=>by
  obtain⟨F0,H0,F,ρ,g,rl,e,q⟩:=i
  unfold K8 at e
  cases h1:m ρ with
  |none=>simp only[h1]at e;cases e
  |some ds=>
   simp only[h1]at e
   cases h2:E4 ds with
   |none=>simp only[h2]at e;cases e
   |some ns=>
    simp only[h2]at e
    split at e
    .rename_i h64
     cases e
     refine⟨F0,H0,F,ρ,ds,rl,h1,fun p xs F1 H1 j s1 G=>⟨p,ns,rfl,?_,h64,fun w hw=>?_⟩⟩
     .rw[<-R9 G h2];exact s1
     .exact q w _ F1 _ (j.trans (Ext.own j.fh hw)) (j.hh.free hw) (j.fh.free hw) v7 (C4 _)
    .cases e
end
end
section
section
variable {X:Cx}{pins:List (Addr×Obj)}{σ:St}
end
end
section
section
variable {K:W.Frag}{F0 H0 F H:Hp}{σ:St}{ρ:Ro}
theorem Rl.freezeQ (r:Rl K F0 H0 F H σ ρ){i:Nat}{ds:List D}(h:ρ[i]? =some (some (.own ds))):∃ p xs,F p=none/\Reps K F xs ds/\Rl K F0 H0 (upd F p (.lst xs)) H σ (ρ.set i (some (.sh (.lst ds)))):=by
 obtain⟨p,xs,a,b,c,d,z⟩:=r.own i ds h
 have L:i<ρ.length:=(List.getElem?_eq_some_iff.mp h).1
 have e:Ext F0 H0 (upd F p (.lst xs)) H:=r.ext.freeze b z c
 have ff:Same F (upd F p (.lst xs)):=(Same.refl F).put b
 refine⟨p,xs,b,d,⟨e,by simp[r.len],fun j d' q=>?_,fun j es q=>?_,fun j k q es I S G J e3 e4=>?_,fun j q es G=>?_,fun j k q es I G J e3=>?_,fun j k q q' es I G J=>r.ob1 j k q q' es I (d5 G).2 (d5 J).2,fun j q es G=>r.rd j q es (N5 G).2⟩⟩
 .by_cases hj:i=j
  .subst hj
   rw[getElem?_set_self L]at q
   cases q
   exact⟨_,a,.lst (SqL.of v7) (d.mono ff)⟩
  .rw[getElem?_set_ne hj]at q
   obtain⟨v,v1,v2⟩:=r.sh j d' q
   exact⟨v,v1,v2.mono ff⟩
 .by_cases hj:i=j
  .subst hj
   rw[getElem?_set_self L]at q
   cases q
  .rw[getElem?_set_ne hj]at q
   obtain⟨U,M,Y,b',c',d',Z⟩:=r.own j es q
   have O:U≠p:=fun w=>r.inj i j p ds es hj h q a (by rw[<-w];exact Y)
   exact⟨U,M,Y,by rw[v6 O];exact b',c',d'.mono ff,Z⟩
 .have n1:i≠j:=fun w=>by subst w;rw[getElem?_set_self L]at G;cases G
  have N:i≠k:=fun w=>by subst w;rw[getElem?_set_self L]at J;cases J
  rw[getElem?_set_ne n1]at G
  rw[getElem?_set_ne N]at J
  exact r.inj j k q es I S G J e3 e4
 .obtain⟨n,G⟩:=d5 G
  obtain⟨o1,o2,o3,zs,o4,o5⟩:=r.ob j q es G
  have O:q≠p:=fun w=>r.obn j i q es ds G h (by rw[w];exact a)
  exact⟨o1,by rw[v6 O];exact o2,o3,zs,o4,o5.mono ff⟩
 .obtain⟨n,G⟩:=d5 G
  have N:i≠k:=fun w=>by subst w;rw[getElem?_set_self L]at J;cases J
  rw[getElem?_set_ne N]at J
  exact r.obn j k q es I G J e3
end
def hasL:List D->Bool
 |[]=>false
 | .lst _::_=>true
 |_::r=>hasL r
theorem yn8 {K:W.Frag}{F:Hp}:∀{xs:List V}{ds es:List D},hasL ds=true->zp8 es=true->Reps K F xs ds->Reps K F xs es->False
 |_,[],_,h,_,_,_=>by cases h
 |_,d::ds,[],h,_,.cons _ _,r=>by cases r
 |_,d::ds,e::es,h,h2,.cons a r,.cons b r2=>by
  cases e with
  |int k=>
   cases b
   cases a
   exact yn8 (show hasL ds=true from h) (show zp8 es=true from h2) r r2
  |_=>cases h2
def yh6 (ds:List D):D->Bool
 | .lst es=>zp8 es&&hasL ds
 |_=>false
@[irreducible] def zi5 (i:Nat)(m:ME):ME:=fun ρ=>match ρ[i]? with
 |some (some (.own ds))=>(match m (ρ.set i (some (.sh (.lst ds))))with |some d=>if yh6 ds d=true then some d else none|none=>none)
 |_=>m ρ
theorem yu2 {K:W.Frag}{F:Hp}{p:Addr}{xs:List V}{ds:List D}{v:V}{d:D}(q:F p=some (.lst xs))(G:Reps K F xs ds)(h:yh6 ds d=true)(r:Rep K F v d):Rep K (fun b=>if b=p then none else F b) v d:=by
 cases r with
 |lst i j=>
  rename_i a ys es
  have h:(zp8 es&&hasL ds)=true:=h
  rw[Bool.and_eq_true]at h
  refine .lst ?_ (zq6 h.1 j)
  rcases i with (i|⟨o,i⟩)|i
  .have hne:a≠p:=fun z=>by
    rw[z,q]at i;cases i
    exact yn8 h.2 h.1 G j
   exact .inl (.inl (by show (if a=p then none else F a)=_;rw[if_neg hne];exact i))
  .have hne:a≠p:=fun z=>by rw[z,q]at i;cases i
   exact .inl (.inr ⟨o,by show (if a=p then none else F a)=_;rw[if_neg hne];exact i⟩)
  .exact .inr i
 |_=>cases h
theorem yq0 {X:Cx}{e:Expr}{m:ME}(i:Nat)(h:PD X e m):PD X e (zi5 i m):=h.imp fun σ H Q I=>by
 obtain⟨F0,H0,F,ρ,d,rl,e,q⟩:=I
 unfold zi5 at e
 split at e
 .rename_i ds h1
  obtain⟨p,xs,M,O,J⟩:=rl.freezeQ h1
  split at e
  .rename_i d' h2
   split at e
   .rename_i hs
    cases e
    refine⟨F0,H0,_,_,d,J,h2,fun v F2 H2 G N=>?_⟩
    have L:F2 p=some (.lst xs):=G.ff _ _ v7
    refine q v (fun b=>if b=p then none else F2 b) H2 ⟨fun b o j=>?_,G.hh,fun b o j=>?_,fun b j hn=>?_,fun b o u z=>by
     have z:(if b=p then none else F2 b)=some (.frz o u):=z
     split at z
     .cases z
     .rename_i hne
      have:=G.nf b o u z
      rwa [v6 hne]at this⟩ (yu2 L (O.mono (((Same.refl F).put M).trans G.ff)) hs N)
    .have hne:b≠p:=fun w=>by rw[w,M]at j;cases j
     show (if b=p then none else F2 b)=some o
     rw[if_neg hne]
     exact G.ff b o (by rw[v6 hne];exact j)
    .have j:(if b=p then none else F2 b)=some o:=j
     split at j
     .cases j
     .exact G.fh b o j
    .have hn:(if b=p then none else F2 b)≠none:=hn
     split at hn
     .exact absurd rfl hn
     .rename_i hne
      exact G.new b (by rw[v6 hne];exact j) hn
   .cases e
  .cases e
 .exact⟨F0,H0,F,ρ,d,rl,e,q⟩
end
section
section
variable {X:Cx}{a b:Expr}{ma mb:ME}{pos:Pos}
end
section
variable {X:Cx}{a b:Expr}
open PySem.SeqAt in
end
end
section
open Classical in
section
variable {X:Cx}{pos:Pos}
end
end
section
section
variable {X:Cx}{st:Stmt}
end
end
section
section
variable {P:Program}{w:World}{K:W.Frag}{mg:Str->Option Value}{base h:Heap}{nm ql cn:Str}{st:Stmt}{ps:List Str}{sp:Sp}{n:Nat}{C:Addr}
end
section
variable {X:Cx}{n k:Nat}{nm cn:Str}{ps:List Str}{sp:Sp}{e o:Expr}{es:List Expr}{ta:TE}{t:TA}{p pos apos:Pos}{C:Addr}{pl:Sem Bool}
end
section
variable {a b c d e f:ME}(ρ:Ro)(ds:List D)
end
end
section
structure BlkC (X:Cx)(sc:Scope)(N:List Str)(src:List (Option Nat)):Prop where
 kind:sc.kind= .function
 cells:∀ y∈sc.names,y.2= .cell->sc.names.lookup y.1=some .cell
 names:∀ y∈sc.names,y.2= .local->sc.names.lookup y.1=some .local
 free:∀ y∈sc.names,y.2= .free->X.env.kindOf y.1=some .cell\/X.env.kindOf y.1=some .free
 fv:∀(j i:Nat),src[j]? =some (some i)->∃ x,N[j]? =some x/\X.N[i]? =some x/\sc.names.lookup x=some .free
 len:src.length=N.length
section
variable {X:Cx}{pins:List (Addr×Obj)}{σ:St}{H:Hp}{s:Shared}
end
section
variable {X:Cx}
end
section
variable {X:Cx}{pos:Pos}
end
end
section
section
variable {X:Cx}{pos:Pos}
end
end
section
structure ItH (K:W.Frag)(H0:Hp)(J:It)(its:List D):Prop where
 go:∀(i:Nat) F1 H1,Same H0 H1->Same F1 H1->i<its.length->J.go i H1
 yld:∀(i:Nat) F1 H1 x H2 d,Same H0 H1->Same F1 H1->its[i]? =some d->J.yld i H1 x H2->∃ F2,Ext F1 H1 F2 H2/\Rep K F2 x d
 stop:∀ F1 H1,Same H0 H1->Same F1 H1->J.stop its.length H1
section
variable {X:Cx}{a b c e:Expr}{ma mb:ME}{pos:Pos}{st:Stmt}
end
end
section
def NrP (p:Addr)(ρ:Ro):Prop:=∀(i:Nat) q ds,ρ[i]? =some (some (.rd q ds))->q≠p
theorem NrP.set {p:Addr}{ρ:Ro}(h:NrP p ρ)(i:Nat)(d:D):NrP p (ρ.set i (some (.sh d))):=fun j q ds e=>h j q ds (N5 e).2
theorem NrP.all {p:Addr}:∀(is:List Nat)(ds:List D){ρ ρ':Ro},NrP p ρ->J8 is ds ρ=some ρ'->NrP p ρ'
 |[],[],_,_,h,e=>by cases e;exact h
 |[],_::_,_,_,_,e=>by cases e
 |_::_,[],_,_,_,e=>by cases e
 |i::is,d::ds,ρ,ρ',h,e=>NrP.all is ds (h.set i d) e
theorem NrP.tg {p:Addr}{g:Tg}{d:D}{ρ ρ':Ro}(h:NrP p ρ)(e:tgD g d ρ=some ρ'):NrP p ρ':=by
 cases g with
 |nm i=>cases e;exact h.set i d
 |tp is=>cases d <;> first| (cases e;done)|exact NrP.all is _ h e
 |nt i is=>
  cases d with
  |tup ds=>
   match ds,e with
   |[d,.tup ds],e=>exact NrP.all is _ (h.set i d) e
  |_=>cases e
theorem Rl.rebaseR {K:W.Frag}{F1 F H B:Hp}{σ:St}{ρ:Ro}{p:Addr}{xs ys:List V}(r:Rl K F1 (upd B p (.lst xs)) F H σ ρ)(G:F p=none)(I:NrP p ρ):Rl K F1 (upd B p (.lst ys)) F (upd H p (.lst ys)) σ ρ:=by
 have ne:∀ q,upd B p (.lst xs) q=none->q≠p:=fun q z w=>by rw[w,v7]at z;cases z
 refine⟨⟨r.ext.ff,fun b u e=>?_,r.fh.put G,fun b e n=>?_,r.ext.nf⟩,r.len,r.sh,fun i ds e=>?_,r.inj,fun i q ds e=>?_,r.obn,r.ob1,fun i q ds e=>?_⟩
 .by_cases hb:b=p
  .subst hb;rw[v7]at e ⊢;exact e
  .rw[v6 hb]at e ⊢
   exact r.ext.hh b u (by rw[v6 hb];exact e)
 .have hb:b≠p:=fun w=>by rw[w,G]at n;exact n rfl
  have:=r.ext.new b e n
  rw[v6 hb]at this ⊢;exact this
 .obtain⟨q,zs,a,b,c,d,z⟩:=r.own i ds e
  have j:=ne q z
  rw[v6 j]at z
  exact⟨q,zs,a,b,by rw[v6 j];exact c,d,by rw[v6 j];exact z⟩
 .obtain⟨a,b,z,zs,c,d⟩:=r.ob i q ds e
  have j:=ne q z
  rw[v6 j]at z
  exact⟨a,b,by rw[v6 j];exact z,zs,by rw[v6 j];exact c,d⟩
 .obtain⟨a,b,ns,c,z⟩:=r.rd i q ds e
  have j:=I i q ds e
  refine⟨a,b,ns,c,?_⟩
  unfold Rd at z ⊢
  rw[v6 j]at z ⊢;exact z
def zz4 (src:List (Option Nat))(ρ:Ro):Ro:=src.map fun o=>o.bind fun i=>match ρ[i]? with |some (some (.sh d))=>some (.sh d)|some (some (.own ds))=>some (.own ds)|some (some (.rd q ds))=>some (.rd q ds)|_=>none
theorem U7 {src:List (Option Nat)}{ρ:Ro}{i:Nat}{x:S}(e:(zz4 src ρ)[i]? =some (some x)):∃ k,src[i]? =some (some k)/\ρ[k]? =some (some x)/\nob (some x):=by
 unfold zz4 at e
 rw[getElem?_map]at e
 cases h:src[i]? with
 |none=>rw[h]at e;cases e
 |some o=>
  rw[h]at e
  cases o with
  |none=>cases e
  |some k=>
   simp only[Option.map_some,Option.bind_some]at e
   split at e
   .rename_i d h';cases e;exact⟨k,rfl,h',True.intro⟩
   .rename_i ds h';cases e;exact⟨k,rfl,h',True.intro⟩
   .rename_i q ds h';cases e;exact⟨k,rfl,h',True.intro⟩
   .cases e
def capB (F H0 H:Hp):Hp:=fun b=>match F b with |some o=>some o|none=>match H0 b with |some _=>H b|none=>none
theorem Rl.blkR {K:W.Frag}{F0 H0 F H:Hp}{σ:St}{ρ:Ro}(r:Rl K F0 H0 F H σ ρ){src:List (Option Nat)}(ok:yg2 src){p:Addr}(I:H p=none):Rl K F (upd (capB F H0 H) p (.lst [])) F (upd H p (.lst [])) (blk0 src σ) (zz4 src ρ):=by
 have N:F p=none:=r.fh.free I
 refine⟨⟨Same.refl F,fun b u e=>?_,r.fh.put N,fun b e n=>absurd e n,fun _ _ _ z=>z⟩,by unfold blk0 zz4;simp,fun i d e=>?_,fun i ds e=>?_,fun i j q ds es J U S s1 s2=>?_,fun i q ds e=>?_,fun i j q ds es e=>?_,fun i j q Y ds es e=>?_,fun i q ds e=>?_⟩
 .by_cases hb:b=p
  .subst hb;rw[v7]at e ⊢;exact e
  .rw[v6 hb]at e ⊢
   unfold capB at e
   split at e
   .rename_i o h1;cases e;exact r.fh _ _ h1
   .split at e
    .exact e
    .cases e
 .obtain⟨k,h1,h2,_⟩:=U7 e
  obtain⟨v,a,b⟩:=r.sh k d h2
  exact⟨v,zf7 h1 a,b⟩
 .obtain⟨k,h1,h2,_⟩:=U7 e
  obtain⟨q,xs,a,b,c,d,z⟩:=r.own k ds h2
  have G:q≠p:=fun w=>by rw[w,I]at c;cases c
  exact⟨q,xs,zf7 h1 a,b,by rw[v6 G];exact c,d,by rw[v6 G];unfold capB;rw[b,z]⟩
 .obtain⟨k,h1,h2,_⟩:=U7 U
  obtain⟨l,L,O,_⟩:=U7 S
  refine r.inj k l q ds es (fun w=>?_) h2 O (zk1 h1 s1) (zk1 L s2)
  subst w
  exact J (ok i j k h1 L)
 .obtain⟨k,h1,h2,n⟩:=U7 e;exact n.elim
 .obtain⟨k,h1,h2,n⟩:=U7 e;exact n.elim
 .obtain⟨k,h1,h2,n⟩:=U7 e;exact n.elim
 .obtain⟨k,h1,h2,_⟩:=U7 e
  obtain⟨a,b,ns,c,d,z⟩:=r.rdF h2
  have hn:H q≠none:=by rcases d with d|⟨o,d⟩ <;> rw[d] <;> simp
  have G:q≠p:=fun w=>hn (w ▸ I)
  refine⟨zf7 h1 a,b,ns,c,?_⟩
  have M:capB F H0 H q=H q:=by
   unfold capB
   rw[b]
   cases h0:H0 q with
   |none=>exact absurd h0 z
   |some o=>rfl
  unfold Rd at d ⊢
  rw[v6 G,M];exact d
theorem Rl.nrp {K:W.Frag}{F0 H0 F H:Hp}{σ:St}{ρ:Ro}(r:Rl K F0 H0 F H σ ρ)(src:List (Option Nat)){p:Addr}(j:H p=none):NrP p (zz4 src ρ):=fun i q ds e w=>by
 obtain⟨k,h1,h2,_⟩:=U7 e
 obtain⟨a,b,ns,c,d,z⟩:=r.rdF h2
 rw[w]at d
 rcases d with d|⟨o,d⟩ <;> rw[j]at d <;> cases d
section
variable {X:Cx}{a b c e o:Expr}{ma mb mo:ME}{pos:Pos}{st:Stmt}
end
end
section
def RepS (K:W.Frag)(F H:Hp)(v:V):S->Prop
 | .sh d=>Rep K F v d
 | .rd q ds=>v= .ref q/\F q=none/\∃ ns:List Int,ds=ns.map D.int/\Rd H q (.lst (ns.map V.int))
 |_=>False
inductive RpS (K:W.Frag)(F H:Hp):List V->List S->Prop
 |nil:RpS K F H [] []
 |cons {v:V} {x:S} {vs:List V} {xs:List S}:RepS K F H v x->RpS K F H vs xs->RpS K F H (v::vs) (x::xs)
abbrev MK:=List S->Option Rt
abbrev MA:=Ro->Option (List S)
section
variable {X:Cx}{a b c e o:Expr}{ma mb mo:ME}{pos:Pos}{st:Stmt}{E:XK}{es:List Expr}{mf:MK}{m:MA}
end
end
section
open Classical in
end
section
section
variable {X:Cx}{pins:List (Addr×Obj)}{σ:St}
end
section
variable {X:Cx}{pos:Pos}
end
end
section
section
variable {prog:Program}{w:World}{A:Around}{E:Value->Shared->Prop}{s:Shared}
theorem Q9 {l:Addr}{i j:Int}{t u v:Tok}{Q:Value->Shared->Prop}(q:IsRange s.heap l i j 1 t u v)(h1:-(2^62)<=j)(h2:j<2^62)(L:-(2^62)<=i)(J:i<2^62)
  (h:Q (.ref s.heap.objs.size) { s with heap:=s.heap.push (P0 (i+(((j-i).toNat:Int)-1)) (j-i).toNat (-1)) }):wpAny (model prog w) A (call (.builtin "range.__reversed__") [.ref l]) Q E s:=by
 have I:s.TypeIs (.ref l) "range":=⟨_,q,rfl⟩
 refine wpAny_call_entry F.slot_range_reversed I F.entry_range_reversed ?_ (F.args_range_reversed_1 _)
 have z:Builtin.Range.rangeSize i j 1=((j-i).toNat:Int):=by rw[rangeSize_one];split <;> omega
 unfold Builtin.«range.__reversed__»
 refine wpAny_bind (wpAny_of_eq (a:=Value.ref l) rfl ?_)
 unfold Builtin.Range.rangeFields
 refine wpAny_bind ?_
 refine wpAny_bind (wpAny_field q rfl (x:=.int i t) rfl ?_)
 refine wpAny_bind (wpAny_of_eq (a:=some i) rfl ?_)
 refine wpAny_bind (wpAny_field q rfl (x:=.int j u) rfl ?_)
 refine wpAny_bind (wpAny_of_eq (a:=some j) rfl ?_)
 refine wpAny_bind (wpAny_field q rfl (x:=.int 1 v) rfl ?_)
 refine wpAny_bind (wpAny_of_eq (a:=some (1:Int)) rfl ?_)
 refine wpAny_pure ?_
 dsimp only
 rw[z]
 have G:(Builtin.Range.rangeFitsLong i&&Builtin.Range.rangeFitsLong j&&Builtin.Range.rangeFitsLong 1&&Builtin.Range.rangeFitsLong (-1)&&Builtin.Range.rangeFitsLong (i-1)&&Builtin.Range.rangeFitsLong ((j-i).toNat:Int))=true:=by
  simp only[Builtin.Range.rangeFitsLong,Bool.and_eq_true,decide_eq_true_eq]
  omega
 simp only[G,Bool.not_true,Bool.false_eq_true,if_false,if_true]
 have e:i+(((j-i).toNat:Int)-1)*1=i+(((j-i).toNat:Int)-1):=by omega
 rw[e]
 exact wpAny_bind (wpAny_newObj_type (wpAny_pure ⟨_,rfl,h⟩))
theorem O8 {l:Addr}{i j:Int}{t u v:Tok}{Q₁:Value->Shared->Prop}(q:IsRange s.heap l i j 1 t u v)(h1:-(2^62)<=j)(h2:j<2^62)(I:-(2^62)<=i)(G:i<2^62)
  (h:Q₁ (.ref s.heap.objs.size) { s with heap:=s.heap.push (P0 (i+(((j-i).toNat:Int)-1)) (j-i).toNat (-1)) }):
  codeAny (model prog w) A (.call (.builtin "reversed.__new__") ⟨[.type "reversed",.ref l],[]⟩) (wants Q₁ E) s:=by
 have z:s.TypeIs (.ref l) "range":=⟨_,q,rfl⟩
 refine codeAny_of_tree ?_
 show wpAny _ A.in1 (do checkBuiltinCall "reversed.__new__" ⟨[.type "reversed",.ref l],[]⟩;again (.builtin "reversed.__new__" ⟨[.type "reversed",.ref l],[]⟩)) _ _ s
 refine wpAny_bind (wpAny_of_eq (F.newCall_reversed_1 _) (wpAny_pure ⟨plainId_quiet F.plain_reversed_new _,codeAny_builtin F.entry_reversed_new ?_⟩))
 rw[Around.under_plainId F.plain_reversed_new _]
 unfold Builtin.«reversed.__new__»
 refine wpAny_bind (wpAny_of_eq (newClass_reversed _) ?_)
 try dsimp only
 refine wpAny_bind (wpAny_of_eq (a:=()) (by first|rfl|kernel_rfl) ?_)
 refine wpAny_bind (wpAny_of_eq (a:=()) (by first|rfl|kernel_rfl) ?_)
 try dsimp only
 refine wpAny_bind (wpAny_specialOf z F.slot_range_reversed.lookup ?_)
 try dsimp only
 refine wpAny_bind (wpAny_of_eq (F.slot_range_reversed.bind _) ?_)
 try dsimp only
 first
 |rw[if_neg (show ¬ ((Value.builtin "range.__reversed__"==Value.none)=true)from Bool.false_ne_true)]
 | (show wpAny _ _ (if (Value.builtin "range.__reversed__"==Value.none)=true then _ else _) _ _ _;rw[if_neg (show ¬ ((Value.builtin "range.__reversed__"==Value.none)=true)from Bool.false_ne_true)])
 refine wpAny_bind (wpAny_rule ?_)
 refine wpAny_bind (m:=runValue (.call (.builtin "range.__reversed__") ⟨[.ref l],[]⟩)) (show wpAny _ _ (call (.builtin "range.__reversed__") [.ref l]) _ _ _ from Q9 q h1 h2 I G ?_)
 first
 |exact wpAny_pure h
 |exact wpAny_bind (wpAny_pure (wpAny_pure h))
theorem Q8 {l:Addr}{i j:Int}{t u v:Tok}{Q:Value->Shared->Prop}(z:IsRange s.heap l i j 1 t u v)(h1:-(2^62)<=j)(h2:j<2^62)(I:-(2^62)<=i)(G:i<2^62)
  (h:Q (.ref s.heap.objs.size) { s with heap:=s.heap.push (P0 (i+(((j-i).toNat:Int)-1)) (j-i).toNat (-1)) }):wpAny (model prog w) A (call (.type "reversed") [.ref l]) Q E s:=by
 refine callType_other (U:="range_iterator") (Q₁:=fun obj q=>obj= .ref s.heap.objs.size/\q={ s with heap:=s.heap.push (P0 (i+(((j-i).toNat:Int)-1)) (j-i).toNat (-1)) }) (by decide +kernel) F.create_reversed ⟨_,_,F.mro_reversed⟩ F.made_reversed T0 (F.typeCall_reversed_1 _) (O8 z h1 h2 I G ⟨rfl,rfl⟩) ?_
 rintro obj q ⟨rfl,rfl⟩
 exact⟨⟨_,Heap.get?_push_size _ rfl,rfl⟩,h⟩
end
section
variable {X:Cx}
def G5 (lo:Int)(n:Nat):List D:=(List.range n).map fun(k:Nat)=>D.int (lo+((n:Int)-1)-(k:Int))
theorem M6 (lo:Int)(n:Nat):(G5 lo n).length=n:=by unfold G5;simp
theorem yn5 {K:W.Frag}{F:Hp}{lo:Int}{n:Nat}:ItD K F (Itdn (lo+((n:Int)-1)) n) (G5 lo n) where
 go:=fun i F1 H1 a b hi=>by rw[M6]at hi;exact hi
 yld:=fun i F1 H1 x H2 d a b e y=>by
  obtain⟨rfl,rfl⟩:=y
  unfold G5 at e
  rw[getElem?_map]at e
  have hi:i<n:=by
   rcases Nat.lt_or_ge i n with h|h
   .exact h
   .rw[getElem?_eq_none (by simpa using h)]at e;cases e
  rw[getElem?_range hi]at e
  cases e
  exact⟨F1,.refl b,.int _⟩
 stop:=fun F1 H1 a b=>by rw[M6];exact Nat.le_refl n
def yg8:List D->Option (List D)
 |[.int i,.int j]=>if (okR i&&okR j)=true then some (G5 i (j-i).toNat)else none
 |_=>none
theorem ys8 {tg a G:Expr}{m:ML}{p p2 pos z:Pos}(hg:Gl X "reversed")(hm:X.mg "reversed"=none)(a1:Gl X "range")(a0:X.mg "range"=none)(ha:PAs X [a,G] m)(he:starEach [a,G] X.env=(false,eval a X.env)::starEach [G] X.env:=by rfl)(Z:∀ pos,(backTo pos (starEach [G] X.env)).any (·.1)=false:=by intro _;rfl)
  (Y:∀ pos,(backTo pos (starEach [] X.env)).any (·.1)=false:=by intro _;rfl)
  (hs:starEach (Expr.Call (.Name "range" p2) [a,G] [] z::[]) X.env=(false,eval (Expr.Call (.Name "range" p2) [a,G] [] z) X.env)::starEach [] X.env:=by rfl):
  PId X tg (.Call (.Name "reversed" p) [.Call (.Name "range" p2) [a,G] [] z] [] pos) (l5 yg8 m):=by
 intro pins s σ H R I h
 obtain⟨F0,H0,F,ρ,its,rl,e,q⟩:=h
 obtain⟨ds,h1,h2⟩:=Z8 e
 have A:=h9 (B1 yj1 a1 a0 boot_range ha (by decide) (by decide) he (Z _)) pa_nil hs pos pins s σ H (fun vs H1=>∃ p i j F1 H2,vs=[.ref p]/\ds=[.int i,.int j]/\H2 p=none/\H1=upd H2 p (.rng i j)/\Ext F H F1 H2) I ⟨F0,H0,F,ρ,ds,rl,h1,fun vs F1 H1 N U=>by
  unfold yg8 at h2
  split at h2
  .rename_i i j
   cases U with
   |cons r S=>
    cases S with
    |cons r2 S=>
     cases S;cases r;cases r2
     exact⟨i,j,rfl,fun p hp=>⟨p,i,j,F1,H1,rfl,rfl,hp,rfl,N⟩⟩
  .cases h2⟩
 refine Call_ (W0 I hg hm boot_reversed (PyProof.Rows.callWith_type1 (thn A fun us s1 L=>?_) hs (Y _)))
 obtain⟨vs,H1,O,U,q1⟩:=L
 obtain⟨l,i,j,F1,H2,ev,ed,hn,eH,N⟩:=q1
 subst ev ed eH
 obtain⟨u,rfl,ru⟩:=P6 U
 cases ru
 have h2:(if (okR i&&okR j)=true then some (G5 i (j-i).toNat)else none)=some its:=h2
 split at h2
 case isFalse=>cases h2
 rename_i J
 cases h2
 unfold okR at J
 simp only[Bool.and_eq_true,decide_eq_true_eq]at J
 obtain⟨t,u,v,eo⟩:=O.hok l _ v7
 refine Q8 (i:=i) (j:=j) eo J.2.1 J.2.2 J.1.1 J.1.2 ?_
 have M:IsRangeIter (s1.heap.push (P0 (i+(((j-i).toNat:Int)-1)) (j-i).toNat (-1))) s1.heap.objs.size (i+(((j-i).toNat:Int)-1)) (j-i).toNat (-1):=Heap.get?_push_size _ rfl
 refine wpAny_pyIter_rangeiter M ?_
 have x2:Ext F H F1 (upd H2 l (.rng i j)):=N.trans (Ext.own N.fh hn)
 refine⟨s1.heap.objs.size,[s1.heap.objs.size],_,_,_,rfl,O.kept (t':=s1.toks) fun b o e=>Heap.get?_push_of_some _ e,zq1 _ (i+(((j-i).toNat:Int)-1)) (j-i).toNat,?_,fun b hb=>?_,q _ F1 _ x2 yn5⟩
 .have e1:(i+(((j-i).toNat:Int)-1))+((0:Nat):Int)*(-1)=i+(((j-i).toNat:Int)-1):=by simp
  have e2:((j-i).toNat:Int)-((0:Nat):Int)=(j-i).toNat:=by simp
  show IsRangeIter _ _ ((i+(((j-i).toNat:Int)-1))+((0:Nat):Int)*(-1)) (((j-i).toNat:Int)-((0:Nat):Int)) (-1)
  rw[e1,e2]
  exact M
 .have e:b=s1.heap.objs.size:=by simpa using hb
  subst e
  exact O.fpOk (Nat.le_refl _) (O.hok.fresh (Nat.le_refl _))
end
end
section
theorem yc4 {X:Cx}:PGet X (rIxL X.K):=by
 intro pins s σ H x y v u Q I rx M h
 obtain⟨p,xs,i,z,rfl,rfl,N,S,q⟩:=h
 cases rx
 obtain⟨t,rfl⟩:=M
 obtain⟨its,r,pl,Z⟩:=I.list N
 obtain⟨j,h1,h2,h3,Y,U⟩:=yi5 S
 obtain⟨w,L,G⟩:=r.get h2
 have O:=r.length
 have hn:=A0
 have fin:EP X pins σ Q w s:=⟨z,H,I,G,q⟩
 by_cases J:0<=i
 .have hj:i.toNat=j:=by
   rw[seqIndex_of J U]at h1
   exact Option.some.inj h1
  exact wpAny_getItem_list pl.isList J (by omega) (by rw[hj];simpa using L) fin
 .have hj:(i+(its.toArray.size:Int)).toNat=j:=by
   rw[seqIndex_neg (by omega) Y]at h1
   rw[size_toArray,<-O]
   exact Option.some.inj h1
  exact wpAny_getItem_list_neg pl.isList (by omega) (by rw[size_toArray] <;> omega) (by omega) (by rw[hj];simpa using L) fin
@[irreducible] def zo3 (i:Nat)(ix v:ME):MS:=fun ρ=>match ρ[i]? with
 |some (some (.own ds))=>(match ix ρ with
  |some (.int k)=>(match ixN ds.length k with
   |some j=>(match ds[j]? with
    |some (.int a)=>(match v ρ with |some (.int b)=>some (.nx (ρ.set i (some (.own (ds.set j (.int (a+b)))))))|_=>none)
    |_=>none)
   |none=>none)
  |_=>none)
 |_=>none
section
variable {X:Cx}{a b c e:Expr}{ma mb:ME}{pos:Pos}{st:Stmt}
theorem ys1 {i:Nat}{x:Str}{S tpos:Pos}(hv:PE X (.Name x S) (tVar i))(hx:PD X a ma)(hb:PD X b mb)
  (ha:∀ J L new,augStore a J L new=(do holding [new,J,L] (setItem J L new);release [new,J,L] [];pure .next):=by intros;rfl):
  PSd X (.AugAssign (.Subscript (.Name x S) a tpos) .Add b pos) (zo3 i ma mb):=(xu3 hv hx yc4 hb xy7 N6 ha).imp fun Dn σ H G=>by
 obtain⟨F0,H0,F,ρ,o,rl,e,ok⟩:=G
 unfold zo3 at e
 split at e
 .rename_i ds h1
  split at e
  .rename_i k h2
   split at e
   .rename_i j h3
    split at e
    .rename_i n h4
     split at e
     .rename_i n2 h5
      cases e
      obtain⟨p,xs,Y,e2,e3,N,e5⟩:=rl.own i _ h1
      refine⟨_,Y,F0,H0,F,ρ,.int k,rl,h2,fun z F1 H1 I r1=>?_⟩
      cases r1
      obtain⟨u,hu,Z⟩:=N.get h4
      cases Z
      have U:ixN xs.length k=some j:=by rw[N.length];exact h3
      refine⟨p,xs,k,.int n,rfl,rfl,SqL.of (I.hh _ _ e3),by unfold atI;rw[U];exact hu,?_⟩
      refine⟨F0,H0,F1,ρ,.int n2,rl.go I,h5,fun z F2 H2 O r2=>?_⟩
      cases r2
      have M:=(rl.go I).go O
      have q:=I.trans O
      refine⟨n,n2,rfl,rfl,p,xs,k,j,rfl,rfl,q.hh _ _ e3,U,ok F2 _ σ (M.write h1 Y (Reps.set (.int (n+n2)) j (N.mono q.ff))) q.ff⟩
     .cases e
    .cases e
   .cases e
  .cases e
 .cases e
end
end
section
@[irreducible] def ye6 (i:Nat):MS:=fun ρ=>match ρ[i]? with
 |some (some (.own ds))=>if 0<ds.length then some (.nx (ρ.set i (some (.own ds.dropLast))))else none
 |_=>none
theorem Reps.dropLast {K:W.Frag}{F:Hp}:∀{vs:List V}{ds:List D},Reps K F vs ds->Reps K F vs.dropLast ds.dropLast
 |_,_,.nil=>.nil
 |_,_,.cons _ .nil=>.nil
 |_,_,.cons r (.cons r2 rr)=>.cons r (Reps.dropLast (.cons r2 rr))
section
variable {X:Cx}{pos:Pos}
theorem yf2 {i:Nat}{x:Str}{q apos cpos:Pos}(L:PE X (.Name x q) (tVar i))
  (J:PE X (.Call (.Attribute (.Name x q) "pop" apos) [] [] cpos) (tBM0 X.K "list" rPop (tVar i))) (I:swapsWith (.Call (.Attribute (.Name x q) "pop" apos) [] [] cpos) none pos.line X.env=pure false:=by rfl):
  PSd X (.Expr (.Call (.Attribute (.Name x q) "pop" apos) [] [] cpos) pos) (ye6 i):=(zu1 J I).imp fun D σ H j=>by
 obtain⟨F0,H0,F,ρ,o,rl,e,ok⟩:=j
 unfold ye6 at e
 split at e
 .rename_i ds h1
  obtain⟨p,xs,G,O,e3,z,N⟩:=rl.own i _ h1
  split at e
  .rename_i hz
   cases e
   have M:=z.length
   exact⟨_,G,.inl ⟨rfl,_,SqL.of e3⟩,p,xs,_,rfl,rfl,e3,getElem?_eq_getElem (by omega),ok F _ σ (rl.write h1 G (Reps.dropLast z)) (Same.refl F)⟩
  .cases e
 .cases e
end
end
section
open Classical in
end
section
abbrev lc2 (elt tg iter tg2 iter2:Expr)(sc:Scope)(pos:Pos):Expr:=.ListComp elt [⟨tg,iter,[],0⟩,⟨tg2,iter2,[],0⟩] sc pos
theorem zg7 (elt tg iter tg2 iter2:Expr)(sc:Scope)(pos:Pos)(it acc:Value)(env:Env):
  compTurn (lc2 elt tg iter tg2 iter2 sc pos) 0 it acc env=(standAt iter.pos >>= fun _=>pyNext it >>= fun r=>match r with
   |none=>pure (.done .next)
   |some v=>letOwnedTupleGo tg it v >>= fun _=>assign tg env v >>= fun _=>
    eval iter2 env >>= fun x=>standAt iter2.pos >>= fun _=>foldedSetIterable iter2 env x >>= fun x=>holding [x] (pyIter x) >>= fun i=>
     runOwn (.compStart (lc2 elt tg iter tg2 iter2 sc pos) 1 i acc env) env >>= fun _=>again (.compLoop (lc2 elt tg iter tg2 iter2 sc pos) 0 it acc env)):=by rfl
theorem zg6 (elt tg iter tg2 iter2:Expr)(sc:Scope)(pos:Pos)(it acc:Value)(env:Env):
  compTurn (lc2 elt tg iter tg2 iter2 sc pos) 1 it acc env=(standAt iter2.pos >>= fun _=>pyNext it >>= fun r=>match r with
   |none=>pure (.done .next)
   |some v=>letOwnedTupleGo tg2 it v >>= fun _=>assign tg2 env v >>= fun _=>
    (eval elt env >>= fun x=>call (.builtin "list.append") [acc,x] >>= fun _=>pure ()) >>= fun _=>again (.compLoop (lc2 elt tg iter tg2 iter2 sc pos) 1 it acc env)):=by rfl
section
variable {prog:Program}{w:World}{A:Around}{R:Result->Shared->Prop}{s:Shared}{elt tg iter tg2 iter2:Expr}{sc:Scope}{pos:Pos}{it acc:Value}{env:Env}
theorem zm5 (j:codeAny (model prog w) A (.compLoop (lc2 elt tg iter tg2 iter2 sc pos) 1 it acc env) R s)
  (h:wpAny (model prog w) A (pyIter it) (fun i s'=>codeAny (model prog w) A (.compLoop (lc2 elt tg iter tg2 iter2 sc pos) 1 i acc env) R s') (notedBy (model prog w) A env fun x s'=>R (.error x) s') s):
  codeAny (model prog w) A (.compStart (lc2 elt tg iter tg2 iter2 sc pos) 1 it acc env) R s:=by
 refine codeAny_of_tree ?_
 show wpAny _ _ ((compStart (lc2 elt tg iter tg2 iter2 sc pos) 1 it acc env).onRaise (fun x=>do noteFrame x env;standAt theWindowsPlace)) _ _ s
 refine wpAny_notedAt ?_
 unfold compStart
 show wpAny _ _ (ask >>= _) _ _ s
 refine wpAny_bind (wpAny_askSetting (wpAny_ite ?_))
 split
 .first
   |exact wpAny_bind (wpAny_pure (wpAny_pure (And.intro rfl j)))
   |exact wpAny_pure (And.intro rfl j)
 .first
   |exact wpAny_bind (wpAny_rule (wpAny_bind (wpAny_standAt (wpAny_bind (wpAny_mono h (fun i s' h'=>wpAny_pure (And.intro rfl h')) fun _ _ x=>x)))))
   | (refine wpAny_bind (wpAny_rule ?_);show wpAny _ _ (standAt iter2.pos >>= _) _ _ s;exact wpAny_bind (wpAny_standAt (wpAny_bind (wpAny_mono h (fun i s' h'=>wpAny_pure (And.intro rfl h')) fun _ _ x=>x))))
theorem zg8 (I:Nat->Shared->Prop)
  (turn:∀ n s,I n s->wpAny (model prog w) A (pyNext it) (fun r j=>match r with
   |none=>R (.ok .next) j
   |some v=>wpAny (model prog w) A (letOwnedTupleGo tg2 it v) (fun _ i=>wpAny (model prog w) A (assign tg2 env v) (fun _ G=>
     wpAny (model prog w) A (eval elt env) (fun x z=>
       wpAny (model prog w) A (call (.builtin "list.append") [acc,x]) (fun _ q=>∃ m,m<n/\I m q) noE z) noE G) noE i) noE j) noE s)
  (n:Nat) (h:I n s):codeAny (model prog w) A (.compLoop (lc2 elt tg iter tg2 iter2 sc pos) 1 it acc env) R s:=by
 refine codeAny_loop rfl I (fun n s S=>?_) n h
 show wpAny _ A ((compTurn (lc2 elt tg iter tg2 iter2 sc pos) 1 it acc env).onRaise (fun x=>do noteFrame x env;theTreesLotGoes x)) _ _ s
 refine wpAny_noted ?_
 rw[zg6]
 refine wpAny_bind (wpAny_standAt (wpAny_bind (toE (turn n s S) (fun r j J=>?_))))
 cases r with
 |none=>exact wpAny_pure J
 |some v=>
  refine wpAny_bind (toE J fun _ i L=>?_)
  refine wpAny_bind (toE L (fun _ G O=>?_))
  exact wpAny_bind (wpAny_bind (toE O (fun x z N=>wpAny_bind (toE N (fun _ q M=>wpAny_pure (wpAny_pure ⟨rfl,M⟩))))))
theorem zg9 (I:Nat->Shared->Prop)(Z:∀ x,foldedSetIterable iter2 env x=pure x)
  (turn:∀ n s,I n s->wpAny (model prog w) A (pyNext it) (fun r j=>match r with
   |none=>R (.ok .next) j
   |some v=>wpAny (model prog w) A (letOwnedTupleGo tg it v) (fun _ i=>wpAny (model prog w) A (assign tg env v) (fun _ J=>
     wpAny (model prog w) A (eval iter2 env) (fun x G=>wpAny (model prog w) A (pyIter x) (fun N z=>
       codeAny (model prog w) A (.compStart (lc2 elt tg iter tg2 iter2 sc pos) 1 N acc env) (fun r q=>(∃ f,r= .ok f)/\∃ m,m<n/\I m q) z) noE G) noE J) noE i) noE j) noE s)
  (n:Nat) (h:I n s):codeAny (model prog w) A (.compLoop (lc2 elt tg iter tg2 iter2 sc pos) 0 it acc env) R s:=by
 refine codeAny_loop rfl I (fun n s hI=>?_) n h
 show wpAny _ A ((compTurn (lc2 elt tg iter tg2 iter2 sc pos) 0 it acc env).onRaise (fun x=>do noteFrame x env;theTreesLotGoes x)) _ _ s
 refine wpAny_noted ?_
 rw[zg7]
 refine wpAny_bind (wpAny_standAt (wpAny_bind (toE (turn n s hI) (fun r j L=>?_))))
 cases r with
 |none=>exact wpAny_pure L
 |some v=>
  refine wpAny_bind (toE L fun _ i M=>?_)
  refine wpAny_bind (toE M (fun _ J Y=>?_))
  refine wpAny_bind (toE Y fun x G U=>?_)
  refine wpAny_bind (wpAny_standAt ?_)
  refine wpAny_bind (wpAny_of_eq (Z x) ?_)
  refine wpAny_bind (wpAny_holding (toE U fun N z S=>?_))
  refine wpAny_bind (wpAny_runOwn (h:=none) (codeAny_mono (show codeAny (model prog w) (A.mark none) _ _ _ from S) fun r q ⟨⟨f,hf⟩,O⟩=>?_))
  subst hf
  exact wpAny_pure ⟨rfl,O⟩
end
def yu3 (src:List (Option Nat))(wi:TI)(g:TG)(wi2:TI)(g2:TG)(te:TE):TE:=fun σ H Q=>wi σ H fun J H1=>∀ D,H1 D=none->∃ W:Nat->Nat->St->Hp->Prop,(∃ m,W 0 m (blk0 src σ) (upd H1 D (.lst [])))/\∀ i m σ' H',W i m σ' H'->
 (J.stop i H'/\Q (.ref D) H')\/(J.go i H'/\∃ N:St->Hp->Prop,(∀ σ2 H2,N σ2 H2->∃ m',m'<m/\W (i+1) m' σ2 H2)/\∀ x H2,J.yld i H' x H2->g x σ' H2 fun σ3 H3=>wi2 σ3 H3 fun J2 H4=>∃ W2:Nat->Nat->St->Hp->Prop,(∃ m,W2 0 m σ3 H4)/\∀ j m2 σ5 H5,W2 j m2 σ5 H5->
  (J2.stop j H5/\N σ5 H5)\/(J2.go j H5/\∃ N2:St->Hp->Prop,(∀ σ2 H2,N2 σ2 H2->∃ m',m'<m2/\W2 (j+1) m' σ2 H2)/\∀ y H6,J2.yld j H5 y H6->g2 y σ5 H6 fun σ7 H7=>te σ7 H7 fun z H8=>∃ xs,H8 D=some (.lst xs)/\xs.length<sizeLine/\N2 σ7 (upd H8 D (.lst (xs++[z])))))
section
variable {X:Cx}
theorem yb0 {tg iter tg2 iter2 elt:Expr}{sc:Scope}{pos:Pos}{g2:TG}{te:TE}(hc:X.calm=true)(hg:PG X tg2 g2)(he:PE X elt te)(Z:X.xe=noE)
  {pins:List (Addr×Obj)} {σ:St} {H:Hp} {s:Shared} {it D:Addr} {fp:List Addr} {tn:Nat->Heap->Prop} {J:It} {Nx:St->Hp->Prop}
  (I:Inv X pins σ H s) (T:Turn X.prog X.w X.K tg2 J fp it tn) (st:tn 0 s.heap) (hf:∀ b∈fp,FpOk X pins H b)
  (W:Nat->Nat->St->Hp->Prop) {m0:Nat} (w0:W 0 m0 σ H) (turn:∀ j m2 U S,W j m2 U S->
  (J.stop j S/\Nx U S)\/(J.go j S/\∃ N2:St->Hp->Prop,(∀ a1 H2,N2 a1 H2->∃ m',m'<m2/\W (j+1) m' a1 H2)/\∀ y H6,J.yld j S y H6->g2 y U H6 fun G H7=>te G H7 fun z H8=>∃ xs,H8 D=some (.lst xs)/\xs.length<sizeLine/\N2 G (upd H8 D (.lst (xs++[z]))))):
  codeAny (model X.prog X.w) X.A (.compLoop (lc2 elt tg iter tg2 iter2 sc pos) 1 (.ref it) (.ref D) X.env) (fun r s'=>(∃ f,r= .ok f)/\∃ L H',Inv X pins L H' s'/\Nx L H') s:=by
 have N:∀{H':Hp},(∀ b∈fp,H' b=none)->∀ b∈fp,FpOk X pins H' b:=fun hn b O=>⟨hn b O,(hf b O).2⟩
 refine zg8 (fun n s'=>∃ i L H',Inv X pins L H' s'/\tn i s'.heap/\(∀ b∈fp,H' b=none)/\W i n L H') ?_ m0 ⟨0,σ,H,I,st,fun b O=>(hf b O).1,w0⟩
 rintro n s3 ⟨i,M,H3,I3,a2,a3,w3⟩
 rcases turn i n M H3 w3 with⟨stop,qn⟩|⟨go,N',a5,step⟩
 .refine thn (T.done X rfl rfl rfl hc i pins s3 M H3 noE I3 (N a3) a2 stop) fun r s4 ⟨hr,I4⟩=>?_
  subst hr
  exact⟨⟨_,rfl⟩,M,H3,I4,qn⟩
 .refine thn (T.item X rfl rfl rfl hc i pins s3 M H3 noE I3 (N a3) a2 go) fun r s4 ⟨u,hr,h4⟩=>?_
  subst hr
  refine thn h4 fun _ s5 q=>?_
  obtain⟨x,S,I5,r5,y5,Y,a7⟩:=q
  have a8:=I5.pinned (N a7) (T.obj _ _ Y)
  have again:∀{s7:Shared}{G:St}{H7:Hp},Inv X (pins++C9 fp s5.heap) G H7 s7->N' G H7->∃ m,m<n/\∃ i L H',Inv X pins L H' s7/\tn i s7.heap/\(∀ b∈fp,H' b=none)/\W i m L H':=fun{s7 G H7} I7 n7=>by
   obtain⟨m',hm,w7⟩:=a5 G H7 n7
   refine⟨m',hm,i+1,G,H7,I7.unpinned,T.keep _ _ _ Y fun b O o e=>(I7.pin (b,o) (mem_append_right _ (mem_append_right _ (Z9 O e)))).1,fun b O=>?_,w7⟩
   obtain⟨o,e,d⟩:=T.obj _ _ Y b O
   exact(I7.pin (b,o) (mem_append_right _ (mem_append_right _ (Z9 O e)))).2.1
  refine thn (Z ▸ hg _ s5 M S x u _ a8 r5 (step x S y5)) fun _ s6 q=>?_
  obtain⟨a0,H6,I6,q6⟩:=q
  refine thn (Z ▸ he _ s6 a0 H6 _ I6 q6) fun y s8 q=>?_
  obtain⟨v8,H8,I8,r8,q8⟩:=q
  obtain⟨xs,a6,a4,n8⟩:=q8
  refine thn (Z ▸ d9 _ s8 a0 H8 (.ref D) [v8] (.ref D) [y] (fun _ H9=>H9=upd H8 D (.lst (xs++[v8]))) I8 rfl (.cons r8 .nil) ⟨_,xs,v8,rfl,rfl,a6,a4,rfl⟩) fun _ s9 q=>?_
  obtain⟨v9,H9,I9,r9,q9⟩:=q
  subst q9
  exact again I9 n8
theorem zg5 {sc:Scope}{N:List Str}{src:List (Option Nat)}{tg elt iter tg2 iter2:Expr}{pos:Pos}{g:TG}{ab:TI}{g2:TG}{te:TE}(B:Blk X sc N src)(hc:X.calm=true)
  (hg:∀ C fp s H,PG (f9 X sc C N fp s H) tg g) (ao:∀ C fp s H,PI (f9 X sc C N fp s H) tg2 iter2 ab) (ap:∀ C fp s H,PG (f9 X sc C N fp s H) tg2 g2) (am:∀ C fp s H x,foldedSetIterable iter2 (f9 X sc C N fp s H).env x=pure x) (he:∀ C fp s H,PE (f9 X sc C N fp s H) elt te)
  {pins:List (Addr×Obj)} {σ:St} {H:Hp} {s:Shared} {it:Addr} {fp:List Addr} {tn:Nat->Heap->Prop} {J:It} {Q:VK} {E:Value->Shared->Prop}
  (I:Inv X pins σ H s) (T:Turn X.prog X.w X.K tg J fp it tn) (st:tn 0 s.heap) (hf:∀ b∈fp,FpOk X pins H b)
  (hW:∀ D,H D=none->∃ W:Nat->Nat->St->Hp->Prop,(∃ m,W 0 m (blk0 src σ) (upd H D (.lst [])))/\∀ i m L H',W i m L H'->
   (J.stop i H'/\Q (.ref D) H')\/(J.go i H'/\∃ N:St->Hp->Prop,(∀ a0 H2,N a0 H2->∃ m',m'<m/\W (i+1) m' a0 H2)/\∀ x H2,J.yld i H' x H2->g x L H2 fun Z H3=>ab Z H3 fun J2 H4=>∃ W2:Nat->Nat->St->Hp->Prop,(∃ m,W2 0 m Z H4)/\∀ j m2 a7 H5,W2 j m2 a7 H5->
    (J2.stop j H5/\N a7 H5)\/(J2.go j H5/\∃ N2:St->Hp->Prop,(∀ a0 H2,N2 a0 H2->∃ m',m'<m2/\W2 (j+1) m' a0 H2)/\∀ y H6,J2.yld j H5 y H6->g2 y a7 H6 fun U H7=>te U H7 fun z H8=>∃ xs,H8 D=some (.lst xs)/\xs.length<sizeLine/\N2 U (upd H8 D (.lst (xs++[z]))))))
  {RR:Value->Addr->Result->Shared->Prop}
  (ar:∀ D C H' s' m',Inv X pins σ H' s'->s'.heap.Ns C m'->H' C=none->s.heap.objs.size<=C->Q (.ref D) H'->RR (.ref D) C (.ok .next) s'):
  wpAny (model X.prog X.w) X.A (newList []) (fun acc Y=>wpAny (model X.prog X.w) X.A (newFunctionEnv sc X.env.globals (clOf X.env.cells sc.names []) [] X.env.qual none .none (some X.env)) (fun a6 ac=>
   codeAny (model X.prog X.w) X.A (.compStart (lc2 elt tg iter tg2 iter2 sc pos) 0 (.ref it) acc { a6 with scope:=relabel sc X.env }) (RR acc a6.locals) ac) E Y) E s:=by
 refine wpAny_newObj_type (wpAny_newFunctionEnv B.nocell (by intro y hy;simp at hy) (fun O S q=>?_) B.kind)
 dsimp only at S q ⊢
 generalize aa:s.heap.push { cls:=.type "list",dict:=none,data:=.seq ([]:List Value).toArray }=H2 at S q ⊢
 have hC:H2.objs.size=s.heap.objs.size+1:=by rw[<-aa,Heap.size_push]
 have aj:s.heap.objs.size≠H2.objs.size:=by rw[hC];exact Nat.ne_of_lt (Nat.lt_succ_self _)
 have a5:s.heap.objs.size<=H2.objs.size:=by rw[hC];exact Nat.le_succ _
 have below:∀ b,b<s.heap.objs.size->b≠H2.objs.size:=fun b G=>by rw[hC];exact Nat.ne_of_lt (Nat.lt_succ_of_lt G)
 have old:∀ b o,s.heap.get? b=some o->O.get? b=some o:=fun b o e=>q.extBut b o (below b (Heap.lt_size e)) (Heap.get?_push_of_some _ (aa ▸ Heap.get?_push_of_some _ e))
 have ai:O.get? s.heap.objs.size=some { cls:=.type "list",data:=.seq #[] 0 }:=q.extBut _ _ aj (Heap.get?_push_of_some _ (aa ▸ Heap.get?_push_size _ rfl))
 have ah:∀ b∈fp,∃ o,s.heap.get? b=some o:=fun b G=>by obtain⟨o,e,_⟩:=T.obj _ _ st b G;exact⟨o,e⟩
 have af:tn 0 O:=T.keep _ _ _ st fun b _ o e=>old b o e
 obtain⟨W,⟨m0,w0⟩,turn⟩:=hW s.heap.objs.size I.fresh
 have I1:=zk0 (t:=s.toks+([]:List (Str×Value)).length) B I hc hf ah old (Nat.le_refl _) ai S a5 aj
 have a1:∀{H':Hp},(∀ b∈fp,H' b=none)->∀ b∈fp,FpOk (f9 X sc H2.objs.size N fp s H) [] H' b:=fun{H'} hn b G=>by
  obtain⟨f0,f1,f2,f3,f4,f5⟩:=hf b G
  refine⟨hn b G,I1.ok.exf b G |>.1,I1.ok.exfs b G,.inl G,fun x c e=>f4 x c (M9 e),fun p hp=>absurd (show p∈([]:List (Addr×Obj))++[]from hp) (by simp)⟩
 have aq:∀ b∈fp,b≠s.heap.objs.size:=fun b G z=>by
  obtain⟨o,e⟩:=ah b G
  exact absurd (Heap.lt_size e) (by rw[z];exact Nat.lt_irrefl _)
 have a4:∀ Y:Shared,Y={ s with heap:=O,toks:=s.toks+([]:List (Str×Value)).length }->
   codeAny (model X.prog X.w) X.A (.compLoop (lc2 elt tg iter tg2 iter2 sc pos) 0 (.ref it) (.ref s.heap.objs.size) (compEnvC sc (clOf X.env.cells sc.names []) H2.objs.size X.env))
    (RR (.ref s.heap.objs.size) H2.objs.size) Y:=by
  rintro Y rfl
  refine zg9 (I:=fun n s'=>∃ i L H',Inv (f9 X sc H2.objs.size N fp s H) [] L H' s'/\tn i s'.heap/\(∀ b∈fp,H' b=none)/\W i n L H') (am H2.objs.size fp s H) ?_ m0
   ⟨0,_,_,I1,af,fun b G=>by rw[v6 (aq b G)];exact(hf b G).1,w0⟩
  rintro n s3 ⟨i,Z,H3,I3,ae,ak,w3⟩
  rcases turn i n Z H3 w3 with⟨stop,qn⟩|⟨go,N',as,step⟩
  .refine thn (T.done (f9 X sc H2.objs.size N fp s H) rfl rfl rfl rfl i [] s3 Z H3 noE I3 (a1 ak) ae stop) fun r s4 ⟨hr,I4⟩=>?_
   subst hr
   obtain⟨m4,an,_⟩:=id I4.loc
   refine ar _ _ H3 s4 m4 ?_ an I4.free a5 qn
   exact I.call' (ch:=fp) I4.os I4.base I4.hok I4.bare fun b G=>⟨(hf b G).2.2.2.1,(hf b G).2.1,(hf b G).2.2.2.2.1,(hf b G).2.2.2.2.2⟩
  .refine thn (T.item (f9 X sc H2.objs.size N fp s H) rfl rfl rfl rfl i [] s3 Z H3 noE I3 (a1 ak) ae go) fun r s4 ⟨u,hr,h4⟩=>?_
   subst hr
   refine thn h4 fun _ s5 M=>?_
   obtain⟨x,H5,I5,r5,y5,a9,au⟩:=M
   have av:=I5.pinned (a1 au) (T.obj _ _ a9)
   have again:∀{s7:Shared}{U:St}{H7:Hp},Inv (f9 X sc H2.objs.size N fp s H) ([]++C9 fp s5.heap) U H7 s7->N' U H7->∃ m,m<n/\∃ i L H',Inv (f9 X sc H2.objs.size N fp s H) [] L H' s7/\tn i s7.heap/\(∀ b∈fp,H' b=none)/\W i m L H':=fun{s7 U H7} I7 n7=>by
    obtain⟨m',hm,w7⟩:=as U H7 n7
    refine⟨m',hm,i+1,U,H7,I7.unpinned,T.keep _ _ _ a9 fun b G o e=>(I7.pin (b,o) (mem_append_right _ (mem_append_right _ (Z9 G e)))).1,fun b G=>?_,w7⟩
    obtain⟨o,e,d⟩:=T.obj _ _ a9 b G
    exact(I7.pin (b,o) (mem_append_right _ (mem_append_right _ (Z9 G e)))).2.1
   refine thn (hg _ _ _ _ _ s5 Z H5 x u _ av r5 (step x H5 y5)) fun _ s6 M=>?_
   obtain⟨al,H6,I6,q6⟩:=M
   refine thn (ao _ _ _ _ _ s6 al H6 _ I6 q6) fun xv s7 h7=>thn h7 fun ay s8 h8=>?_
   obtain⟨ag,az,ax,J2,H8,rfl,I8,T2,ad,f8,W2,⟨m2,w2⟩,a8⟩:=h8
   have a2:codeAny (model X.prog X.w) X.A (.compLoop (lc2 elt tg iter tg2 iter2 sc pos) 1 (.ref ag) (.ref s.heap.objs.size) (compEnvC sc (clOf X.env.cells sc.names []) H2.objs.size X.env)) (fun r a3=>(∃ f,r= .ok f)/\∃ m,m<n/\∃ i L H',Inv (f9 X sc H2.objs.size N fp s H) [] L H' a3/\tn i a3.heap/\(∀ b∈fp,H' b=none)/\W i m L H') s8:=
    codeAny_mono (yb0 (X:=f9 X sc H2.objs.size N fp s H) rfl (ap _ _ _ _) (he _ _ _ _) rfl I8 T2 ad f8 W2 w2 a8) fun r s9 ⟨hr,aw,H9,I9,n9⟩=>⟨hr,again I9 n9⟩
   refine zm5 a2 (toE (T2.self X.A 0 s8 (fun v s'=>v= .ref ag/\s'=s8) noE ad ⟨rfl,rfl⟩) fun v s' M=>?_)
   obtain⟨e1,e2⟩:=M
   subst e1;subst e2
   exact a2
 refine codeAny_compStart_list (a4 _ rfl) (toE (T.self X.A 0 { s with heap:=O,toks:=s.toks+([]:List (Str×Value)).length } (fun v s'=>v= .ref it/\s'={ s with heap:=O,toks:=s.toks+([]:List (Str×Value)).length }) noE af ⟨rfl,rfl⟩) fun v s' M=>?_)
 obtain⟨e1,e2⟩:=M
 subst e1;subst e2
 exact a4 _ rfl
theorem yf4 {i:Nat}{y:Str}{L:Pos}{sc:Scope}{N:List Str}{src:List (Option Nat)}{tg elt iter tg2 iter2:Expr}{pos j:Pos}{wi:TI}{g:TG}{M:TI}{g2:TG}{te:TE}(hN:X.N.Nodup)(a5:X.N[i]? =some y)(hx:Loc X.env.scope y)
  (B:Blk X sc N src) (hc:X.calm=true)
  (hi:PI X tg iter wi) (hg:∀ C fp s H,PG (f9 X sc C N fp s H) tg g) (a4:∀ C fp s H,PI (f9 X sc C N fp s H) tg2 iter2 M) (a6:∀ C fp s H,PG (f9 X sc C N fp s H) tg2 g2) (he:∀ C fp s H,PE (f9 X sc C N fp s H) elt te)
  (a1:swapsWith (lc2 elt tg iter tg2 iter2 sc pos) (some (.Name y L)) j.line X.env=pure true:=by rfl)
  (hs:∀ x,foldedSetIterable iter X.env x=pure x:=by intro _;rfl) (a3:∀ C fp s H x,foldedSetIterable iter2 (f9 X sc C N fp s H).env x=pure x:=by intro _ _ _ _ _;rfl) (hf:X.fn y=true\/X.env.scope.names.lookup y=some .local:=by first|exact .inl rfl|exact .inr rfl|assumption):
  PS X (.Assign [.Name y L] (lc2 elt tg iter tg2 iter2 sc pos) j) (tAsg (yu3 src wi g M g2 te) (J3 i)):=by
 intro pins s σ H Dn I h
 rw[exec_Assign_Name_used _ _ _ _ a1]
 refine wpAny_bind (wpAny_standAt (wpAny_bind ?_))
 show wpAny _ _ (do let _ ← comprehension (lc2 elt tg iter tg2 iter2 sc pos) sc X.env _ (newList []) false (eval iter X.env) (some (assign (.Name y L) X.env))) _ _ s
 refine wpAny_bind (wpAny_mono (wpAny_comprehension_free (use:=some (assign (.Name y L) X.env)) (Q:=fun _ s'=>SP X pins Dn .next s') rfl hs (B.cl I.ok) B.kind B.names
  (wpAny_mono (hi pins s σ H _ I h) (fun xv aa S=>wpAny_mono S (fun ac a9 O=>?_) fun _ _ e=>e) fun _ _ e=>e)) (fun _ s' hq=>wpAny_pure (wpAny_pure hq)) fun _ _ e=>e)
 obtain⟨it,fp,tn,J,H2,rfl,Z,T,a0,f2,hW⟩:=O
 refine zg5 (RR:=fun acc C=>compPost (model X.prog X.w) X.A X.xe (some (assign (.Name y L) X.env)) (fun _ s'=>SP X pins Dn .next s') acc C) (Q:=fun x H1=>J3 i x σ H1 Dn.nx) B hc hg a4 a6 a3 he Z T a0 f2 hW ?_
 intro D C H' s' m' I' hn hC G q
 show wpAny _ _ (assign (.Name y L) X.env (.ref D)) _ _ _
 refine wpAny_assign_Name (D8 I' hN a5 hx (v:=.ref D) rfl (fun ab a8 Y=>?_) hf)
 obtain⟨a,a2,ha⟩:=Y
 have a7:C≠a:=fun z=>by
  rcases ha with ha|ha
  .have:=Z.lt;rw[<-ha,<-z]at this
   exact absurd (Nat.lt_of_lt_of_le this G) (Nat.lt_irrefl _)
  .obtain⟨v,qv⟩:=Z.cell y a ha
   exact absurd (Nat.lt_of_lt_of_le qv.lt (by rw[<-z];exact G)) (Nat.lt_irrefl _)
 exact⟨m',hn.sameBut a2 a7,fun ad U=>⟨_,H',a8.letGo ⟨_,_,Z⟩ G hC U,q⟩⟩
end
def X8 (g:Tg)(elt:ME):List D->Ro->List D->Option (Ro×List D)
 |[],ρ,acc=>some (ρ,acc)
 |d::ds,ρ,acc=>match tgD g d ρ with
  |some ρ1=>match elt ρ1 with
   |some x=>if acc.length<sizeLine then X8 g elt ds ρ1 (acc++[x])else none
   |none=>none
  |none=>none
def V7 (g:Tg)(mi2:ML)(g2:Tg)(elt:ME):List D->Ro->List D->Option (List D)
 |[],_,acc=>some acc
 |d::ds,ρ,acc=>match tgD g d ρ with
  |some ρ1=>match mi2 ρ1 with
   |some its=>match X8 g2 elt its ρ1 acc with
    |some z=>V7 g mi2 g2 elt ds z.1 z.2
    |none=>none
   |none=>none
  |none=>none
@[irreducible] def O5 (src:List (Option Nat))(mi:ML)(g:Tg)(mi2:ML)(g2:Tg)(elt:ME):ML:=fun ρ=>(mi ρ).bind fun its=>V7 g mi2 g2 elt its (zz4 src ρ) []
theorem zf0 {g:Tg}{elt:ME}{d:D}{ds acc:List D}{ρ:Ro}{o:Ro×List D}(h:X8 g elt (d::ds) ρ acc=some o):∃ ρ1 x,tgD g d ρ=some ρ1/\elt ρ1=some x/\acc.length<sizeLine/\X8 g elt ds ρ1 (acc++[x])=some o:=by
 rw[X8]at h
 cases h2:tgD g d ρ with
 |none=>rw[h2]at h;cases h
 |some ρ1=>
  rw[h2]at h
  simp only at h
  cases h4:elt ρ1 with
  |none=>rw[h4]at h;cases h
  |some x=>
   rw[h4]at h
   simp only at h
   by_cases i:acc.length<sizeLine
   .rw[if_pos i]at h;exact⟨ρ1,x,rfl,h4,i,h⟩
   .rw[if_neg i]at h;cases h
theorem zf2 {g:Tg}{i:ML}{j:Tg}{elt:ME}{d:D}{ds acc out:List D}{ρ:Ro}(h:V7 g i j elt (d::ds) ρ acc=some out):∃ ρ1 its z,tgD g d ρ=some ρ1/\i ρ1=some its/\X8 j elt its ρ1 acc=some z/\V7 g i j elt ds z.1 z.2=some out:=by
 rw[V7]at h
 cases h2:tgD g d ρ with
 |none=>rw[h2]at h;cases h
 |some ρ1=>
  rw[h2]at h
  simp only at h
  cases h4:i ρ1 with
  |none=>rw[h4]at h;cases h
  |some its=>
   rw[h4]at h
   simp only at h
   cases h5:X8 j elt its ρ1 acc with
   |none=>rw[h5]at h;cases h
   |some z=>rw[h5]at h;exact⟨ρ1,its,z,rfl,h4,h5,h⟩
theorem zf1 {K:PySem.W.Frag}{src:List (Option Nat)}{g:Tg}{ad:ML}{g2:Tg}{elt:ME}{its out:List D}{F1 H1 B:Hp}{σ:St}{a9:Ro}{p:Addr}{J:It}{Q:VK}(f1:Same F1 H1)(hp:H1 p=none)(rb:Rl K F1 (upd B p (.lst [])) F1 (upd H1 p (.lst [])) (blk0 src σ) a9)(nr:NrP p a9)(I:ItD K F1 J its)(e:V7 g ad g2 elt its a9 []=some out)
  (q:∀ xs F' H',Ext F1 H1 F' H'->F' p=none->H' p=some (.lst xs)->Reps K F' xs out->Q (.ref p) H'):
  ∃ W:Nat->Nat->St->Hp->Prop,(∃ m,W 0 m (blk0 src σ) (upd H1 p (.lst [])))/\∀ i m a3 H',W i m a3 H'->
   (J.stop i H'/\Q (.ref p) H')\/(J.go i H'/\∃ N:St->Hp->Prop,(∀ O H2,N O H2->∃ m',m'<m/\W (i+1) m' O H2)/\∀ x H2,J.yld i H' x H2->TGd K g x a3 H2 fun ae H3=>TId K ad ae H3 fun J2 H4=>∃ W2:Nat->Nat->St->Hp->Prop,(∃ m,W2 0 m ae H4)/\∀ j m2 a2 H5,W2 j m2 a2 H5->
    (J2.stop j H5/\N a2 H5)\/(J2.go j H5/\∃ N2:St->Hp->Prop,(∀ O H2,N2 O H2->∃ m',m'<m2/\W2 (j+1) m' O H2)/\∀ y H6,J2.yld j H5 y H6->TGd K g2 y a2 H6 fun a1 H7=>TD K elt a1 H7 fun z H8=>∃ xs,H8 p=some (.lst xs)/\xs.length<sizeLine/\N2 a1 (upd H8 p (.lst (xs++[z]))))):=by
 have ar:F1 p=none:=f1.free hp
 refine⟨fun i m a3 H'=>∃ F' ρ' acc xs,Rl K F1 (upd B p (.lst xs)) F' H' a3 ρ'/\Ext F1 H1 F' H'/\H' p=some (.lst xs)/\F' p=none/\Reps K F' xs acc/\i<=its.length/\m=its.length-i/\V7 g ad g2 elt (its.drop i) ρ' acc=some out/\NrP p ρ',
  ⟨_,F1,a9,[],[],rb,(Ext.refl f1).acc hp ar,v7,ar,.nil,Nat.zero_le _,rfl,e,nr⟩,?_⟩
 clear rb e nr
 rintro i m a3 H' ⟨F',ρ',acc,xs,ac,xe,ah,as,ra,ax,rfl,e',aw⟩
 by_cases a8:i<its.length
 .right
  have hd:=getElem?_eq_getElem a8
  refine⟨I.go i F' H' xe.ff ac.fh a8,fun O H2=>∃ F2 ρ2 a0 a5,Rl K F1 (upd B p (.lst a5)) F2 H2 O ρ2/\Ext F1 H1 F2 H2/\H2 p=some (.lst a5)/\F2 p=none/\Reps K F2 a5 a0/\V7 g ad g2 elt (its.drop (i+1)) ρ2 a0=some out/\NrP p ρ2,?_,fun x H2 y=>?_⟩
  .rintro O H2 ⟨F2,ρ2,a0,a5,b1,b2,b3,b4,b5,b6,b7⟩
   exact⟨its.length-(i+1),Nat.sub_lt_sub_left a8 (Nat.lt_succ_self i),F2,ρ2,a0,a5,b1,b2,b3,b4,b5,a8,rfl,b6,b7⟩
  .obtain⟨F2,x2,r2⟩:=I.yld i F' H' x H2 _ xe.ff ac.fh hd y
   rw[Q0 hd]at e'
   obtain⟨ρ1,G,z,h2,h3,h4,e4⟩:=zf2 e'
   have av:=aw.tg h2
   clear e' I q y hd
   refine⟨F1,_,F2,ρ',_,ρ1,ac.go x2,r2,h2,fun F3 H3 ae ak x3=>?_⟩
   have au:=x2.trans x3
   refine⟨F1,_,F3,ρ1,G,ak,h3,fun J2 F4 H4 x4 I2=>?_⟩
   have aa:=au.trans x4
   refine⟨fun j m2 a2 H5=>∃ F5 U L Y,Rl K F1 (upd B p (.lst Y)) F5 H5 a2 U/\Ext F1 H1 F5 H5/\H5 p=some (.lst Y)/\F5 p=none/\Reps K F5 Y L/\j<=G.length/\m2=G.length-j/\X8 g2 elt (G.drop j) U L=some z/\NrP p U/\Same F4 F5,
    ⟨_,F4,ρ1,acc,xs,ak.go x4,xe.trans aa,aa.hh _ _ ah,aa.stay as ah,ra.mono aa.ff,Nat.zero_le _,rfl,h4,av,Same.refl _⟩,?_⟩
   rintro j m2 a2 H5 ⟨F5,U,L,Y,a7,ai,ag,aq,af,hj,rfl,e5,am,ab⟩
   by_cases S:j<G.length
   .right
    have ap:=getElem?_eq_getElem S
    refine⟨I2.go j F5 H5 ab a7.fh S,fun a1 H7=>∃ F7 M Z a4,Rl K F1 (upd B p (.lst a4)) F7 H7 a1 M/\Ext F1 H1 F7 H7/\H7 p=some (.lst a4)/\F7 p=none/\Reps K F7 a4 Z/\X8 g2 elt (G.drop (j+1)) M Z=some z/\NrP p M/\Same F4 F7,?_,fun y H6 yy=>?_⟩
    .rintro a1 H7 ⟨F7,M,Z,a4,b1,b2,b3,b4,b5,b6,b7,b8⟩
     exact⟨G.length-(j+1),Nat.sub_lt_sub_left S (Nat.lt_succ_self j),F7,M,Z,a4,b1,b2,b3,b4,b5,S,rfl,b6,b7,b8⟩
    .obtain⟨F6,x6,r6⟩:=I2.yld j F5 H5 y H6 _ ab a7.fh ap yy
     rw[Q0 ap]at e5
     obtain⟨M,d,t7,d7,hz,e7⟩:=zf0 e5
     have al:=am.tg t7
     refine⟨F1,_,F6,U,_,M,a7.go x6,r6,t7,fun F7 H7 a1 aj x7=>?_⟩
     refine⟨F1,_,F7,M,d,aj,d7,fun v F8 H8 x8 r8=>?_⟩
     have a6:=(x6.trans x7).trans x8
     have pn:=a6.stay aq ag
     exact⟨Y,a6.hh _ _ ag,by rw[af.length];exact hz,F8,M,L++[d],Y++[v],(aj.go x8).rebaseR pn al,(ai.trans a6).acc hp pn,v7,pn,(af.mono a6.ff).append (.cons r8 .nil),e7,al,ab.trans a6.ff⟩
   .left
    have an:j=G.length:=Nat.le_antisymm hj (Nat.le_of_not_lt S)
    subst an
    rw[drop_length]at e5
    have e5:some (U,L)=some z:=e5
    cases e5
    exact⟨I2.stop F5 H5 ab a7.fh,F5,U,L,Y,a7,ai,ag,aq,af,e4,am⟩
 .left
  have ao:i=its.length:=Nat.le_antisymm ax (Nat.le_of_not_lt a8)
  subst ao
  rw[drop_length]at e'
  have e':some acc=some out:=e'
  cases e'
  exact⟨I.stop F' H' xe.ff ac.fh,q xs F' H' xe as ah ra⟩
theorem yk6 {K:W.Frag}{src:List (Option Nat)}{mi:ML}{g:Tg}{j:ML}{M:Tg}{elt:ME}(N:yg2 src){σ:St}{H:Hp}{Q:VK}(h:TF K (O5 src mi g j M elt) σ H Q):yu3 src (TId K mi) (TGd K g) (TId K j) (TGd K M) (TD K elt) σ H Q:=by
 obtain⟨F0,H0,F,ρ,out,rl,e,q⟩:=h
 unfold O5 at e
 cases h1:mi ρ with
 |none=>rw[h1]at e;cases e
 |some its=>
  rw[h1]at e
  refine⟨F0,H0,F,ρ,its,rl,h1,fun J F1 H1 i I p z=>?_⟩
  exact zf1 i.fh z ((rl.go i).blkR N z) ((rl.go i).nrp src z) I e fun xs F' H' xe L G O=>q p xs F' H' (i.trans xe) (i.hh.free z) L G O
section
variable {X:Cx}{st:Stmt}
theorem yy6 {i:Nat}{src:List (Option Nat)}{mi:ML}{g:Tg}{j:ML}{G:Tg}{z:ME}(I:yg2 src)(h:PS X st (tAsg (yu3 src (TId X.K mi) (TGd X.K g) (TId X.K j) (TGd X.K G) (TD X.K z)) (J3 i))):PSd X st (mset i (mlst (O5 src mi g j G z))):=xo6 h fun _ _ _ q=>yk6 I (xz8 q)
end
end
section
theorem xw0 (a b:Value):checkTypeCall "enumerate" ⟨[a],[("start",b)]⟩=pure ():=by kernel_rfl
theorem xr0 (a b:Value):checkBuiltinCall "enumerate.__new__" ⟨[.type "enumerate",a],[("start",b)]⟩=pure ():=by kernel_rfl
theorem xp1 (o a b:Value):argsOk "object.__init__" ⟨[o,a],[("start",b)]⟩:=by
 first|exact F.args_object_init_2 o a|kernel_rfl| (unfold argsOk;kernel_rfl)
open AutoSeq1 (wpAny_loadPart')in
theorem xr4 (l:Addr)(its:Array Value)(n:Nat)(dd:Option Addr)(q:Array (Option Value))(t:Tok):
  Meets (Builtin.«enumerate.__new__» ⟨[.type "enumerate",.ref l],[("start",.int 1 t)]⟩) (fun _ R s=>s.heap.get? l=some ⟨.type "list",dd,.seq its n,q⟩/\
   R (.ok (.ret (.ref (s.heap.push ⟨.type "list_iterator",none,.fields #[.ref l,.int 0 0],#[]⟩).objs.size)))
    { s with heap:=(s.heap.push ⟨.type "list_iterator",none,.fields #[.ref l,.int 0 0],#[]⟩).push ⟨.type "enumerate",none,.fields #[.none,.bool false,.ref s.heap.objs.size,rawInt 1,.none,.none],#[]⟩ }):=
 .of_wp fun _ _ A R s z=>by
  obtain⟨I,g,d,tk,os⟩:=s;obtain⟨i,z⟩:=z
  have G:=sub_enumerate
  have j:Heap.IsList (Shared.heap ⟨I,g,d,tk,os⟩) l its:=⟨_,i,rfl,n,rfl⟩
  wp_walk using wpAny_loadPart' i
  refine wpAny_stack_any fun st=>wpAny_pure ?_
  split
  .rename_i c _ _ _ _ _
   cases (c==Value.type "enumerate") <;> (wp_walk using wpAny_loadPart' i,wpAny_pyIter_list j;exact⟨_,rfl,z⟩)
  ·(wp_walk using wpAny_loadPart' i,wpAny_pyIter_list j;exact⟨_,rfl,z⟩)
end
section
section
variable {prog:Program}{w:World}{A:Around}{E:Value->Shared->Prop}{s:Shared}
theorem xp0 {T i:String}{o a b:Value}(z:typeLookup (.type T) "__init__"=pure (some (.builtin "object.__init__")))(hm:Bind.madeBy (.type T)=pure (some i))(hn:(some i != some "object.__new__")=true):
  Meets (Builtin.«object.__init__» ⟨[o,a],[("start",b)]⟩) (fun _ R s=>s.TypeIs o T/\R (.ok (.ret .none)) s):=by
 refine Meets.of_wp fun _ _ A R s j=>?_
 obtain⟨G,q⟩:=j
 repeat (any_goals (first|assumption|wp_step))
 exact⟨_,rfl,q⟩
theorem yw8 {a b:Value}{S:PySem.Spec}{Q:Value->Shared->Prop}(g:Meets (Builtin.«enumerate.__new__» ⟨[.type "enumerate",a],[("start",b)]⟩) S)
  (h:S A.in1 (wants (fun o j=>j.TypeIs o "enumerate"/\Q o j) E) s):wpAny (model prog w) A (call (.type "enumerate") [a] [("start",b)]) Q E s:=by
 have q:=F.called_enumerate
 obtain⟨c,tl,M⟩:=q.mro
 have O:=xw0 a b
 have Y:=q.made
 have U:=q.sub
 refine wpAny_call (codeAny_of_tree ?_)
 show wpAny _ _ (callAny (.type "enumerate") _) _ _ _
 refine wpAny_pure ⟨Code.quiet_builtin _ (by decide +kernel),codeAny_builtin F.entry_type_call ?_⟩
 rw[Around.under_plain (weight_type_call_type "enumerate" [a] [("start",b)]) (units_type_call_type "enumerate" [a] [("start",b)])]
 have h1:=q.notType
 have h2:=q.canCreate
 repeat (any_goals (first|assumption|wp_step))
 refine codeAny_mono (codeAny_call_builtin q.plain F.entry_enumerate_new (wpAny_of_eq (xr0 a b) (g prog w A.in1 _ s h))) fun r j J=>?_
 cases r with
 |error e=>exact J
 |ok fl=>
  cases fl with
  |ret o=>
   obtain⟨N,L⟩:=J
   have h3:=q.init.lookup
   have Z:=q.init.bind o
   repeat (any_goals (first|assumption|wp_step))
   refine codeAny_mono (codeAny_call_builtin q.init.plain F.entry_object_init (q.init.check _ _ _ _ _ _ _ _ N (xp1 o a b) (xp0 (T:="enumerate") q.init.lookup q.made (by decide) prog w A.in1 (wants (fun r z=>r= .none/\Q o z) E) j ⟨N,rfl,L⟩))) fun I z i=>?_
   cases I with
   |error e=>exact i
   |ok G=>
    cases G with
    |ret r=>
     obtain⟨rfl,L⟩:=i
     repeat (any_goals (first|assumption|wp_step))
    |_=>exact i.elim
  |_=>exact J.elim
theorem yb4 {l:Addr}{its:Array Value}{t:Tok}{Q:Value->Shared->Prop}(G:s.heap.IsList l its)
  (h:∀ h',IsEnum h' (s.heap.objs.size+1) s.heap.objs.size 1 .none->h'.IsListIter s.heap.objs.size l 0->(∀ b o,s.heap.get? b=some o->h'.get? b=some o)->Q (.ref (s.heap.objs.size+1)) { s with heap:=h' }):
  wpAny (model prog w) A (call (.type "enumerate") [.ref l] [("start",.int 1 t)]) Q E s:=by
 obtain⟨⟨c,dd,I,sl⟩,q,z,n,hd⟩:=G
 cases z
 cases hd
 refine yw8 (xr4 l its n dd sl t) ⟨q,?_⟩
 have i:(s.heap.push ⟨.type "list_iterator",none,.fields #[.ref l,.int 0 0],#[]⟩).objs.size=s.heap.objs.size+1:=Heap.size_push ..
 show _/\_
 have j:IsEnum ((s.heap.push ⟨.type "list_iterator",none,.fields #[.ref l,.int 0 0],#[]⟩).push ⟨.type "enumerate",none,.fields #[.none,.bool false,.ref s.heap.objs.size,rawInt 1,.none,.none],#[]⟩) (s.heap.objs.size+1) s.heap.objs.size 1 .none:=by
  rw[<-i];exact Heap.get?_push_size _ rfl
 rw[i]
 exact⟨⟨_,j,rfl⟩,h _ j ⟨_,Heap.get?_push_of_some _ (Heap.get?_push_size _ rfl),rfl,rfl⟩ fun b o x=>Heap.get?_push_of_some _ (Heap.get?_push_of_some _ x)⟩
theorem yk0 (hh:A.handled=none)(it l:Addr)(G:l≠it)(its:Array Value):
  Draws prog w A it [it,l] (its.size+1) (fun i v=>∃ j,i=j+1/\its[j]? =some v) (fun i h=>∃ j,i=j+1/\h.IsListIter it l j/\h.IsList l its) where
 live:=fun _ _ ⟨_,_,st,_⟩=>let ⟨o,L,_⟩:=st;⟨o,L⟩
 frame:=fun _ _ _ ⟨j,e,st⟩ I=>⟨j,e,st.1.at fun o e=>I it (by simp) o e,st.2.at fun o e=>I l (by simp) o e⟩
 item:=fun i s Q E hi ⟨j,e,st⟩ M=>by
  subst e
  have J:j<its.size:=by omega
  refine wpAny_nextOf_list_item st.1 st.2 (x:=its[j]) (by simp[J]) fun h' z q=>?_
  exact M _ h' s.toks ⟨j,rfl,by simp[J]⟩ ⟨j+1,rfl,z,st.2.extBut q.extBut G⟩ q
 done:=fun s Q E ⟨j,e,st⟩ N=>by
  have:j=its.size:=by omega
  subst this
  exact wpAny_nextOf_list_end hh st.1 st.2 (by simp) N
end
def Ite1 (K:W.Frag)(l:Addr):It:=
 ⟨fun i H=>∃ xs x,SqL K H l xs/\xs[i]? =some x,
  fun i H v H'=>∃ t x,v= .ref t/\H t=none/\H'=upd H t (.tup [.int ((1+i:Nat):Int),x])/\(∀ xs,SqL K H l xs->xs[i]? =some x),
  fun i H=>∃ xs,SqL K H l xs/\xs.length=i⟩
end
section
theorem yh5 {P:Program}{w:World}{K:W.Frag}{es:List Expr}{tk:Nat}{tp:Pos}(e it l:Addr)(a5:e≠it):
  Turn P w K (.Tuple es tk tp) (Ite1 K l) [e,it] e (fun i h=>(∃ old,IsEnum h e it ((i+1:Nat):Int) old)/\h.IsListIter it l i) where
 mem:=by simp
 obj:=fun i h st b hb=>by
  obtain⟨⟨old,M⟩,⟨o1,e1,_,d1⟩⟩:=st
  rcases List.mem_cons.mp hb with rfl|hb
  .exact⟨_,M,fun v q=>by cases q⟩
  .rcases List.mem_singleton.mp hb with rfl
   exact⟨_,e1,fun v q=>by rw[d1]at q;cases q⟩
 keep:=fun i h h' ⟨⟨old,M⟩,h1⟩ k=>⟨⟨old,k e (by simp) _ M⟩,h1.at fun o q=>k it (by simp) o q⟩
 item:=by
  intro X hP hw hK N i pins s σ H E I hf st hg
  subst hP hw hK
  obtain⟨xs,x,U,hx⟩:=hg
  obtain⟨G,S,p1,_⟩:=I.list U
  obtain⟨⟨old,M⟩,h1⟩:=st
  have L:=p1.isList
  obtain⟨oi,ei,ci,di⟩:=id h1
  obtain⟨ol,O,cl,_⟩:=id L
  have a0:l≠it:=fun z=>by rw[z]at O;rw[ei]at O;cases O;rw[ci]at cl;exact absurd (Value.type.inj cl) (by decide)
  have ab:e≠l:=fun z=>by rw[<-z]at O;rw[M]at O;cases O;exact absurd (Value.type.inj cl) (by decide)
  have hi:i<G.length:=by
   rw[<-S.length]
   exact(List.getElem?_eq_some_iff.mp hx).1
  refine wpAny_pyNext_enum_itemD (yk0 (A:=X.A.in1) (I.ok.hd N) it l a0 G.toArray) M ⟨i,rfl,h1,L⟩ (by simpa using hi) a5 (by simp[a5,ab]) fun u h' Z pu a1 a2 a3 a4 hk=>?_
  obtain⟨j,ej,hu⟩:=pu
  cases ej
  obtain⟨j2,af,a2,_⟩:=a2
  cases af
  obtain⟨u1,ad,aa⟩:=S.get hx
  have ac:u=u1:=by
   have:G[i]? =some u:=by simpa using hu
   rw[ad]at this;exact(Option.some.inj this).symm
  subst ac
  refine⟨_,rfl,?_⟩
  refine wpAny_letOwnedTupleGo_enum a1 fun a9 a8 J=>?_
  have a7:e<s.heap.objs.size:=Heap.lt_size M
  have kk:∀ c o,c∉[e,it]->s.heap.get? c=some o->a9.get? c=some o:=fun c o N q=>by
   simp only[mem_cons,not_mem_nil,or_false,not_or]at N
   exact J.extBut _ _ N.1 (hk c o N.1 N.2 q)
  have hT:=J.extBut _ _ (Nat.ne_of_gt a7) a3
  have I2:Inv X pins σ (upd H s.heap.objs.size (.tup [.int ((1+i:Nat):Int),x])) { s with heap:=a9,toks:=Z+1 }:=
   I.turnedN (T:=s.heap.objs.size) (o:=.tup [.int ((1+i:Nat):Int),x]) kk hf (Nat.le_refl _) ⟨by show 2<=sizeLine;decide,[.int ((i+1:Nat):Int) Z,u],.cons ⟨Z,by rw[Nat.add_comm 1 i]⟩ (.cons aa .nil),⟨_,hT,rfl,_,rfl⟩⟩
  refine⟨.ref s.heap.objs.size,_,I2,rfl,⟨_,x,rfl,I.fresh,rfl,fun zs a6=>by rw[I.list_inj a6 U];exact hx⟩,
   ⟨⟨_,a8⟩,a2.extBut J.extBut a5.symm⟩,fun c Y=>?_⟩
  have ae:c<s.heap.objs.size:=by
   rcases List.mem_cons.mp Y with rfl|Y
   .exact a7
   .rcases List.mem_singleton.mp Y with rfl
    exact Heap.lt_size ei
  rw[v6 (Nat.ne_of_lt ae)]
  exact(hf c Y).1
 done:=by
  intro X hP hw hK N i pins s σ H E I hf st hg
  subst hP hw hK
  obtain⟨xs,U,hl⟩:=hg
  obtain⟨G,S,p1,_⟩:=I.list U
  obtain⟨⟨old,M⟩,h1⟩:=st
  have L:=p1.isList
  obtain⟨oi,ei,ci,di⟩:=id h1
  obtain⟨ol,O,cl,_⟩:=id L
  have a0:l≠it:=fun z=>by rw[z]at O;rw[ei]at O;cases O;rw[ci]at cl;exact absurd (Value.type.inj cl) (by decide)
  have hz:G.length=i:=by rw[<-S.length];exact hl
  refine wpAny_pyNext_enum_endD (yk0 (A:=X.A.in1) (I.ok.hd N) it l a0 G.toArray) M ⟨i,by simp[hz],h1,L⟩ fun h' hk=>⟨rfl,?_⟩
  exact I.turnedL (t':=s.toks) (fun c o N q=>by
   simp only[mem_cons,not_mem_nil,or_false,not_or]at N
   exact hk c o N.2 q) hf
 self:=fun A i s Q E ⟨⟨old,M⟩,h1⟩ h=>wpAny_pyIter_enum M h
theorem xq7 {K:W.Frag}{F:Hp}{p:Addr}{xs:List V}{ds:List D}(s:SqL K F p xs)(r:Reps K F xs ds):ItD K F (Ite1 K p) (J4 1 ds) where
 go:=fun i F1 H1 a b hi=>by
  rw[Y1]at hi
  obtain⟨v,e,_⟩:=r.get (getElem?_eq_getElem hi)
  exact⟨xs,v,b.seq (a.seq s),e⟩
 yld:=fun i F1 H1 x H2 d a b e y=>by
  obtain⟨t,u,rfl,j,rfl,q⟩:=y
  obtain⟨I,G,z⟩:=r.get' (q xs (b.seq (a.seq s)))
  rw[M5 1 ds i I G]at e
  cases e
  refine⟨upd F1 t (.tup [.int ((1+i:Nat):Int),u]),Ext.laid b j,.tup (SqT.of v7) ?_⟩
  exact .cons (.int _) (.cons (z.mono (a.trans ((Same.refl F1).put (b.free j)))) .nil)
 stop:=fun F1 H1 a b=>⟨xs,b.seq (a.seq s),by rw[r.length,Y1]⟩
def zm2:List D->Option (List D)
 |[.lst ds]=>some (J4 1 ds)
 |_=>none
section
variable {X:Cx}
theorem zt9 {M:Model}{A:Around}{E:Value->Shared->Prop}{s:Shared}{env:Env}{pos:Pos}{T:String}{e:Expr}{kws:List Keyword}{Q:Value->Shared->Prop}
  (h:wpAny M A (spliced (backTo pos (starEach [e] env))) (fun vs i=>wpAny M A (evalAll ((backToKw pos (keywordEach kws env)).map (·.2))) (fun us j=>wpAny M A (call (.type T) vs (((backToKw pos (keywordEach kws env)).filterMap (·.1)).zip us)) Q E j) E i) E s)
  (I:backTo pos (starEach [e] env)=(false,eval e env)::backTo pos (starEach [] env)) (q:(backTo pos (starEach [e] env)).any (·.1)=false) (ha:(backToKw pos (keywordEach kws env)).all (·.1.isSome)=true) (G:(backToKw pos (keywordEach kws env)).any (·.1.isNone)=false):
  wpAny M A (callWith pos (.type T) [] (backTo pos (starEach [e] env)) (backToKw pos (keywordEach kws env))) Q E s:=by
 have g:wpAny M A (evalArgs (.type T) true (backTo pos (starEach [e] env)) (backToKw pos (keywordEach kws env))) (fun a i=>wpAny M A (call (.type T) ([]++a.pos) a.kw) Q E i) E s:=by
  rw[I]at h ⊢
  exact evalArgs_kwB ha h
 unfold callWith
 refine wpAny_bind (wpAny_holding (wpAny_mono g (fun a i z=>wpAny_bind (wpAny_standAt ?_)) fun _ _ x=>x))
 simp only[q,G,Bool.or_false]
 refine wpAny_bind (wpAny_pure ?_)
 exact wpAny_bind (wpAny_mono z (fun r j y=>wpAny_bind (wpAny_holding (wpAny_point (wpAny_pure y)))) fun _ _ x=>x)
theorem xu6 {es:List Expr}{tk:Nat}{tp:Pos}{a:Expr}{m:ME}{p pos kp ep:Pos}{ek:_}(hg:Gl X "enumerate")(hm:X.mg "enumerate"=none)(ha:PD X a m)
  (N:starEach [a] X.env=[(false,eval a X.env)]:=by rfl):PId X (.Tuple es tk tp) (.Call (.Name "enumerate" p) [a] [⟨some "start",.Constant (.int 1) ek ep,kp⟩] pos) (l5 zm2 (z8 m anil)):=by
 intro pins s σ H R I h
 obtain⟨F0,H0,F,ρ,its,rl,e,q⟩:=h
 obtain⟨ds,h1,h2⟩:=Z8 e
 have A:=(z0 ha y7 N:PAs X [a] _) pos pins s σ H (fun vs H1=>∃ F1,Ext F H F1 H1/\Reps X.K F1 vs ds) I ⟨F0,H0,F,ρ,ds,rl,h1,fun vs F1 H1 J M=>⟨F1,J,M⟩⟩
 refine wpAny_Call_Name_kw (W0 I hg hm boot_enumerate ?_)
 refine zt9 (thn A fun us s1 z=>?_) (by rw[N];rfl) (by rw[N];rfl) rfl rfl
 obtain⟨vs,H1,I1,M,F1,J,rs⟩:=z
 unfold zm2 at h2
 split at h2
 case h_2=>cases h2
 cases h2
 cases rs with
 |cons r rr=>
  cases rr
  obtain⟨l,xs,rfl,U,rx⟩:=r.l'
  obtain⟨u,rfl,ru⟩:=P6 M
  cases ru
  have B:=zu2 (nm:=some "start") (kpos:=kp) (pe_int (X:=X) (i:=1) (j:=ek) (pos:=ep)) ys6 pos pins s1 σ H1 (fun vs H2=>vs=[.int 1]/\H2=H1) I1 ⟨rfl,rfl⟩
  refine thn B fun us s2 z=>?_
  obtain⟨vs,H2,L,r2,ev,eH⟩:=z
  subst ev eH
  obtain⟨u2,rfl,t2,rfl⟩:=P6 r2
  obtain⟨Y,a0,p1,_⟩:=L.list (J.fh.seq U)
  refine yb4 p1.isList fun h' Z O hk=>?_
  have I3:Inv X pins σ H2 { s2 with heap:=h',toks:=s2.toks }:=L.kept hk
  refine wpAny_pyIter_enum Z ?_
  refine⟨_,[s2.heap.objs.size+1,s2.heap.objs.size],_,_,H2,rfl,I3,yh5 _ _ l (Nat.ne_of_gt (Nat.lt_succ_self _)),⟨⟨_,Z⟩,O⟩,fun b S=>?_,q _ F1 _ J (xq7 U rx)⟩
  have G:s2.heap.objs.size<=b:=by
   rcases List.mem_cons.mp S with rfl|S
   .exact Nat.le_succ _
   .rw[List.mem_singleton.mp S];exact Nat.le_refl _
  exact L.fpOk G (L.hok.fresh G)
end
end
section
section
variable {X:Cx}{e:Expr}{ma:ME}
def zy9 (m:ME):ML:=fun ρ=>match m ρ with |some (.tup ds)=>some ds|_=>none
theorem xq6 {K:W.Frag}{F:Hp}{p:Addr}{xs:List V}{ds:List D}(s:SqT K F p xs)(r:Reps K F xs ds):ItD K F (Itt K p) ds where
 go:=fun i F1 H1 a b hi=>by
  obtain⟨v,e,_⟩:=r.get (getElem?_eq_getElem hi)
  exact⟨xs,v,b.seqT (a.seqT s),e⟩
 yld:=fun i F1 H1 x H2 d a b e y=>by
  obtain⟨rfl,y⟩:=y
  obtain⟨v,q,j⟩:=r.get e
  have:=y xs (b.seqT (a.seqT s))
  rw[q]at this;cases this
  exact⟨F1,.refl b,j.mono a⟩
 stop:=fun F1 H1 a b=>⟨xs,b.seqT (a.seqT s),by rw[r.length];exact Nat.le_refl _⟩
theorem ys7 {tg:Expr}(hd:PD X e ma):PId X tg e (zy9 ma):=PI.imp (xi2 hd) fun σ H R i=>by
 obtain⟨F0,H0,F,ρ,its,rl,e,q⟩:=i
 unfold zy9 at e
 split at e
 .rename_i ds h1
  cases e
  refine⟨F0,H0,F,ρ,_,rl,h1,fun v F1 H1 j z=>?_⟩
  cases z with
  |tup s t=>exact⟨_,rfl,⟨_,j.fh.seqT s⟩,q _ F1 H1 j (xq6 s t)⟩
 .cases e
end
end
end L2
set_option maxHeartbeats 4000000
namespace Lw
open List
open PySem L2
abbrev k0a (r:List Int):Option S:=some (.sh (.lst (r.map .int)))
abbrev k0b (k:Nat):Option S:=some (.sh (.int (k:Int)))
abbrev k0c (k:Int):Option S:=some (.sh (.int k))
section
noncomputable section
def b_Z13:MS:=(mif (l0 (m2 ltD (mvar 0) (mc (.int 1)))) zp9 g9)
def Q7:MF:=runB 1 b_Z13
def yj9:MS:=(mseq (mapp 2 (mlst (l7 [none,some 1,some 5,some 0] (l5 rng2 (z8 (m2 addD (mvar 4) (mc (.int 1))) (z8 (mlen (bvar 0)) anil))) (.nm 0) (l0 (m2 geD (m2 subD (mix (bvar 3) (mvar 0)) (mvar 2)) (mvar 1))) (mvar 0)))) (mapp 3 (mlst (l7 [none,some 1,some 5,some 0] (l5 rng2 (z8 (m2 addD (mvar 4) (mc (.int 1))) (z8 (mlen (bvar 0)) anil))) (.nm 0) (l0 (m2 geD (m2 subD (mvar 2) (mix (bvar 3) (mvar 0))) (mvar 1))) (mvar 0)))))
def yj8:MS:=(X3 3 (X3 2 (mret (mtup (z8 (mvar 2) (z8 (mvar 3) anil))))))
def b_Z9:MS:=(mseq (Y9 2 (m5 anil)) (mseq (Y9 3 (m5 anil)) (mseq (mfor (l5 yw4 (z8 (mvar 0) anil)) (.tp [4,5]) yj9) yj8)))
def m_Z9:MF:=runB 6 b_Z9
def D4:MS:=(mseq (mif (cor (l0 (m2 ltD (mvar 3) (mvar 2))) (l0 (m2 geD (mvar 3) (mlen (bvar 0))))) (mret (mc (.bl false))) g9) (mset 2 (m2 addD (mvar 3) (mc (.int 1)))))
def b_Z15:MS:=(mseq (mset 2 (mc (.int 0))) (mseq (mfor (l6 (mvar 1)) (.nm 3) D4) (mret (mc (.bl true)))))
def zh1:MF:=runB 4 b_Z15
def za0:MS:=(mif (cor (l0 (m2 ltD (X2 zy5 (z8 (mvar 2) (z8 (mvar 4) anil))) (mvar 3))) (l0 (m2 ltD (mvar 3) (X2 yp4 (z8 (mvar 2) (z8 (mvar 4) anil)))))) (maug 1 (mc (.int 1))) g9)
def b_Z20:MS:=(mseq (mset 1 (mc (.int 0))) (mseq (mfor (l5 zip3 (z8 (mvar 0) (z8 (mlst (mcut (bvar 0) (Y8 (mc (.int 1))) V1)) (z8 (mlst (mcut (bvar 0) (Y8 (mc (.int 2))) V1)) anil)))) (.tp [2,3,4]) za0) (O4 1)))
def yo2:MF:=runB 5 b_Z20
def zr0:MS:=(mif (l0 (m2 ltD (X2 absF (z8 (m2 subD (mvar 3) (mvar 2)) anil)) (mvar 1))) (mret (mc (.bl false))) g9)
def b_Z14:MS:=(mseq (mfor (l5 zip2 (z8 (mvar 0) (z8 (mlst (mcut (bvar 0) (Y8 (mc (.int 1))) V1)) anil))) (.tp [2,3]) zr0) (mret (m2 eqSD (u5 yo2 (z8 (mvar 0) anil)) (X2 zy5 (z8 (mc (.int 0)) (z8 (m2 subD (mlen (bvar 0)) (mc (.int 2))) anil))))))
def zo5:MF:=runB 4 b_Z14
def b_Z26:MS:=(mseq (J0 (u5 Q7 (z8 (mvar 1) anil))) (mret (mand (u5 zh1 (z8 (mvar 0) (z8 (mvar 2) anil))) (u5 zo5 (z8 (mlst (l7 [none,some 0] (l6 (mvar 2)) (.nm 0) cyes (mix (bvar 1) (mvar 0)))) (z8 (mvar 1) anil))))))
def yo0:MF:=runB 3 b_Z26
def zs8:MS:=(mseq (mset 6 (m2 subD (mix (bvar 0) (mvar 5)) (mix (bvar 0) (mvar 4)))) (mseq (mif (cand (l0 (m2 geD (mvar 6) (mvar 1))) (l0 (m2 geD (mlen (l6 (mix (bvar 3) (mvar 5)))) (mlen (l6 (mix (bvar 2) (mvar 4))))))) (S6 2 (mvar 4) (mlst (mcat (m5 (z8 (mvar 4) anil)) (l6 (mix (bvar 3) (mvar 5)))))) g9) (mif (cand (l0 (m2 geD (m1 negD (mvar 6)) (mvar 1))) (l0 (m2 geD (mlen (l6 (mix (bvar 2) (mvar 5)))) (mlen (l6 (mix (bvar 3) (mvar 4))))))) (S6 3 (mvar 4) (mlst (mcat (m5 (z8 (mvar 4) anil)) (l6 (mix (bvar 2) (mvar 5)))))) g9)))
def zs7:MS:=(mfor (l5 rng2 (z8 (m2 addD (mvar 4) (mc (.int 1))) (z8 (mlen (bvar 0)) anil))) (.nm 5) zs8)
def zb8:MS:=(X3 2 (X3 3 (mret (mtup (z8 (mvar 2) (z8 (mvar 3) anil))))))
def b_Z31:MS:=(mseq (Y9 2 (l7 [none] (l5 rng1 (z8 (mlen (bvar 0)) anil)) (.nm 0) cyes (mlst (m5 (z8 (mvar 0) anil))))) (mseq (Y9 3 (l7 [none] (l5 rng1 (z8 (mlen (bvar 0)) anil)) (.nm 0) cyes (mlst (m5 (z8 (mvar 0) anil))))) (mseq (mfor (l5 rngD (z8 (mlen (bvar 0)) anil)) (.nm 4) zs7) zb8)))
def yd2:MF:=runB 7 b_Z31
def b_Z25:MS:=(zy2 (l7 [none,some 0] (l6 (mvar 1)) (.nm 0) cyes (msum (l7 [none,some 1] (l6 (mvar 0)) (.nm 0) cyes (mix (bvar 1) (mvar 0))))))
def zi9:MF:=runB 2 b_Z25
def b_Z7:MS:=(mret (mtup (z8 (m1 negD (mlen (bvar 0))) (z8 (mvar 0) anil))))
def m_Z7:MF:=runB 1 b_Z7
def b_Z30:MS:=(mseq (J0 (u5 Q7 (z8 (mvar 1) anil))) (mseq (masg (.tp [2,3]) (u5 yd2 (z8 (mvar 0) (z8 (mvar 1) anil)))) (mret (zi3 (fun d=>shOf (m_Z7 [d])) (l6 (m2 addD (mvar 2) (mvar 3))) (mlst (m5 anil))))))
def yx3:MF:=runB 4 b_Z30
def b_Z22:MS:=(mret (mlen (l6 (u5 yx3 (z8 (mvar 0) (z8 (mvar 1) anil))))))
def yo1:MF:=runB 2 b_Z22
def b_Z2:MS:=(mret (K9 (l7 [none,some 0] (l6 (mvar 1)) (.nm 0) cyes (mix (bvar 1) (mvar 0))) (mlst (m5 anil))))
def m_Z2:MF:=runB 2 b_Z2
def b_Z16:MS:=(mseq (J0 (u5 Q7 (z8 (mvar 1) anil))) (mseq (mif (cnot (mtru (u5 zh1 (z8 (mvar 0) (z8 (mvar 2) anil))))) (mret (mc (.bl false))) g9) (mseq (mset 3 (mlst (l7 [none,some 0] (l6 (mvar 2)) (.nm 0) cyes (mix (bvar 1) (mvar 0))))) (mret (u5 zo5 (z8 (mlst (mcat (bvar 3) (mcut (bvar 3) V1 (Y8 (mc (.int 2)))))) (z8 (mvar 1) anil)))))))
def zo4:MF:=runB 4 b_Z16
def b_Z18:MS:=(mseq (masg (.tp [2,3]) (u5 m_Z9 (z8 (mvar 0) (z8 (mvar 1) anil)))) (mret (mtup (z8 (mtup (z8 (mvar 2) (z8 (mvar 3) anil))) (z8 (mtup (z8 (mvar 3) (z8 (mvar 2) anil))) anil)))))
def B9:MF:=runB 4 b_Z18
def zf9:MS:=(mseq (mset 7 (zi5 5 (u5 m_Z2 (z8 (mvar 5) (z8 (mix (bvar 2) (mvar 6)) anil))))) (mseq (mif (cor (mtru (mvar 7)) (l0 (m2 (inD false) (mvar 6) (mvar 3)))) (S6 4 (mvar 6) (mlst (mcat (m5 (z8 (mvar 6) anil)) (bvar 7)))) g9) (mseq (mset 7 (zi5 4 (u5 m_Z2 (z8 (mvar 4) (z8 (mix (bvar 1) (mvar 6)) anil))))) (mif (mtru (mvar 7)) (S6 5 (mvar 6) (mlst (mcat (m5 (z8 (mvar 6) anil)) (bvar 7)))) g9))))
def yi2:MS:=(X3 4 (mseq (mset 7 (u5 m_Z2 (z8 (mvar 4) (z8 (mvar 3) anil)))) (mret (mite (mtru (mvar 7)) (mlst (mcat (m5 (z8 (mvar 0) anil)) (bvar 7))) (mlst (m5 anil))))))
def b_Z3:MS:=(mseq (mset 3 (mix (bvar 1) (mvar 0))) (mseq (Y9 4 (mrep (m5 (z8 (mlst (m5 anil)) anil)) (mlen (bvar 1)))) (mseq (Y9 5 (mrep (m5 (z8 (mlst (m5 anil)) anil)) (mlen (bvar 1)))) (mseq (mfor (l5 yg8 (z8 (m2 addD (mvar 0) (mc (.int 1))) (z8 (mlen (bvar 1)) anil))) (.nm 6) zf9) yi2))))
def m_Z3:MF:=runB 8 b_Z3
def b_Z4:MS:=(mseq (J0 (u5 Q7 (z8 (mvar 1) anil))) (mseq (mset 2 (mlst (O5 [none,none,none,some 0] (zy9 (u5 B9 (z8 (mvar 0) (z8 (mvar 1) anil)))) (.tp [0,1]) (l5 rng1 (z8 (mlen (bvar 3)) anil)) (.nm 2) (u5 m_Z3 (z8 (mvar 2) (z8 (mvar 0) (z8 (mvar 1) anil))))))) (mret (zi3 (fun d=>shOf (m_Z7 [d])) (bvar 2) (mlst (m5 anil))))))
def m_Z4:MF:=runB 3 b_Z4
def zs4:MS:=(mseq (mapp 5 (msum (l7 [none,some 4] (l6 (mvar 3)) (.nm 0) cyes (mix (bvar 1) (mvar 0))))) (mset 4 (u5 zi9 (z8 (u5 zi9 (z8 (mvar 4) (z8 (mvar 1) anil))) (z8 (mvar 2) anil)))))
def b_Z5:MS:=(mseq (mset 3 (mix (bvar 1) (mvar 0))) (mseq (mset 4 (mlst (l7 [none,some 3] (l5 rng1 (z8 (mlen (bvar 1)) anil)) (.nm 0) cyes (mite (l0 (m2 (inD false) (mvar 0) (mvar 1))) (mc (.int 1)) (mc (.int 0)))))) (mseq (Y9 5 (m5 anil)) (mseq (U9 (mtru (many (bvar 4))) zs4 1000) (O4 5)))))
def m_Z5:MF:=runB 6 b_Z5
def zf8:MS:=(zo3 2 (mvar 6) (mvar 7))
def zs3:MS:=(mfor (l5 zm2 (z8 (u5 m_Z5 (z8 (mvar 5) (z8 (mvar 3) (z8 (mvar 4) anil)))) anil)) (.tp [6,7]) zf8)
def zs2:MS:=(mfor (l5 rng1 (z8 (mlen (bvar 0)) anil)) (.nm 5) zs3)
def zs1:MS:=(ye6 2)
def yi1:MS:=(mseq (U9 (l0 (m2 eqSD (mix (bvar 2) (m1 negD (mc (.int 1)))) (mc (.int 0)))) zs1 1000) (O4 2))
def b_Z6:MS:=(mseq (J0 (u5 Q7 (z8 (mvar 1) anil))) (mseq (Y9 2 (mcat (m5 (z8 (mc (.int 1)) anil)) (mrep (m5 (z8 (mc (.int 0)) anil)) (mlen (bvar 0))))) (mseq (mfor (zy9 (u5 B9 (z8 (mvar 0) (z8 (mvar 1) anil)))) (.tp [3,4]) zs2) yi1)))
def m_Z6:MF:=runB 8 b_Z6
def b_Z24:MS:=(mseq (mif (cor (l0 (m2 ltD (mvar 1) (mc (.int 0)))) (l0 (m2 geD (mvar 1) (mlen (bvar 0))))) zp9 g9) (zy2 (mcat (mcut (bvar 0) (Y8 (mvar 1)) V1) (mcut (bvar 0) V1 (Y8 (mvar 1))))))
def M0:MF:=runB 2 b_Z24
def yj6:MXs:=(xif (cor (l0 (m2 ltD (mvar 1) (mc (.int 0)))) (l0 (m2 geD (mvar 1) (mlen (bvar 0))))) (zr5 "NoPlace" (z8 (mc (.str "a place is from 0 on and below how many numbers there are")) anil)) xn4)
def zr6:MFX:=runX 2 yj6
def b_Z21:MS:=(mseq (mif (l0 (m2 geD (mvar 0) (m2 powD (mc (.int 10)) (mc (.int 18))))) (mret (m2 modD (m2 shrD (m2 subD (mvar 0) (m2 powD (mc (.int 10)) (mc (.int 18)))) (m2 mulD (mc (.int 28)) (mvar 1))) (m2 powD (mc (.int 2)) (mc (.int 28))))) g9) (mseq (mset 2 (m2 modD (m2 mulD (m2 addD (m2 addD (mvar 0) (m2 mulD (mc (.int 1013)) (mvar 1))) (mc (.int 1))) (mc (.int 16807))) (mc (.int 2147483647)))) (mseq (mset 2 (m2 modD (m2 mulD (mvar 2) (mvar 2)) (mc (.int 2147483629)))) (mret (m2 M4 (m2 modD (m2 mulD (mvar 2) (mc (.int 39373))) (mc (.int 2147483587))) (mc (.int 8)))))))
def Z7:MF:=runB 3 b_Z21
def b_Z17:MS:=(zy2 (mcut (mcat (mcut (bvar 0) V1 (Y8 (mvar 1))) (m5 (z8 (mc (.int 0)) anil))) V1 (Y8 (X2 zy5 (z8 (mc (.int 1)) (z8 (X2 yp4 (z8 (mvar 1) (z8 (mlen (bvar 0)) anil))) anil))))))
def yo4:MF:=runB 2 b_Z17
def zs9:MS:=(mseq (mset 9 (m2 modD (u5 Z7 (z8 (mvar 0) (z8 (m2 addD (mc (.int 10)) (mvar 8)) anil))) (mvar 4))) (mseq (mset 7 (m2 subD (m2 addD (mvar 7) (mvar 9)) (m2 M4 (mvar 4) (mc (.int 2))))) (mseq (mset 10 (mlst (m5 (z8 (m2 subD (mvar 9) (m2 M4 (mvar 4) (mc (.int 2)))) (z8 (m2 addD (mvar 8) (m2 M4 (mvar 9) (mc (.int 2)))) (z8 (m2 subD (m2 subD (mc (.int 0)) (mvar 8)) (m2 M4 (mvar 9) (mc (.int 2)))) (z8 (mix (m5 (z8 (mvar 9) (z8 (m2 subD (mc (.int 0)) (mvar 9)) anil))) (m2 modD (mvar 8) (mc (.int 2)))) anil))))))) (mseq (mset 10 (mlst (mcat (bvar 10) (m5 (z8 (m2 addD (mvar 9) (m2 mulD (m2 modD (m2 M4 (mvar 8) (mvar 5)) (mc (.int 2))) (mvar 4))) (z8 (mvar 4) (z8 (m2 addD (m2 mulD (m2 subD (mvar 9) (m2 M4 (mvar 4) (mc (.int 2)))) (m2 powD (mc (.int 10)) (mc (.int 23)))) (m2 modD (u5 Z7 (z8 (mvar 0) (z8 (m2 addD (mc (.int 10)) (mvar 8)) anil))) (mc (.int 3)))) anil))))))) (mapp 6 (mix (mcat (bvar 10) (m5 (z8 (mvar 7) anil))) (mvar 3)))))))
def b_Z29:MS:=(mseq (mset 2 (m2 modD (u5 Z7 (z8 (mvar 0) (z8 (mc (.int 0)) anil))) (mix (m5 (z8 (mc (.int 4)) (z8 (mc (.int 13)) (z8 (mc (.int 41)) (z8 (m2 addD (mvar 1) (mc (.int 1))) anil))))) (m2 modD (u5 Z7 (z8 (mvar 0) (z8 (mc (.int 1)) anil))) (mc (.int 4)))))) (mseq (mset 3 (m2 modD (u5 Z7 (z8 (mvar 0) (z8 (mc (.int 2)) anil))) (mc (.int 8)))) (mseq (mset 4 (mix (m5 (z8 (mc (.int 2)) (z8 (mc (.int 5)) (z8 (mc (.int 50)) (z8 (m2 powD (mc (.int 10)) (mc (.int 6))) anil))))) (m2 modD (u5 Z7 (z8 (mvar 0) (z8 (mc (.int 3)) anil))) (mc (.int 4))))) (mseq (mset 5 (m2 addD (mc (.int 1)) (m2 modD (u5 Z7 (z8 (mvar 0) (z8 (mc (.int 4)) anil))) (mc (.int 9))))) (mseq (Y9 6 (m5 anil)) (mseq (mset 7 (mc (.int 0))) (mseq (mfor (l5 rng1 (z8 (X2 yp4 (z8 (mvar 2) (z8 (mvar 1) anil))) anil)) (.nm 8) zs9) (O4 6))))))))
def zi8:MF:=runB 11 b_Z29
def b_Z27:MS:=(mseq (mset 1 (mlst (m5 (z8 (mc (.int 1)) (z8 (m2 addD (mc (.int 1)) (m2 modD (u5 Z7 (z8 (mvar 0) (z8 (mc (.int 5)) anil))) (mc (.int 9)))) (z8 (m2 addD (mc (.int 1)) (m2 modD (u5 Z7 (z8 (mvar 0) (z8 (mc (.int 6)) anil))) (mc (.int 1000)))) anil)))))) (mret (mix (mcat (bvar 1) (m5 (z8 (m2 addD (mc (.int 1)) (m2 mulD (m2 modD (u5 Z7 (z8 (mvar 0) (z8 (mc (.int 6)) anil))) (m2 powD (mc (.int 10)) (mc (.int 5)))) (m2 powD (mc (.int 10)) (mc (.int 23))))) anil))) (m2 modD (u5 Z7 (z8 (mvar 0) (z8 (mc (.int 7)) anil))) (mc (.int 4))))))
def yp9:MF:=runB 2 b_Z27
def b_Z11:MS:=(mseq (mif (mtru (misi "str" (mvar 1))) (mret (mand (misi "str" (mvar 0)) (m2 eqSD (mvar 0) (mvar 1)))) g9) (mseq (mif (mtru (zt4 "list" "tuple" (mvar 1))) (mseq (mif (cor (l0 (m2 neSD (misi "list" (mvar 0)) (misi "list" (mvar 1)))) (cnot (mtru (zt4 "list" "tuple" (mvar 0))))) (mret (mc (.bl false))) g9) (mseq (mif (l0 (m2 neSD (X2 lenF (z8 (mvar 0) anil)) (X2 lenF (z8 (mvar 1) anil)))) (mret (mc (.bl false))) g9) zp9)) g9) (mret (mand (misi "int" (mvar 0)) (mand (m1 notD (misi "bool" (mvar 0))) (m2 eqSD (mvar 0) (mvar 1)))))))
def yx4:MF:=runB 2 b_Z11
def b_Z12:MS:=(mseq (mif (mtru (misi "str" (mvar 1))) (mret (mand (misi "str" (mvar 0)) (m2 eqSD (mvar 0) (mvar 1)))) g9) (mseq (mif (mtru (zt4 "list" "tuple" (mvar 1))) (mseq (mif (cor (l0 (m2 neSD (misi "list" (mvar 0)) (misi "list" (mvar 1)))) (cnot (mtru (zt4 "list" "tuple" (mvar 0))))) (mret (mc (.bl false))) g9) (mseq (mif (l0 (m2 neSD (X2 lenF (z8 (mvar 0) anil)) (X2 lenF (z8 (mvar 1) anil)))) (mret (mc (.bl false))) g9) (mret (meqB false (l7 [none,none] (l5 zip2 (z8 (mvar 0) (z8 (mvar 1) anil))) (.tp [0,1]) (cnot (mtru (u5 yx4 (z8 (mvar 0) (z8 (mvar 1) anil))))) (mc (.int 1))) (m5 anil))))) g9) (mret (mand (misi "int" (mvar 0)) (mand (m1 notD (misi "bool" (mvar 0))) (m2 eqSD (mvar 0) (mvar 1)))))))
def yo5:MF:=runB 2 b_Z12
def b_Z19:MS:=(mseq (mset 1 (mlst (m5 (z8 (misX [("NoPlace",false)] (mvar 0)) (z8 (misX [("NoPlace",true)] (mvar 0)) (z8 (misX [("NoPlace",false)] (mvar 0)) (z8 (misX [("NoPlace",false)] (mvar 0)) anil))))))) (mseq (mset 1 (mlst (mcat (bvar 1) (m5 (z8 (misX [("NoPlace",false)] (mvar 0)) (z8 (misX [("NoPlace",false)] (mvar 0)) (z8 (misX [("NoPlace",false)] (mvar 0)) anil))))))) (zy2 (mcat (bvar 1) (m5 (z8 (m1 notD (misX [("NoPlace",true)] (mvar 0))) anil))))))
def yo3:MF:=runB 2 b_Z19
def b_Z28:MS:=(mret (mix (m5 (z8 (mc (.int 0)) (z8 (mc (.int 1)) (z8 (m2 modD (u5 Z7 (z8 (mvar 0) (z8 (m2 addD (mvar 1) (mc (.int 1))) anil))) (mc (.int 1000))) (z8 (m2 powD (mc (.int 10)) (mc (.int 29))) anil))))) (m2 modD (u5 Z7 (z8 (mvar 0) (z8 (mvar 1) anil))) (mc (.int 4)))))
def yp8:MF:=runB 2 b_Z28
def zb9:MS:=(mseq (mset 5 (m2 andD (m2 shrD (u5 Z7 (z8 (mvar 0) (z8 (m2 addD (m2 addD (mvar 1) (mc (.int 1))) (m2 M4 (mvar 4) (mc (.int 28)))) anil))) (m2 modD (mvar 4) (mc (.int 28)))) (mc (.int 1)))) (mseq (mif (l0 (m2 gtD (m2 modD (u5 Z7 (z8 (mvar 0) (z8 (mvar 1) anil))) (mc (.int 3))) (mc (.int 0)))) (mset 5 (m2 mulD (mvar 5) (m2 andD (m2 shrD (u5 Z7 (z8 (mvar 0) (z8 (m2 addD (m2 addD (mvar 1) (mc (.int 13))) (m2 M4 (mvar 4) (mc (.int 28)))) anil))) (m2 modD (mvar 4) (mc (.int 28)))) (mc (.int 1))))) g9) (mif (l0 (m2 eqSD (mvar 5) (mc (.int 1)))) (mapp 3 (mvar 4)) g9)))
def b_Z23:MS:=(mseq (Y9 3 (m5 anil)) (mseq (mfor (l5 rng1 (z8 (mvar 2) anil)) (.nm 4) zb9) (O4 3)))
def zh0:MF:=runB 6 b_Z23
def yi0:MS:=(mseq (mset 8 (mand (m2 eqSD (m2 andD (m2 shrD (u5 Z7 (z8 (mvar 0) (z8 (m2 addD (mvar 1) (m2 M4 (mvar 6) (mc (.int 28)))) anil))) (m2 modD (mvar 6) (mc (.int 28)))) (mc (.int 1))) (mc (.int 1))) (m2 gtD (m2 modD (mvar 6) (mc (.int 3))) (mc (.int 0))))) (mif (cand (l0 (meqB false (bvar 4) (m5 anil))) (cnot (mtru (mvar 8)))) (mapp 4 (mvar 6)) (mif (cand (l0 (meqB true (bvar 4) (m5 anil))) (cnot (mtru (mvar 8)))) (mseq (mset 9 (m2 subD (mvar 7) (mix (bvar 2) (mix (bvar 4) (m1 negD (mc (.int 1))))))) (mif (cand (l0 (m2 geD (X2 absF (z8 (mvar 9) anil)) (mvar 3))) (l0 (m2 neSD (mvar 5) (m2 gtD (mvar 9) (mc (.int 0)))))) (mseq (mset 5 (m2 gtD (mvar 9) (mc (.int 0)))) (mapp 4 (mvar 6))) g9)) g9)))
def b_Z8:MS:=(mseq (Y9 4 (m5 anil)) (mseq (mset 5 (mc .non)) (mseq (mfor (l5 yw4 (z8 (mvar 2) anil)) (.tp [6,7]) yi0) (O4 4))))
def m_Z8:MF:=runB 10 b_Z8
def b_Z10:MS:=(mseq (mset 2 (mlst (m5 anil))) (mseq (mtry ["NoPlace"] (J0 (u5 M0 (z8 (mvar 0) (z8 (mvar 1) anil)))) (xE (yv5 zr6 (z8 (mvar 0) (z8 (mvar 1) anil)))) 3 (mset 2 (u5 yo3 (z8 (mvar 3) anil)))) (O4 2)))
def yo6:MF:=runB 4 b_Z10
def yi4:MS:=(mseq (Y9 5 (zo2 M0 (z8 (mvar 2) (z8 (mvar 4) anil)))) (mseq (mif (cnot (mtru (yp6 5 (u5 yo5 (z8 (mvar 5) (z8 (mlst (l7 [none,some 1,some 4] (l5 rng1 (z8 (mlen (bvar 1)) anil)) (.nm 0) cyes (mix (bvar 1) (m2 modD (m2 addD (mvar 2) (mvar 0)) (mlen (bvar 1)))))) anil)))))) (mret (mc (.bl false))) g9) (mseq (mapp 5 (mc (.int 0))) (mif (l0 (meqB true (l6 (u5 M0 (z8 (mvar 2) (z8 (mvar 4) anil)))) (mcat (mcut (bvar 1) (Y8 (mvar 4)) V1) (mcut (bvar 1) V1 (Y8 (mvar 4)))))) (mret (mc (.bl false))) g9))))
def yi3:MS:=(mif (l0 (meqB true (l6 (u5 yo6 (z8 (mvar 2) (z8 (mvar 4) anil)))) (l7 [none] (l5 rng1 (z8 (mc (.int 8)) anil)) (.nm 0) cyes (m2 eqSD (mvar 0) (mc (.int 1)))))) (mret (mc (.bl false))) g9)
def ze0:MS:=(mseq (mfor (l6 (mlst (m5 (z8 (m1 negD (mc (.int 1))) (z8 (m2 subD (m1 negD (mc (.int 1))) (mvar 3)) (z8 (mlen (bvar 1)) (z8 (m2 addD (mlen (bvar 1)) (mvar 3)) anil))))))) (.nm 4) yi3) (mret (meqB false (bvar 2) (bvar 1))))
def b_Z1:MS:=(mseq (mset 2 (mlst (bvar 1))) (mseq (mset 3 (u5 yp8 (z8 (mvar 0) (z8 (mc (.int 380)) anil)))) (mseq (mfor (l5 rng1 (z8 (mlen (bvar 1)) anil)) (.nm 4) yi4) ze0)))
def m_Z1:MF:=runB 6 b_Z1
def b_Z0:MS:=(mseq (mset 4 (mlst (K8 (l7 [none,some 2,some 0] (l6 (mvar 3)) (.nm 0) cyes (m2 modD (m2 subD (mvar 0) (mvar 1)) (mlen (bvar 2))))))) (mret (m2 eqSD (u5 zo4 (z8 (u5 M0 (z8 (mlst (bvar 0)) (z8 (mvar 2) anil))) (z8 (mvar 1) (z8 (mvar 4) anil)))) (u5 zo4 (z8 (mlst (bvar 0)) (z8 (mvar 1) (z8 (mlst (bvar 3)) anil)))))))
def m_Z0:MF:=runB 5 b_Z0
def D3:MS:=(mif (cnot (mtru (u5 m_Z0 (z8 (mvar 2) (z8 (mvar 3) (z8 (mvar 7) (z8 (mvar 8) anil))))))) (mret (mc (.bl false))) g9)
def L8:MS:=(mseq (mapp 6 (u5 M0 (z8 (mlst (bvar 2)) (z8 (mvar 7) anil)))) (mfor (l6 (mlst (m5 (z8 (u5 zh0 (z8 (mvar 1) (z8 (mc (.int 320)) (z8 (mlen (bvar 2)) anil)))) (z8 (u5 m_Z8 (z8 (mvar 1) (z8 (mc (.int 350)) (z8 (mvar 2) (z8 (mvar 3) anil))))) (z8 (mvar 5) anil)))))) (.nm 8) D3))
def L7:MS:=(mif (cor (l0 (meqB true (l6 (u5 m_Z6 (z8 (mlst (bvar 9)) (z8 (mvar 3) anil)))) (bvar 4))) (l0 (m2 neSD (mlen (l6 (u5 m_Z4 (z8 (mlst (bvar 9)) (z8 (mvar 3) anil))))) (mlen (bvar 5))))) (mret (mc (.bl false))) g9)
def zs5:MS:=(X3 6 (mfor (l6 (mvar 6)) (.nm 9) L7))
def zs6:MS:=(mseq (mset 2 (mlst (l7 [none] (l6 (u5 zi8 (z8 (mvar 1) (z8 (mc (.int 20)) anil)))) (.nm 0) cyes (m2 modD (mvar 0) (m2 powD (mc (.int 10)) (mc (.int 28))))))) (mseq (mset 3 (u5 yp9 (z8 (mvar 1) anil))) (mseq (mset 4 (u5 m_Z6 (z8 (mlst (bvar 2)) (z8 (mvar 3) anil)))) (mseq (mset 5 (u5 m_Z4 (z8 (mlst (bvar 2)) (z8 (mvar 3) anil)))) (mseq (mif (cor (cnot (mtru (u5 m_Z1 (z8 (mvar 1) (z8 (mvar 2) anil))))) (cor (l0 (m2 neSD (mlen (bvar 5)) (m2 subD (m2 mulD (mc (.int 2)) (mlen (bvar 4))) (mc (.int 2))))) (l0 (m2 ltD (mix (bvar 4) (m1 negD (mc (.int 1)))) (mc (.int 1)))))) (mret (mc (.bl false))) g9) (mseq (mif (cor (cnot (mtru (u5 zo4 (z8 (mlst (bvar 2)) (z8 (mvar 3) (z8 (mlst (bvar 5)) anil)))))) (cnot (mtru (u5 yo0 (z8 (mlst (bvar 2)) (z8 (mvar 3) (z8 (mlst (bvar 5)) anil))))))) (mret (mc (.bl false))) g9) (mseq (mif (l0 (m2 gtD (mlen (bvar 5)) (u5 yo1 (z8 (mlst (bvar 2)) (z8 (mvar 3) anil))))) (mret (mc (.bl false))) g9) (mseq (Y9 6 (m5 (z8 (mlst (mrev (bvar 2) (Y8 (m1 negD (mc (.int 1)))))) (z8 (mlst (l7 [none] (l6 (mvar 2)) (.nm 0) cyes (m2 subD (mc (.int 0)) (mvar 0)))) (z8 (mlst (l7 [none] (l6 (mvar 2)) (.nm 0) cyes (m2 addD (mvar 0) (m2 powD (mc (.int 10)) (mc (.int 27)))))) anil))))) (mseq (mfor (l6 (mlst (mcut (m5 (z8 (m2 modD (u5 Z7 (z8 (mvar 1) (z8 (mc (.int 384)) anil))) (X2 zy5 (z8 (mc (.int 1)) (z8 (mlen (bvar 2)) anil)))) anil)) V1 (Y8 (mlen (bvar 2)))))) (.nm 7) L8) zs5)))))))))
def yb9:MS:=(mseq (mfor (l6 (u5 yo4 (z8 (mvar 0) (z8 (mc (.int 3)) anil)))) (.nm 1) zs6) (mret (mc (.bl true))))
def zi7:MF:=runB 10 yb9
end
end
section
theorem ym8 (i j:Int):eqS (.int i) (.int j)=some (i==j):=rfl
theorem ym9 (i j:Bool):eqS (.bl i) (.bl j)=some (i==j):=rfl
theorem xc4 (i j:Str):eqS (.str i) (.str j)=some (i==j):=rfl
theorem xc5:eqS .non .non=some true:=rfl
theorem xc7 (j:Bool):eqS .non (.bl j)=some false:=rfl
theorem xc9 (j:Bool):eqS (.bl j) .non=some false:=rfl
theorem xc6 (j:Int):eqS .non (.int j)=some false:=rfl
theorem xc8 (j:Int):eqS (.int j) .non=some false:=rfl
local macro_rules|`(tactic|simp_arith [$ls,*])=>`(tactic|simp(config:={decide:=true,implicitDefEqProofs:=false}) only[runB,f7,map_cons,map_nil,length_cons,length_nil,List.replicate,cons_append,nil_append,mvar,bvar,mc,mlst,l6,m2,l0,subD,mulD,M4,modD,powD,shrD,andD,ltD,leD,gtD,geD,eqSD,neSD,ym8,ym9,xc4,xc5,xc7,xc9,xc6,xc8,m1,negD,notD,mand,mtru,truD,cand,cor,cnot,mite,anil,z8,m5,mtup,mlen,mix,V1,Y8,mcut,mcat,addD,X2,lenF,absF,zy5,yp4,two2,intF,g9,mseq,mif,zp9,mset,Y9,maug,J0,mret,zy2,O4,mapp,S6,X3,masg,l5,zip2,zip3,yw4,cyes,u5,zo2,meqB,misi,mrev,tyD,int2,bl2,tgD,J8,Option.bind_some,Option.map_some,Option.bind_none,Option.map_none,getElem?_cons_zero,getElem?_cons_succ,set_cons_zero,set_cons_succ,isEmpty_cons,isEmpty_nil,Bool.not_true,Bool.not_false,$ls,*])
def stir (c k:Int):Int:=if 10^18<=c then (c-10^18) / 2^(28*k).toNat % 2^28 else
 (((c+1013*k+1)*16807 % 2147483647)*((c+1013*k+1)*16807 % 2147483647) % 2147483629)*39373 % 2147483587 / 8
theorem U1 (c k:Int):0<=stir c k:=by
 unfold stir
 split
 .exact Int.emod_nonneg _ (by decide)
 .exact Int.ediv_nonneg (Int.emod_nonneg _ (by decide)) (by decide)
theorem yq9 (i j:Int)(h1:-(2^64)<j)(h2:j<2^64):Q6 i j=true:=by
 unfold Q6;simp only[h1,h2,decide_true,Bool.and_self,Bool.or_true]
theorem S5 (i j:Int)(h1:-(2^64)<i)(h2:i<2^64):Q6 i j=true:=by
 unfold Q6;simp only[h1,h2,decide_true,Bool.and_self,Bool.true_or]
theorem t9 (i j:Int)(h:0<j):B8 i j=true:=by unfold B8;simp only[h,decide_true]
theorem seqI {x y:MS}{ρ ρ':Ro}{o:Option Out}(h:x ρ=some (.nx ρ'))(h2:y ρ'=o):mseq x y ρ=o:=by
 unfold mseq;rw[h];exact h2
def zq2 {α:Type}(I:List α->Ro->Prop)(Q:Out->Prop)(ds:List α):Out->Prop
 | .nx ρ=>I ds ρ| .ct ρ=>I ds ρ| .bk ρ=>Q (.nx ρ)| .rt d=>Q (.rt d)| .rf es=>Q (.rf es)| .rp d es=>Q (.rp d es)| .rg d p r=>Q (.rg d p r)| .rgf d p r=>Q (.rgf d p r)
theorem S9 {j:Type}{g:Tg}{body:MS}{f:j->D}(I:List j->Ro->Prop)(Q:Out->Prop)
  (q:∀ d ds ρ,I (d::ds) ρ->∃ ρ1 o,tgD g (f d) ρ=some ρ1/\body ρ1=some o/\zq2 I Q ds o) (hd:∀ ρ,I [] ρ->Q (.nx ρ)):
  ∀(ds:List j)(ρ:Ro),I ds ρ->∃ o,forD g body (ds.map f) ρ=some o/\Q o
 |[],ρ,h=>⟨.nx ρ,rfl,hd ρ h⟩
 |d::ds,ρ,h=>by
  obtain⟨ρ1,o,h1,h2,i⟩:=q d ds ρ h
  rw[map_cons]
  unfold forD
  rw[h1]
  simp only[h2]
  cases o with
  |nx ρ2=>exact S9 I Q q hd ds ρ2 i
  |ct ρ2=>exact S9 I Q q hd ds ρ2 i
  |bk ρ2=>exact⟨_,rfl,i⟩
  |rt d=>exact⟨_,rfl,i⟩
  |rf d=>exact⟨_,rfl,i⟩
  |rp d es=>exact⟨_,rfl,i⟩
  |rg d p r=>exact⟨_,rfl,i⟩
  |rgf d p r=>exact⟨_,rfl,i⟩
theorem j5 {i:Type}{g:Tg}{c:MB}{elt:ME}{f:i->D}{G:i->D}(I:List i->Ro->Prop)
  (j:∀ d ds ρ,I (d::ds) ρ->∃ ρ1,tgD g (f d) ρ=some ρ1/\c ρ1=some true/\elt ρ1=some (G d)/\I ds ρ1):
  ∀(ds:List i)(ρ:Ro)(acc:List D),I ds ρ->acc.length+ds.length<=sizeLine->U6 g c elt (ds.map f) ρ acc=some (acc++ds.map G)
 |[],ρ,acc,h,hl=>by simp[U6]
 |d::ds,ρ,acc,h,hl=>by
  obtain⟨ρ1,h1,h2,z,q⟩:=j d ds ρ h
  rw[map_cons]
  unfold U6
  rw[h1]
  simp only[h2,z]
  rw[length_cons]at hl
  rw[if_pos (by omega),j5 I j ds ρ1 _ q (by simp;omega)]
  simp
def cutI {α:Type}(xs:List α)(lo hi:Option Int):List α:=(xs.drop (HT.sIx xs.length 0 lo)).take (HT.sIx xs.length xs.length hi-HT.sIx xs.length 0 lo)
theorem W1 {i:Type}(f:i->D)(xs:List i)(lo hi:Option Int):cutL (xs.map f) lo hi=(cutI xs lo hi).map f:=by
 unfold cutL cutI;rw[length_map,<-map_drop,<-map_take]
theorem M7 {i:Type}(xs:List i)(k:Nat):cutI xs (some (k:Int)) none=xs.drop k:=by
 unfold cutI
 rw[HT.sIx_nat,HT.sIx_none]
 rcases Nat.le_total k xs.length with h|h
 .rw[Nat.min_eq_left h];exact take_of_length_le (by simp)
 .rw[Nat.min_eq_right h];simp[drop_eq_nil_of_le h]
theorem zt8 {i:Type}(xs:List i)(k:Nat):cutI xs none (some (k:Int))=xs.take k:=by
 unfold cutI
 rw[HT.sIx_nat,HT.sIx_none]
 simp
theorem zz5 {i:Type}(f:i->D)(xs:List i)(k:Int)(q:0<=k)(h1:k<xs.length)(dflt:i):atI (xs.map f) k=some (f (xs.getD k.toNat dflt)):=by
 unfold atI ixN
 rw[length_map,if_pos q,if_pos h1]
 have j:k.toNat<xs.length:=by omega
 simp[getElem?_map,j]
theorem atI_last {i:Type}(f:i->D)(xs:List i)(x:i):atI ((xs++[x]).map f) (-1)=some (f x):=by
 unfold atI ixN
 rw[length_map,if_neg (by decide),if_pos (by simp;omega)]
 have e:(-1+((xs++[x]).length:Int)).toNat=xs.length:=by simp;omega
 rw[e]
 simp
theorem j9 {n:Nat}{m:MS}{ds:List D}{d:D}(h:m (f7 n ds)=some (.rt d)):runB n m ds=some (.sh d):=by unfold runB;rw[h]
theorem P9 {n:Nat}{m:MS}{ds:List D}{d:List D}(h:m (f7 n ds)=some (.rf d)):runB n m ds=some (.fr d):=by unfold runB;rw[h]
def after (rest:MS):Out->Option Out
 | .nx ρ=>rest ρ| .bk ρ=>some (.bk ρ)| .ct ρ=>some (.ct ρ)| .rt d=>some (.rt d)| .rf d=>some (.rf d)| .rp d es=>some (.rp d es)| .rg d p r=>some (.rg d p r)| .rgf d p r=>some (.rgf d p r)
theorem X0 {x y:MS}{ρ:Ro}{o:Out}(h:x ρ=some o):mseq x y ρ=after y o:=by
 unfold mseq;rw[h];cases o <;> rfl
theorem K3 {i:Type}{mi:ML}{g:Tg}{body rest:MS}{ρ:Ro}{res:Option Out}{f:i->D}(ds:List i)(hi:mi ρ=some (ds.map f))(I:List i->Ro->Prop)(Q:Out->Prop)(G:I ds ρ)
  (j:∀ d ds ρ,I (d::ds) ρ->∃ ρ1 o,tgD g (f d) ρ=some ρ1/\body ρ1=some o/\zq2 I Q ds o) (hd:∀ ρ,I [] ρ->Q (.nx ρ)) (z:∀ o,Q o->after rest o=res):mseq (mfor mi g body) rest ρ=res:=by
 obtain⟨o,e,q⟩:=S9 (g:=g) (body:=body) I Q j hd ds ρ G
 rw[X0 (o:=o) (by unfold mfor;rw[hi];exact e)]
 exact z o q
theorem zw1 (i j:Int):(if j>i then j else i)=max i j:=by omega
theorem zo1 (i j:Int):(if j<i then j else i)=min i j:=by omega
theorem zj2 (i:Int):(if i<0 then -i else i)=(i.natAbs:Int):=by omega
theorem j6:1000000<=sizeLine:=by rw[show sizeLine=2^24 from rfl];decide
theorem t8 {n:Nat}(h:n<=1000000):n<=sizeLine:=Nat.le_trans h j6
theorem R5 (j n:Nat)(h:j<n):List.range' j (n-j)=j::List.range' (j+1) (n-(j+1)):=by
 have:n-j=(n-(j+1))+1:=by omega
 rw[this,range'_succ]
theorem yg3 {mi:ML}{g:Tg}{body rest:MS}{ρ:Ro}{res:Option Out}{f:Nat->D}(n:Nat)(hi:mi ρ=some ((List.range n).map f))(I:Nat->Ro->Prop)(Q:Out->Prop)(O:I 0 ρ)
  (M:∀ j ρ,j<n->I j ρ->∃ ρ1 o,tgD g (f j) ρ=some ρ1/\body ρ1=some o/\zq2 (fun(_:List Unit) ρ=>I (j+1) ρ) Q [] o) (hd:∀ ρ,I n ρ->Q (.nx ρ)) (N:∀ o,Q o->after rest o=res):mseq (mfor mi g body) rest ρ=res:=by
 refine K3 (List.range n) hi (I:=fun ks ρ=>∃ j,j<=n/\ks=List.range' j (n-j)/\I j ρ) (Q:=Q) ⟨0,by omega,by rw[range_eq_range'];rfl,O⟩ ?_ ?_ N
 .rintro d ds ρ ⟨j,hj,e,h⟩
  have q:j<n:=by
   rcases Nat.lt_or_ge j n with z|z
   .exact z
   .rw[show n-j=0 by omega]at e;cases e
  rw[R5 j n q]at e
  obtain⟨S,J⟩:=List.cons.inj e
  subst S
  obtain⟨ρ1,o,Y,U,i⟩:=M d ρ q h
  refine⟨ρ1,o,Y,U,?_⟩
  cases o with
  |nx r=>exact⟨d+1,by omega,J,i⟩
  |ct r=>exact⟨d+1,by omega,J,i⟩
  |bk r=>exact i
  |rt r=>exact i
  |rf r=>exact i
  |rp r G=>exact i
  |rg r G L=>exact i
  |rgf r G L=>exact i
 .rintro ρ ⟨j,hj,e,h⟩
  have:n-j=0:=by
   rcases Nat.eq_zero_or_pos (n-j)with z|z
   .exact z
   .rw[R5 j n (by omega)]at e;cases e
  have:j=n:=by omega
  subst this
  exact hd ρ h
theorem k9 {x n:Int}(hn:0<n):0<=x % n/\x % n<n:=⟨Int.emod_nonneg _ (by omega),Int.emod_lt_of_pos _ hn⟩
def Run (m:MS)(ρ:Ro)(R:Out->Prop):Prop:=∃ o,m ρ=some o/\R o
def za2 (rest:MS)(R:Out->Prop):Out->Prop
 | .nx ρ=>Run rest ρ R| .bk ρ=>R (.bk ρ)| .ct ρ=>R (.ct ρ)| .rt d=>R (.rt d)| .rf d=>R (.rf d)| .rp d es=>R (.rp d es)| .rg d p r=>R (.rg d p r)| .rgf d p r=>R (.rgf d p r)
theorem m7 {x y:MS}{ρ ρ':Ro}{R:Out->Prop}(h:x ρ=some (.nx ρ'))(h2:Run y ρ' R):Run (mseq x y) ρ R:=by
 obtain⟨o,e,r⟩:=h2
 exact⟨o,seqI h e,r⟩
theorem U2 {x y:MS}{ρ:Ro}{R:Out->Prop}(h:Run x ρ (za2 y R)):Run (mseq x y) ρ R:=by
 obtain⟨o,e,r⟩:=h
 cases o with
 |nx ρ'=>exact m7 e r
 |bk ρ'=>exact⟨_,X0 e,r⟩
 |ct ρ'=>exact⟨_,X0 e,r⟩
 |rt d=>exact⟨_,X0 e,r⟩
 |rf d=>exact⟨_,X0 e,r⟩
 |rp d es=>exact⟨_,X0 e,r⟩
 |rg d j i=>exact⟨_,X0 e,r⟩
 |rgf d j i=>exact⟨_,X0 e,r⟩
theorem xw9 {i:Type}{mi:ML}{g:Tg}{body:MS}{ρ:Ro}{f:i->D}(ds:List i)(hi:mi ρ=some (ds.map f))(I:List i->Ro->Prop)(Q:Out->Prop)(z:I ds ρ)
  (j:∀ d ds ρ,I (d::ds) ρ->∃ ρ1,tgD g (f d) ρ=some ρ1/\Run body ρ1 (zq2 I Q ds)) (hd:∀ ρ,I [] ρ->Q (.nx ρ)):Run (mfor mi g body) ρ Q:=by
 obtain⟨o,e,q⟩:=S9 (g:=g) (body:=body) I Q (fun d ds ρ h=>by obtain⟨ρ1,a,o,b,c⟩:=j d ds ρ h;exact⟨ρ1,o,a,b,c⟩) hd ds ρ z
 exact⟨o,by unfold mfor;rw[hi];exact e,q⟩
theorem X6 {mi:ML}{g:Tg}{body:MS}{ρ:Ro}{f:Nat->D}(n:Nat)(hi:mi ρ=some ((List.range n).map f))(I:Nat->Ro->Prop)(Q:Out->Prop)(N:I 0 ρ)
  (M:∀ j ρ,j<n->I j ρ->∃ ρ1,tgD g (f j) ρ=some ρ1/\Run body ρ1 (zq2 (fun(_:List Unit) ρ=>I (j+1) ρ) Q [])) (hd:∀ ρ,I n ρ->Q (.nx ρ)):Run (mfor mi g body) ρ Q:=by
 refine xw9 (List.range n) hi (I:=fun ks ρ=>∃ j,j<=n/\ks=List.range' j (n-j)/\I j ρ) (Q:=Q) ⟨0,by omega,by rw[range_eq_range'];rfl,N⟩ ?_ ?_
 .rintro d ds ρ ⟨j,hj,e,h⟩
  have q:j<n:=by
   rcases Nat.lt_or_ge j n with z|z
   .exact z
   .rw[show n-j=0 by omega]at e;cases e
  rw[R5 j n q]at e
  obtain⟨O,J⟩:=List.cons.inj e
  subst O
  obtain⟨ρ1,U,o,S,i⟩:=M d ρ q h
  refine⟨ρ1,U,o,S,?_⟩
  cases o with
  |nx r=>exact⟨d+1,by omega,J,i⟩
  |ct r=>exact⟨d+1,by omega,J,i⟩
  |bk r=>exact i
  |rt r=>exact i
  |rf r=>exact i
  |rp r G=>exact i
  |rg r G L=>exact i
  |rgf r G L=>exact i
 .rintro ρ ⟨j,hj,e,h⟩
  have:n-j=0:=by
   rcases Nat.eq_zero_or_pos (n-j)with z|z
   .exact z
   .rw[R5 j n (by omega)]at e;cases e
  have:j=n:=by omega
  subst this
  exact hd ρ h
theorem W8 {i:Nat}{m:MS}{ρ:Ro}{ds:List D}{R:Out->Prop}(h:ρ[i]? =some (some (.own ds)))(h2:Run m (ρ.set i (some (.sh (.lst ds)))) R):Run (X3 i m) ρ R:=by
 obtain⟨o,e,r⟩:=h2
 exact⟨o,by unfold X3;rw[h];exact e,r⟩
theorem D9 {c:MB}{x y:MS}{ρ:Ro}{R:Out->Prop}{b:Bool}(h:c ρ=some b)(h2:Run (if b then x else y) ρ R):Run (mif c x y) ρ R:=by
 obtain⟨o,e,r⟩:=h2
 refine⟨o,?_,r⟩
 unfold mif;rw[h]
 cases b <;> exact e
theorem zv7 {ρ:Ro}{R:Out->Prop}(h:R (.nx ρ)):Run g9 ρ R:=⟨_,rfl,h⟩
theorem xy4 {x:Int}(h:0<=x):∃ n:Nat,x=n:=⟨x.toNat,by omega⟩
theorem xq0 {x y:ME}{ρ:Ro}{a b:Bool}(h1:x ρ=some (.bl a))(h2:y ρ=some (.bl b)):mand x y ρ=some (.bl (a&&b)):=by
 unfold mand;rw[h1];cases a <;> simp[h2]
theorem K4 (lo:Int)(n:Nat):T3 lo n=(List.range n).map fun(i:Nat)=>D.int (lo+(i:Int)):=rfl
theorem X1 (n:Nat):T3 0 n=((List.range n).map fun(i:Nat)=>(i:Int)).map .int:=by
 rw[K4,map_map]
 apply map_congr_left
 intro i _
 simp
theorem X5 {j:Int}(h1:-(2^62)<=j)(h2:j<2^62):okR j=true:=by unfold okR;simp only[h1,h2,decide_true,Bool.and_self]
theorem U3 {j:Int}(h:okR j=true):rng1 [.int j]=some (T3 0 j.toNat):=by
 unfold rng1
 simp only[h,if_true]
theorem yt2 {i j:Int}(h:okR i=true)(h2:okR j=true):rng2 [.int i,.int j]=some (T3 i (j-i).toNat):=by
 unfold rng2
 simp only[h,h2,Bool.and_self,if_true]
theorem zv8 {n:Nat}{m:MS}{ds:List D}{P:List D->Prop}(h:Run m (f7 n ds) (fun o=>∃ es,o= .rf es/\P es)):∃ es,runB n m ds=some (.fr es)/\P es:=by
 obtain⟨o,e,es,rfl,p⟩:=h
 exact⟨es,P9 e,p⟩
theorem zv6 {i:Nat}{ρ:Ro}{ds:List D}{R:Out->Prop}(h:ρ[i]? =some (some (.own ds)))(h2:R (.rf ds)):Run (O4 i) ρ R:=⟨_,by unfold O4;rw[h],h2⟩
theorem R0 (i j:Int)(h:0<j)(h2:j<1073741824):A9 i j=true:=by unfold A9;simp only[h,h2,decide_true,Bool.and_self]
theorem zv5 (i j:Int)(h:0<=j):yu6 i j=true:=by unfold yu6;simp only[h,decide_true]
theorem at4 (a b c d:Int)(k:Int)(i:0<=k)(h1:k<4):∃ x,atI [D.int a,.int b,.int c,.int d] k=some (.int x)/\(x=a\/x=b\/x=c\/x=d):=by
 have:k=0\/k=1\/k=2\/k=3:=by omega
 rcases this with h|h|h|h <;> subst h
 .exact⟨_,rfl,by simp⟩
 .exact⟨_,rfl,by simp⟩
 .exact⟨_,rfl,by simp⟩
 .exact⟨_,rfl,by simp⟩
theorem at8 (a b c d e f g h:Int)(k:Int)(i:0<=k)(h1:k<8):∃ x,atI [D.int a,.int b,.int c,.int d,.int e,.int f,.int g,.int h] k=some (.int x):=by
 have:k=0\/k=1\/k=2\/k=3\/k=4\/k=5\/k=6\/k=7:=by omega
 rcases this with h|h|h|h|h|h|h|h <;> subst h <;> exact⟨_,rfl⟩
theorem at2 (a b:Int)(k:Int)(i:0<=k)(h1:k<2):∃ x,atI [D.int a,.int b] k=some (.int x):=by
 have:k=0\/k=1:=by omega
 rcases this with h|h <;> subst h <;> exact⟨_,rfl⟩
theorem ww4 (x:Int)(h:0<=x):0<=Builtin.bitAnd x 1/\Builtin.bitAnd x 1<=1:=by
 unfold Builtin.bitAnd
 rw[show decide (0<=x)=true from decide_eq_true h]
 have:(x.toNat&&& (1:Int).toNat:Nat)<=(1:Int).toNat:=Nat.and_le_right
 refine⟨?_,?_⟩
 .show (0:Int)<=((x.toNat&&& (1:Int).toNat:Nat):Int)
  omega
 .show ((x.toNat&&& (1:Int).toNat:Nat):Int)<=1
  have e:(1:Int).toNat=1:=rfl
  omega
theorem za9 {x:Int}(h:0<=x)(k:Nat):0<=x / 2^k:=Int.ediv_nonneg h (Int.pow_nonneg (by decide))
theorem zz0:∀(η:List Int)(k:Nat),J4 k (η.map .int)=(List.range η.length).map fun(i:Nat)=>D.tup [.int ((k+i:Nat):Int),.int (η.getD i 0)]
 |[],k=>rfl
 |x::η,k=>by
  rw[map_cons,J4,zz0 η (k+1),length_cons,range_succ_eq_map,map_cons,map_map]
  congr 1
  apply map_congr_left
  intro i _
  simp only[Function.comp,Nat.succ_eq_add_one,getD_cons_succ]
  rw[show k+1+i=k+(i+1)by omega]
theorem ym5 (ds:List D):eqFD false (.lst ds) (.lst [])=some (.bl ds.isEmpty):=by
 unfold eqFD eqF
 cases ds with
 |nil=>rfl
 |cons d ds=>rfl
theorem zh8 (ds:List D):eqFD true (.lst ds) (.lst [])=some (.bl (!ds.isEmpty)):=by
 unfold eqFD eqF
 cases ds with
 |nil=>rfl
 |cons d ds=>rfl
theorem ze8 (n:Nat):∀ xs:List Int,zipE (eqF (n+1)) (xs.map .int) (xs.map .int)=some true
 |[]=>rfl
 |x::xs=>by
  rw[map_cons,zipE,ze8 n xs]
  show (some (x==x)).bind _=_
  rw[beq_self_eq_true];rfl
theorem xx3 (n:Nat)(xs:List Int):eqF (n+2) (.lst (xs.map .int)) (.lst (xs.map .int))=some true:=by
 show (if _=_ then zipE (eqF (n+1)) (xs.map .int) (xs.map .int)else some false)=_
 rw[if_pos rfl,ze8]
theorem E6 {n:Nat}{m:MS}{ds:List D}{d:D}(h:Run m (f7 n ds) (fun o=>o= .rt d)):runB n m ds=some (.sh d):=by
 obtain⟨o,e,rfl⟩:=h
 exact j9 e
theorem c8 {f:MF}{m:ML}{ρ:Ro}{ds es:List D}(h:m ρ=some ds)(h2:f ds=some (.fr es)):u5 f m ρ=some (.lst es):=by
 unfold u5;rw[h];show (match f ds with |some (.sh d)=>some d|some (.fr es)=>some (D.lst es)|some (.pr d es)=>some (.tup [d,.lst es])|none=>none)=_;rw[h2]
theorem m6 {f:MF}{m:ML}{ρ:Ro}{ds:List D}{d:D}(h:m ρ=some ds)(h2:f ds=some (.sh d)):u5 f m ρ=some d:=by
 unfold u5;rw[h];show (match f ds with |some (.sh d)=>some d|some (.fr es)=>some (D.lst es)|some (.pr d es)=>some (.tup [d,.lst es])|none=>none)=_;rw[h2]
theorem z9 {x:ME}{r:ML}{ρ:Ro}{d:D}{ds:List D}(h:x ρ=some d)(h2:r ρ=some ds):z8 x r ρ=some (d::ds):=by
 unfold z8;rw[h,h2];rfl
theorem w6 {ρ:Ro}:anil ρ=some []:=rfl
theorem zk7 (η:List Int)(i:Nat)(h:i<η.length):atI (η.map D.int) (i:Int)=some (.int (η.getD i 0)):=by
 have:=zz5 D.int η (i:Int) (by omega) (by omega) 0
 rw[Int.toNat_natCast]at this
 exact this
theorem zm0:∀ ps:List Int,flVs (ps.map D.int)=some (ps.map V.int)
 |[]=>rfl
 |p::ps=>by
  rw[map_cons,flVs,zm0 ps];rfl
theorem xz3 {x y:ME}{ρ:Ro}{i j:Int}(h1:x ρ=some (.int i))(h2:y ρ=some (.int j)):l0 (m2 ltD x y) ρ=some (decide (i<j)):=by
 unfold l0 m2;rw[h1,h2];rfl
theorem W3 {i:Type}{g:Tg}{c:MB}{elt:ME}{f:i->D}{p:i->Bool}{G:i->D}(I:List i->Ro->Prop)
  (j:∀ d ds ρ,I (d::ds) ρ->∃ ρ1,tgD g (f d) ρ=some ρ1/\c ρ1=some (p d)/\(p d=true->elt ρ1=some (G d))/\I ds ρ1):
  ∀(ds:List i)(ρ:Ro)(acc:List D),I ds ρ->acc.length+ds.length<=sizeLine->U6 g c elt (ds.map f) ρ acc=some (acc++(ds.filter p).map G)
 |[],ρ,acc,h,hl=>by simp[U6]
 |d::ds,ρ,acc,h,hl=>by
  obtain⟨ρ1,h1,h2,z,q⟩:=j d ds ρ h
  rw[length_cons]at hl
  rw[map_cons]
  unfold U6
  rw[h1]
  simp only[h2]
  cases hp:p d with
  |false=>
   simp only
   rw[W3 I j ds ρ1 acc q (by omega),filter_cons,hp]
   rfl
  |true=>
   simp only[z hp]
   rw[if_pos (by omega),W3 I j ds ρ1 _ q (by simp;omega),filter_cons,hp]
   simp
theorem zw4 {x y:MB}{ρ:Ro}{a b:Bool}(h1:x ρ=some a)(h2:y ρ=some b):cor x y ρ=some (a || b):=by
 unfold cor;rw[h1];cases a <;> simp[h2]
theorem yk8 {x y:MB}{ρ:Ro}{a b:Bool}(h1:x ρ=some a)(h2:y ρ=some b):cand x y ρ=some (a&&b):=by
 unfold cand;rw[h1];cases a <;> simp[h2]
theorem g0 {i:Nat}{x:ME}{ρ:Ro}{d:D}(h:x ρ=some d):mset i x ρ=some (.nx (ρ.set i (some (.sh d)))):=by unfold mset;rw[h];rfl
theorem t6 {m:ML}{ρ:Ro}{ds:List D}(h:m ρ=some ds):mlst m ρ=some (.lst ds):=by unfold mlst;rw[h];rfl
theorem l8 {m:ML}{ρ:Ro}{ds:List D}(h:m ρ=some ds)(i:ds.length<=sizeLine):m5 m ρ=some ds:=by
 unfold m5;rw[h];show (if ds.length<=sizeLine then some ds else none)=_;rw[if_pos i]
theorem V4 {m:ML}{i:ME}{ρ:Ro}{ds:List D}{k:Int}{d:D}(h1:m ρ=some ds)(h2:i ρ=some (.int k))(j:atI ds k=some d):mix m i ρ=some d:=by
 unfold mix;rw[h1,h2];exact j
theorem yc6 {m:ML}{ρ:Ro}{ds:List D}(h:m ρ=some ds)(neg:Bool):meqB neg m (m5 anil) ρ=some (.bl (if neg then !ds.isEmpty else ds.isEmpty)):=by
 have i:0<=sizeLine:=Nat.zero_le _
 have e:m5 anil ρ=some []:=by simp_arith [i,if_true]
 unfold meqB
 rw[h,e]
 cases neg
 .simp only[Option.bind_some,ym5];rfl
 .simp only[Option.bind_some,zh8];rfl
theorem j1 {m:ME}{ρ:Ro}{ds:List D}(h:m ρ=some (.lst ds)):l6 m ρ=some ds:=by unfold l6;rw[h]
theorem O6 {x y:ML}{ρ:Ro}{ds es:List D}(h1:x ρ=some ds)(h2:y ρ=some es)(i:ds.length+es.length<=sizeLine):mcat x y ρ=some (ds++es):=by
 unfold mcat;rw[h1,h2];show (if ds.length+es.length<=sizeLine then some (ds++es)else none)=_;rw[if_pos i]
theorem zt2 {m:ML}{ρ:Ro}{ds:List D}(h:m ρ=some ds)(i:ds.length<=sizeLine):mtup m ρ=some (.tup ds):=by
 unfold mtup;rw[l8 h i];rfl
theorem S7 {x:ME}{ρ:Ro}{d:D}(h:x ρ=some d):mret x ρ=some (.rt d):=by unfold mret;rw[h];rfl
theorem wx2:kitB "list" "str"=some false:=by decide +kernel
theorem wx4:kitB "int" "str"=some false:=by decide +kernel
theorem wx3:kitB "list" "list"=some true:=by decide +kernel
theorem wx5:kitB "int" "int"=some true:=by decide +kernel
theorem wx6:kitB "int" "bool"=some false:=by decide +kernel
theorem k2_i:zo9 "int" "list" "tuple"=some false:=by decide +kernel
theorem k2_l:zo9 "list" "list" "tuple"=some true:=by decide +kernel
theorem ze7 {i:Type}(f:i->D):∀ xs:List i,List.zipWith (fun d e=>D.tup [d,e]) (xs.map f) (xs.map f)=xs.map fun x=>D.tup [f x,f x]
 |[]=>rfl
 |x::xs=>by rw[map_cons,zipWith_cons_cons,ze7 f xs];rfl
theorem zh7 {i:Type}(xs:List i):xs.filter (fun _=>false)=[]:=by
 induction xs with
 |nil=>rfl
 |cons x xs j=>rw[filter_cons];exact j
theorem yk4 {i:Type}{f:i->D}{mi:ML}{c:MB}{ρ:Ro}(xs:List i)(hi:mi ρ=some (xs.map fun x=>D.tup [f x,f x]))(J:xs.length<=1000)(I:∀ x∈xs,c [some (.sh (f x)),some (.sh (f x))]=some false):
  meqB false (l7 [none,none] mi (.tp [0,1]) c (mc (.int 1))) (m5 anil) ρ=some (.bl true):=by
 have e:l7 [none,none] mi (.tp [0,1]) c (mc (.int 1)) ρ=some []:=by
  unfold l7
  rw[hi]
  refine(W3 (f:=fun x=>D.tup [f x,f x]) (p:=fun _=>false) (G:=fun _=>D.int 1) (fun ys ρ=>(∀ x∈ys,x∈xs)/\∃ a b,ρ=[a,b])
   (by
    rintro x ds ρ ⟨j,a,b,rfl⟩
    exact⟨_,rfl,I x (j x (by simp)),fun z=>(by cases z),fun y q=>j y (by simp[q]),_,_,rfl⟩) xs _ [] ⟨fun _ h=>h,none,none,rfl⟩ (t8 (by simp;omega))).trans ?_
  rw[zh7];rfl
 rw[yc6 e false];rfl
theorem xx0 (xs:List Int):eqFD true (.lst (xs.map .int)) (.lst (xs.map .int))=some (.bl false):=by
 unfold eqFD
 rw[xx3 6];rfl
section
open PySem L2
theorem xa5 {names:List Str}{mb q:MS}{j:MXs}{i:Nat}{ρ ρ1 ρ2:Ro}{c:Str}(h:mb ρ=none)(z:j ρ=some (c,ρ1))(I:c∈names)(G:q (ρ1.set i (some (.sh (.exc c))))=some (.nx ρ2)):mtry names mb j i q ρ=some (.nx (ρ2.set i none)):=by
 unfold mtry
 rw[h,z]
 dsimp only
 rw[if_pos I,G]
theorem xe8 {c:MB}{x y:MS}{ρ:Ro}{b:Bool}(h:c ρ=some b):mif c x y ρ=(if b then x else y) ρ:=by unfold mif;rw[h];cases b <;> rfl
theorem xn5 {c:MB}{x y:MXs}{ρ:Ro}{b:Bool}(h:c ρ=some b):xif c x y ρ=(if b then x else y) ρ:=by unfold xif;rw[h];cases b <;> rfl
theorem zt5 {x:ME}{ρ:Ro}{d:D}(h:x ρ=some d):J0 x ρ=some (.nx ρ):=by unfold J0;rw[h];rfl
theorem ye8 {x:ME}{ρ:Ro}(h:x ρ=none):J0 x ρ=none:=by unfold J0;rw[h];rfl
theorem ye9 {f:MF}{m:ML}{ρ:Ro}{ds:List D}(h:m ρ=some ds)(h2:f ds=none):u5 f m ρ=none:=by unfold u5;rw[h];show (match f ds with |some (.sh d)=>some d|some (.fr es)=>some (.lst es)|some (.pr d es)=>some (.tup [d,.lst es])|none=>none)=_;rw[h2]
theorem yh1 {x:MFX}{m:ML}{ρ:Ro}{ds:List D}{c:Str}(h:m ρ=some ds)(h2:x ds=some c):yv5 x m ρ=some c:=by unfold yv5;rw[h];exact h2
theorem xa4 {x:MXe}{ρ:Ro}{c:Str}(h:x ρ=some c):xE x ρ=some (c,ρ):=by unfold xE;rw[h];rfl
theorem xv0 {n:Nat}{x:MXs}{ds:List D}{c:Str}{ρ:Ro}(h:x (f7 n ds)=some (c,ρ)):runX n x ds=some c:=by unfold runX;rw[h];rfl
theorem yv4 {c:Str}{m:ML}{ρ:Ro}{ds:List D}(h:m ρ=some ds):zr5 c m ρ=some (c,ρ):=by unfold zr5;rw[h];rfl
theorem xr5 {x y:MS}{ρ:Ro}(h:x ρ=none):mseq x y ρ=none:=by unfold mseq;rw[h]
theorem xv1 {n:Nat}{m:MS}{ds:List D}(h:m (f7 n ds)=none):runB n m ds=none:=by unfold runB;rw[h]
theorem yp3 {tab:List (Str×Bool)}{m:ME}{ρ:Ro}{c:Str}{k:Bool}(h:m ρ=some (.exc c))(h2:tab.lookup c=some k):misX tab m ρ=some (.bl k):=by unfold misX;rw[h];simp only[h2];rfl
end
section
open PySem L2
def lx:List Nat->List Nat->Bool
 |[],[]=>false
 |[],_::_=>true
 |_::_,[]=>false
 |a::l,b::m=>decide (a<b) || (a==b&&lx l m)
def d4 (l m:List Nat):Bool:=decide (m.length<l.length) || (l.length==m.length&&lx l m)
theorem yo8:∀ l,lx l l=false
 |[]=>rfl
 |a::l=>by unfold lx;simp[yo8 l]
theorem zc6:∀{a b c:List Nat},lx a b=true->lx b c=true->lx a c=true
 |[],[],_,h,_=>by cases h
 |[],_::_,[],_,h=>by cases h
 |[],_::_,_::_,_,_=>rfl
 |_::_,[],_,h,_=>by cases h
 |_::_,_::_,[],_,h=>by cases h
 |a::l,b::m,c::k,h1,h2=>by
  unfold lx at*
  simp only[Bool.or_eq_true,Bool.and_eq_true,decide_eq_true_eq,beq_iff_eq]at*
  rcases h1 with h1|⟨rfl,h1⟩ <;> rcases h2 with h2|⟨rfl,h2⟩
  .exact .inl (by omega)
  .exact .inl h1
  .exact .inl h2
  .exact .inr ⟨rfl,zc6 h1 h2⟩
theorem xy5:∀(a b:List Nat),a=b\/lx a b=true\/lx b a=true
 |[],[]=>.inl rfl
 |[],_::_=>.inr (.inl rfl)
 |_::_,[]=>.inr (.inr rfl)
 |a::l,b::m=>by
  unfold lx
  simp only[Bool.or_eq_true,Bool.and_eq_true,decide_eq_true_eq,beq_iff_eq]
  rcases Nat.lt_trichotomy a b with h|h|h
  .exact .inr (.inl (.inl h))
  .subst h
   rcases xy5 l m with h|h|h
   .exact .inl (by rw[h])
   .exact .inr (.inl (.inr ⟨rfl,h⟩))
   .exact .inr (.inr (.inr ⟨rfl,h⟩))
  .exact .inr (.inr (.inl h))
theorem c0 (l m:List Nat):d4 l m=true↔m.length<l.length\/(l.length=m.length/\lx l m=true):=by
 unfold d4
 simp only[Bool.or_eq_true,Bool.and_eq_true,decide_eq_true_eq,beq_iff_eq]
theorem X9 {a b c:List Nat}(h1:d4 a b=true)(h2:d4 b c=true):d4 a c=true:=by
 rw[c0]at*
 rcases h1 with h1|⟨h1,j⟩ <;> rcases h2 with h2|⟨h2,i⟩
 .exact .inl (by omega)
 .exact .inl (by omega)
 .exact .inl (by omega)
 .exact .inr ⟨by omega,zc6 j i⟩
theorem zz6 (a b:List Nat):a=b\/d4 a b=true\/d4 b a=true:=by
 rw[c0,c0]
 rcases Nat.lt_trichotomy a.length b.length with h|h|h
 .exact .inr (.inr (.inl h))
 .rcases xy5 a b with z|z|z
  .exact .inl z
  .exact .inr (.inl (.inr ⟨h,z⟩))
  .exact .inr (.inr (.inr ⟨h.symm,z⟩))
 .exact .inr (.inl (.inl h))
theorem R3 (a:List Nat):d4 a a=false:=by
 unfold d4;simp[yo8]
theorem zw8 (p:Nat)(a b:List Nat):d4 (p::a) (p::b)=d4 a b:=by
 unfold d4
 simp[lx]
def Best (P:List Nat->Prop)(l:List Nat):Prop:=P l/\∀ m,P m->d4 m l=false
theorem Best.iff {P Q:List Nat->Prop}{l:List Nat}(a:Best P l)(h:∀ m,P m↔Q m):Best Q l:=⟨(h l).mp a.1,fun m hm=>a.2 m ((h m).mpr hm)⟩
theorem Best.len {P:List Nat->Prop}{l:List Nat}(a:Best P l)(m:List Nat)(h:P m):m.length<=l.length:=by
 have:=a.2 m h
 rcases Nat.lt_or_ge l.length m.length with z|z
 .rw[(c0 m l).mpr (.inl z)]at this;cases this
 .exact z
def far (s:Int)(d:Bool)(a b:Int):Prop:=if d then s<=b-a else s<=a-b
instance (s:Int) (d:Bool) (a b:Int):Decidable (far s d a b):=by unfold far;exact inferInstance
def Wd (x:Nat->Int)(n:Nat)(s:Int):Bool->List Nat->Prop
 |_,[]=>False
 |_,[p]=>p<n
 |d,p::q::l=>p<q/\far s d (x p) (x q)/\Wd x n s (!d) (q::l)
def Wv (x:Nat->Int)(n:Nat)(s:Int)(l:List Nat):Prop:=l=[]\/∃ d,Wd x n s d l
def Hd (p:Nat)(l:List Nat):Prop:=∃ m,l=p::m
def From (x:Nat->Int)(n:Nat)(s:Int)(d:Bool)(p t:Nat)(l:List Nat):Prop:=Wd x n s d l/\(l=[p]\/∃ q m,l=p::q::m/\q<=t)
variable {x:Nat->Int}{n:Nat}{s:Int}
theorem Wd.lt:∀{l:List Nat}{d:Bool}{p:Nat},Wd x n s d (p::l)->p<n
 |[],d,p,h=>h
 |q::l,d,p,h=>Nat.lt_trans h.1 h.2.2.lt
theorem Wd.len:∀{l:List Nat}{d:Bool}{p:Nat},Wd x n s d (p::l)->l.length+p<n
 |[],d,p,h=>by have h:p<n:=h;simpa using h
 |q::l,d,p,h=>by
  have:=h.2.2.len
  have:=h.1
  simp;omega
theorem zb2 {d:Bool}{p:Nat}(i:p<n):Best (From x n s d p p) [p]:=by
 refine⟨⟨i,.inl rfl⟩,?_⟩
 rintro m ⟨h1,h2⟩
 rcases h2 with rfl|⟨q,m,rfl,j⟩
 .exact R3 _
 .have:=h1.1;omega
theorem zn6 {d:Bool}{p q:Nat}{U T:List Nat}(S:p<q)(j:Best (From x n s d p (q-1)) U)(G:Best (From x n s (!d) q n) T)(O:Decidable (far s d (x p) (x q))):
  Best (From x n s d p q) (if far s d (x p) (x q)/\U.length<=T.length then p::T else U):=by
 have I:∃ m,T=q::m:=by
  rcases G.1.2 with h|⟨r,m,h,_⟩
  .exact⟨_,h⟩
  .exact⟨_,h⟩
 have low:∀ m,From x n s d p (q-1) m->From x n s d p q m:=fun m h=>⟨h.1,h.2.imp id fun⟨r,m,e,M⟩=>⟨r,m,e,by omega⟩⟩
 have split:∀ m,From x n s d p q m->From x n s d p (q-1) m\/∃ k,m=p::k/\far s d (x p) (x q)/\From x n s (!d) q n k:=by
  rintro m ⟨h1,h2⟩
  rcases h2 with rfl|⟨r,m,rfl,M⟩
  .exact .inl ⟨h1,.inl rfl⟩
  .rcases Nat.lt_or_ge r q with z|z
   .exact .inl ⟨h1,.inr ⟨r,m,rfl,by omega⟩⟩
   .have:r=q:=by omega
    subst this
    refine .inr ⟨_,rfl,h1.2.1,h1.2.2,?_⟩
    cases m with
    |nil=>exact .inl rfl
    |cons t m=>exact .inr ⟨t,m,rfl,Nat.le_of_lt h1.2.2.2.2.lt⟩
 obtain⟨Z,J⟩:=I
 split
 .rename_i h
  refine⟨⟨?_,?_⟩,fun m hm=>?_⟩
  .rw[J];exact⟨S,h.1,by rw[<-J];exact G.1.1⟩
  .exact .inr ⟨q,Z,by rw[J],Nat.le_refl _⟩
  .rcases split m hm with z|⟨k,rfl,_,z⟩
   .have:=j.len m z
    cases e:d4 m (p::T)with
    |false=>rfl
    |true=>
     rw[c0]at e
     simp only[length_cons]at e
     omega
   .rw[zw8];exact G.2 k z
 .rename_i h
  refine⟨low _ j.1,fun m hm=>?_⟩
  rcases split m hm with z|⟨k,rfl,Y,z⟩
  .exact j.2 m z
  .have hl:¬ U.length<=T.length:=fun w=>h ⟨Y,w⟩
   have:=G.len k z
   cases e:d4 (p::k) U with
   |false=>rfl
   |true=>
    rw[c0]at e
    simp only[length_cons]at e
    rcases e with e|⟨N,i⟩
    .omega
    .rcases j.1.2 with w|⟨r,m,w,M⟩
     .have:k.length=0:=by rw[w]at N;simpa using N
      rcases z.2 with y|⟨_,_,y,_⟩ <;> (rw[y]at this;simp at this)
     .have hk:∃ L,k=q::L:=by
       rcases z.2 with y|⟨_,_,y,_⟩
       .exact⟨_,y⟩
       .exact⟨_,y⟩
      obtain⟨L,rfl⟩:=hk
      rw[w]at i
      unfold lx at i
      simp only[Nat.lt_irrefl,decide_false,beq_self_eq_true,Bool.true_and,Bool.false_or]at i
      unfold lx at i
      simp only[Bool.or_eq_true,Bool.and_eq_true,decide_eq_true_eq,beq_iff_eq]at i
      omega
theorem zb3 {d:Bool}{p t:Nat}{l:List Nat}(h:Best (From x n s d p t) l)(j:n<=t+1):Best (From x n s d p n) l:=
 h.iff fun m=>⟨fun a=>⟨a.1,a.2.imp id fun⟨q,k,e,i⟩=>⟨q,k,e,by rw[e]at a;exact Nat.le_of_lt a.1.2.2.lt⟩⟩,fun a=>⟨a.1,a.2.imp id fun⟨q,k,e,i⟩=>⟨q,k,e,by rw[e]at a;have:=a.1.2.2.lt;omega⟩⟩⟩
theorem zn7 {d:Bool}{p t t':Nat}{l:List Nat}(h:Best (From x n s d p t) l)(i:t=t'):Best (From x n s d p t') l:=i ▸ h
theorem xx9 {d:Bool}{p:Nat}{l:List Nat}(h:Wd x n s d (p::l)):From x n s d p n (p::l):=⟨h,by
 cases l with
 |nil=>exact .inl rfl
 |cons q l=>exact .inr ⟨q,l,rfl,Nat.le_of_lt h.2.2.lt⟩⟩
theorem yb8 {l:List Nat}{q:List (List Nat)}(hm:l∈q)(i:∀ m∈q,d4 m l=false)(hw:∀ m∈q,Wv x n s m)(j:∀ d p,p<n->∃ m∈q,Best (From x n s d p n) m)(hn:l≠[]):Best (Wv x n s) l:=by
 refine⟨hw l hm,fun m h=>?_⟩
 rcases h with rfl|⟨d,h⟩
 .cases e:d4 [] l with
  |false=>rfl
  |true=>
   rw[c0]at e
   simp only[length_nil]at e
   rcases e with e|⟨e,_⟩
   .omega
   .exact absurd (List.length_eq_zero_iff.mp e.symm) hn
 .cases m with
  |nil=>exact h.elim
  |cons p m=>
   obtain⟨k,G,I⟩:=j d p h.lt
   have h1:=I.2 _ (xx9 h)
   have h2:=i k G
   cases e:d4 (p::m) l with
   |false=>rfl
   |true=>
    rcases zz6 k (p::m)with z|z|z
    .rw[<-z,h2]at e;cases e
    .rw[X9 z e]at h2;cases h2
    .rw[z]at h1;cases h1
theorem yj7 (hn:n=0):Best (Wv x n s) []:=by
 refine⟨.inl rfl,fun m h=>?_⟩
 rcases h with rfl|⟨d,h⟩
 .rfl
 .cases m with
  |nil=>exact h.elim
  |cons p m=>have:=h.lt;omega
end
section
open PySem L2
def dN (p:Nat):D:=.int (p:Int)
abbrev k0d (k:Nat):Option S:=some (.sh (dN k))
def L (l:List Nat):D:=.lst (l.map dN)
def Ky (l:List Nat):D:=.tup [.int (-(l.length:Int)),L l]
theorem xx2 (k:Nat)(a b:Nat):eqF (k+1) (dN a) (dN b)=some (a==b):=by
 show some ((a:Int)==(b:Int))=_
 congr 1
 rw[Bool.eq_iff_iff,beq_iff_eq,beq_iff_eq]
 omega
theorem yv2 (k:Nat):∀(l m:List Nat),l.length=m.length->zipE (eqF (k+1)) (l.map dN) (m.map dN)=some (l==m)
 |[],[],_=>rfl
 |[],_::_,h=>by cases h
 |_::_,[],h=>by cases h
 |a::l,b::m,h=>by
  rw[map_cons,map_cons,zipE,xx2,yv2 k l m (by simpa using h)]
  rfl
theorem yn2 (k:Nat):∀(l m:List Nat),lexF (eqF (k+1)) (ltF (k+1)) (l.map dN) (m.map dN)=some (lx l m)
 |[],[]=>rfl
 |[],_::_=>rfl
 |_::_,[]=>rfl
 |a::l,b::m=>by
  rw[map_cons,map_cons,lexF,xx2]
  unfold lx
  by_cases h:a=b
  .subst h
   simp only[beq_self_eq_true,Nat.lt_irrefl,decide_false,Bool.true_and,Bool.false_or]
   exact yn2 k l m
  .have e:(a==b)=false:=by simpa using h
   rw[e]
   simp only[Bool.false_and,Bool.or_false]
   show some (decide ((a:Int)<(b:Int)))=_
   congr 1
   apply decide_eq_decide.mpr
   omega
theorem xe9 (l m:List Nat):ltF 8 (Ky l) (Ky m)=some (d4 l m):=by
 show lexF (eqF 7) (ltF 7) [.int (-(l.length:Int)),L l] [.int (-(m.length:Int)),L m]=_
 rw[lexF,show eqF 7 (.int (-(l.length:Int))) (.int (-(m.length:Int)))=some (-(l.length:Int)== -(m.length:Int))from rfl]
 unfold d4
 by_cases h:l.length=m.length
 .rw[h]
  simp only[beq_self_eq_true,Nat.lt_irrefl,decide_false,Bool.true_and,Bool.false_or]
  have e:eqF 7 (L l) (L m)=some (l==m):=by
   show (if (l.map dN).length=(m.map dN).length then zipE (eqF 6) (l.map dN) (m.map dN)else some false)=_
   rw[if_pos (by simpa using h),yv2 5 l m h]
  rw[lexF,e]
  by_cases j:l=m
  .subst j
   simp only[beq_self_eq_true]
   rw[yo8];rfl
  .have i:(l==m)=false:=by simpa using j
   rw[i]
   exact yn2 5 l m
 .have e:(-(l.length:Int)== -(m.length:Int))=false:=by
   rw[beq_eq_false_iff_ne];omega
  have i:(l.length==m.length)=false:=by simpa using h
  rw[e,i]
  simp only[Bool.false_and,Bool.or_false]
  show some (decide (-(l.length:Int) < -(m.length:Int)))=_
  congr 1
  apply decide_eq_decide.mpr
  omega
theorem E8 {mk:D->Option D}(q:∀ l,mk (L l)=some (Ky l)):∀(j:List (List Nat))(b:List Nat),∃ r,minF mk (j.map L) (L b) (Ky b)=some (L r)/\r∈b::j/\∀ m∈b::j,d4 m r=false
 |[],b=>⟨b,rfl,by simp,by simp[R3]⟩
 |m::j,b=>by
  rw[map_cons]
  unfold minF
  rw[q m]
  simp only[xe9 m b]
  cases h:d4 m b with
  |true=>
   obtain⟨r,e,h1,h2⟩:=E8 q j m
   refine⟨r,e,mem_cons_of_mem _ h1,fun k i=>?_⟩
   rcases List.mem_cons.mp i with rfl|i
   .cases z:d4 k r with
    |false=>rfl
    |true=>have:=h2 m (by simp);rw[X9 h z]at this;cases this
   .exact h2 k i
  |false=>
   obtain⟨r,e,h1,h2⟩:=E8 q j b
   refine⟨r,e,?_,fun k i=>?_⟩
   .rcases List.mem_cons.mp h1 with h1|h1
    .simp[h1]
    .simp[h1]
   .have hb:=h2 b (by simp)
    rcases List.mem_cons.mp i with rfl|i
    .exact hb
    .rcases List.mem_cons.mp i with rfl|i
     .cases z:d4 k r with
      |false=>rfl
      |true=>
       rcases zz6 k b with w|w|w
       .rw[w,hb]at z;cases z
       .rw[h]at w;cases w
       .rw[X9 w z]at hb;cases hb
     .exact h2 k (mem_cons_of_mem _ i)
abbrev xr (η:List Int):Nat->Int:=fun i=>η.getD i 0
def envU (η:List Int)(s:Int)(U V:List (List Nat))(o4 o5 o6:Option S):Ro:=[k0a η,k0c s,some (.own (U.map L)),some (.own (V.map L)),o4,o5,o6]
theorem zx4 {x y:ME}{ρ:Ro}{i j:Int}(h1:x ρ=some (.int i))(h2:y ρ=some (.int j)):l0 (m2 geD x y) ρ=some (decide (j<=i)):=by
 unfold l0 m2;rw[h1,h2];rfl
theorem j0 {m:ML}{ρ:Ro}{ds:List D}(h:m ρ=some ds):mlen m ρ=some (.int ds.length):=by unfold mlen;rw[h];rfl
theorem at_L (U:List (List Nat))(p:Nat)(h:p<U.length):atI (U.map L) (p:Int)=some (L (U.getD p [])):=by
 have:=zz5 L U (p:Int) (by omega) (by omega) []
 rw[Int.toNat_natCast]at this
 exact this
theorem zh3 (n p:Nat)(h:p<n):ixN n (p:Int)=some p:=by
 unfold ixN
 rw[if_pos (by omega),if_pos (by omega),Int.toNat_natCast]
def upU (s:Int)(η:List Int)(d:Bool)(U V:List (List Nat))(p q:Nat):List (List Nat):=
 if (if d then s<=xr η q-xr η p else s<=xr η p-xr η q)/\(U.getD p []).length<=(V.getD q []).length then U.set p (p::V.getD q [])else U
theorem zj4 (s:Int)(η:List Int)(d:Bool)(U V:List (List Nat))(p q:Nat):(upU s η d U V p q).length=U.length:=by
 unfold upU
 by_cases i:((if d then s<=xr η q-xr η p else s<=xr η p-xr η q)/\(U.getD p []).length<=(V.getD q []).length)
 .rw[if_pos i,length_set]
 .rw[if_neg i]
theorem zr9 (s:Int)(η:List Int)(d:Bool)(U V:List (List Nat))(p q r:Nat)(h:p≠r):(upU s η d U V p q).getD r []=U.getD r []:=by
 rw[getD_eq_getElem?_getD,getD_eq_getElem?_getD]
 unfold upU
 by_cases i:((if d then s<=xr η q-xr η p else s<=xr η p-xr η q)/\(U.getD p []).length<=(V.getD q []).length)
 .rw[if_pos i,getElem?_set_ne h]
 .rw[if_neg i]
theorem zh5 (U:List (List Nat))(p q:Nat)(l:List Nat)(h:p≠q):(U.set p l).getD q []=U.getD q []:=by
 rw[getD_eq_getElem?_getD,getD_eq_getElem?_getD,getElem?_set_ne h]
theorem A7 (U:List (List Nat))(p:Nat)(l:List Nat)(h:p<U.length):(U.set p l).getD p []=l:=by
 rw[getD_eq_getElem?_getD,getElem?_set_self h];rfl
theorem za8 (η:List Int)(s:Int)(U V:List (List Nat))(p q:Nat)(G:Option S)(Y:U.length=η.length)(O:V.length=η.length)(hp:p<η.length)(hq:q<η.length)(bU:(U.getD q []).length<=1000)(bV:(V.getD q []).length<=1000)(M:p≠q):
  ∃ J,zs8 (envU η s U V (k0b p) (k0b q) G)=some (.nx (envU η s (upU s η true U V p q) (upU s η false V U p q) (k0b p) (k0b q) J)):=by
 have a0:=j6
 have ap:=zk7 η p hp
 have aq:=zk7 η q hq
 have i1:0+1<=sizeLine:=t8 (by decide)
 refine⟨some (.sh (.int (xr η q-xr η p))),?_⟩
 unfold zs8
 refine seqI (ρ':=envU η s U V (k0b p) (k0b q) (some (.sh (.int (xr η q-xr η p))))) ?_ ?_
 .unfold envU
  simp_arith [ap,aq]
 have go:∀(i I:Nat)(A B:List (List Nat))(ρ:Ro),ρ[i]? =some (some (.own (A.map L)))->ρ[I]? =some (some (.own (B.map L)))->ρ[4]? =some (k0b p)->ρ[5]? =some (k0b q)->A.length=η.length->B.length=η.length->(B.getD q []).length<=1000->
   (l0 (m2 geD (mlen (l6 (mix (bvar I) (mvar 5)))) (mlen (l6 (mix (bvar i) (mvar 4))))) ρ=some (decide ((A.getD p []).length<=(B.getD q []).length)))/\
   S6 i (mvar 4) (mlst (mcat (m5 (z8 (mvar 4) anil)) (l6 (mix (bvar I) (mvar 5))))) ρ=some (.nx (ρ.set i (some (.own ((A.set p (p::B.getD q [])).map L))))):=by
  intro i I A B ρ Z hB h4 h5 lA lB bB
  have eA:bvar i ρ=some (A.map L):=by unfold bvar;rw[Z]
  have eB:bvar I ρ=some (B.map L):=by unfold bvar;rw[hB]
  have N:mvar 4 ρ=some (.int (p:Int)):=by unfold mvar;rw[h4]
  have e5:mvar 5 ρ=some (.int (q:Int)):=by unfold mvar;rw[h5]
  have fB:l6 (mix (bvar I) (mvar 5)) ρ=some ((B.getD q []).map dN):=j1 (V4 eB e5 (at_L B q (by omega)))
  have fA:l6 (mix (bvar i) (mvar 4)) ρ=some ((A.getD p []).map dN):=j1 (V4 eA N (at_L A p (by omega)))
  constructor
  .rw[zx4 (j0 fB) (j0 fA)]
   congr 1
   apply decide_eq_decide.mpr
   rw[length_map,length_map]
   omega
  .have ev:mlst (mcat (m5 (z8 (mvar 4) anil)) (l6 (mix (bvar I) (mvar 5)))) ρ=some (L (p::B.getD q [])):=by
    rw[t6 (O6 (l8 (z9 N w6) i1) fB (by rw[length_map,length_singleton];omega))]
    rfl
   unfold S6
   rw[ev,Z,N]
   show ((ixN (A.map L).length (p:Int)).map fun j=>Out.nx (ρ.set i (some (.own ((A.map L).set j (L (p::B.getD q [])))))))=_
   rw[length_map,zh3 _ _ (by omega)]
   show some (Out.nx _)=_
   rw[map_set]
 have t1:∀ A B G,l0 (m2 geD (mvar 6) (mvar 1)) (envU η s A B G (k0b q) (some (.sh (.int (xr η q-xr η p)))))=some (decide (s<=xr η q-xr η p)):=fun A B G=>zx4 rfl rfl
 have t2:∀ A B G,l0 (m2 geD (m1 negD (mvar 6)) (mvar 1)) (envU η s A B G (k0b q) (some (.sh (.int (xr η q-xr η p)))))=some (decide (s<= -(xr η q-xr η p))):=fun A B G=>zx4 rfl rfl
 obtain⟨c1,c2⟩:=go 2 3 U V (envU η s U V (k0b p) (k0b q) (some (.sh (.int (xr η q-xr η p))))) rfl rfl rfl rfl Y O bV
 refine seqI (ρ':=envU η s (upU s η true U V p q) V (k0b p) (k0b q) (some (.sh (.int (xr η q-xr η p))))) ?_ ?_
 .unfold mif
  rw[yk8 (t1 _ _ _) c1]
  unfold upU
  by_cases h:s<=xr η q-xr η p/\(U.getD p []).length<=(V.getD q []).length
  .rw[if_pos (by simpa using h),decide_eq_true h.1,decide_eq_true h.2]
   exact c2
  .rw[if_neg (by simpa using h)]
   have:(decide (s<=xr η q-xr η p)&&decide ((U.getD p []).length<=(V.getD q []).length))=false:=by
    rw[Bool.eq_false_iff]
    intro z
    rw[Bool.and_eq_true,decide_eq_true_eq,decide_eq_true_eq]at z
    exact h z
   rw[this]
   rfl
 .have hU':(upU s η true U V p q).length=η.length:=by rw[zj4];exact Y
  have gU:(upU s η true U V p q).getD q []=U.getD q []:=zr9 _ _ _ _ _ _ _ _ M
  obtain⟨d1,d2⟩:=go 3 2 V (upU s η true U V p q) (envU η s (upU s η true U V p q) V (k0b p) (k0b q) (some (.sh (.int (xr η q-xr η p))))) rfl rfl rfl rfl O hU' (by rw[gU];exact bU)
  rw[gU]at d1 d2
  unfold mif
  rw[yk8 (t2 _ _ _) d1]
  have ex:upU s η false V U p q=if s<=xr η p-xr η q/\(V.getD p []).length<=(U.getD q []).length then V.set p (p::U.getD q [])else V:=by
   unfold upU;simp
  rw[ex]
  by_cases h:s<=xr η p-xr η q/\(V.getD p []).length<=(U.getD q []).length
  .rw[if_pos h,decide_eq_true (show s<= -(xr η q-xr η p)by omega),decide_eq_true h.2]
   exact d2
  .rw[if_neg h]
   have:(decide (s<= -(xr η q-xr η p))&&decide ((V.getD p []).length<=(U.getD q []).length))=false:=by
    rw[Bool.eq_false_iff]
    intro z
    rw[Bool.and_eq_true,decide_eq_true_eq,decide_eq_true_eq]at z
    exact h ⟨by omega,z.2⟩
   rw[this]
   rfl
end
section
open PySem L2
theorem Z2 (step:Int)(h:1<=step):Q7 [.int step]=some (.sh .non):=by
 have:¬ step<1:=by omega
 unfold Q7 b_Z13
 simp_arith [this,decide_false]
def pok (n:Nat):Int->List Int->Bool
 |_,[]=>true
 |l,p::ps=>if p<l\/(n:Int)<=p then false else pok n (p+1) ps
theorem U8 (η i:List Int):zh1 [.lst (η.map .int),.lst (i.map .int)]=some (.sh (.bl (pok η.length 0 i))):=by
 unfold zh1 b_Z15
 refine j9 ?_
 ((apply seqI;focus (simp_arith [];rfl)))
 refine K3 i (f:=D.int) (by simp_arith []) (I:=fun ps ρ=>∃ l x,ρ=[k0a η,k0a i,k0c l,x]/\pok η.length 0 i=pok η.length l ps)
  (Q:=fun o=>(∃ ρ,o= .nx ρ/\pok η.length 0 i=true)\/(o= .rt (.bl false)/\pok η.length 0 i=false)) ⟨0,none,rfl,rfl⟩ ?_ ?_ ?_
 .rintro p ps ρ ⟨l,x,rfl,e⟩
  simp only[pok]at e
  by_cases h1:p<l
  .rw[if_pos (Or.inl h1)]at e
   exact⟨_,.rt (.bl false),rfl,by unfold D4;simp_arith [length_map,h1,decide_true],Or.inr ⟨rfl,e⟩⟩
  .by_cases h2:(η.length:Int)<=p
   .rw[if_pos (Or.inr h2)]at e
    exact⟨_,.rt (.bl false),rfl,by unfold D4;simp_arith [length_map,h1,h2,decide_true,decide_false],Or.inr ⟨rfl,e⟩⟩
   .rw[if_neg (by omega)]at e
    exact⟨_,.nx _,rfl,by unfold D4;simp_arith [length_map,h1,h2,decide_true,decide_false];rfl,_,_,rfl,e⟩
 .rintro ρ ⟨l,x,rfl,e⟩
  exact Or.inl ⟨_,rfl,e⟩
 .rintro o (⟨ρ,rfl,e⟩|⟨rfl,e⟩)
  .rw[e];rfl
  .rw[e];rfl
def turn (t:Int×Int×Int):Bool:=decide (max t.1 t.2.2<t.2.1) || decide (t.2.1<min t.1 t.2.2)
def trip:List Int->List (Int×Int×Int)
 |a::b::c::r=>(a,b,c)::trip (b::c::r)
 |_=>[]
theorem zx0:∀ ns:List Int,G8 (ns.map .int) ((ns.drop 1).map .int) ((ns.drop 2).map .int)=(trip ns).map fun t=>.tup [.int t.1,.int t.2.1,.int t.2.2]
 |[]=>rfl
 |[_]=>rfl
 |[_,_]=>rfl
 |a::b::c::r=>by
  have:=zx0 (b::c::r)
  simp only[drop_succ_cons,drop_zero,map_cons]at this
  simp only[drop_succ_cons,drop_zero,map_cons,trip,G8,List.cons.injEq,true_and]
  exact this
theorem zj5 (ns:List Int):yo2 [.lst (ns.map .int)]=some (.sh (.int (((trip ns).filter turn).length:Nat))):=by
 unfold yo2 b_Z20
 refine j9 ?_
 ((apply seqI;focus (simp_arith [];rfl)))
 have h1:cutI ns (some 1) none=ns.drop 1:=M7 ns 1
 have h2:cutI ns (some 2) none=ns.drop 2:=M7 ns 2
 refine K3 (trip ns) (f:=fun t=>.tup [.int t.1,.int t.2.1,.int t.2.2]) (by simp_arith [W1,h1,h2,zx0]) (I:=fun j ρ=>∃ k:Nat,∃ x y z,ρ=[k0a ns,some (.sh (.int (k:Nat))),x,y,z]/\((trip ns).filter turn).length=k+(j.filter turn).length)
  (Q:=fun o=>∃ x y z,o= .nx [k0a ns,some (.sh (.int (((trip ns).filter turn).length:Nat))),x,y,z]) ⟨0,none,none,none,rfl,by simp⟩ ?_ ?_ ?_
 .rintro⟨a,b,c⟩ j ρ ⟨k,x,y,z,rfl,e⟩
  refine⟨_,.nx [k0a ns,some (.sh (.int ((k+if turn (a,b,c)then 1 else 0:Nat):Nat))),k0c a,k0c b,k0c c],rfl,?_,?_⟩
  .unfold za0
   by_cases i:max a c<b
   .have t:turn (a,b,c)=true:=by unfold turn;simp[i]
    simp_arith [zw1,zo1,i,decide_true,t,if_true];simp
   .by_cases q2:b<min a c
    .have t:turn (a,b,c)=true:=by unfold turn;simp[q2]
     simp_arith [zw1,zo1,i,q2,decide_true,decide_false,t,if_true];simp
    .have t:turn (a,b,c)=false:=by unfold turn;simp[i,q2]
     simp_arith [zw1,zo1,i,q2,decide_true,decide_false,t,if_true];simp
  .refine⟨_,_,_,_,rfl,?_⟩
   rw[e,filter_cons]
   split <;> simp_all <;> omega
 .rintro ρ ⟨k,x,y,z,rfl,e⟩
  exact⟨x,y,z,by rw[e];simp⟩
 .rintro o ⟨x,y,z,rfl⟩
  unfold after
  simp_arith []
def num (η:List Int)(p:Int):Int:=η.getD p.toNat 0
def Q2 (ns:List Int):List (Int×Int):=ns.zip (ns.drop 1)
def V6 (step:Int)(p:Int×Int):Bool:=decide (step<=((p.2-p.1).natAbs:Int))
def areW (η:List Int)(step:Int)(places:List Int):Bool:=
 pok η.length 0 places&&((Q2 (places.map (num η))).all (V6 step)&&decide ((((trip (places.map (num η))).filter turn).length:Int)=max 0 ((places.length:Int)-2)))
theorem ys5 {n:Nat}:∀{l:Int}{ps:List Int},0<=l->pok n l ps=true->∀ p∈ps,0<=p/\p<n
 |l,[],_,_,p,i=>by simp at i
 |l,q::ps,hl,h,p,i=>by
  simp only[pok]at h
  split at h
  .cases h
  .rename_i hn
   rcases List.mem_cons.mp i with rfl|i
   .omega
   .exact ys5 (by omega) h p i
theorem zr3:∀(i bs:List Int),List.zipWith (fun d e=>D.tup [d,e]) (i.map .int) (bs.map .int)=(i.zip bs).map fun p=>.tup [.int p.1,.int p.2]
 |[],_=>by simp
 |_::_,[]=>by simp
 |a::i,b::bs=>by simp[zr3 i bs]
theorem P5 (ns:List Int)(step:Int):zo5 [.lst (ns.map .int),.int step]=some (.sh (.bl ((Q2 ns).all (V6 step)&&decide ((((trip ns).filter turn).length:Int)=max 0 ((ns.length:Int)-2))))):=by
 unfold zo5 b_Z14
 refine j9 ?_
 have c1:cutI ns (some 1) none=ns.drop 1:=M7 _ 1
 refine K3 (Q2 ns) (f:=fun p=>.tup [.int p.1,.int p.2]) (by simp_arith [W1,c1,zr3];rfl)
  (I:=fun ps ρ=>∃ x y,ρ=[k0a ns,k0c step,x,y]/\(Q2 ns).all (V6 step)=ps.all (V6 step))
  (Q:=fun o=>(∃ x y,o= .nx [k0a ns,k0c step,x,y]/\(Q2 ns).all (V6 step)=true)\/(o= .rt (.bl false)/\(Q2 ns).all (V6 step)=false))
  ⟨none,none,rfl,rfl⟩ ?_ ?_ ?_
 .rintro⟨a,b⟩ ps ρ ⟨x,y,rfl,e⟩
  rw[all_cons]at e
  by_cases h2:((b-a).natAbs:Int)<step
  .have hf:V6 step (a,b)=false:=by unfold V6;exact decide_eq_false (by omega)
   rw[hf,Bool.false_and]at e
   exact⟨_,.rt (.bl false),rfl,by unfold zr0;simp_arith [zj2,h2,decide_true],Or.inr ⟨rfl,e⟩⟩
  .have hf:V6 step (a,b)=true:=by unfold V6;exact decide_eq_true (by omega)
   rw[hf,Bool.true_and]at e
   exact⟨_,.nx _,rfl,by unfold zr0;simp_arith [zj2,h2,decide_false];rfl,_,_,rfl,e⟩
 .rintro ρ ⟨x,y,rfl,e⟩
  exact Or.inl ⟨x,y,rfl,e⟩
 .rintro o (⟨x,y,rfl,e⟩|⟨rfl,e⟩)
  .rw[e,Bool.true_and]
   unfold after
   simp_arith [zj5,length_map,zw1]
   rfl
  .rw[e];rfl
theorem ze4 (η i:List Int)(step:Int)(h1:1<=step)(I:i.length<sizeLine):yo0 [.lst (η.map .int),.int step,.lst (i.map .int)]=some (.sh (.bl (areW η step i))):=by
 unfold yo0 b_Z26 areW
 refine j9 ?_
 refine seqI (ρ':=[k0a η,k0c step,k0a i]) (by simp_arith [Z2 step h1];rfl) ?_
 cases hp:pok η.length 0 i with
 |false=>
  simp_arith [U8,hp]
  rfl
 |true=>
  have hm:=ys5 (Int.le_refl 0) hp
  have z:l7 [none,some 0] (l6 (mvar 2)) (.nm 0) cyes (mix (bvar 1) (mvar 0)) [k0a η,k0c step,k0a i]=some ((i.map (num η)).map .int):=by
   unfold l7
   simp_arith [zs0]
   rw[j5 (f:=D.int) (G:=fun p=>D.int (num η p)) (fun ps ρ=>∃ x,ρ=[x,k0a η]/\∀ p∈ps,0<=p/\p<η.length)
    (by
     rintro p ps ρ ⟨x,rfl,hh⟩
     have:=hh p (by simp)
     exact⟨_,rfl,rfl,by simp_arith [zz5 D.int η p this.1 this.2 0];rfl,_,rfl,fun q j=>hh q (by simp[j])⟩) i _ [] ⟨none,rfl,hm⟩ (by simp;omega)]
   simp
  simp_arith [U8,hp,z,P5,length_map,Bool.true_and]
def wD:Option Bool->D
 |none=>.non
 |some b=>.bl b
def K0 (η:List Int)(step:Int):Int->Option Bool->List Int->Bool
 |_,_,[]=>true
 |last,way,p::ps=>if p<=last\/(η.length:Int)<=p then false else
  if -1<last then (if ((num η p-num η last).natAbs:Int)<step\/way=some (decide (0<num η p-num η last))then false else K0 η step p (some (decide (0<num η p-num η last))) ps)
  else K0 η step p way ps
def altW (step:Int):Option Bool->List Int->Bool
 |way,a::b::r=>if ((b-a).natAbs:Int)<step\/way=some (decide (0<b-a))then false else altW step (some (decide (0<b-a))) (b::r)
 |_,_=>true
theorem zx2 (η:List Int)(step:Int):∀(ps:List Int)(last:Int)(way:Option Bool),0<=last->K0 η step last way ps=(pok η.length (last+1) ps&&altW step way (num η last::ps.map (num η)))
 |[],last,way,h=>by simp[K0,pok,altW]
 |p::ps,last,way,h=>by
  simp only[K0,pok,altW,map_cons]
  by_cases h1:p<=last\/(η.length:Int)<=p
  .rw[if_pos h1,if_pos (by omega)];rfl
  .rw[if_neg h1,if_pos (show -1<last by omega),if_neg (show ¬ (p<last+1\/(η.length:Int)<=p)by omega)]
   by_cases h2:((num η p-num η last).natAbs:Int)<step\/way=some (decide (0<num η p-num η last))
   .rw[if_pos h2,if_pos h2,Bool.and_false]
   .rw[if_neg h2,if_neg h2,zx2 η step ps p _ (by omega)]
theorem zj3 (η:List Int)(step:Int)(ps:List Int):K0 η step (-1) none ps=(pok η.length 0 ps&&altW step none (ps.map (num η))):=by
 cases ps with
 |nil=>rfl
 |cons p ps=>
  simp only[K0,pok,map_cons]
  by_cases h1:p<= -1\/(η.length:Int)<=p
  .rw[if_pos h1,if_pos (by omega)];rfl
  .rw[if_neg h1,if_neg (show ¬ (-1:Int) < -1 by omega),if_neg (show ¬ (p<0\/(η.length:Int)<=p)by omega),zx2 η step ps p none (by omega)]
theorem P7:∀ ns:List Int,(trip ns).length=ns.length-2
 |[]=>rfl
 |[_]=>rfl
 |[_,_]=>rfl
 |a::b::c::r=>by
  have:=P7 (b::c::r)
  simp only[trip,length_cons]at this ⊢
  omega
theorem zw3 (i:List (Int×Int×Int))(n:Nat)(h:i.length=n-2):decide (((i.filter turn).length:Int)=max 0 ((n:Int)-2))=i.all turn:=by
 have e:max 0 ((n:Int)-2)=(i.length:Int):=by omega
 rw[e]
 have:((((i.filter turn).length:Int)=(i.length:Int))↔i.all turn=true):=by
  rw[Int.natCast_inj,length_filter_eq_length_iff,all_eq_true]
 cases h2:i.all turn with
 |true=>exact decide_eq_true (this.mpr h2)
 |false=>exact decide_eq_false fun j=>by rw[this.mp j]at h2;cases h2
theorem zj0 (step:Int)(j:1<=step):∀(r:List Int)(a b:Int),step<=((b-a).natAbs:Int)->altW step (some (decide (0<b-a))) (b::r)=((Q2 (b::r)).all (V6 step)&&(trip (a::b::r)).all turn)
 |[],a,b,h=>by simp[altW,Q2,trip]
 |c::r,a,b,h=>by
  have i:=zj0 step j r b c
  have q:Q2 (b::c::r)=(b,c)::Q2 (c::r):=by simp[Q2]
  simp only[altW,q,trip,all_cons]
  by_cases h1:((c-b).natAbs:Int)<step
  .rw[if_pos (Or.inl h1)]
   have:V6 step (b,c)=false:=by unfold V6;exact decide_eq_false (by simp only;omega)
   rw[this];rfl
  .have hf:V6 step (b,c)=true:=by unfold V6;exact decide_eq_true (by simp only;omega)
   rw[hf,Bool.true_and]
   by_cases h2:some (decide (0<b-a))=some (decide (0<c-b))
   .rw[if_pos (Or.inr h2)]
    have z:(0<b-a)↔(0<c-b):=by simpa using h2
    have:turn (a,b,c)=false:=by unfold turn;simp only[Bool.or_eq_false_iff,decide_eq_false_iff_not];omega
    rw[this,Bool.false_and,Bool.and_false]
   .rw[if_neg (by simp only[h1,h2,or_self,not_false_eq_true]),i (by omega)]
    have z:¬ ((0<b-a)↔(0<c-b)):=by simpa using h2
    have:turn (a,b,c)=true:=by
     unfold turn
     simp only[Bool.or_eq_true,decide_eq_true_eq]
     omega
    rw[this,Bool.true_and]
theorem zj1 (step:Int)(i:1<=step)(ns:List Int):altW step none ns=((Q2 ns).all (V6 step)&&(trip ns).all turn):=by
 match ns with
 |[]=>rfl
 |[a]=>simp[altW,Q2,trip]
 |a::b::r=>
  have j:Q2 (a::b::r)=(a,b)::Q2 (b::r):=by simp[Q2]
  simp only[altW,j,all_cons]
  by_cases h1:((b-a).natAbs:Int)<step
  .rw[if_pos (Or.inl h1)]
   have:V6 step (a,b)=false:=by unfold V6;exact decide_eq_false (by simp only;omega)
   rw[this];rfl
  .have hf:V6 step (a,b)=true:=by unfold V6;exact decide_eq_true (by simp only;omega)
   rw[if_neg (by simp[h1]),hf,Bool.true_and,zj0 step i r a b (by omega)]
theorem xo8 (η i:List Int)(step:Int)(j:1<=step):areW η step i=K0 η step (-1) none i:=by
 unfold areW
 rw[zj3,zj1 step j,zw3 _ i.length (by rw[P7];simp)]
def NI (cs:List Nat):List Int:=cs.map fun(c:Nat)=>(c:Int)
theorem yq8 (η:List Int)(p:Nat):num η (p:Int)=xr η p:=by unfold num;rw[Int.toNat_natCast]
theorem ym4 {s:Int}(i:1<=s){d:Bool}{a b:Int}(h:far s d a b):¬ ((b-a).natAbs:Int)<s/\decide (0<b-a)=d:=by
 unfold far at h
 cases d
 .simp only[Bool.false_eq_true,if_false]at h
  exact⟨by omega,decide_eq_false (by omega)⟩
 .simp only[if_true]at h
  exact⟨by omega,decide_eq_true (by omega)⟩
theorem yw1 {s:Int}{a b:Int}(h:¬ ((b-a).natAbs:Int)<s):far s (decide (0<b-a)) a b:=by
 unfold far
 by_cases z:0<b-a
 .rw[decide_eq_true z];simp;omega
 .rw[decide_eq_false z];simp;omega
theorem ze9 (η:List Int)(s:Int)(i:1<=s):∀(l:List Nat)(p:Nat)(d:Bool)(w:Option Bool),Wd (xr η) η.length s d (p::l)->w≠some d->K0 η s (p:Int) w (NI l)=true
 |[],p,d,w,_,_=>rfl
 |q::l,p,d,w,h,hw=>by
  have I:=h.2.2.lt
  have h1:=h.1
  obtain⟨G,j⟩:=ym4 i h.2.1
  show K0 η s (p:Int) w ((q:Int)::NI l)=true
  rw[K0,if_neg (by omega),if_pos (by omega),yq8,yq8,j,if_neg (by rintro(z|z);exact G z;exact hw z)]
  exact ze9 η s i l q (!d) (some d) h.2.2 (by cases d <;> simp)
theorem xo7 (η:List Int)(s:Int)(i:1<=s)(l:List Nat)(h:Wv (xr η) η.length s l):areW η s (NI l)=true:=by
 rw[xo8 η (NI l) s i]
 rcases h with rfl|⟨d,h⟩
 .rfl
 .cases l with
  |nil=>exact h.elim
  |cons p l=>
   have j:=h.lt
   show K0 η s (-1) none ((p:Int)::NI l)=true
   rw[K0,if_neg (by omega),if_neg (by omega)]
   exact ze9 η s i l p d none h (by simp)
end
section
open PySem L2
abbrev BT (η:List Int)(s:Int)(d:Bool)(p t:Nat):List Nat->Prop:=Best (From (xr η) η.length s d p t)
theorem BT.len {η:List Int}{s:Int}{d:Bool}{p t:Nat}{l:List Nat}(h:BT η s d p t l):l.length<=η.length:=by
 rcases h.1.2 with e|⟨q,m,e,_⟩
 .rw[e]at h ⊢
  have:=h.1.1.lt
  simp;omega
 .rw[e]at h ⊢
  have:=h.1.1.len
  simp at this ⊢;omega
def Done (η:List Int)(s:Int)(p:Nat)(U V:List (List Nat)):Prop:=∀ q,p<=q->q<η.length->BT η s true q η.length (U.getD q [])/\BT η s false q η.length (V.getD q [])
def Yet (p:Nat)(U V:List (List Nat)):Prop:=∀ q,q<p->U.getD q []=[q]/\V.getD q []=[q]
theorem xz1 (s:Int)(η:List Int)(d:Bool)(U V:List (List Nat))(p q:Nat)(j:p<U.length):(upU s η d U V p q).getD p []=if far s d (xr η p) (xr η q)/\(U.getD p []).length<=(V.getD q []).length then p::V.getD q []else U.getD p []:=by
 unfold upU far
 by_cases i:((if d then s<=xr η q-xr η p else s<=xr η p-xr η q)/\(U.getD p []).length<=(V.getD q []).length)
 .rw[if_pos i,if_pos i,A7 _ _ _ j]
 .rw[if_neg i,if_neg i]
theorem yx8 (η:List Int)(s:Int)(U V:List (List Nat))(p k:Nat)(z:U.length=η.length)(j:V.length=η.length)(i:p+1+k<η.length)(hd:Done η s (p+1) U V)
  (h1:BT η s true p (p+k) (U.getD p [])) (h2:BT η s false p (p+k) (V.getD p [])):
  BT η s true p (p+(k+1)) ((upU s η true U V p (p+1+k)).getD p [])/\BT η s false p (p+(k+1)) ((upU s η false V U p (p+1+k)).getD p []):=by
 obtain⟨a,b⟩:=hd (p+1+k) (by omega) i
 rw[xz1 _ _ _ _ _ _ _ (by omega),xz1 _ _ _ _ _ _ _ (by omega)]
 have e:p+(k+1)=p+1+k:=by omega
 rw[e]
 constructor
 .exact zn6 (q:=p+1+k) (by omega) (zn7 h1 (by omega)) b _
 .exact zn6 (q:=p+1+k) (by omega) (zn7 h2 (by omega)) a _
theorem yx9 (η:List Int)(s:Int)(hr:η.length<=300)(U V:List (List Nat))(p:Nat)(O:p<η.length)(N:U.length=η.length)(M:V.length=η.length)(hd:Done η s (p+1) U V)(L:Yet (p+1) U V)(J G:Option S)(Q:Out->Prop)
  (hQ:∀ U V J G,U.length=η.length->V.length=η.length->Done η s p U V->Yet p U V->Q (.nx (envU η s U V (k0b p) J G))):
  Run zs7 (envU η s U V (k0b p) J G) Q:=by
 unfold zs7
 have k1:okR ((p:Int)+1)=true:=X5 (by omega) (by omega)
 have k2:okR (η.length:Int)=true:=X5 (by omega) (by omega)
 have er:T3 ((p:Int)+1) ((η.length:Int)-((p:Int)+1)).toNat=(List.range (η.length-(p+1))).map fun(j:Nat)=>D.int ((p+1+j:Nat):Int):=by
  rw[K4,show ((η.length:Int)-((p:Int)+1)).toNat=η.length-(p+1)by omega]
  apply map_congr_left
  intro i _
  congr 1
 refine X6 (η.length-(p+1)) (f:=fun(j:Nat)=>D.int ((p+1+j:Nat):Int)) (by unfold envU;simp_arith [length_map,yt2 k1 k2,er])
  (I:=fun k ρ=>∃ U V J G,U.length=η.length/\V.length=η.length/\Done η s (p+1) U V/\Yet p U V/\BT η s true p (p+k) (U.getD p [])/\BT η s false p (p+k) (V.getD p [])/\ρ=envU η s U V (k0b p) J G) _
  ⟨U,V,J,G,N,M,hd,fun q hq=>L q (by omega),by rw[(L p (by omega)).1];exact zb2 O,by rw[(L p (by omega)).2];exact zb2 O,rfl⟩ ?_ ?_
 .rintro k ρ hk ⟨U,V,J,G,N,M,hd,L,h1,h2,rfl⟩
  refine⟨_,rfl,?_⟩
  obtain⟨a,b⟩:=hd (p+1+k) (by omega) (by omega)
  have la:=a.len
  have lb:=b.len
  obtain⟨Y,e⟩:=za8 η s U V p (p+1+k) G N M O (by omega) (by omega) (by omega) (by omega)
  obtain⟨n1,Z⟩:=yx8 η s U V p k N M (by omega) hd h1 h2
  refine⟨_,e,upU s η true U V p (p+1+k),upU s η false V U p (p+1+k),_,_,by rw[zj4];exact N,by rw[zj4];exact M,?_,?_,n1,Z,rfl⟩
  .intro q h1 h2
   rw[zr9 _ _ _ _ _ _ _ _ (by omega),zr9 _ _ _ _ _ _ _ _ (by omega)]
   exact hd q h1 h2
  .intro q h1
   rw[zr9 _ _ _ _ _ _ _ _ (by omega),zr9 _ _ _ _ _ _ _ _ (by omega)]
   exact L q h1
 .rintro ρ ⟨U,V,J,G,N,M,hd,L,h1,h2,rfl⟩
  refine hQ U V J G N M (fun q h3 h4=>?_) L
  rcases Nat.lt_or_ge p q with z|z
  .exact hd q (by omega) h4
  .have:q=p:=by omega
   subst this
   exact⟨zb3 h1 (by omega),zb3 h2 (by omega)⟩
theorem xv3 {j:Int}(h:okR j=true):rngD [.int j]=some (zm3 j.toNat):=by
 unfold rngD
 simp only[h,if_true]
theorem yq4 (η:List Int)(z:η.length<=300)(ρ:Ro)(i:bvar 0 ρ=some (η.map .int)):l7 [none] (l5 rng1 (z8 (mlen (bvar 0)) anil)) (.nm 0) cyes (mlst (m5 (z8 (mvar 0) anil))) ρ=some (((List.range η.length).map fun j=>[j]).map L):=by
 have k2:okR (η.length:Int)=true:=X5 (by omega) (by omega)
 have i1:0+1<=sizeLine:=t8 (by decide)
 have q:l5 rng1 (z8 (mlen (bvar 0)) anil) ρ=some ((List.range η.length).map dN):=by
  unfold l5
  rw[z9 (j0 i) w6,Option.bind_some,length_map,U3 k2,Int.toNat_natCast,X1,map_map]
  rfl
 unfold l7
 rw[q]
 refine(j5 (f:=dN) (G:=fun j=>L [j]) (fun _ ρ=>∃ x,ρ=[x]) (by
  rintro d ds ρ ⟨x,rfl⟩
  exact⟨[some (.sh (dN d))],rfl,rfl,by rw[t6 (l8 (z9 (x:=mvar 0) (d:=dN d) rfl w6) i1)];rfl,_,rfl⟩) (List.range η.length) _ [] ⟨none,rfl⟩ (t8 (by simp;omega))).trans ?_
 rw[map_map]
 rfl
theorem yh7 (η:List Int)(s:Int)(O:η.length<=300):∃ U V:List (List Nat),yd2 [.lst (η.map .int),.int s]=some (.sh (.tup [.lst (U.map L),.lst (V.map L)]))/\U.length=η.length/\V.length=η.length/\Done η s 0 U V:=by
 suffices h:∃ d,runB 7 b_Z31 [.lst (η.map .int),.int s]=some (.sh d)/\∃ U V:List (List Nat),d= .tup [.lst (U.map L),.lst (V.map L)]/\U.length=η.length/\V.length=η.length/\Done η s 0 U V by
  obtain⟨d,e,U,V,rfl,a,b,c⟩:=h
  exact⟨U,V,e,a,b,c⟩
 suffices h:Run b_Z31 (f7 7 [.lst (η.map .int),.int s]) (fun o=>∃ U V:List (List Nat),o= .rt (.tup [.lst (U.map L),.lst (V.map L)])/\U.length=η.length/\V.length=η.length/\Done η s 0 U V)by
  obtain⟨o,e,U,V,rfl,r⟩:=h
  exact⟨_,j9 e,U,V,rfl,r⟩
 unfold b_Z31
 have k2:okR (η.length:Int)=true:=X5 (by omega) (by omega)
 have i2:0+1+1<=sizeLine:=t8 (by decide)
 refine m7 (ρ':=[k0a η,k0c s,some (.own (((List.range η.length).map fun j=>[j]).map L)),none,none,none,none]) (by unfold Y9;rw[yq4 η O _ rfl];rfl) ?_
 refine m7 (ρ':=envU η s ((List.range η.length).map fun j=>[j]) ((List.range η.length).map fun j=>[j]) none none none) (by unfold Y9;rw[yq4 η O _ rfl];rfl) ?_
 have Z:zm3 η.length=(List.range η.length).map fun(j:Nat)=>D.int ((η.length:Int)-1-(j:Int)):=rfl
 have one:∀ q,q<η.length->((List.range η.length).map fun j=>[j]).getD q []=[q]:=by
  intro q Y
  rw[getD_eq_getElem?_getD,getElem?_map,getElem?_range Y];rfl
 refine U2 (X6 η.length (f:=fun(j:Nat)=>D.int ((η.length:Int)-1-(j:Int))) ?_
  (I:=fun j ρ=>∃ U V N z i,U.length=η.length/\V.length=η.length/\Done η s (η.length-j) U V/\Yet (η.length-j) U V/\ρ=envU η s U V N z i) _
  ⟨_,_,_,_,_,by simp,by simp,fun q h1 h2=>by omega,fun q h1=>⟨one q (by omega),one q (by omega)⟩,rfl⟩ ?_ ?_)
 .unfold l5
  rw[z9 (x:=mlen (bvar 0)) (d:=.int ((η.map D.int).length:Int)) (j0 rfl) w6,Option.bind_some,length_map,xv3 k2,Int.toNat_natCast,Z]
 .rintro j ρ hj ⟨U,V,N,z,i,M,J,hd,G,rfl⟩
  refine⟨_,rfl,?_⟩
  have e:(η.length:Int)-1-(j:Int)=((η.length-1-j:Nat):Int):=by omega
  rw[e]
  have S:η.length-1-j+1=η.length-j:=by omega
  refine yx9 η s O U V (η.length-1-j) (by omega) M J (by rw[S];exact hd) (by rw[S];exact G) z i _ fun U V z i M J hd G=>?_
  rw[show η.length-1-j=η.length-(j+1)by omega]at hd G
  exact⟨U,V,_,_,_,M,J,hd,G,rfl⟩
 .rintro ρ ⟨U,V,N,z,i,M,J,hd,G,rfl⟩
  rw[Nat.sub_self]at hd
  unfold zb8
  refine W8 (ds:=U.map L) rfl (W8 (ds:=V.map L) rfl ⟨_,?_,U,V,rfl,M,J,hd⟩)
  unfold envU
  simp_arith [i2,if_true]
theorem xy6 (l:List Nat):m_Z7 [L l]=some (.sh (Ky l)):=by
 unfold m_Z7 b_Z7
 have i2:0+1+1<=sizeLine:=t8 (by decide)
 refine j9 ?_
 unfold L
 simp_arith [i2,if_true,length_map]
 rfl
theorem zc5 {U:List (List Nat)}{m:List Nat}(h:m∈U):∃ q,q<U.length/\m=U.getD q []:=by
 obtain⟨q,i,e⟩:=getElem_of_mem h
 exact⟨q,i,by rw[getD_eq_getElem?_getD,getElem?_eq_getElem i,<-e];rfl⟩
theorem zb1 {U:List (List Nat)}{q:Nat}(h:q<U.length):U.getD q []∈U:=by
 rw[getD_eq_getElem?_getD,getElem?_eq_getElem h];exact getElem_mem h
theorem yx5 (η:List Int)(s:Int)(N:1<=s)(O:η.length<=300):∃ l,yx3 [.lst (η.map .int),.int s]=some (.sh (L l))/\Best (Wv (xr η) η.length s) l:=by
 obtain⟨U,V,Y,hU,hV,hd⟩:=yh7 η s O
 have J:0<=sizeLine:=Nat.zero_le _
 have ek:∀ l,shOf (m_Z7 [L l])=some (Ky l):=fun l=>by rw[xy6];rfl
 have i:∃ l,minD (fun d=>shOf (m_Z7 [d])) ((U++V).map L) (.lst [])=some (L l)/\Best (Wv (xr η) η.length s) l:=by
  cases hc:U++V with
  |nil=>
   have:η.length=0:=by
    have:=congrArg List.length hc
    rw[length_append,length_nil]at this
    omega
   exact⟨[],rfl,yj7 this⟩
  |cons b j=>
   obtain⟨r,e,h1,h2⟩:=E8 (mk:=fun d=>shOf (m_Z7 [d])) ek j b
   refine⟨r,?_,?_⟩
   .show (match shOf (m_Z7 [L b])with |some I=>minF _ (j.map L) (L b) I|none=>none)=_
    rw[ek b]
    exact e
   .rw[<-hc]at h1 h2
    have all:∀ m∈U++V,∃ d q,BT η s d q η.length m:=by
     intro m hm
     rcases List.mem_append.mp hm with h|h
     .obtain⟨q,hq,rfl⟩:=zc5 h
      exact⟨true,q,(hd q (Nat.zero_le _) (by omega)).1⟩
     .obtain⟨q,hq,rfl⟩:=zc5 h
      exact⟨false,q,(hd q (Nat.zero_le _) (by omega)).2⟩
    refine yb8 h1 h2 (fun m hm=>?_) (fun d p G=>?_) ?_
    .obtain⟨d,q,h⟩:=all m hm
     exact .inr ⟨d,h.1.1⟩
    .cases d
     .exact⟨_,mem_append_right _ (zb1 (q:=p) (by omega)),(hd p (Nat.zero_le _) G).2⟩
     .exact⟨_,mem_append_left _ (zb1 (q:=p) (by omega)),(hd p (Nat.zero_le _) G).1⟩
    .obtain⟨d,q,h⟩:=all r h1
     intro z
     rw[z]at h
     exact h.1.1
 obtain⟨l,e,S⟩:=i
 refine⟨l,?_,S⟩
 unfold yx3 b_Z30
 refine E6 ?_
 ((apply m7;focus (simp_arith [Z2 s N];rfl)))
 refine m7 (ρ':=[k0a η,k0c s,some (.sh (.lst (U.map L))),some (.sh (.lst (V.map L)))]) ?_ ?_
 .unfold masg
  rw[m6 (z9 (d:=.lst (η.map .int)) rfl (z9 (d:=.int s) rfl w6)) Y]
  rfl
 .refine⟨_,?_,rfl⟩
  have e1:l6 (m2 addD (mvar 2) (mvar 3)) [k0a η,k0c s,some (.sh (.lst (U.map L))),some (.sh (.lst (V.map L)))]=some ((U++V).map L):=by
   have M:(U.map L).length+(V.map L).length<=sizeLine:=t8 (by simp;omega)
   refine j1 ?_
   unfold m2
   show (if (U.map L).length+(V.map L).length<=sizeLine then some (D.lst (U.map L++V.map L))else none)=_
   rw[if_pos M,map_append]
  have Z:mlst (m5 anil) [k0a η,k0c s,some (.sh (.lst (U.map L))),some (.sh (.lst (V.map L)))]=some (.lst []):=t6 (l8 w6 J)
  unfold mret
  rw[zc4 e1 Z,e]
  rfl
theorem zh4 (η:List Int)(s:Int)(l:List Nat)(h:yx3 [.lst (η.map .int),.int s]=some (.sh (L l))):yo1 [.lst (η.map .int),.int s]=some (.sh (.int (l.length:Int))):=by
 unfold yo1 b_Z22
 refine j9 ?_
 unfold mret
 rw[j0 (j1 (ds:=l.map dN) (m6 (z9 (d:=.lst (η.map .int)) rfl (z9 (d:=.int s) rfl w6)) h)),length_map]
 rfl
end
section
open PySem L2
variable {x:Nat->Int}{n:Nat}{s:Int}
theorem yi6 (l:List Nat)(h:l≠[]):d4 [] l=false:=by
 cases l with
 |nil=>exact absurd rfl h
 |cons a l=>
  cases e:d4 [] (a::l)with
  |false=>rfl
  |true=>
   rw[c0]at e
   simp only[length_nil,length_cons]at e
   omega
theorem ahead_false {a b:List Nat}:d4 a b=false↔a=b\/d4 b a=true:=by
 constructor
 .intro h
  rcases zz6 a b with z|z|z
  .exact .inl z
  .rw[h]at z;cases z
  .exact .inr z
 .rintro(z|z)
  .rw[z];exact R3 _
  .cases e:d4 a b with
   |false=>rfl
   |true=>have:=X9 e z;rw[R3]at this;cases this
theorem D6 {a b c:List Nat}(h1:d4 a b=false)(h2:d4 b c=false):d4 a c=false:=by
 rw[ahead_false]at*
 rcases h1 with rfl|h1
 .exact h2
 .rcases h2 with rfl|h2
  .exact .inr h1
  .exact .inr (X9 h2 h1)
def fl:List (List Nat)->List Nat->List Nat
 |[],b=>b
 |m::ls,b=>if b.length<m.length then fl ls m else fl ls b
def flD:List (List Nat)->List Nat
 |[]=>[]
 |m::ls=>fl ls m
theorem yd3 {a b:Nat}{l m:List Nat}(h:a<b):lx (a::l) (b::m)=true:=by
 unfold lx;simp[h]
end
section
open PySem L2
theorem zo6 {f:D->D->Option D}{x y:ME}{ρ:Ro}{a b:D}(h1:x ρ=some a)(h2:y ρ=some b):m2 f x y ρ=f a b:=by
 unfold m2;rw[h1,h2];rfl
theorem U5 {i:Type}(f:Nat->i)(j:Nat):(List.range (j+1)).map f=(List.range j).map f++[f j]:=by
 rw[range_succ,map_append];rfl
def abv (η:List Int)(s:Int)(d:Bool)(p:Nat):List Nat:=((List.range (η.length-(p+1))).map fun j=>p+1+j).filter fun q=>decide (far s d (xr η p) (xr η q))
theorem abv_mem {η:List Int}{s:Int}{d:Bool}{p q:Nat}:q∈abv η s d p↔p<q/\q<η.length/\far s d (xr η p) (xr η q):=by
 unfold abv
 rw[mem_filter,mem_map,decide_eq_true_eq]
 constructor
 .rintro⟨⟨j,hj,rfl⟩,h⟩
  have:=List.mem_range.mp hj
  exact⟨by omega,by omega,h⟩
 .rintro⟨h1,h2,h3⟩
  exact⟨⟨q-(p+1),List.mem_range.mpr (by omega),by omega⟩,h3⟩
theorem zr2 (η:List Int)(s:Int)(d:Bool)(p:Nat):(abv η s d p).length<=η.length:=by
 unfold abv
 refine Nat.le_trans (length_filter_le _ _) ?_
 rw[length_map,length_range];omega
def zm1 (η:List Int)(s:Int)(A B:List (List Nat))(o4 o5:Option S):Ro:=[k0a η,k0c s,some (.own (A.map L)),some (.own (B.map L)),o4,o5]
theorem yg7 (η:List Int)(p:Nat)(q:η.length<=300)(z:p<η.length):T3 ((p:Int)+1) ((η.length:Int)-((p:Int)+1)).toNat=((List.range (η.length-(p+1))).map fun j=>p+1+j).map dN:=by
 rw[K4,show ((η.length:Int)-((p:Int)+1)).toNat=η.length-(p+1)by omega,map_map]
 apply map_congr_left
 intro i _
 show D.int _=D.int _
 congr 1
theorem za3 (η:List Int)(s:Int)(d:Bool)(p:Nat)(I:η.length<=300)(M:p<η.length)(A B:List (List Nat))(i:MB)
  (L:∀ q:Nat,q<η.length->i [some (.sh (dN q)),k0c s,some (.sh (.int (xr η p))),k0a η]=some (decide (far s d (xr η p) (xr η q)))):
  l7 [none,some 1,some 5,some 0] (l5 rng2 (z8 (m2 addD (mvar 4) (mc (.int 1))) (z8 (mlen (bvar 0)) anil))) (.nm 0) i (mvar 0) (zm1 η s A B (k0b p) (some (.sh (.int (xr η p)))))=some ((abv η s d p).map dN):=by
 have k1:okR ((p:Int)+1)=true:=X5 (by omega) (by omega)
 have k2:okR (η.length:Int)=true:=X5 (by omega) (by omega)
 have O:l5 rng2 (z8 (m2 addD (mvar 4) (mc (.int 1))) (z8 (mlen (bvar 0)) anil)) (zm1 η s A B (k0b p) (some (.sh (.int (xr η p)))))=some (((List.range (η.length-(p+1))).map fun j=>p+1+j).map dN):=by
  unfold zm1
  simp_arith [length_map,yt2 k1 k2,yg7 η p I M]
 unfold l7
 rw[O,Option.bind_some]
 show U6 _ _ _ _ [none,k0c s,some (.sh (.int (xr η p))),k0a η] []=_
 rw[W3 (f:=dN) (p:=fun q=>decide (far s d (xr η p) (xr η q))) (G:=dN) (fun J ρ=>(∀ q∈J,q<η.length)/\∃ o,ρ=[o,k0c s,some (.sh (.int (xr η p))),k0a η])
  (by
   rintro q J ρ ⟨z,o,rfl⟩
   exact⟨_,rfl,L q (z q (by simp)),fun _=>rfl,fun r I=>z r (by simp[I]),_,rfl⟩) _ _ [] ⟨fun q z=>by
    obtain⟨j,N,rfl⟩:=List.mem_map.mp z
    have:=List.mem_range.mp N
    omega,_,rfl⟩ (t8 (by simp;omega)),nil_append]
 rfl
theorem zy6 (η:List Int)(s:Int)(S:η.length<=300):m_Z9 [.lst (η.map .int),.int s]=some (.sh (.tup [.lst (((List.range η.length).map (abv η s true)).map L),.lst (((List.range η.length).map (abv η s false)).map L)])):=by
 unfold m_Z9 b_Z9
 refine E6 ?_
 have a0:=j6
 have O:0<=sizeLine:=Nat.zero_le _
 have i2:2<=sizeLine:=t8 (by decide)
 refine m7 (ρ':=[k0a η,k0c s,some (.own []),none,none,none]) (by unfold Y9;rw[l8 w6 O];rfl) ?_
 refine m7 (ρ':=zm1 η s [] [] none none) (by unfold Y9;rw[l8 w6 O];rfl) ?_
 have Z:l5 yw4 (z8 (mvar 0) anil) (zm1 η s [] [] none none)=some ((List.range η.length).map fun(i:Nat)=>D.tup [.int (i:Int),.int (xr η i)]):=by
  unfold l5
  rw[z9 (x:=mvar 0) (d:=.lst (η.map .int)) rfl w6,Option.bind_some]
  show some (J4 0 (η.map .int))=_
  rw[zz0]
  congr 1
  apply map_congr_left
  intro i _
  rw[Nat.zero_add]
 refine U2 (X6 η.length (f:=fun(i:Nat)=>D.tup [.int (i:Int),.int (xr η i)]) Z
  (I:=fun j ρ=>∃ N J,ρ=zm1 η s ((List.range j).map (abv η s true)) ((List.range j).map (abv η s false)) N J) _ ⟨_,_,rfl⟩ ?_ ?_)
 .rintro j ρ hj ⟨N,J,rfl⟩
  refine⟨zm1 η s ((List.range j).map (abv η s true)) ((List.range j).map (abv η s false)) (k0b j) (some (.sh (.int (xr η j)))),rfl,?_⟩
  unfold yj9
  have U:∀ q:Nat,q<η.length->mix (bvar 3) (mvar 0) [some (.sh (dN q)),k0c s,some (.sh (.int (xr η j))),k0a η]=some (.int (xr η q)):=fun q z=>V4 rfl rfl (zk7 η q z)
  have c1:=za3 η s true j S hj ((List.range j).map (abv η s true)) ((List.range j).map (abv η s false)) (l0 (m2 geD (m2 subD (mix (bvar 3) (mvar 0)) (mvar 2)) (mvar 1))) (fun q z=>by
   rw[zx4 ((zo6 (U q z) rfl).trans (show subD (.int (xr η q)) (.int (xr η j))=some (.int (xr η q-xr η j))from rfl)) rfl]
   unfold far;simp)
  have c2:=za3 η s false j S hj ((List.range (j+1)).map (abv η s true)) ((List.range j).map (abv η s false)) (l0 (m2 geD (m2 subD (mvar 2) (mix (bvar 3) (mvar 0))) (mvar 1))) (fun q z=>by
   rw[zx4 ((zo6 (show mvar 2 _=some (.int (xr η j))from rfl) (U q z)).trans (show subD (.int (xr η j)) (.int (xr η q))=some (.int (xr η j-xr η q))from rfl)) rfl]
   unfold far;simp)
  have G:∀(ρ:Ro)(i:Nat)(M:List (List Nat))(m:ML)(l:List Nat),ρ[i]? =some (some (.own (M.map L)))->m ρ=some (l.map dN)->M.length<sizeLine->mapp i (mlst m) ρ=some (.nx (ρ.set i (some (.own ((M++[l]).map L))))):=by
   intro ρ i M m l h1 h2 Y
   unfold mapp
   rw[h1,t6 h2]
   show (some (D.lst (l.map dN))).bind (fun d=>if (M.map L).length<sizeLine then some (Out.nx (ρ.set i (some (.own (M.map L++[d])))))else none)=_
   rw[Option.bind_some,if_pos (by rw[length_map];exact Y),map_append]
   rfl
  refine m7 (ρ':=zm1 η s ((List.range (j+1)).map (abv η s true)) ((List.range j).map (abv η s false)) (k0b j) (some (.sh (.int (xr η j))))) ?_ ?_
  .rw[G _ 2 _ _ _ rfl c1 (by simp;omega),<-U5]
   rfl
  .refine⟨_,G _ 3 _ _ _ rfl c2 (by simp;omega),?_⟩
   rw[<-U5]
   exact⟨_,_,rfl⟩
 .rintro ρ ⟨N,J,rfl⟩
  unfold yj8
  refine W8 (ds:=((List.range η.length).map (abv η s false)).map L) rfl (W8 (ds:=((List.range η.length).map (abv η s true)).map L) rfl ⟨_,S7 (zt2 (z9 (d:=.lst (((List.range η.length).map (abv η s true)).map L)) rfl (z9 (d:=.lst (((List.range η.length).map (abv η s false)).map L)) rfl w6)) i2),rfl⟩)
end
section
open PySem L2
theorem zi6:∀(i:List (List Nat))(b:List Nat),maxF (i.map L) (L b) (.int (b.length:Int))=some (L (fl i b))
 |[],b=>rfl
 |m::i,b=>by
  rw[map_cons]
  unfold maxF
  have e:G2 (L m)=some (.int (m.length:Int)):=by
   show some (D.int ((m.map dN).length:Int))=_
   rw[length_map]
  rw[e]
  show (match some (decide ((m.length:Int)>(b.length:Int)))with |some true=>_|some false=>_|none=>_)=_
  unfold fl
  by_cases h:b.length<m.length
  .rw[if_pos h,decide_eq_true (by omega)]
   exact zi6 i m
  .rw[if_neg h,decide_eq_false (by omega)]
   exact zi6 i b
theorem xr8 (i:List (List Nat)):maxD (i.map L) (.lst [])=some (L (flD i)):=by
 cases i with
 |nil=>rfl
 |cons m i=>
  show (match G2 (L m)with |some j=>maxF (i.map L) (L m) j|none=>none)=_
  have e:G2 (L m)=some (.int (m.length:Int)):=by
   show some (D.int ((m.map dN).length:Int))=_
   rw[length_map]
  rw[e]
  exact zi6 i m
theorem V5 (R:List (List Nat))(i:List Nat)(J:i.length<=1000)(z:∀ q∈i,q<R.length):m_Z2 [.lst (R.map L),.lst (i.map dN)]=some (.sh (L (flD (i.map fun q=>R.getD q [])))):=by
 unfold m_Z2 b_Z2
 refine j9 ?_
 have I:l7 [none,some 0] (l6 (mvar 1)) (.nm 0) cyes (mix (bvar 1) (mvar 0)) (f7 2 [.lst (R.map L),.lst (i.map dN)])=some ((i.map fun q=>R.getD q []).map L):=by
  unfold l7
  rw[j1 (m:=mvar 1) (ds:=i.map dN) rfl,Option.bind_some]
  refine(j5 (f:=dN) (G:=fun q=>L (R.getD q [])) (fun ks ρ=>(∀ q∈ks,q<R.length)/\∃ o,ρ=[o,some (.sh (.lst (R.map L)))]) (by
   rintro q ks ρ ⟨h,o,rfl⟩
   exact⟨[some (.sh (dN q)),some (.sh (.lst (R.map L)))],rfl,rfl,V4 (m:=bvar 1) rfl rfl (at_L R q (h q (by simp))),fun r j=>h r (by simp[j]),_,rfl⟩) i _ [] ⟨z,none,rfl⟩ (t8 (by simp;omega))).trans ?_
  rw[nil_append,map_map]
  rfl
 unfold mret
 rw[yx0 I (t6 (l8 w6 (Nat.zero_le _))),xr8]
 rfl
theorem xo3 {i:Nat}{m:ME}{ρ:Ro}{ds:List D}{d:D}(h:ρ[i]? =some (some (.own ds)))(h2:m (ρ.set i (some (.sh (.lst ds))))=some d)(j:yh6 ds d=true):zi5 i m ρ=some d:=by
 unfold zi5
 rw[h]
 simp only[h2,j,if_true]
theorem xr1 (l:List Nat):zp8 (l.map dN)=true:=by
 induction l with
 |nil=>rfl
 |cons a l i=>exact i
theorem xm1 (R:List (List Nat))(l:List Nat)(h:R≠[]):yh6 (R.map L) (L l)=true:=by
 cases R with
 |nil=>exact absurd rfl h
 |cons a R=>
  show (zp8 (l.map dN)&&true)=true
  rw[xr1];rfl
theorem yu7 {i:Nat}{q v:ME}{ρ:Ro}{A:List (List Nat)}{l:List Nat}{p:Nat}(h:ρ[i]? =some (some (.own (A.map L))))(hi:q ρ=some (.int (p:Int)))(z:v ρ=some (L l))(G:p<A.length):S6 i q v ρ=some (.nx (ρ.set i (some (.own ((A.set p l).map L))))):=by
 unfold S6
 rw[z,h,hi]
 show ((ixN (A.map L).length (p:Int)).map fun j=>Out.nx (ρ.set i (some (.own ((A.map L).set j (L l))))))=_
 rw[length_map,zh3 _ _ G]
 show some (Out.nx _)=_
 rw[map_set]
theorem ek (l:List Nat):shOf (m_Z7 [L l])=some (Ky l):=by rw[xy6];rfl
abbrev RI (r:List Int):D:=.lst (r.map .int)
def Ab (η:List Int)(s:Int)(d:Bool):List (List Nat):=(List.range η.length).map (abv η s d)
abbrev SP (η:List Int)(s:Int):D:=.tup [.lst ((Ab η s true).map L),.lst ((Ab η s false).map L)]
theorem zz8 (η:List Int)(s:Int)(d:Bool):(Ab η s d).length=η.length:=by unfold Ab;simp
theorem yi8 (η:List Int)(s:Int)(d:Bool)(p:Nat)(h:p<η.length):(Ab η s d).getD p []=abv η s d p:=by
 unfold Ab
 rw[getD_eq_getElem?_getD,getElem?_map,getElem?_range h];rfl
theorem zr1 (η:List Int)(s:Int)(d:Bool)(p:Nat):(abv η s d p).Pairwise (·<·):=by
 unfold abv
 refine List.Pairwise.filter _ ?_
 rw[pairwise_map]
 exact(pairwise_lt_range).imp fun h=>by omega
theorem xr3 (n:Nat)(hn:n<=300)(ρ:Ro)(m:ML)(ds:List D)(hm:m ρ=some ds)(hd:ds.length=n):mrep (m5 (z8 (mlst (m5 anil)) anil)) (mlen m) ρ=some ((List.replicate n ([]:List Nat)).map L):=by
 have i1:0+1<=sizeLine:=t8 (by decide)
 have i:=j6
 rw[yp2 (ds:=[.lst []]) (k:=(n:Int)) (l8 (z9 (t6 (l8 w6 (Nat.zero_le _))) w6) i1) (by rw[j0 hm,hd]) (by unfold zj9;simp only[Bool.and_eq_true,decide_eq_true_eq,length_singleton];omega),Int.toNat_natCast]
 congr 1
 rw[map_replicate,flatten_replicate_singleton]
 rfl
theorem yt3 (n q:Nat):(List.replicate n ([]:List Nat)).getD q []=[]:=by
 rw[getD_eq_getElem?_getD,getElem?_replicate]
 split <;> rfl
end
section
open PySem L2
theorem G7 (η:List Int)(s:Int)(i:η.length<=300):B9 [.lst (η.map .int),.int s]=some (.sh (.tup [.tup [.lst ((Ab η s true).map L),.lst ((Ab η s false).map L)],.tup [.lst ((Ab η s false).map L),.lst ((Ab η s true).map L)]])):=by
 have i2:2<=sizeLine:=t8 (by decide)
 unfold B9 b_Z18
 refine E6 ?_
 refine m7 (ρ':=[k0a η,k0c s,some (.sh (.lst ((Ab η s true).map L))),some (.sh (.lst ((Ab η s false).map L)))]) ?_ ?_
 .unfold masg
  rw[m6 (z9 (d:=.lst (η.map .int)) rfl (z9 (d:=.int s) rfl w6)) (zy6 η s i)]
  rfl
 .exact⟨_,S7 (zt2 (z9 (zt2 (z9 (d:=.lst ((Ab η s true).map L)) rfl (z9 (d:=.lst ((Ab η s false).map L)) rfl w6)) i2) (z9 (zt2 (z9 (d:=.lst ((Ab η s false).map L)) rfl (z9 (d:=.lst ((Ab η s true).map L)) rfl w6)) i2) w6)) i2),rfl⟩
end
section
open PySem L2
def Bo (P:List Nat->Prop)(l:List Nat):Prop:=Best (fun m=>m=[]\/P m) l
theorem D5 (r:List Nat):d4 [] r=false:=by
 cases r with
 |nil=>rfl
 |cons a r=>exact yi6 _ (by simp)
theorem Bo.iff {P Q:List Nat->Prop}{l:List Nat}(a:Bo P l)(h:∀ m,P m↔Q m):Bo Q l:=Best.iff a fun m=>by rw[h m]
theorem xp6:∀(i:List (List Nat))(b:List Nat),(b::i).Pairwise (fun a c=>a=[]\/c=[]\/lx a c=true)->fl i b∈b::i/\∀ m∈b::i,d4 m (fl i b)=false
 |[],b,_=>⟨by simp[fl],by simp[fl,R3]⟩
 |m::i,b,h=>by
  have G:=List.pairwise_cons.mp h
  unfold fl
  by_cases q:b.length<m.length
  .rw[if_pos q]
   obtain⟨h1,h2⟩:=xp6 i m G.2
   refine⟨mem_cons_of_mem _ h1,fun k j=>?_⟩
   rcases List.mem_cons.mp j with rfl|j
   .exact D6 (ahead_false.mpr (.inr ((c0 m k).mpr (.inl q)))) (h2 m (by simp))
   .exact h2 k j
  .rw[if_neg q]
   have I:(b::i).Pairwise (fun a c=>a=[]\/c=[]\/lx a c=true):=List.pairwise_cons.mpr ⟨fun c J=>G.1 c (by simp[J]),(List.pairwise_cons.mp G.2).2⟩
   obtain⟨h1,h2⟩:=xp6 i b I
   refine⟨?_,fun k j=>?_⟩
   .rcases List.mem_cons.mp h1 with z|z
    .rw[z];simp
    .simp[z]
   .rcases List.mem_cons.mp j with rfl|j
    .exact h2 k (by simp)
    .rcases List.mem_cons.mp j with rfl|j
     .refine D6 (b:=b) ?_ (h2 b (by simp))
      rcases G.1 k (by simp)with z|z|z
      .rw[z]at q ⊢
       rw[length_nil]at q
       have:k=[]:=List.length_eq_zero_iff.mp (by omega)
       rw[this];rfl
      .rw[z];exact D5 _
      .refine ahead_false.mpr (.inr ((c0 b k).mpr ?_))
       rcases Nat.lt_or_ge k.length b.length with w|w
       .exact .inl w
       .exact .inr ⟨by omega,z⟩
     .exact h2 k (by simp[j])
theorem ym3 {i:List Nat}{T:Nat->List Nat}{Q:Nat->List Nat->Prop}(O:i.Pairwise (·<·))(hh:∀ q∈i,∀ m,Q q m->Hd q m)(J:∀ q∈i,Bo (Q q) (T q)):Bo (fun m=>∃ q∈i,Q q m) (flD (i.map T)):=by
 cases i with
 |nil=>exact⟨.inl rfl,fun m hm=>by
   rcases hm with rfl|⟨q,S,_⟩
   .rfl
   .cases S⟩
 |cons j i=>
  have N:((j::i).map T).Pairwise (fun a c=>a=[]\/c=[]\/lx a c=true):=by
   rw[pairwise_map]
   refine O.imp_of_mem fun{a b} ha M L=>?_
   rcases (J a ha).1 with z|z
   .exact .inl z
   .rcases (J b M).1 with w|w
    .exact .inr (.inl w)
    .obtain⟨m1,e1⟩:=hh a ha _ z
     obtain⟨m2,U⟩:=hh b M _ w
     rw[e1,U]
     exact .inr (.inr (yd3 L))
  obtain⟨h1,h2⟩:=xp6 (i.map T) (T j) (by simpa using N)
  have h1:flD ((j::i).map T)∈(j::i).map T:=by simpa[flD]using h1
  have h2:∀ m∈(j::i).map T,d4 m (flD ((j::i).map T))=false:=by simpa[flD]using h2
  obtain⟨q,I,e⟩:=List.mem_map.mp h1
  refine⟨?_,fun m hm=>?_⟩
  .rw[<-e]
   rcases (J q I).1 with z|z
   .exact .inl z
   .exact .inr ⟨q,I,z⟩
  .rcases hm with rfl|⟨r,G,z⟩
   .exact D5 _
   .exact D6 ((J r G).2 m (.inr z)) (h2 _ (List.mem_map.mpr ⟨r,G,rfl⟩))
theorem zf6 {P:List Nat->Prop}{b:List Nat}{p:Nat}(I:Bo P b)(hn:∀ m,P m->m≠[])(a:Bool):Bo (fun m=>∃ k,m=p::k/\(P k\/(k=[]/\a=true))) (if (!b.isEmpty || a)=true then p::b else []):=by
 by_cases j:(!b.isEmpty || a)=true
 .rw[if_pos j]
  refine⟨.inr ⟨b,rfl,?_⟩,fun m hm=>?_⟩
  .rcases I.1 with z|z
   .subst z
    exact .inr ⟨rfl,by simpa using j⟩
   .exact .inl z
  .rcases hm with rfl|⟨k,rfl,i⟩
   .exact D5 _
   .rw[zw8]
    exact I.2 k (i.elim .inr fun z=>.inl z.1)
 .rw[if_neg j]
  have G:b=[]/\a=false:=by
   cases b with
   |nil=>exact⟨rfl,by simpa using j⟩
   |cons _ _=>simp at j
  obtain⟨rfl,rfl⟩:=G
  refine⟨.inl rfl,fun m hm=>?_⟩
  rcases hm with rfl|⟨k,rfl,i⟩
  .rfl
  .exfalso
   rcases i with i|⟨_,i⟩
   .have:=I.2 k (.inr i)
    have q:=hn k i
    cases k with
    |nil=>exact q rfl
    |cons y k=>rw[(c0 _ _).mpr (.inl (by simp))]at this;cases this
   .cases i
section
variable (x:Nat->Int)(n:Nat)(s:Int)
def En (la:Nat->Prop)(l:List Nat):Prop:=∃ z,l.getLast? =some z/\la z
def Ra (la:Nat->Prop)(o:Nat)(d:Bool)(p:Nat)(l:List Nat):Prop:=Wd x n s d l/\Hd p l/\l.length % 2=o/\En la l
end
variable {x:Nat->Int}{n:Nat}{s:Int}
theorem En.cons {la:Nat->Prop}{p q:Nat}{l:List Nat}:En la (p::q::l)↔En la (q::l):=by unfold En;rw[getLast?_cons_cons]
theorem Ra.ne {la:Nat->Prop}{o:Nat}{d:Bool}{p:Nat}{l:List Nat}(h:Ra x n s la o d p l):l≠[]:=by
 obtain⟨_,⟨m,rfl⟩,_⟩:=h;simp
theorem zq8 {la:Nat->Prop}{d:Bool}{p:Nat}{l:List Nat}(j:p<n):Ra x n s la 1 d p l↔∃ k,l=p::k/\((∃ q,(p<q/\q<n/\far s d (x p) (x q))/\Ra x n s la 0 (!d) q k)\/(k=[]/\la p)):=by
 constructor
 .rintro⟨h1,⟨k,rfl⟩,h3,h4⟩
  refine⟨k,rfl,?_⟩
  cases k with
  |nil=>
   obtain⟨z,e,i⟩:=h4
   cases e
   exact .inr ⟨rfl,i⟩
  |cons q k=>
   refine .inl ⟨q,⟨h1.1,h1.2.2.lt,h1.2.1⟩,h1.2.2,⟨k,rfl⟩,?_,En.cons.mp h4⟩
   simp only[length_cons]at h3 ⊢;omega
 .rintro⟨k,rfl,⟨q,⟨a1,a2,a3⟩,b1,⟨m,rfl⟩,b3,b4⟩|⟨rfl,h⟩⟩
  .refine⟨⟨a1,a3,b1⟩,⟨_,rfl⟩,?_,En.cons.mpr b4⟩
   simp only[length_cons]at b3 ⊢;omega
  .exact⟨j,⟨_,rfl⟩,rfl,⟨p,rfl,h⟩⟩
theorem O0 {la:Nat->Prop}{d:Bool}{p:Nat}{l:List Nat}(i:p<n):Ra x n s la 0 d p l↔∃ k,l=p::k/\∃ q,(p<q/\q<n/\far s d (x p) (x q))/\Ra x n s la 1 (!d) q k:=by
 constructor
 .rintro⟨h1,⟨k,rfl⟩,h3,h4⟩
  refine⟨k,rfl,?_⟩
  cases k with
  |nil=>simp at h3
  |cons q k=>
   refine⟨q,⟨h1.1,h1.2.2.lt,h1.2.1⟩,h1.2.2,⟨k,rfl⟩,?_,En.cons.mp h4⟩
   simp only[length_cons]at h3 ⊢;omega
 .rintro⟨k,rfl,q,⟨a1,a2,a3⟩,b1,⟨m,rfl⟩,b3,b4⟩
  refine⟨⟨a1,a3,b1⟩,⟨_,rfl⟩,?_,En.cons.mpr b4⟩
  simp only[length_cons]at b3 ⊢;omega
end
section
open PySem L2
abbrev La (η:List Int)(s:Int)(d:Bool)(f:Nat):Nat->Prop:=fun z=>z∈abv η s d f
abbrev RaR (η:List Int)(s:Int)(d:Bool)(f:Nat)(o:Nat)(e:Bool):Nat->List Nat->Prop:=Ra (xr η) η.length s (La η s d f) o e
def eB (η:List Int)(s:Int)(d:Bool)(f:Nat)(G B:List (List Nat))(o6 o7:Option S):Ro:=[k0b f,some (.sh (.lst ((Ab η s d).map L))),some (.sh (.lst ((Ab η s (!d)).map L))),some (.sh (L (abv η s d f))),some (.own (G.map L)),some (.own (B.map L)),o6,o7]
structure Beh (η:List Int)(s:Int)(d:Bool)(f p:Nat)(G B:List (List Nat)):Prop where
 lG:G.length=η.length
 lB:B.length=η.length
 at':∀ q,p<=q->q<η.length->Bo (RaR η s d f 1 (!d) q) (G.getD q [])/\Bo (RaR η s d f 0 d q) (B.getD q [])
 yet:∀ q,q<p->G.getD q []=[]/\B.getD q []=[]
theorem zf5 {η:List Int}{s:Int}{d e:Bool}{f o:Nat}{i:List Nat}{l:List Nat}(h:Bo (fun m=>∃ q∈i,RaR η s d f o e q m) l):l.length<=η.length:=by
 rcases h.1 with rfl|⟨q,_,a,⟨m,rfl⟩,_⟩
 .simp
 .have:=a.len;simp;omega
theorem xd1 {η:List Int}{s:Int}{e:Bool}{ρ:Ro}{i k p:Nat}{T:List (List Nat)}(J:p<η.length)(hr:η.length<=300)(hi:ρ[i]? =some (some (.own (T.map L))))(U:i≠6)(G:i≠k)(N:i<ρ.length)(O:ρ[k]? =some (some (.sh (.lst ((Ab η s e).map L)))))(j:ρ[6]? =some (k0b p))(I:T.length=η.length):
  zi5 i (u5 m_Z2 (z8 (mvar i) (z8 (mix (bvar k) (mvar 6)) anil))) ρ=some (L (flD ((abv η s e p).map fun q=>T.getD q []))):=by
 have S:T≠[]:=fun z=>by rw[z]at I;simp at I;omega
 refine xo3 hi ?_ (xm1 T _ S)
 have Z:mvar i (ρ.set i (some (.sh (.lst (T.map L)))))=some (.lst (T.map L)):=by
  unfold mvar
  rw[getElem?_set_self N]
 have Y:mix (bvar k) (mvar 6) (ρ.set i (some (.sh (.lst (T.map L)))))=some (L (abv η s e p)):=by
  refine V4 (ds:=(Ab η s e).map L) (k:=(p:Int)) ?_ ?_ ?_
  .unfold bvar;rw[getElem?_set_ne G,O]
  .unfold mvar;rw[getElem?_set_ne U,j]
  .rw[at_L _ p (by rw[zz8];exact J),yi8 η s e p J]
 exact m6 (z9 Z (z9 Y w6)) (V5 T (abv η s e p) (by have:=zr2 η s e p;omega) fun q M=>by have:=(abv_mem.mp M).2.1;omega)
theorem xw1 {i:Nat}{ρ:Ro}{l:List Nat}(h:ρ[i]? =some (some (.sh (L l)))):mtru (mvar i) ρ=some (!l.isEmpty):=by
 unfold mtru mvar
 rw[h]
 cases l <;> rfl
theorem yt6 {i j:Nat}{ρ:Ro}{p:Nat}{w:List Nat}(hi:ρ[i]? =some (k0b p))(q:ρ[j]? =some (some (.sh (L w))))(hw:w.length<=300):mlst (mcat (m5 (z8 (mvar i) anil)) (bvar j)) ρ=some (L (p::w)):=by
 have i1:0+1<=sizeLine:=t8 (by decide)
 have g:mvar i ρ=some (.int (p:Int)):=by unfold mvar;rw[hi]
 have z:bvar j ρ=some (w.map dN):=by unfold bvar;rw[q];rfl
 rw[t6 (O6 (l8 (z9 g w6) i1) z (by rw[length_map,length_singleton];exact t8 (by omega)))]
 rfl
theorem xp2 (i:Int)(ps:List Int):inV (V.int i) (ps.map V.int)=decide (i∈ps):=by
 unfold inV
 rw[any_map,Bool.eq_iff_iff,any_eq_true,decide_eq_true_eq]
 constructor
 .rintro⟨y,hy,e⟩
  have e:(i==y)=true\/(y==i)=true:=by first|exact .inl e|exact .inr e
  rcases e with e|e
  .rw[beq_iff_eq.mp e];exact hy
  .rw[<-beq_iff_eq.mp e];exact hy
 .intro h
  exact⟨i,h,by show (i==i)=true;exact beq_self_eq_true i⟩
theorem in_L (p:Nat)(l:List Nat):inD false (.int (p:Int)) (L l)=some (.bl (decide (p∈l))):=by
 have e:l.map dN=(l.map fun(k:Nat)=>(k:Int)).map D.int:=by rw[map_map];rfl
 show inDs false (.int (p:Int)) (l.map dN)=_
 unfold inDs
 rw[e,zm0]
 show some (D.bl (inV (V.int (p:Int)) ((l.map fun(k:Nat)=>(k:Int)).map V.int)))=_
 rw[xp2]
 congr 2
 apply decide_eq_decide.mpr
 rw[mem_map]
 constructor
 .rintro⟨k,hk,e⟩
  have e:(k:Int)=(p:Int):=e
  rw[show p=k by omega];exact hk
 .intro h;exact⟨p,h,rfl⟩
theorem xd7 {i j:Nat}{ρ:Ro}{p:Nat}{l:List Nat}(hi:ρ[i]? =some (k0b p))(q:ρ[j]? =some (some (.sh (L l)))):l0 (m2 (inD false) (mvar i) (mvar j)) ρ=some (decide (p∈l)):=by
 unfold l0
 rw[zo6 (a:=.int (p:Int)) (b:=L l) (by unfold mvar;rw[hi]) (by unfold mvar;rw[q]),in_L]
theorem yw9 {η:List Int}{s:Int}{d:Bool}{f p:Nat}{G B:List (List Nat)}{o7:Option S}(hr:η.length<=300)(M:p<η.length)(h:Beh η s d f (p+1) G B):
  ∃ G' B' O,zf9 (eB η s d f G B (k0b p) o7)=some (.nx (eB η s d f G' B' (k0b p) O))/\Beh η s d f p G' B':=by
 have I:∀ e q,q∈abv η s e p->p<q/\q<η.length:=fun e q i=>⟨(abv_mem.mp i).1,(abv_mem.mp i).2.1⟩
 have Y:Bo (fun m=>∃ q∈abv η s (!d) p,RaR η s d f 0 d q m) (flD ((abv η s (!d) p).map fun q=>B.getD q [])):=
  ym3 (zr1 η s (!d) p) (fun q _ m hm=>hm.2.1) fun q i=>(h.at' q (I _ q i).1 (I _ q i).2).2
 generalize e1:flD ((abv η s (!d) p).map fun q=>B.getD q [])=w1 at Y
 have l1:=zf5 Y
 have g1:Bo (RaR η s d f 1 (!d) p) (if (!w1.isEmpty || decide (p∈abv η s d f))=true then p::w1 else []):=by
  refine(zf6 (p:=p) Y (fun m ⟨q,_,i⟩=>i.ne) (decide (p∈abv η s d f))).iff fun m=>?_
  refine Iff.trans ?_ (zq8 M).symm
  constructor
  .rintro⟨k,rfl,⟨q,i,z⟩|⟨rfl,z⟩⟩
   .exact⟨k,rfl,.inl ⟨q,abv_mem.mp i,by rw[Bool.not_not];exact z⟩⟩
   .exact⟨[],rfl,.inr ⟨rfl,of_decide_eq_true z⟩⟩
  .rintro⟨k,rfl,⟨q,i,z⟩|⟨rfl,z⟩⟩
   .exact⟨k,rfl,.inl ⟨q,abv_mem.mpr i,by rw[Bool.not_not]at z;exact z⟩⟩
   .exact⟨[],rfl,.inr ⟨rfl,decide_eq_true z⟩⟩
 have Z:=h.yet p (Nat.lt_succ_self p)
 have lset:∀(c:Bool)(T:List (List Nat))(w:List Nat),T.length=η.length->(if c=true then T.set p w else T).length=η.length:=fun c T w hT=>by cases c <;> simp[hT]
 have j:∀(c:Bool)(T:List (List Nat))(w:List Nat) q,p≠q->(if c=true then T.set p w else T).getD q []=T.getD q []:=fun c T w q i=>by
  cases c
  .rfl
  .exact zh5 _ _ _ _ i
 have J:∀(c:Bool)(T:List (List Nat))(w:List Nat),T.length=η.length->T.getD p []=[]->(if c=true then T.set p w else T).getD p []=if c=true then w else []:=fun c T w hT hn=>by
  cases c
  .exact hn
  .exact A7 _ _ _ (by omega)
 obtain⟨c1,N⟩:∃ c,c=(!w1.isEmpty || decide (p∈abv η s d f)):=⟨_,rfl⟩
 rw[<-N]at g1
 have U:Bo (fun m=>∃ q∈abv η s d p,RaR η s d f 1 (!d) q m) (flD ((abv η s d p).map fun q=>(if c1=true then G.set p (p::w1)else G).getD q [])):=
  ym3 (zr1 η s d p) (fun q _ m hm=>hm.2.1) fun q i=>by
   have hm:=I _ q i
   rw[j c1 G _ q (by omega)]
   exact(h.at' q hm.1 hm.2).1
 generalize e2:flD ((abv η s d p).map fun q=>(if c1=true then G.set p (p::w1)else G).getD q [])=w2 at U
 have l2:=zf5 U
 have g2:Bo (RaR η s d f 0 d p) (if (!w2.isEmpty)=true then p::w2 else []):=by
  have g:=zf6 (p:=p) U (fun m ⟨q,_,i⟩=>i.ne) false
  rw[Bool.or_false]at g
  refine g.iff fun m=>?_
  refine Iff.trans ?_ (O0 M).symm
  constructor
  .rintro⟨k,rfl,⟨q,i,z⟩|⟨_,z⟩⟩
   .exact⟨k,rfl,q,abv_mem.mp i,z⟩
   .cases z
  .rintro⟨k,rfl,q,i,z⟩
   exact⟨k,rfl,.inl ⟨q,abv_mem.mpr i,z⟩⟩
 refine⟨if c1=true then G.set p (p::w1)else G,if (!w2.isEmpty)=true then B.set p (p::w2)else B,some (.sh (L w2)),?_,lset _ _ _ h.lG,lset _ _ _ h.lB,fun q a b=>?_,fun q a=>?_⟩
 .unfold zf9
  refine seqI (ρ':=eB η s d f G B (k0b p) (some (.sh (L w1)))) ((g0 (by rw[<-e1];exact xd1 M hr rfl (by decide) (by decide) (by show 5<8;decide) rfl rfl h.lB)).trans rfl) ?_
  refine seqI (ρ':=eB η s d f (if c1=true then G.set p (p::w1)else G) B (k0b p) (some (.sh (L w1)))) ?_ ?_
  .unfold mif
   rw[zw4 (xw1 (l:=w1) rfl) (xd7 (p:=p) (l:=abv η s d f) rfl rfl),<-N]
   cases c1
   .rfl
   .exact(yu7 (A:=G) (l:=p::w1) (p:=p) rfl rfl (yt6 (p:=p) (w:=w1) rfl rfl (by omega)) (by rw[h.lG];exact M)).trans rfl
  refine seqI (ρ':=eB η s d f (if c1=true then G.set p (p::w1)else G) B (k0b p) (some (.sh (L w2)))) ((g0 (by rw[<-e2];exact xd1 M hr rfl (by decide) (by decide) (by show 4<8;decide) rfl rfl (lset _ _ _ h.lG))).trans rfl) ?_
  unfold mif
  rw[xw1 (l:=w2) rfl]
  cases (!w2.isEmpty)
  .rfl
  .exact(yu7 (A:=B) (l:=p::w2) (p:=p) rfl rfl (yt6 (p:=p) (w:=w2) rfl rfl (by omega)) (by rw[h.lB];exact M)).trans rfl
 .by_cases i:p=q
  .subst i
   rw[J _ _ _ h.lG Z.1,J _ _ _ h.lB Z.2]
   exact⟨g1,g2⟩
  .rw[j _ _ _ _ i,j _ _ _ _ i]
   exact h.at' q (by omega) b
 .rw[j _ _ _ _ (by omega),j _ _ _ _ (by omega)]
  exact h.yet q (by omega)
end
section
open PySem L2
theorem yc8 {lo hi:Nat}(h:lo<=hi)(hh:hi<=1000):yg8 [.int (lo:Int),.int (hi:Int)]=some ((List.range (hi-lo)).map fun(j:Nat)=>D.int ((hi-1-j:Nat):Int)):=by
 show (if (okR (lo:Int)&&okR (hi:Int))=true then some (G5 (lo:Int) ((hi:Int)-(lo:Int)).toNat)else none)=_
 rw[if_pos (by rw[X5 (by omega) (by omega),X5 (by omega) (by omega)];rfl)]
 unfold G5
 rw[show ((hi:Int)-(lo:Int)).toNat=hi-lo by omega]
 congr 1
 apply map_congr_left
 intro j i
 have:=List.mem_range.mp i
 congr 1
 omega
theorem T8 (η:List Int)(s:Int)(d:Bool)(f:Nat)(Z:η.length<=300)(S:f<η.length):∃ l,m_Z3 [.int (f:Int),.lst ((Ab η s d).map L),.lst ((Ab η s (!d)).map L)]=some (.sh (L l))/\Bo (RaR η s d f 0 d f) l:=by
 suffices h:Run b_Z3 (f7 8 [.int (f:Int),.lst ((Ab η s d).map L),.lst ((Ab η s (!d)).map L)]) (fun o=>∃ l,o= .rt (L l)/\Bo (RaR η s d f 0 d f) l)by
  obtain⟨o,e,l,rfl,r⟩:=h
  exact⟨l,j9 e,r⟩
 unfold b_Z3
 refine m7 (ρ':=[k0b f,some (.sh (.lst ((Ab η s d).map L))),some (.sh (.lst ((Ab η s (!d)).map L))),some (.sh (L (abv η s d f))),none,none,none,none])
  ((g0 (V4 (ds:=(Ab η s d).map L) (k:=(f:Int)) rfl rfl (by rw[at_L _ f (by rw[zz8];exact S),yi8 η s d f S]))).trans rfl) ?_
 have Y:∀(i:Nat)(ρ:Ro),bvar 1 ρ=some ((Ab η s d).map L)->Y9 i (mrep (m5 (z8 (mlst (m5 anil)) anil)) (mlen (bvar 1))) ρ=some (.nx (ρ.set i (some (.own ((List.replicate η.length ([]:List Nat)).map L))))):=fun i ρ hb=>by
  unfold Y9
  rw[xr3 η.length Z ρ (bvar 1) _ hb (by rw[length_map,zz8])]
  rfl
 refine m7 (Y 4 _ rfl) (m7 (ρ':=eB η s d f (List.replicate η.length []) (List.replicate η.length []) none none) (Y 5 _ rfl) ?_)
 refine U2 (X6 (η.length-(f+1)) (f:=fun(j:Nat)=>D.int ((η.length-1-j:Nat):Int)) ?_
  (I:=fun j ρ=>∃ G B O o7,Beh η s d f (η.length-j) G B/\ρ=eB η s d f G B O o7) _
  ⟨_,_,_,_,⟨by simp,by simp,fun q h1 h2=>by omega,fun q _=>⟨yt3 _ _,yt3 _ _⟩⟩,rfl⟩ ?_ ?_)
 .unfold l5
  rw[z9 (d:=.int ((f+1:Nat):Int)) ((zo6 (f:=addD) (a:=.int (f:Int)) (b:=.int 1) rfl rfl).trans rfl) (z9 (x:=mlen (bvar 1)) (d:=.int (η.length:Int)) (by rw[j0 (ds:=(Ab η s d).map L) rfl,length_map,zz8]) w6),Option.bind_some,yc8 S (by omega)]
 .rintro j ρ hj ⟨G,B,O,o7,h,rfl⟩
  refine⟨eB η s d f G B (some (.sh (.int ((η.length-1-j:Nat):Int)))) o7,rfl,?_⟩
  have e2:η.length-1-j+1=η.length-j:=by omega
  obtain⟨G',B',a0,eb,hT⟩:=yw9 (o7:=o7) Z (show η.length-1-j<η.length by omega) (by rw[e2];exact h)
  exact⟨_,eb,G',B',_,_,by rw[show η.length-(j+1)=η.length-1-j by omega];exact hT,rfl⟩
 .rintro ρ ⟨G,B,O,o7,h,rfl⟩
  rw[show η.length-(η.length-(f+1))=f+1 by omega]at h
  have M:∀ q,q∈abv η s d f->f<q/\q<η.length:=fun q J=>⟨(abv_mem.mp J).1,(abv_mem.mp J).2.1⟩
  have U:Bo (fun m=>∃ q∈abv η s d f,RaR η s d f 1 (!d) q m) (flD ((abv η s d f).map fun q=>G.getD q [])):=
   ym3 (zr1 η s d f) (fun q _ m hm=>hm.2.1) fun q J=>(h.at' q (M q J).1 (M q J).2).1
  have N:=V5 G (abv η s d f) (by have:=zr2 η s d f;omega) fun q J=>by have:=M q J;rw[h.lG];omega
  generalize flD ((abv η s d f).map fun q=>G.getD q [])=w at U N
  have lw:=zf5 U
  unfold yi2
  refine W8 (ds:=G.map L) rfl ?_
  refine m7 (ρ':=[k0b f,some (.sh (.lst ((Ab η s d).map L))),some (.sh (.lst ((Ab η s (!d)).map L))),some (.sh (L (abv η s d f))),some (.sh (.lst (G.map L))),some (.own (B.map L)),O,some (.sh (L w))]) ((g0 (m6 (z9 (d:=.lst (G.map L)) rfl (z9 (d:=L (abv η s d f)) rfl w6)) N)).trans rfl) ?_
  refine⟨.rt (L (if (!w.isEmpty)=true then f::w else [])),S7 ?_,_,rfl,?_⟩
  .unfold mite
   rw[xw1 (l:=w) rfl]
   cases (!w.isEmpty)
   .exact t6 (l8 w6 (Nat.zero_le _))
   .exact yt6 (p:=f) (w:=w) rfl rfl (by omega)
  .have g:=zf6 (p:=f) U (fun m ⟨q,_,J⟩=>J.ne) false
   rw[Bool.or_false]at g
   refine g.iff fun m=>?_
   refine Iff.trans ?_ (O0 S).symm
   constructor
   .rintro⟨k,rfl,⟨q,J,z⟩|⟨_,z⟩⟩
    .exact⟨k,rfl,q,abv_mem.mp J,z⟩
    .cases z
   .rintro⟨k,rfl,q,J,z⟩
    exact⟨k,rfl,.inl ⟨q,abv_mem.mpr J,z⟩⟩
def Rg (η:List Int)(s:Int)(l:List Nat):Prop:=∃ d f,f<η.length/\RaR η s d f 0 d f l
theorem zw6 {i:Type}{g:Tg}{elt:ME}{f:i->D}{G:i->D}(I:List i->Ro->Prop)(j:∀ d ds ρ,I (d::ds) ρ->∃ ρ1,tgD g (f d) ρ=some ρ1/\elt ρ1=some (G d)/\I ds ρ1):
  ∀(ds:List i)(ρ:Ro)(acc:List D),I ds ρ->acc.length+ds.length<=sizeLine->∃ ρ',X8 g elt (ds.map f) ρ acc=some (ρ',acc++ds.map G)/\I [] ρ'
 |[],ρ,acc,h,hl=>⟨ρ,by simp[X8],h⟩
 |d::ds,ρ,acc,h,hl=>by
  obtain⟨ρ1,h1,J,z⟩:=j d ds ρ h
  rw[length_cons]at hl
  obtain⟨ρ',e,q⟩:=zw6 I j ds ρ1 (acc++[G d]) z (by simp;omega)
  refine⟨ρ',?_,q⟩
  rw[map_cons]
  unfold X8
  rw[h1]
  simp only[J]
  rw[if_pos (by omega),e]
  simp
theorem yw6 {g q:Tg}{i:ML}{elt:ME}{I G:D}{ρ ρ1 ρ2:Ro}{i1 i2 acc:List D}{j z:Ro×List D}(h1:tgD g I ρ=some ρ1)(h2:i ρ1=some i1)(N:X8 q elt i1 ρ1 acc=some j)(M:tgD g G j.1=some ρ2)(L:i ρ2=some i2)(J:X8 q elt i2 ρ2 j.2=some z):V7 g i q elt [I,G] ρ acc=some z.2:=by
 rw[V7,h1]
 simp only[h2,N]
 rw[V7,M]
 simp only[L,J]
 rw[V7]
theorem yx1 {src:List (Option Nat)}{mi i:ML}{g j:Tg}{elt:ME}{ρ:Ro}{its out:List D}(h:mi ρ=some its)(h2:V7 g i j elt its (zz4 src ρ) []=some out):O5 src mi g i j elt ρ=some out:=by
 unfold O5;rw[h];exact h2
theorem E3 (η:List Int)(s:Int)(h1:1<=s)(M:η.length<=300):∃ l,m_Z4 [.lst (η.map .int),.int s]=some (.sh (L l))/\Best (fun m=>m=[]\/Rg η s m) l:=by
 have a0:=j6
 obtain⟨F,O⟩:∃ F:Bool->Nat->List Nat,∀ d f,f<η.length->m_Z3 [.int (f:Int),.lst ((Ab η s d).map L),.lst ((Ab η s (!d)).map L)]=some (.sh (L (F d f)))/\Bo (RaR η s d f 0 d f) (F d f):=by
  refine⟨fun d f=>if h:f<η.length then (T8 η s d f M h).choose else [],fun d f h=>?_⟩
  simp only[dif_pos h]
  exact(T8 η s d f M h).choose_spec
 have Z:O5 [none,none,none,some 0] (zy9 (u5 B9 (z8 (mvar 0) (z8 (mvar 1) anil)))) (.tp [0,1]) (l5 rng1 (z8 (mlen (bvar 3)) anil)) (.nm 2) (u5 m_Z3 (z8 (mvar 2) (z8 (mvar 0) (z8 (mvar 1) anil)))) [k0a η,k0c s,none]=some (((List.range η.length).map (F true)++(List.range η.length).map (F false)).map L):=by
  have U:zy9 (u5 B9 (z8 (mvar 0) (z8 (mvar 1) anil))) [k0a η,k0c s,none]=some [.tup [.lst ((Ab η s true).map L),.lst ((Ab η s false).map L)],.tup [.lst ((Ab η s false).map L),.lst ((Ab η s true).map L)]]:=by
   unfold zy9
   rw[m6 (z9 (d:=.lst (η.map .int)) rfl (z9 (d:=.int s) rfl w6)) (G7 η s M)]
  have J:∀ a b c:Option S,l5 rng1 (z8 (mlen (bvar 3)) anil) [a,b,c,k0a η]=some ((List.range η.length).map dN):=fun a b c=>by
   unfold l5
   rw[z9 (d:=.int (η.length:Int)) (by rw[j0 (ds:=η.map .int) rfl,length_map]) w6,Option.bind_some,U3 (X5 (by omega) (by omega)),Int.toNat_natCast,X1,map_map]
   rfl
  have q:∀(d:Bool)(c:Option S)(acc:List D),acc.length<=600->∃ Y,X8 (.nm 2) (u5 m_Z3 (z8 (mvar 2) (z8 (mvar 0) (z8 (mvar 1) anil)))) ((List.range η.length).map dN) [some (.sh (.lst ((Ab η s d).map L))),some (.sh (.lst ((Ab η s (!d)).map L))),c,k0a η] acc=some ([some (.sh (.lst ((Ab η s d).map L))),some (.sh (.lst ((Ab η s (!d)).map L))),Y,k0a η],acc++((List.range η.length).map (F d)).map L):=fun d c acc ha=>by
   obtain⟨ρ',e,_,Y,rfl⟩:=zw6 (g:=.nm 2) (elt:=u5 m_Z3 (z8 (mvar 2) (z8 (mvar 0) (z8 (mvar 1) anil)))) (f:=dN) (G:=fun f=>L (F d f)) (fun fs ρ=>(∀ f∈fs,f<η.length)/\∃ c,ρ=[some (.sh (.lst ((Ab η s d).map L))),some (.sh (.lst ((Ab η s (!d)).map L))),c,k0a η])
    (by
     rintro f fs ρ ⟨i,c,rfl⟩
     exact⟨[some (.sh (.lst ((Ab η s d).map L))),some (.sh (.lst ((Ab η s (!d)).map L))),k0b f,k0a η],rfl,m6 (z9 (d:=.int (f:Int)) rfl (z9 (d:=.lst ((Ab η s d).map L)) rfl (z9 (d:=.lst ((Ab η s (!d)).map L)) rfl w6))) (O d f (i f (by simp))).1,fun g hg=>i g (by simp[hg]),_,rfl⟩)
    (List.range η.length) [some (.sh (.lst ((Ab η s d).map L))),some (.sh (.lst ((Ab η s (!d)).map L))),c,k0a η] acc ⟨fun f i=>List.mem_range.mp i,c,rfl⟩ (by rw[length_range];omega)
   exact⟨Y,by rw[e,map_map];rfl⟩
  obtain⟨c1,i1⟩:=q true none [] (by simp)
  obtain⟨c2,i2⟩:=q false c1 ([]++((List.range η.length).map (F true)).map L) (by simp;omega)
  refine(yx1 U (yw6 (ρ:=[none,none,none,k0a η]) rfl (J _ _ _) i1 rfl (J _ _ _) i2)).trans ?_
  rw[nil_append,map_append]
 generalize N:(List.range η.length).map (F true)++(List.range η.length).map (F false)=j at Z
 have I:∀ m,m∈j↔∃ d f,f<η.length/\m=F d f:=fun m=>by
  rw[<-N,mem_append,mem_map,mem_map]
  constructor
  .rintro(⟨f,i,rfl⟩|⟨f,i,rfl⟩)
   .exact⟨true,f,List.mem_range.mp i,rfl⟩
   .exact⟨false,f,List.mem_range.mp i,rfl⟩
  .rintro⟨d,f,i,rfl⟩
   cases d
   .exact .inr ⟨f,List.mem_range.mpr i,rfl⟩
   .exact .inl ⟨f,List.mem_range.mpr i,rfl⟩
 have em:∃ l,minD (fun d=>shOf (m_Z7 [d])) (j.map L) (.lst [])=some (L l)/\(j=[]/\l=[]\/l∈j/\∀ m∈j,d4 m l=false):=by
  cases j with
  |nil=>exact⟨[],rfl,.inl ⟨rfl,rfl⟩⟩
  |cons b j=>
   obtain⟨r,e,a1,a2⟩:=E8 (mk:=fun d=>shOf (m_Z7 [d])) ek j b
   refine⟨r,?_,.inr ⟨a1,a2⟩⟩
   show (match shOf (m_Z7 [L b])with |some kd=>minF _ (j.map L) (L b) kd|none=>none)=_
   rw[ek b]
   exact e
 obtain⟨l,el,hl⟩:=em
 refine⟨l,?_,?_⟩
 .unfold m_Z4 b_Z4
  refine j9 ?_
  refine seqI (ρ':=[k0a η,k0c s,none]) ?_ ?_
  .exact zt5 (m6 (f:=Q7) (z9 (d:=.int s) rfl w6) (Z2 s h1))
  refine seqI (ρ':=[k0a η,k0c s,some (.sh (.lst (j.map L)))]) ((g0 (t6 Z)).trans rfl) ?_
  exact S7 (by rw[zc4 (ds:=j.map L) rfl (t6 (l8 w6 (Nat.zero_le _))),el])
 .have hall:∀ m,Rg η s m->∃ k∈j,d4 m k=false:=fun m ⟨d,f,i,h⟩=>⟨F d f,(I _).mpr ⟨d,f,i,rfl⟩,(O d f i).2.2 m (.inr h)⟩
  rcases hl with⟨U,e2⟩|⟨h2,h3⟩
  .subst e2
   refine⟨.inl rfl,fun m hm=>?_⟩
   rcases hm with rfl|hm
   .rfl
   .obtain⟨k,hk,_⟩:=hall m hm
    rw[U]at hk;cases hk
  .refine⟨?_,fun m hm=>?_⟩
   .obtain⟨d,f,i,rfl⟩:=(I l).mp h2
    rcases (O d f i).2.1 with z|z
    .exact .inl z
    .exact .inr ⟨d,f,i,z⟩
   .rcases hm with rfl|hm
    .exact D5 _
    .obtain⟨k,hk,z⟩:=hall m hm
     exact D6 z (h3 k hk)
end
section
open PySem L2
theorem yg0 (ns:List Nat):(ns.map fun(k:Nat)=>(k:Int)).sum=((ns.sum:Nat):Int):=by
 induction ns with
 |nil=>rfl
 |cons n ns i=>rw[map_cons,sum_cons,sum_cons,i];omega
theorem dns (ns:List Nat):ns.map dN=(ns.map fun(k:Nat)=>(k:Int)).map .int:=by rw[map_map];rfl
theorem yp0 {m:ML}{ρ:Ro}{ns:List Nat}(h:m ρ=some (ns.map dN)):msum m ρ=some (dN ns.sum):=by
 unfold msum
 rw[h,dns]
 simp only[M2,yg0]
 rfl
theorem xr9 {m:ML}{ρ:Ro}{ns:List Nat}(h:m ρ=some (ns.map dN)):many m ρ=some (.bl (ns.any fun n=>n != 0)):=by
 unfold many
 rw[h,dns]
 simp only[M2]
 congr 2
 rw[any_map]
 congr 1
 funext n
 show ((n:Int) != 0)=(n != 0)
 by_cases z:n=0
 .subst z;rfl
 .rw[bne_iff_ne.mpr z,bne_iff_ne.mpr (by omega)]
theorem xb3 (ns:List Nat)(q:Nat)(h:q<ns.length):atI (ns.map dN) (q:Int)=some (dN (ns.getD q 0)):=by
 have:=zz5 dN ns (q:Int) (by omega) (by omega) 0
 rw[Int.toNat_natCast]at this
 exact this
theorem ze6 (ns:List Nat)(j:List (List Nat))(M:∀ a∈j,a.length<=300/\∀ q∈a,q<ns.length)(O:j.length<=300):zi9 [.lst (ns.map dN),.lst (j.map L)]=some (.fr ((j.map fun a=>(a.map fun q=>ns.getD q 0).sum).map dN)):=by
 unfold zi9 b_Z25
 refine P9 ?_
 have N:=j6
 have i:∀ a:List Nat,(a.length<=300/\∀ q∈a,q<ns.length)->l7 [none,some 1] (l6 (mvar 0)) (.nm 0) cyes (mix (bvar 1) (mvar 0)) [some (.sh (L a)),some (.sh (.lst (ns.map dN)))]=some ((a.map fun q=>ns.getD q 0).map dN):=by
  rintro a ⟨la,ha⟩
  unfold l7
  rw[show l6 (mvar 0) [some (.sh (L a)),some (.sh (.lst (ns.map dN)))]=some (a.map dN)from rfl,Option.bind_some]
  show U6 _ _ _ _ [none,some (.sh (.lst (ns.map dN)))] []=_
  rw[j5 (f:=dN) (G:=fun q=>dN (ns.getD q 0)) (fun es ρ=>(∀ q∈es,q<ns.length)/\∃ o,ρ=[o,some (.sh (.lst (ns.map dN)))]) (by
   rintro q es ρ ⟨J,o,rfl⟩
   exact⟨_,rfl,rfl,V4 (ds:=ns.map dN) (k:=(q:Int)) rfl rfl (xb3 ns q (J q (by simp))),fun z I=>J z (by simp[I]),_,rfl⟩) a _ [] ⟨ha,none,rfl⟩ (by simp;omega),nil_append,map_map]
  rfl
 unfold zy2 l7
 rw[show l6 (mvar 1) (f7 2 [.lst (ns.map dN),.lst (j.map L)])=some (j.map L)from rfl,Option.bind_some]
 show (U6 _ _ _ _ [none,some (.sh (.lst (ns.map dN)))] []).map _=_
 rw[j5 (f:=L) (G:=fun a=>dN (a.map fun q=>ns.getD q 0).sum) (fun es ρ=>(∀ a∈es,a.length<=300/\∀ q∈a,q<ns.length)/\∃ o,ρ=[o,some (.sh (.lst (ns.map dN)))]) (by
  rintro a es ρ ⟨ha,o,rfl⟩
  refine⟨[some (.sh (L a)),some (.sh (.lst (ns.map dN)))],rfl,rfl,?_,fun z I=>ha z (by simp[I]),_,rfl⟩
  have e:=i a (ha a (by simp))
  unfold l7 at e
  exact yp0 e) j _ [] ⟨M,none,rfl⟩ (by simp;omega),nil_append]
 show some (Out.rf _)=_
 rw[map_map]
 rfl
theorem zz7 (η:List Int)(s:Int)(d:Bool)(p:Nat):(abv η s d p).Nodup:=by
 unfold abv
 refine List.Pairwise.filter _ (List.pairwise_map.mpr ?_)
 exact List.Pairwise.imp (fun{a b} h=>by omega) (nodup_range (n:=η.length-(p+1)))
theorem xy8 {A B:List (List Nat)}(f:List Nat->List Nat)(G:A.Nodup):(∀ a∈A,∀ b∈A,f a=f b->a=b)->(∀ a∈A,f a∈B)->A.length<=B.length:=by
 induction A generalizing B with
 |nil=>intro _ _;exact Nat.zero_le _
 |cons a A q=>
  intro hi hm
  have j:=List.nodup_cons.mp G
  have ha:=hm a (by simp)
  have:=q (B:=B.erase (f a)) j.2 (fun x i y z=>hi x (by simp[i]) y (by simp[z])) (fun x i=>by
   refine(mem_erase_of_ne fun e=>?_).mpr (hm x (by simp[i]))
   have:=hi x (by simp[i]) a (by simp) e
   subst this
   exact j.1 i)
  rw[length_erase_of_mem ha]at this
  have I:0<B.length:=length_pos_of_mem ha
  rw[length_cons];omega
def gl (η:List Int)(s:Int)(d:Bool)(f:Nat):Nat->Nat->List (List Nat)
 |0,p=>if p∈abv η s d f then [[p]]else []
 |k+1,p=>(abv η s (!d) p).flatMap fun q=>(abv η s d q).flatMap fun r=>(gl η s d f k r).map fun l=>p::q::l
theorem zn5 (η:List Int)(s:Int)(d:Bool)(f:Nat):∀(k p:Nat),p<η.length->∀ l,l∈gl η s d f k p↔RaR η s d f 1 (!d) p l/\l.length=2*k+1
 |0,p,hp,l=>by
  rw[gl]
  constructor
  .intro h
   split at h
   .rename_i hl
    rw[mem_singleton]at h
    subst h
    exact⟨(zq8 hp).mpr ⟨[],rfl,.inr ⟨rfl,hl⟩⟩,rfl⟩
   .cases h
  .rintro⟨h1,h2⟩
   obtain⟨k,rfl,⟨q,_,z⟩|⟨rfl,z⟩⟩:=(zq8 hp).mp h1
   .have:=z.ne
    cases k with
    |nil=>exact absurd rfl this
    |cons _ _=>simp at h2
   .have z:p∈abv η s d f:=z
    rw[if_pos z];simp
 |k+1,p,hp,l=>by
  rw[gl,mem_flatMap]
  constructor
  .rintro⟨q,j,h⟩
   obtain⟨r,i,h⟩:=List.mem_flatMap.mp h
   obtain⟨m,hm,e⟩:=List.mem_map.mp h
   have j:=abv_mem.mp j
   have i:=abv_mem.mp i
   obtain⟨a,b⟩:=(zn5 η s d f k r i.2.1 m).mp hm
   subst e
   refine⟨(zq8 hp).mpr ⟨_,rfl,.inl ⟨q,j,?_⟩⟩,by simp only[length_cons];omega⟩
   rw[Bool.not_not]
   exact(O0 j.2.1).mpr ⟨m,rfl,r,i,a⟩
  .rintro⟨h1,h2⟩
   obtain⟨k1,rfl,⟨q,j,z⟩|⟨rfl,z⟩⟩:=(zq8 hp).mp h1
   .rw[Bool.not_not]at z
    obtain⟨m,rfl,r,i,a⟩:=(O0 j.2.1).mp z
    refine⟨q,abv_mem.mpr j,List.mem_flatMap.mpr ⟨r,abv_mem.mpr i,List.mem_map.mpr ⟨m,(zn5 η s d f k r i.2.1 m).mpr ⟨a,?_⟩,rfl⟩⟩⟩
    simp only[length_cons]at h2
    omega
   .simp only[length_cons,length_nil]at h2
    omega
theorem ym0 {η:List Int}{s:Int}{d:Bool}{f k p:Nat}{l:List Nat}(h:l∈gl η s d f k p):l.head? =some p:=by
 cases k with
 |zero=>
  rw[gl]at h
  split at h
  .rw[mem_singleton]at h;rw[h];rfl
  .cases h
 |succ k=>
  rw[gl,mem_flatMap]at h
  obtain⟨q,_,h⟩:=h
  obtain⟨r,_,h⟩:=List.mem_flatMap.mp h
  obtain⟨m,_,e⟩:=List.mem_map.mp h
  rw[<-e];rfl
theorem R7 {xs:List Nat}{F:Nat->List (List Nat)}(i:xs.Nodup)(h1:∀ q∈xs,(F q).Nodup)(h2:∀ q l,l∈F q->l.head? =some q):(xs.flatMap F).Nodup:=by
 unfold List.Nodup
 rw[pairwise_flatMap]
 refine⟨h1,List.Pairwise.imp (fun{a b} h=>?_) i⟩
 intro x i y j e
 have:=h2 a x i
 rw[e,h2 b y j]at this
 exact h (Option.some.inj this).symm
theorem nodup_cons {p:Nat}{xs:List (List Nat)}(h:xs.Nodup):(xs.map (p::·)).Nodup:=by
 unfold List.Nodup
 rw[pairwise_map]
 exact List.Pairwise.imp (fun{a b} h=>by simpa using h) h
theorem zb0 (η:List Int)(s:Int)(d:Bool)(f:Nat):∀ k p,(gl η s d f k p).Nodup
 |0,p=>by
  rw[gl];split <;> simp
 |k+1,p=>by
  have e:gl η s d f (k+1) p=((abv η s (!d) p).flatMap fun q=>((abv η s d q).flatMap fun r=>gl η s d f k r).map (q::·)).map (p::·):=by
   rw[gl,map_flatMap]
   congr 1
   funext q
   rw[map_map,map_flatMap]
   rfl
  rw[e]
  refine nodup_cons (R7 (zz7 η s (!d) p) (fun q _=>nodup_cons (R7 (zz7 η s d q) (fun r _=>zb0 η s d f k r) fun r l h=>ym0 h)) ?_)
  intro q l h
  obtain⟨m,_,e⟩:=List.mem_map.mp h
  rw[<-e];rfl
def gn (η:List Int)(s:Int)(d:Bool)(f k p:Nat):Nat:=(gl η s d f k p).length
theorem yn9 (η:List Int)(s:Int)(d:Bool)(f k p:Nat):gn η s d f (k+1) p=((abv η s (!d) p).map fun q=>((abv η s d q).map fun r=>gn η s d f k r).sum).sum:=by
 unfold gn
 rw[gl,length_flatMap]
 congr 1
 apply map_congr_left
 intro q _
 rw[length_flatMap]
 congr 1
 apply map_congr_left
 intro r _
 rw[length_map]
def rl (η:List Int)(s:Int)(d:Bool)(k f:Nat):List (List Nat):=((abv η s d f).flatMap fun p=>gl η s d f k p).map (f::·)
def rn (η:List Int)(s:Int)(d:Bool)(k f:Nat):Nat:=((abv η s d f).map fun p=>gn η s d f k p).sum
theorem xk9 (η:List Int)(s:Int)(d:Bool)(k f:Nat):(rl η s d k f).length=rn η s d k f:=by
 unfold rl rn
 rw[length_map,length_flatMap]
 rfl
theorem zx7 {η:List Int}{s:Int}{d:Bool}{k f:Nat}{l:List Nat}(j:f<η.length):l∈rl η s d k f↔RaR η s d f 0 d f l/\l.length=2*k+2:=by
 unfold rl
 rw[mem_map]
 constructor
 .rintro⟨m,hm,rfl⟩
  obtain⟨p,i,hm⟩:=List.mem_flatMap.mp hm
  have i:=abv_mem.mp i
  obtain⟨a,b⟩:=(zn5 η s d f k p i.2.1 m).mp hm
  exact⟨(O0 j).mpr ⟨m,rfl,p,i,a⟩,by simp only[length_cons];omega⟩
 .rintro⟨h1,h2⟩
  obtain⟨m,rfl,p,i,a⟩:=(O0 j).mp h1
  refine⟨m,List.mem_flatMap.mpr ⟨p,abv_mem.mpr i,(zn5 η s d f k p i.2.1 m).mpr ⟨a,?_⟩⟩,rfl⟩
  simp only[length_cons]at h2
  omega
theorem xv4 {η:List Int}{s:Int}{d:Bool}{k f:Nat}{l:List Nat}(h:l∈rl η s d k f):l.head? =some f:=by
 obtain⟨m,_,e⟩:=List.mem_map.mp h
 rw[<-e];rfl
theorem yg9 (η:List Int)(s:Int)(d:Bool)(k f:Nat):(rl η s d k f).Nodup:=
 nodup_cons (R7 (zz7 η s d f) (fun p _=>zb0 η s d f k p) fun p l h=>ym0 h)
def al (η:List Int)(s:Int)(k:Nat):List (List Nat):=(List.range η.length).flatMap (rl η s true k)++(List.range η.length).flatMap (rl η s false k)
def an (η:List Int)(s:Int)(k:Nat):Nat:=((List.range η.length).map (rn η s true k)).sum+((List.range η.length).map (rn η s false k)).sum
theorem za1 (η:List Int)(s:Int)(k:Nat):(al η s k).length=an η s k:=by
 unfold al an
 rw[length_append,length_flatMap,length_flatMap]
 simp only[xk9]
theorem al_mem {η:List Int}{s:Int}{k:Nat}{l:List Nat}:l∈al η s k↔Rg η s l/\l.length=2*k+2:=by
 unfold al
 rw[mem_append,mem_flatMap,mem_flatMap]
 constructor
 .rintro(⟨f,hf,h⟩|⟨f,hf,h⟩)
  .have hf:=List.mem_range.mp hf
   obtain⟨a,b⟩:=(zx7 hf).mp h
   exact⟨⟨true,f,hf,a⟩,b⟩
  .have hf:=List.mem_range.mp hf
   obtain⟨a,b⟩:=(zx7 hf).mp h
   exact⟨⟨false,f,hf,a⟩,b⟩
 .rintro⟨⟨d,f,hf,a⟩,b⟩
  cases d
  .exact .inr ⟨f,List.mem_range.mpr hf,(zx7 hf).mpr ⟨a,b⟩⟩
  .exact .inl ⟨f,List.mem_range.mpr hf,(zx7 hf).mpr ⟨a,b⟩⟩
theorem ya3 {η:List Int}{s:Int}(L:1<=s)(k:Nat):(al η s k).Nodup:=by
 unfold al
 have one:∀ d,((List.range η.length).flatMap (rl η s d k)).Nodup:=fun d=>R7 nodup_range (fun f _=>yg9 η s d k f) fun f l h=>xv4 h
 unfold List.Nodup
 rw[pairwise_append]
 refine⟨one true,one false,fun x I y G e=>?_⟩
 subst e
 obtain⟨f,i,h⟩:=List.mem_flatMap.mp I
 obtain⟨g,J,h'⟩:=List.mem_flatMap.mp G
 obtain⟨a,_⟩:=(zx7 (List.mem_range.mp i)).mp h
 obtain⟨b,_⟩:=(zx7 (List.mem_range.mp J)).mp h'
 obtain⟨m,rfl,p,M,_⟩:=(O0 (List.mem_range.mp i)).mp a
 have z:=a.1
 have j:=b.1
 cases m with
 |nil=>have:=a.2.2.1;simp at this
 |cons q m=>
  have h1:=z.2.1
  have h2:=j.2.1
  unfold far at h1 h2
  simp only[if_true,Bool.false_eq_true,if_false]at h1 h2
  omega
theorem xj1 {η:List Int}{s:Int}{l:List Nat}(h:Rg η s l):l.length<=η.length:=by
 obtain⟨d,f,i,a,⟨m,rfl⟩,_⟩:=h
 have:=a.len
 simp;omega
theorem xp4 {η:List Int}{s:Int}{d:Bool}{f k p:Nat}(i:p<η.length)(h:η.length<2*k+1):gn η s d f k p=0:=by
 unfold gn
 cases hA:gl η s d f k p with
 |nil=>rfl
 |cons a A=>
  obtain⟨⟨w,⟨m,rfl⟩,_⟩,e⟩:=(zn5 η s d f k p i a).mp (by rw[hA];simp)
  have:=w.len
  simp only[length_cons]at e
  omega
end
section
open PySem L2
theorem B7 {i:Nat}{x:ML}{ρ:Ro}{ds:List D}(h:x ρ=some ds):Y9 i x ρ=some (.nx (ρ.set i (some (.own ds)))):=by unfold Y9;rw[h];rfl
def GN (η:List Int)(s:Int)(d:Bool)(f k:Nat):List Nat:=(List.range η.length).map (gn η s d f k)
theorem yp7 (n:Nat)(F:Nat->Nat)(q:Nat)(h:q<n):((List.range n).map F).getD q 0=F q:=by
 rw[getD_eq_getElem?_getD,getElem?_map,getElem?_range h];rfl
theorem xx5 (η:List Int)(s:Int)(j:η.length<=300)(e:Bool)(F:Nat->Nat):zi9 [.lst (((List.range η.length).map F).map dN),.lst ((Ab η s e).map L)]=some (.fr (((List.range η.length).map fun p=>((abv η s e p).map F).sum).map dN)):=by
 rw[ze6 ((List.range η.length).map F) (Ab η s e) ?_ (by rw[zz8];omega)]
 .congr 3
  unfold Ab
  rw[map_map]
  apply map_congr_left
  intro p z
  show ((abv η s e p).map fun q=>((List.range η.length).map F).getD q 0).sum=_
  congr 1
  apply map_congr_left
  intro q i
  exact yp7 _ _ _ (abv_mem.mp i).2.1
 .intro a ha
  obtain⟨p,_,rfl⟩:=List.mem_map.mp ha
  refine⟨Nat.le_trans (zr2 η s e p) j,fun q i=>?_⟩
  rw[length_map,length_range]
  exact(abv_mem.mp i).2.1
def eC (η:List Int)(s:Int)(d:Bool)(f k:Nat):Ro:=[k0b f,some (.sh (.lst ((Ab η s d).map L))),some (.sh (.lst ((Ab η s (!d)).map L))),some (.sh (L (abv η s d f))),some (.sh (.lst ((GN η s d f k).map dN))),some (.own (((List.range k).map fun k=>rn η s d k f).map dN))]
theorem yu5 (η:List Int)(s:Int)(d:Bool)(f k:Nat)(J:η.length<=300):msum (l7 [none,some 4] (l6 (mvar 3)) (.nm 0) cyes (mix (bvar 1) (mvar 0))) (eC η s d f k)=some (dN (rn η s d k f)):=by
 have I:=j6
 refine yp0 (ns:=(abv η s d f).map fun p=>gn η s d f k p) ?_
 unfold l7
 rw[show l6 (mvar 3) (eC η s d f k)=some ((abv η s d f).map dN)from rfl,Option.bind_some]
 refine(j5 (f:=dN) (G:=fun p=>dN (gn η s d f k p)) (fun es ρ=>(∀ q∈es,q<η.length)/\∃ o,ρ=[o,some (.sh (.lst ((GN η s d f k).map dN)))]) (by
  rintro q es ρ ⟨i,o,rfl⟩
  refine⟨[some (.sh (dN q)),some (.sh (.lst ((GN η s d f k).map dN)))],rfl,rfl,?_,fun z j=>i z (by simp[j]),_,rfl⟩
  refine V4 (ds:=(GN η s d f k).map dN) (k:=(q:Int)) rfl rfl ?_
  rw[xb3 _ q (by unfold GN;rw[length_map,length_range];exact i q (by simp))]
  unfold GN
  rw[yp7 _ _ _ (i q (by simp))]) (abv η s d f) _ [] ⟨fun q i=>(abv_mem.mp i).2.1,none,rfl⟩ (by have:=zr2 η s d f;simp;omega)).trans ?_
 rw[nil_append,map_map]
 rfl
theorem xo2 (η:List Int)(s:Int)(d:Bool)(f k:Nat)(i:η.length<=300)(G:k<=1000):zs4 (eC η s d f k)=some (.nx (eC η s d f (k+1))):=by
 have z:=j6
 unfold zs4
 refine seqI (ρ':=(eC η s d f k).set 5 (some (.own (((List.range (k+1)).map fun k=>rn η s d k f).map dN)))) ?_ ?_
 .unfold mapp
  rw[yu5 η s d f k i]
  show (if (((List.range k).map fun k=>rn η s d k f).map dN).length<sizeLine then _ else none)=_
  rw[if_pos (by simp;omega),U5,map_append]
  rfl
 .have e1:=xx5 η s i d (gn η s d f k)
  have j:=xx5 η s i (!d) fun q=>((abv η s d q).map fun r=>gn η s d f k r).sum
  have e3:((List.range η.length).map fun p=>((abv η s (!d) p).map fun q=>((abv η s d q).map fun r=>gn η s d f k r).sum).sum)=GN η s d f (k+1):=by
   unfold GN
   apply map_congr_left
   intro p _
   rw[yn9]
  rw[e3]at j
  exact(g0 (c8 (z9 (c8 (z9 (d:=.lst ((GN η s d f k).map dN)) rfl (z9 (d:=.lst ((Ab η s d).map L)) rfl w6)) e1) (z9 (d:=.lst ((Ab η s (!d)).map L)) rfl w6)) j)).trans rfl
theorem yk7 (η:List Int)(s:Int)(d:Bool)(f:Nat)(j:η.length<=300):∀(u k:Nat),η.length+1<=k+u->k<=η.length->
  ∃ J,J<=η.length/\(∀ p,p<η.length->gn η s d f J p=0)/\U9 (mtru (many (bvar 4))) zs4 u (eC η s d f k)=some (.nx (eC η s d f J))
 |0,k,h,hk=>by omega
 |u+1,k,h,hk=>by
  have c2:mtru (many (bvar 4)) (eC η s d f k)=some ((GN η s d f k).any fun n=>n != 0):=by
   unfold mtru
   rw[xr9 (ns:=GN η s d f k) rfl]
   rfl
  unfold U9
  rw[c2]
  cases hz:(GN η s d f k).any fun n=>n != 0 with
  |true=>
   have q:k<η.length:=by
    rcases Nat.lt_or_ge k η.length with w|w
    .exact w
    .obtain⟨y,hy,e⟩:=List.any_eq_true.mp hz
     obtain⟨p,i,rfl⟩:=List.mem_map.mp hy
     have i:=List.mem_range.mp i
     rw[xp4 i (by omega)]at e
     cases e
   simp only[xo2 η s d f k j (by omega)]
   exact yk7 η s d f j u (k+1) (by omega) (by omega)
  |false=>
   refine⟨k,hk,fun p i=>?_,rfl⟩
   have:=List.any_eq_false.mp hz (gn η s d f k p) (List.mem_map.mpr ⟨p,List.mem_range.mpr i,rfl⟩)
   simpa using this
theorem zv2 {xs:List Nat}{F:Nat->Nat}(h:∀ q∈xs,F q=0):(xs.map F).sum=0:=by
 induction xs with
 |nil=>rfl
 |cons x xs i=>rw[map_cons,sum_cons,h x (by simp),i fun q j=>h q (by simp[j])]
theorem xy9 {η:List Int}{s:Int}{d:Bool}{f J:Nat}(h:∀ p,p<η.length->gn η s d f J p=0):∀ i p,p<η.length->gn η s d f (J+i) p=0
 |0,p,hp=>h p hp
 |i+1,p,hp=>by
  rw[<-Nat.add_assoc,yn9]
  exact zv2 fun q z=>zv2 fun r j=>xy9 h i r (abv_mem.mp j).2.1
theorem zz2 (η:List Int)(s:Int)(d:Bool)(f:Nat)(q:η.length<=300)(i:f<η.length):∃ J,J<=η.length/\(∀ k,J<=k->rn η s d k f=0)/\m_Z5 [.int (f:Int),.lst ((Ab η s d).map L),.lst ((Ab η s (!d)).map L)]=some (.fr (((List.range J).map fun k=>rn η s d k f).map dN)):=by
 have U:=j6
 obtain⟨J,M,j,N⟩:=yk7 η s d f q 1000 0 (by omega) (by omega)
 refine⟨J,M,fun k Y=>?_,?_⟩
 .unfold rn
  refine zv2 fun p I=>?_
  have:=xy9 j (k-J) p (abv_mem.mp I).2.1
  rw[show J+(k-J)=k by omega]at this
  exact this
 .unfold m_Z5 b_Z5
  refine P9 ?_
  refine seqI (ρ':=[k0b f,some (.sh (.lst ((Ab η s d).map L))),some (.sh (.lst ((Ab η s (!d)).map L))),some (.sh (L (abv η s d f))),none,none])
   ((g0 (V4 (ds:=(Ab η s d).map L) (k:=(f:Int)) rfl rfl (by rw[at_L _ f (by rw[zz8];exact i),yi8 η s d f i]))).trans rfl) ?_
  have S:l7 [none,some 3] (l5 rng1 (z8 (mlen (bvar 1)) anil)) (.nm 0) cyes (mite (l0 (m2 (inD false) (mvar 0) (mvar 1))) (mc (.int 1)) (mc (.int 0))) [k0b f,some (.sh (.lst ((Ab η s d).map L))),some (.sh (.lst ((Ab η s (!d)).map L))),some (.sh (L (abv η s d f))),none,none]=some ((GN η s d f 0).map dN):=by
   have O:l5 rng1 (z8 (mlen (bvar 1)) anil) [k0b f,some (.sh (.lst ((Ab η s d).map L))),some (.sh (.lst ((Ab η s (!d)).map L))),some (.sh (L (abv η s d f))),none,none]=some ((List.range η.length).map dN):=by
    unfold l5
    rw[z9 (d:=.int (η.length:Int)) (by rw[j0 (ds:=(Ab η s d).map L) rfl,length_map,zz8]) w6,Option.bind_some,U3 (X5 (by omega) (by omega)),Int.toNat_natCast,X1,map_map]
    rfl
   unfold l7
   rw[O,Option.bind_some]
   refine(j5 (f:=dN) (G:=fun p=>dN (gn η s d f 0 p)) (fun _ ρ=>∃ o,ρ=[o,some (.sh (L (abv η s d f)))]) (by
    rintro p ps ρ ⟨o,rfl⟩
    refine⟨[some (.sh (dN p)),some (.sh (L (abv η s d f)))],rfl,rfl,?_,_,rfl⟩
    unfold mite
    rw[xd7 (p:=p) (l:=abv η s d f) rfl rfl]
    unfold gn
    rw[gl]
    by_cases z:p∈abv η s d f
    .rw[if_pos z,decide_eq_true z];rfl
    .rw[if_neg z,decide_eq_false z];rfl) (List.range η.length) _ [] ⟨none,rfl⟩ (by simp;omega)).trans ?_
   unfold GN
   rw[nil_append,map_map]
   rfl
  refine seqI (ρ':=[k0b f,some (.sh (.lst ((Ab η s d).map L))),some (.sh (.lst ((Ab η s (!d)).map L))),some (.sh (L (abv η s d f))),some (.sh (.lst ((GN η s d f 0).map dN))),none]) ((g0 (t6 S)).trans rfl) ?_
  refine seqI (ρ':=eC η s d f 0) ((B7 (l8 w6 (Nat.zero_le _))).trans rfl) ?_
  refine seqI N ?_
  rfl
end
section
open PySem L2
def eK (η:List Int)(s:Int)(T:List Nat)(o3 o4 o5 o6 o7:Option S):Ro:=[k0a η,k0c s,some (.own (T.map dN)),o3,o4,o5,o6,o7]
theorem ya0 {i h b:Nat}{j v:ME}{ρ:Ro}{T:List Nat}(hi:ρ[i]? =some (some (.own (T.map dN))))(q:j ρ=some (.int (h:Int)))(z:v ρ=some (dN b))(hh:h<T.length):zo3 i j v ρ=some (.nx (ρ.set i (some (.own ((T.set h (T.getD h 0+b)).map dN))))):=by
 unfold zo3
 rw[hi,q]
 simp only
 rw[length_map,zh3 _ _ hh]
 simp only
 have e:(T.map dN)[h]? =some (.int ((T.getD h 0:Nat):Int)):=by
  rw[getElem?_map,getD_eq_getElem?_getD,getElem?_eq_getElem hh];rfl
 rw[e,z]
 show some (Out.nx (ρ.set i (some (.own ((T.map dN).set h (.int (((T.getD h 0:Nat):Int)+(b:Int))))))))=_
 rw[map_set]
 rfl
theorem ym1 (T:List Nat)(p q b:Nat)(h:p≠q):(T.set p b).getD q 0=T.getD q 0:=by
 rw[getD_eq_getElem?_getD,getD_eq_getElem?_getD,getElem?_set_ne h]
theorem xp5 (T:List Nat)(p b:Nat)(h:p<T.length):(T.set p b).getD p 0=b:=by
 rw[getD_eq_getElem?_getD,getElem?_set_self h];rfl
def Put (n:Nat)(T U:List Nat)(c:Nat->Nat):Prop:=T.length=n+1/\U.length=n+1/\U.getD 0 0=T.getD 0 0/\∀ h,h<n->U.getD (h+1) 0=T.getD (h+1) 0+c h
theorem yc7 (c:Nat->Nat)(J:Nat):zm2 [.lst (((List.range J).map c).map dN)]=some ((List.range J).map fun(i:Nat)=>D.tup [.int ((i+1:Nat):Int),dN (c i)]):=by
 show some (J4 1 _)=_
 congr 1
 apply ext_getElem?
 intro i
 rcases Nat.lt_or_ge i J with h|h
 .rw[M5 1 _ i (dN (c i)) (by rw[getElem?_map,getElem?_map,getElem?_range h];rfl),getElem?_map,getElem?_range h,Nat.add_comm 1 i]
  rfl
 .rw[getElem?_eq_none (by rw[Y1];simpa using h),getElem?_eq_none (by simpa using h)]
theorem yq6 (η:List Int)(s:Int)(hr:η.length<=300)(d:Bool)(f:Nat)(hf:f<η.length)(T:List Nat)(Y:T.length=η.length+1)(N o7:Option S):
  ∃ U G q,Put η.length T U (fun h=>rn η s d h f)/\zs3 (eK η s T (some (.sh (.lst ((Ab η s d).map L)))) (some (.sh (.lst ((Ab η s (!d)).map L)))) (k0b f) N o7)=some (.nx (eK η s U (some (.sh (.lst ((Ab η s d).map L)))) (some (.sh (.lst ((Ab η s (!d)).map L)))) (k0b f) G q)):=by
 obtain⟨J,hJ,Z,ec⟩:=zz2 η s d f hr hf
 unfold zs3
 obtain⟨o,e,U,G,q,rfl,hU⟩:=X6 (mi:=l5 zm2 (z8 (u5 m_Z5 (z8 (mvar 5) (z8 (mvar 3) (z8 (mvar 4) anil)))) anil)) (g:=.tp [6,7]) (body:=zf8) (ρ:=eK η s T (some (.sh (.lst ((Ab η s d).map L)))) (some (.sh (.lst ((Ab η s (!d)).map L)))) (k0b f) N o7) J (f:=fun(i:Nat)=>D.tup [.int ((i+1:Nat):Int),dN (rn η s d i f)])
  (by
   unfold l5
   rw[z9 (c8 (z9 (d:=.int (f:Int)) rfl (z9 (d:=.lst ((Ab η s d).map L)) rfl (z9 (d:=.lst ((Ab η s (!d)).map L)) rfl w6))) ec) w6,Option.bind_some]
   exact yc7 (fun k=>rn η s d k f) J)
  (I:=fun j ρ=>∃ U G q,ρ=eK η s U (some (.sh (.lst ((Ab η s d).map L)))) (some (.sh (.lst ((Ab η s (!d)).map L)))) (k0b f) G q/\Put η.length T U (fun h=>if h<j then rn η s d h f else 0))
  (Q:=fun o=>∃ U G q,o= .nx (eK η s U (some (.sh (.lst ((Ab η s d).map L)))) (some (.sh (.lst ((Ab η s (!d)).map L)))) (k0b f) G q)/\Put η.length T U (fun h=>rn η s d h f))
  ⟨T,N,o7,rfl,Y,Y,rfl,fun h _=>by simp⟩
  (by
   rintro j ρ hj ⟨U,G,q,rfl,h1,h2,O,M⟩
   refine⟨eK η s U (some (.sh (.lst ((Ab η s d).map L)))) (some (.sh (.lst ((Ab η s (!d)).map L)))) (k0b f) (some (.sh (.int ((j+1:Nat):Int)))) (some (.sh (dN (rn η s d j f)))),rfl,?_⟩
   unfold zf8
   refine⟨_,ya0 (T:=U) (h:=j+1) (b:=rn η s d j f) rfl rfl rfl (by omega),?_⟩
   refine⟨U.set (j+1) (U.getD (j+1) 0+rn η s d j f),_,_,rfl,h1,by rw[length_set];exact h2,?_,fun h hh=>?_⟩
   .rw[ym1 _ _ _ _ (by omega)];exact O
   .by_cases z:j=h
    .subst z
     rw[xp5 _ _ _ (by omega),M j hh]
     simp
    .rw[ym1 _ _ _ _ (by omega),M h hh]
     dsimp only
     by_cases w:h<j
     .rw[if_pos w,if_pos (by omega)]
     .rw[if_neg w,if_neg (by omega)])
  (by
   rintro ρ ⟨U,G,q,rfl,h1,h2,O,M⟩
   refine⟨U,G,q,rfl,h1,h2,O,fun h hh=>?_⟩
   rw[M h hh]
   dsimp only
   by_cases w:h<J
   .rw[if_pos w]
   .rw[if_neg w,Z h (by omega)])
 exact⟨U,G,q,hU,e⟩
theorem xv2 {η:List Int}{ρ:Ro}(i:η.length<=300)(h:ρ[0]? =some (k0a η)):l5 rng1 (z8 (mlen (bvar 0)) anil) ρ=some ((List.range η.length).map dN):=by
 unfold l5
 rw[z9 (d:=.int (η.length:Int)) (by rw[j0 (ds:=η.map .int) (by unfold bvar;rw[h]),length_map]) w6,Option.bind_some,U3 (X5 (by omega) (by omega)),Int.toNat_natCast,X1,map_map]
 rfl
theorem yq5 (η:List Int)(s:Int)(N:η.length<=300)(d:Bool)(T:List Nat)(O:T.length=η.length+1)(J G o7:Option S):
  ∃ U z q i,Put η.length T U (fun h=>((List.range η.length).map (rn η s d h)).sum)/\zs2 (eK η s T (some (.sh (.lst ((Ab η s d).map L)))) (some (.sh (.lst ((Ab η s (!d)).map L)))) J G o7)=some (.nx (eK η s U (some (.sh (.lst ((Ab η s d).map L)))) (some (.sh (.lst ((Ab η s (!d)).map L)))) z q i)):=by
 unfold zs2
 obtain⟨o,e,U,z,q,i,rfl,M⟩:=X6 (mi:=l5 rng1 (z8 (mlen (bvar 0)) anil)) (g:=.nm 5) (body:=zs3) (ρ:=eK η s T (some (.sh (.lst ((Ab η s d).map L)))) (some (.sh (.lst ((Ab η s (!d)).map L)))) J G o7) η.length (f:=dN) (xv2 N rfl)
  (I:=fun j ρ=>∃ U z q i,ρ=eK η s U (some (.sh (.lst ((Ab η s d).map L)))) (some (.sh (.lst ((Ab η s (!d)).map L)))) z q i/\Put η.length T U (fun h=>((List.range j).map (rn η s d h)).sum))
  (Q:=fun o=>∃ U z q i,o= .nx (eK η s U (some (.sh (.lst ((Ab η s d).map L)))) (some (.sh (.lst ((Ab η s (!d)).map L)))) z q i)/\Put η.length T U (fun h=>((List.range η.length).map (rn η s d h)).sum))
  ⟨T,J,G,o7,rfl,O,O,rfl,fun h _=>by simp⟩
  (by
   rintro j ρ Y ⟨U,z,q,i,rfl,h1,h2,h3,Z⟩
   obtain⟨V,r6,r7,⟨_,g2,g3,g4⟩,ev⟩:=yq6 η s N d j Y U h2 q i
   refine⟨eK η s U (some (.sh (.lst ((Ab η s d).map L)))) (some (.sh (.lst ((Ab η s (!d)).map L)))) (k0b j) q i,rfl,_,ev,?_⟩
   refine⟨V,_,_,_,rfl,h1,g2,by rw[g3,h3],fun h hh=>?_⟩
   rw[g4 h hh,Z h hh]
   dsimp only
   rw[U5,sum_append,sum_singleton,Nat.add_assoc])
  (by
   rintro ρ ⟨U,z,q,i,rfl,M⟩
   exact⟨U,z,q,i,rfl,M⟩)
 exact⟨U,z,q,i,M,e⟩
def tn (η:List Int)(s:Int):Nat->Nat
 |0=>1
 |h+1=>an η s h
theorem zd7 (η:List Int)(s:Int)(I:η.length<=300)(G q j i o7:Option S):∀(m u:Nat),m<u->m<=400->∃ M,M<=m/\tn η s M≠0/\(∀ h,M<h->h<=m->tn η s h=0)/\
  U9 (l0 (m2 eqSD (mix (bvar 2) (m1 negD (mc (.int 1)))) (mc (.int 0)))) zs1 u (eK η s ((List.range (m+1)).map (tn η s)) G q j i o7)=some (.nx (eK η s ((List.range (M+1)).map (tn η s)) G q j i o7))
 |m,0,h,_=>by omega
 |m,u+1,h,hm=>by
  have c:l0 (m2 eqSD (mix (bvar 2) (m1 negD (mc (.int 1)))) (mc (.int 0))) (eK η s ((List.range (m+1)).map (tn η s)) G q j i o7)=some (decide (tn η s m=0)):=by
   have e:mix (bvar 2) (m1 negD (mc (.int 1))) (eK η s ((List.range (m+1)).map (tn η s)) G q j i o7)=some (dN (tn η s m)):=by
    refine V4 (ds:=((List.range (m+1)).map (tn η s)).map dN) (k:=-1) rfl rfl ?_
    rw[U5]
    exact atI_last dN _ _
   unfold l0
   rw[zo6 e (b:=.int 0) rfl]
   show (match (some (D.bl (((tn η s m:Nat):Int)==0)):Option D)with |some (.bl b)=>some b|_=>none)=_
   simp only
   congr 1
   rw[Bool.eq_iff_iff,beq_iff_eq,decide_eq_true_eq]
   omega
  unfold U9
  rw[c]
  by_cases z:tn η s m=0
  .rw[decide_eq_true z]
   cases m with
   |zero=>cases z
   |succ m=>
    have e:zs1 (eK η s ((List.range (m+1+1)).map (tn η s)) G q j i o7)=some (.nx (eK η s ((List.range (m+1)).map (tn η s)) G q j i o7)):=by
     unfold zs1 ye6
     show (if 0<(((List.range (m+1+1)).map (tn η s)).map dN).length then some (Out.nx ((eK η s ((List.range (m+1+1)).map (tn η s)) G q j i o7).set 2 (some (.own (((List.range (m+1+1)).map (tn η s)).map dN).dropLast))))else none)=_
     rw[if_pos (by simp),U5,map_append]
     rw[show (List.map dN (List.map (tn η s) (List.range (m+1)))++List.map dN [tn η s (m+1)]).dropLast=List.map dN (List.map (tn η s) (List.range (m+1)))from dropLast_concat]
     rfl
    simp only[e]
    obtain⟨M,h1,h2,L,J⟩:=zd7 η s I G q j i o7 m u (by omega) (by omega)
    refine⟨M,by omega,h2,fun h a b=>?_,J⟩
    rcases Nat.lt_or_ge h (m+1)with w|w
    .exact L h a (by omega)
    .rw[show h=m+1 by omega];exact z
  .rw[decide_eq_false z]
   exact⟨m,Nat.le_refl _,z,fun h a b=>by omega,rfl⟩
theorem yv3 (n:Nat):(List.replicate n [D.int 0]).flatten=((List.range n).map fun _=>0).map dN:=by
 induction n with
 |zero=>rfl
 |succ n i=>rw[replicate_succ',flatten_append,i,range_succ,map_append,map_append];rfl
theorem zb4 {g:Tg}{body:MS}{q j:D}{ρ ρ1 ρ2 ρ3 i:Ro}(h1:tgD g q ρ=some ρ1)(h2:body ρ1=some (.nx ρ2))(G:tgD g j ρ2=some ρ3)(z:body ρ3=some (.nx i)):forD g body [q,j] ρ=some (.nx i):=by
 unfold forD
 rw[h1]
 simp only[h2]
 unfold forD
 rw[G]
 simp only[z]
 rfl
theorem zz1 (η:List Int)(s:Int)(h1:1<=s)(j:η.length<=300):∃ M,M<=η.length/\tn η s M≠0/\(∀ h,M<h->h<=η.length->tn η s h=0)/\m_Z6 [.lst (η.map .int),.int s]=some (.fr (((List.range (M+1)).map (tn η s)).map dN)):=by
 have a0:=j6
 have i1:1<=sizeLine:=t8 (by decide)
 have rk:zj9 1 (η.length:Int)=true:=by
  unfold zj9
  rw[decide_eq_true (by omega),decide_eq_true (by omega),decide_eq_true (by rw[Int.toNat_natCast];omega)];rfl
 have e0:mcat (m5 (z8 (mc (.int 1)) anil)) (mrep (m5 (z8 (mc (.int 0)) anil)) (mlen (bvar 0))) [k0a η,k0c s,none,none,none,none,none,none]=some ((1::(List.range η.length).map fun _=>0).map dN):=by
  have rp:=yp2 (x:=m5 (z8 (mc (.int 0)) anil)) (y:=mlen (bvar 0)) (ρ:=[k0a η,k0c s,none,none,none,none,none,none]) (l8 (z9 (d:=.int 0) rfl w6) i1) (k:=(η.length:Int)) (by rw[j0 (ds:=η.map .int) rfl,length_map]) rk
  rw[Int.toNat_natCast,yv3]at rp
  refine(O6 (l8 (z9 (d:=.int 1) rfl w6) i1) rp (by simp;omega)).trans ?_
  rfl
 have lT:(1::(List.range η.length).map fun _=>0).length=η.length+1:=by simp
 obtain⟨U,N,J,I,⟨_,u2,Z,Y⟩,eu⟩:=yq5 η s j true (1::(List.range η.length).map fun _=>0) lT none none none
 obtain⟨V,G,z,q,⟨_,v2,S,O⟩,ev⟩:=yq5 η s j false U u2 N J I
 have hV:V=(List.range (η.length+1)).map (tn η s):=by
  apply ext_getElem?
  intro i
  rcases Nat.lt_or_ge i (η.length+1)with h|h
  .have hg:V.getD i 0=tn η s i:=by
    cases i with
    |zero=>rw[S,Z];rfl
    |succ i=>
     rw[O i (by omega),Y i (by omega)]
     rw[show (1::(List.range η.length).map fun _=>0).getD (i+1) 0=0 from yp7 η.length (fun _=>0) i (by omega),Nat.zero_add]
     rfl
   rw[getElem?_map,getElem?_range h]
   rw[getD_eq_getElem?_getD,getElem?_eq_getElem (by omega)]at hg
   rw[getElem?_eq_getElem (by omega)]
   exact congrArg some hg
  .rw[getElem?_eq_none (by omega),getElem?_eq_none (by simpa using h)]
 obtain⟨M,hM,m1,m2,em⟩:=zd7 η s j (some (.sh (.lst ((Ab η s false).map L)))) (some (.sh (.lst ((Ab η s true).map L)))) G z q η.length 1000 (by omega) (by omega)
 refine⟨M,hM,m1,m2,?_⟩
 unfold m_Z6 b_Z6
 refine P9 ?_
 refine seqI (ρ':=[k0a η,k0c s,none,none,none,none,none,none]) (zt5 (m6 (f:=Q7) (z9 (d:=.int s) rfl w6) (Z2 s h1))) ?_
 refine seqI (ρ':=eK η s (1::(List.range η.length).map fun _=>0) none none none none none) ((B7 e0).trans rfl) ?_
 have e1:zy9 (u5 B9 (z8 (mvar 0) (z8 (mvar 1) anil))) (eK η s (1::(List.range η.length).map fun _=>0) none none none none none)=some [.tup [.lst ((Ab η s true).map L),.lst ((Ab η s false).map L)],.tup [.lst ((Ab η s false).map L),.lst ((Ab η s true).map L)]]:=by
  unfold zy9
  rw[m6 (z9 (d:=.lst (η.map .int)) rfl (z9 (d:=.int s) rfl w6)) (G7 η s j)]
 have ef:mfor (zy9 (u5 B9 (z8 (mvar 0) (z8 (mvar 1) anil)))) (.tp [3,4]) zs2 (eK η s (1::(List.range η.length).map fun _=>0) none none none none none)=some (.nx (eK η s V (some (.sh (.lst ((Ab η s false).map L)))) (some (.sh (.lst ((Ab η s true).map L)))) G z q)):=by
  unfold mfor
  rw[e1,Option.bind_some]
  refine zb4 (ρ1:=eK η s (1::(List.range η.length).map fun _=>0) (some (.sh (.lst ((Ab η s true).map L)))) (some (.sh (.lst ((Ab η s (!true)).map L)))) none none none) rfl eu (ρ3:=eK η s U (some (.sh (.lst ((Ab η s false).map L)))) (some (.sh (.lst ((Ab η s (!false)).map L)))) N J I) rfl ev
 refine seqI ef ?_
 unfold yi1
 rw[hV]
 refine seqI em ?_
 rfl
end
section
open PySem L2
def dir (d:Bool)(i:Nat):Bool:=if i % 2=0 then d else !d
theorem D0 (d:Bool)(i:Nat):dir d (i+1)= !dir d i:=by
 unfold dir
 rcases Nat.mod_two_eq_zero_or_one i with h|h
 .rw[if_neg (by omega),if_pos h]
 .rw[if_pos (by omega),if_neg (by omega),Bool.not_not]
theorem J5 (d:Bool)(i:Nat):dir (!d) i= !dir d i:=by
 unfold dir;split <;> simp
theorem zg0 (d:Bool){i j:Nat}(h:i % 2=j % 2):dir d i=dir d j:=by unfold dir;rw[h]
theorem xo0 (d:Bool)(i k:Nat):dir (dir d k) i=dir d (i+k):=by
 unfold dir
 rcases Nat.mod_two_eq_zero_or_one i with h|h <;> rcases Nat.mod_two_eq_zero_or_one k with g|g
 .rw[if_pos h,if_pos g,if_pos (by omega)]
 .rw[if_pos h,if_neg (by omega),if_neg (by omega)]
 .rw[if_neg (by omega),if_pos g,if_neg (by omega)]
 .rw[if_neg (by omega),if_neg (by omega),if_pos (by omega),Bool.not_not]
theorem E9 {s:Int}{d:Bool}{a b:Int}:far s (!d) a b↔far s d b a:=by
 unfold far;cases d <;> simp
def Cf (s:Int)(m:Nat)(u:Nat->Int):Prop:=m % 2=0/\∃ d,∀ i,i<m->far s (dir d i) (u i) (u ((i+1) % m))
theorem Cf.congr {s:Int}{m:Nat}{u v:Nat->Int}(h:Cf s m u)(e:∀ i,i<m->v i=u i):Cf s m v:=by
 obtain⟨h1,d,h2⟩:=h
 refine⟨h1,d,fun i hi=>?_⟩
 rw[e i hi,e _ (Nat.mod_lt _ (by omega))]
 exact h2 i hi
theorem Cf.neg {s:Int}{m:Nat}{u:Nat->Int}(h:Cf s m u):Cf s m fun i=>0-u i:=by
 obtain⟨h1,d,h2⟩:=h
 refine⟨h1,!d,fun i hi=>?_⟩
 rw[J5,E9]
 have:=h2 i hi
 unfold far at this ⊢
 split <;> simp_all <;> omega
theorem Cf.shift {s:Int}{m:Nat}{u:Nat->Int}(c:Int)(h:Cf s m u):Cf s m fun i=>u i+c:=by
 obtain⟨h1,d,h2⟩:=h
 refine⟨h1,d,fun i hi=>?_⟩
 have:=h2 i hi
 unfold far at this ⊢
 split <;> simp_all <;> omega
theorem Cf.rot {s:Int}{m:Nat}{u:Nat->Int}(k:Nat)(h:Cf s m u):Cf s m fun i=>u ((i+k) % m):=by
 obtain⟨h1,d,h2⟩:=h
 refine⟨h1,dir d k,fun i hi=>?_⟩
 have hm:0<m:=by omega
 have:=h2 ((i+k) % m) (Nat.mod_lt _ hm)
 have q:dir d ((i+k) % m)=dir (dir d k) i:=by
  rw[xo0]
  refine zg0 d ?_
  have:=Nat.mod_mod_of_dvd (i+k) (show 2 ∣ m by omega)
  exact this
 have j:((i+k) % m+1) % m=((i+1) % m+k) % m:=by
  rw[Nat.mod_add_mod,Nat.mod_add_mod]
  congr 1
  omega
 rw[q,j]at this
 exact this
theorem Cf.rev {s:Int}{m:Nat}{u:Nat->Int}(h:Cf s m u):Cf s m fun i=>u (m-1-i):=by
 obtain⟨h1,d,h2⟩:=h
 refine⟨h1,!d,fun i hi=>?_⟩
 rw[J5,E9]
 show far s (dir d i) (u (m-1-(i+1) % m)) (u (m-1-i))
 rcases Nat.lt_or_ge (i+1) m with z|z
 .rw[Nat.mod_eq_of_lt z]
  have:=h2 (m-1-(i+1)) (by omega)
  rw[Nat.mod_eq_of_lt (by omega),show m-1-(i+1)+1=m-1-i by omega,zg0 d (show (m-1-(i+1)) % 2=i % 2 by omega)]at this
  exact this
 .have hi':i=m-1:=by omega
  rw[show (i+1) % m=0 by rw[hi',show m-1+1=m by omega,Nat.mod_self]]
  have:=h2 (m-1) (by omega)
  rw[show m-1+1=m by omega,Nat.mod_self]at this
  rw[hi',Nat.sub_zero,Nat.sub_self]
  exact this
def Cx (s:Int)(v:List Int):Prop:=Cf s v.length fun i=>v.getD i 0
theorem Cx.rev {s:Int}{v:List Int}(h:Cx s v):Cx s v.reverse:=by
 unfold Cx
 rw[length_reverse]
 refine(Cf.rev h).congr fun i hi=>?_
 rw[getD_eq_getElem?_getD,getD_eq_getElem?_getD,getElem?_reverse hi]
theorem Cx.swap {s:Int}{a b:List Int}(h:Cx s (a++b)):Cx s (b++a):=by
 unfold Cx at h ⊢
 have e:(b++a).length=(a++b).length:=by rw[length_append,length_append,Nat.add_comm]
 rw[e]
 refine(Cf.rot a.length h).congr fun i hi=>?_
 rw[length_append]at hi ⊢
 rw[getD_eq_getElem?_getD,getD_eq_getElem?_getD]
 congr 1
 rcases Nat.lt_or_ge i b.length with z|z
 .rw[getElem?_append_left z,Nat.mod_eq_of_lt (by omega),getElem?_append_right (by omega)]
  congr 1
  omega
 .rw[getElem?_append_right z,show (i+a.length) % (a.length+b.length)=i-b.length by
   rw[show i+a.length=(i-b.length)+(a.length+b.length)by omega,Nat.add_mod_right,Nat.mod_eq_of_lt (by omega)],getElem?_append_left (by omega)]
theorem Cx.mapI {s:Int}{l:List Nat}{x y:Nat->Int}(h:Cx s (l.map x))(F:Int->Int)(j:∀{m:Nat}{u:Nat->Int},Cf s m u->Cf s m fun i=>F (u i))(e:∀ p∈l,y p=F (x p)):Cx s (l.map y):=by
 unfold Cx at h ⊢
 rw[length_map]at h ⊢
 refine(j h).congr fun i hi=>?_
 rw[getD_eq_getElem?_getD,getD_eq_getElem?_getD,getElem?_map,getElem?_map,getElem?_eq_getElem hi]
 exact e _ (getElem_mem hi)
theorem xc2 {s:Int}(i:1<=s){d e:Bool}{a b:Int}(h1:far s d a b)(h2:far s e a b):d=e:=by
 unfold far at h1 h2
 cases d <;> cases e <;> simp at h1 h2 ⊢ <;> omega
theorem R1 {s:Int}(i:1<=s){w:Option Bool}{a b:Int}{r:List Int}:altW s w (a::b::r)=true↔∃ e,far s e a b/\w≠some e/\altW s (some e) (b::r)=true:=by
 rw[altW]
 constructor
 .intro h
  split at h
  .cases h
  .rename_i z
   exact⟨_,yw1 fun y=>z (.inl y),fun y=>z (.inr y),h⟩
 .rintro⟨e,h1,h2,h3⟩
  obtain⟨q,j⟩:=ym4 i h1
  rw[j,if_neg]
  .exact h3
  .rintro(y|y)
   .exact q y
   .exact h2 y
theorem zw7 {s:Int}(q:1<=s):∀(r:List Int)(a:Int)(d:Bool),altW s (some (!d)) (a::r)=true↔∀ i,i<r.length->far s (dir d i) ((a::r).getD i 0) ((a::r).getD (i+1) 0)
 |[],a,d=>by
  constructor
  .intro _ i hi;simp at hi
  .intro _;rfl
 |b::r,a,d=>by
  have j:=zw7 q r b (!d)
  rw[Bool.not_not]at j
  rw[R1 q]
  constructor
  .rintro⟨e,h1,h2,h3⟩
   have:e=d:=by cases e <;> cases d <;> simp at h2 ⊢
   subst this
   intro i hi
   cases i with
   |zero=>exact h1
   |succ i=>
    have:=j.mp h3 i (by simpa using hi)
    rw[D0,<-J5]
    exact this
  .intro h
   refine⟨d,h 0 (by simp),by cases d <;> simp,j.mpr fun i hi=>?_⟩
   have:=h (i+1) (by simpa using hi)
   rw[D0,<-J5]at this
   exact this
theorem yv0 {s:Int}(j:1<=s)(w:List Int):altW s none w=true↔∃ d,∀ i,i+1<w.length->far s (dir d i) (w.getD i 0) (w.getD (i+1) 0):=by
 match w with
 |[]=>exact⟨fun _=>⟨true,fun i hi=>by simp at hi⟩,fun _=>rfl⟩
 |[a]=>exact⟨fun _=>⟨true,fun i hi=>by simp at hi⟩,fun _=>rfl⟩
 |a::b::r=>
  have key:∀ d,altW s (some (!d)) (a::b::r)=true↔∀ i,i<(b::r).length->far s (dir d i) ((a::b::r).getD i 0) ((a::b::r).getD (i+1) 0):=zw7 j (b::r) a
  constructor
  .intro h
   obtain⟨e,h1,_,q⟩:=(R1 j).mp h
   refine⟨e,fun i hi=>(key e).mp ((R1 j).mpr ⟨e,h1,by cases e <;> simp,q⟩) i (by simp at hi ⊢;omega)⟩
  .rintro⟨d,h⟩
   obtain⟨e,h1,_,q⟩:=(R1 j).mp ((key d).mpr fun i hi=>h i (by simp at hi ⊢;omega))
   exact(R1 j).mpr ⟨e,h1,by simp,q⟩
theorem C0 {s:Int}(L:1<=s)(v:List Int):altW s none (v++v.take 2)=true↔Cx s v:=by
 rw[yv0 L]
 match v with
 |[]=>exact⟨fun _=>⟨rfl,true,fun i hi=>by simp at hi⟩,fun _=>⟨true,fun i hi=>by simp at hi⟩⟩
 |[a]=>
  constructor
  .rintro⟨d,h⟩
   have:=h 0 (by simp)
   exfalso
   unfold far dir at this
   simp at this
   omega
  .rintro⟨h,_⟩
   simp at h
 |a::b::r=>
  have M:((a::b::r)++(a::b::r).take 2).length=(a::b::r).length+2:=by simp
  have j:∀ i,i<(a::b::r).length+2->((a::b::r)++(a::b::r).take 2).getD i 0=(a::b::r).getD (i % (a::b::r).length) 0:=fun i hi=>by
   rw[getD_eq_getElem?_getD,getD_eq_getElem?_getD]
   congr 1
   rcases Nat.lt_or_ge i (a::b::r).length with z|z
   .rw[getElem?_append_left z,Nat.mod_eq_of_lt z]
   .rw[getElem?_append_right z]
    have e:i % (a::b::r).length=i-(a::b::r).length:=by
     rw[Nat.mod_eq_sub_mod z,Nat.mod_eq_of_lt (by simp at hi ⊢;omega)]
    rw[e,getElem?_take_of_lt (by omega)]
  have h2:2<=(a::b::r).length:=by simp
  generalize hw:(a::b::r)=w at*
  have q:∀ i,(i+1) % w.length=(i % w.length+1) % w.length:=fun i=>by rw[Nat.mod_add_mod]
  constructor
  .rintro⟨d,h⟩
   have J:=h 0 (by omega)
   have I:=h w.length (by omega)
   rw[j _ (by omega),j _ (by omega)]at J I
   rw[q w.length,Nat.mod_self]at I
   rw[Nat.zero_mod]at J
   have:=xc2 L J I
   have G:w.length % 2=0:=by
    rcases Nat.mod_two_eq_zero_or_one w.length with z|z
    .exact z
    .unfold dir at this
     rw[if_pos rfl,if_neg (by omega)]at this
     cases d <;> simp at this
   refine⟨G,d,fun i hi=>?_⟩
   have:=h i (by omega)
   rw[j _ (by omega),j _ (by omega),Nat.mod_eq_of_lt hi]at this
   exact this
  .rintro⟨G,d,h⟩
   refine⟨d,fun i hi=>?_⟩
   rw[M]at hi
   rw[j _ (by omega),j _ (by omega)]
   have:=h (i % w.length) (Nat.mod_lt _ (by omega))
   rw[<-q,zg0 d (Nat.mod_mod_of_dvd i (show 2 ∣ w.length by omega))]at this
   exact this
theorem ya8 {x:Nat->Int}{n:Nat}{s:Int}:∀(l:List Nat)(p:Nat)(d:Bool),(p::l).Pairwise (·<·)->(∀ y∈p::l,y<n)->(Wd x n s d (p::l)↔∀ i,i<l.length->far s (dir d i) (((p::l).map x).getD i 0) (((p::l).map x).getD (i+1) 0))
 |[],p,d,hp,hn=>⟨fun _ i hi=>by simp at hi,fun _=>hn p (by simp)⟩
 |q::l,p,d,hp,hn=>by
  have j:=List.pairwise_cons.mp hp
  have z:=ya8 (x:=x) (n:=n) (s:=s) l q (!d) j.2 fun y G=>hn y (mem_cons_of_mem _ G)
  constructor
  .intro h i hi
   cases i with
   |zero=>exact h.2.1
   |succ i=>
    have:=z.mp h.2.2 i (by simpa using hi)
    rw[D0,<-J5]
    exact this
  .intro h
   refine⟨j.1 q (by simp),h 0 (by simp),z.mpr fun i hi=>?_⟩
   have:=h (i+1) (by simpa using hi)
   rw[D0,<-J5]at this
   exact this
end
section
open PySem L2
def Up (n:Nat)(l:List Nat):Prop:=l.Pairwise (·<·)/\∀ y∈l,y<n
theorem Up.tail {n p:Nat}{l:List Nat}(h:Up n (p::l)):Up n l:=⟨(List.pairwise_cons.mp h.1).2,fun y i=>h.2 y (mem_cons_of_mem _ i)⟩
theorem xv6 {η:List Int}{s:Int}{K:List Nat}(Y:Up η.length K):(K=[]\/Rg η s K)↔Cx s (K.map (xr η)):=by
 obtain⟨S,hn⟩:=Y
 cases K with
 |nil=>exact⟨fun _=>⟨rfl,true,fun i hi=>by simp at hi⟩,fun _=>.inl rfl⟩
 |cons p l=>
  have O:=fun d=>ya8 (x:=xr η) (n:=η.length) (s:=s) l p d S hn
  have j:((p::l).map (xr η)).length=l.length+1:=by simp
  have I:∀ k,(p::l).getLast? =some k->((p::l).map (xr η)).getD l.length 0=xr η k:=fun k G=>by
   rw[getLast?_eq_getElem?]at G
   rw[getD_eq_getElem?_getD,getElem?_map,show l.length=(p::l).length-1 by simp,G]
   rfl
  obtain⟨k,G⟩:∃ k,(p::l).getLast? =some k:=by
   cases h:(p::l).getLast? with
   |none=>rw[getLast?_eq_none_iff]at h;cases h
   |some k=>exact⟨k,rfl⟩
  have J:=I k G
  have U:((p::l).map (xr η)).getD 0 0=xr η p:=rfl
  constructor
  .rintro(h|⟨d,f,hf,w,⟨m,e⟩,hev,k',hk',ha⟩)
   .cases h
   .obtain⟨rfl,rfl⟩:=List.cons.inj e
    rw[G]at hk'
    cases hk'
    have ha:=(abv_mem.mp ha).2.2
    simp only[length_cons]at hev
    refine⟨by rw[j];exact hev,d,fun i hi=>?_⟩
    rw[j]at hi ⊢
    rcases Nat.lt_or_ge i l.length with z|z
    .rw[Nat.mod_eq_of_lt (by omega)]
     exact(O d).mp w i z
    .have:i=l.length:=by omega
     subst this
     rw[Nat.mod_self]
     dsimp only
     rw[J,U]
     have:dir d l.length= !d:=by unfold dir;rw[if_neg (by omega)]
     rw[this,E9]
     exact ha
  .rintro⟨hev,d,h⟩
   rw[j]at hev h
   have L:=h l.length (by omega)
   have:dir d l.length= !d:=by unfold dir;rw[if_neg (by omega)]
   rw[Nat.mod_self]at L
   dsimp only at L
   rw[J,U,this,E9]at L
   have M:p<k:=by
    have hm:=mem_of_getLast? G
    have N:=List.pairwise_cons.mp S
    cases l with
    |nil=>simp at hev
    |cons q l=>
     rw[getLast?_cons_cons]at G
     exact N.1 k (mem_of_getLast? G)
   refine .inr ⟨d,p,hn p (by simp),(O d).mpr fun i hi=>?_,⟨l,rfl⟩,by simpa using hev,k,G,abv_mem.mpr ⟨M,hn k (mem_of_getLast? G),L⟩⟩
   have:=h i (by omega)
   rw[Nat.mod_eq_of_lt (by omega)]at this
   exact this
theorem xb9 {x:Nat->Int}{n:Nat}{s:Int}:∀{l:List Nat}{d:Bool}{p:Nat},Wd x n s d (p::l)->(p::l).Pairwise (·<·)/\∀ y∈p::l,y<n
 |[],d,p,h=>⟨pairwise_singleton ..,fun y i=>by rw[List.mem_singleton.mp i];exact h⟩
 |q::l,d,p,h=>by
  obtain⟨h1,h2⟩:=xb9 h.2.2
  have j:=List.pairwise_cons.mp h1
  refine⟨List.pairwise_cons.mpr ⟨fun y i=>?_,h1⟩,fun y i=>?_⟩
  .rcases List.mem_cons.mp i with rfl|i
   .exact h.1
   .exact Nat.lt_trans h.1 (j.1 y i)
  .rcases List.mem_cons.mp i with rfl|i
   .exact h.lt
   .exact h2 y i
theorem xz0:∀{a b:List Nat},a.Pairwise (·<·)->b.Pairwise (·<·)->(∀ x,x∈a↔x∈b)->a=b
 |[],[],_,_,_=>rfl
 |[],y::b,_,_,h=>by have:=(h y).mpr (by simp);cases this
 |x::a,[],_,_,h=>by have:=(h x).mp (by simp);cases this
 |x::a,y::b,ha,hb,h=>by
  have h1:=List.pairwise_cons.mp ha
  have h2:=List.pairwise_cons.mp hb
  have e:x=y:=by
   rcases List.mem_cons.mp ((h x).mp (by simp))with e|e
   .exact e
   .rcases List.mem_cons.mp ((h y).mpr (by simp))with j|j
    .exact j.symm
    .have:=h2.1 x e
     have:=h1.1 y j
     omega
  subst e
  congr 1
  refine xz0 h1.2 h2.2 fun z=>⟨fun i=>?_,fun i=>?_⟩
  .rcases List.mem_cons.mp ((h z).mp (by simp[i]))with e|e
   .have:=h1.1 z i;omega
   .exact e
  .rcases List.mem_cons.mp ((h z).mpr (by simp[i]))with e|e
   .have:=h2.1 z i;omega
   .exact e
theorem xv5 {η:List Int}{s:Int}{l:List Nat}(h:Rg η s l):Up η.length l:=by
 obtain⟨d,f,i,w,⟨m,rfl⟩,_⟩:=h
 exact xb9 w
theorem xo9 {η i:List Int}{s:Int}(L:1<=s)(hn:i.length=η.length)(g:List Nat->List Nat)(φ:Nat->Nat)
  (H:∀ l,Up η.length l->Cx s (l.map (xr η))->Up η.length (g l)/\(g l).length=l.length/\(∀ x,x<η.length->(x∈l↔φ x∈g l))/\Cx s ((g l).map (xr i))) (k:Nat):an η s k<=an i s k:=by
 rw[<-za1,<-za1]
 have G:∀ l,l∈al η s k->Up η.length l/\Cx s (l.map (xr η))/\l.length=2*k+2:=fun l M=>by
  obtain⟨h1,h2⟩:=al_mem.mp M
  exact⟨xv5 h1,(xv6 (xv5 h1)).mp (.inr h1),h2⟩
 refine xy8 g (ya3 L k) (fun a ha b N e=>?_) fun a ha=>?_
 .obtain⟨a1,a2,_⟩:=G a ha
  obtain⟨q,S,_⟩:=G b N
  obtain⟨_,_,J,_⟩:=H a a1 a2
  obtain⟨_,_,I,_⟩:=H b q S
  refine xz0 a1.1 q.1 fun x=>?_
  constructor
  .intro hx
   have j:=a1.2 x hx
   exact(I x j).mpr (e ▸ (J x j).mp hx)
  .intro hx
   have j:=q.2 x hx
   exact(J x j).mpr (e ▸ (I x j).mp hx)
 .obtain⟨a1,a2,a3⟩:=G a ha
  obtain⟨c1,c2,_,O⟩:=H a a1 a2
  refine al_mem.mpr ⟨?_,by omega⟩
  rcases (xv6 (η:=i) (by rw[hn];exact c1)).mpr O with z|z
  .rw[z]at c2;simp at c2;omega
  .exact z
theorem xn3 (η:List Int)(F:Int->Int)(p:Nat)(h:p<η.length):xr (η.map F) p=F (xr η p):=by
 show (η.map F).getD p 0=F (η.getD p 0)
 rw[getD_eq_getElem?_getD,getD_eq_getElem?_getD,getElem?_map,getElem?_eq_getElem h];rfl
theorem L9 {η:List Int}{s:Int}(j:1<=s)(F:Int->Int)(z:∀{m:Nat}{u:Nat->Int},Cf s m u->Cf s m fun i=>F (u i))(k:Nat):an η s k<=an (η.map F) s k:=
 xo9 j (by simp) id id (fun l h1 h2=>⟨h1,rfl,fun _ _=>Iff.rfl,h2.mapI F z fun p q=>xn3 η F p (h1.2 p q)⟩) k
theorem xb8 {η:List Int}{s:Int}(i:1<=s)(k:Nat):an (η.map fun x=>0-x) s k=an η s k:=by
 refine Nat.le_antisymm ?_ (L9 i _ (fun h=>h.neg) k)
 have:=L9 (η:=η.map fun x=>0-x) i (fun x=>0-x) (fun h=>h.neg) k
 rw[map_map,show ((fun x:Int=>0-x)∘fun x=>0-x)=id from funext fun x=>by show 0-(0-x)=x;omega,map_id]at this
 exact this
theorem ya2 {η:List Int}{s:Int}(i:1<=s)(c:Int)(k:Nat):an (η.map fun x=>x+c) s k=an η s k:=by
 refine Nat.le_antisymm ?_ (L9 i _ (fun h=>h.shift c) k)
 have:=L9 (η:=η.map fun x=>x+c) i (fun x=>x + -c) (fun h=>h.shift (-c)) k
 rw[map_map,show ((fun x:Int=>x + -c)∘fun x=>x+c)=id from funext fun x=>by show x+c + -c=x;omega,map_id]at this
 exact this
theorem xn7 {n:Nat}{l:List Nat}(h:Up n l):Up n ((l.map fun p=>n-1-p).reverse):=by
 refine⟨?_,fun y i=>?_⟩
 .rw[pairwise_reverse,pairwise_map]
  refine h.1.imp_of_mem fun{a b} ha j q=>?_
  have:=h.2 a ha
  have:=h.2 b j
  omega
 .obtain⟨p,hp,rfl⟩:=List.mem_map.mp (List.mem_reverse.mp i)
  have:=h.2 p hp
  omega
theorem zk9 {η:List Int}{s:Int}(i:1<=s)(k:Nat):an η s k<=an η.reverse s k:=by
 refine xo9 i (by simp) (fun l=>(l.map fun p=>η.length-1-p).reverse) (fun p=>η.length-1-p) (fun l h1 h2=>⟨xn7 h1,by simp,fun x q=>?_,?_⟩) k
 .rw[mem_reverse,mem_map]
  constructor
  .intro h;exact⟨x,h,rfl⟩
  .rintro⟨y,hy,e⟩
   have:=h1.2 y hy
   rw[show x=y by omega];exact hy
 .rw[map_reverse,map_map]
  have:l.map ((xr η.reverse)∘fun p=>η.length-1-p)=l.map (xr η):=by
   apply map_congr_left
   intro p j
   have:=h1.2 p j
   show η.reverse.getD (η.length-1-p) 0=η.getD p 0
   rw[getD_eq_getElem?_getD,getD_eq_getElem?_getD,getElem?_reverse (by omega),show η.length-1-(η.length-1-p)=p by omega]
  rw[this]
  exact h2.rev
theorem xb7 {η:List Int}{s:Int}(i:1<=s)(k:Nat):an η.reverse s k=an η s k:=by
 refine Nat.le_antisymm ?_ (zk9 i k)
 have:=zk9 (η:=η.reverse) i k
 rw[reverse_reverse]at this
 exact this
def rotR (η:List Int)(c:Nat):List Int:=η.drop c++η.take c
def loP (c:Nat)(l:List Nat):List Nat:=l.filter fun p=>decide (p<c)
def hiP (c:Nat)(l:List Nat):List Nat:=l.filter fun p=>decide (c<=p)
def rotL (n c:Nat)(l:List Nat):List Nat:=(hiP c l).map (fun p=>p-c)++(loP c l).map fun p=>p+(n-c)
theorem yn0 {n:Nat}(c:Nat):∀{l:List Nat},Up n l->l=loP c l++hiP c l
 |[],_=>rfl
 |p::l,h=>by
  have G:=yn0 c h.tail
  have q:=List.pairwise_cons.mp h.1
  by_cases z:p<c
  .have e1:loP c (p::l)=p::loP c l:=by unfold loP;rw[filter_cons,decide_eq_true z];rfl
   have j:hiP c (p::l)=hiP c l:=by unfold hiP;rw[filter_cons,decide_eq_false (by omega)];rfl
   rw[e1,j,cons_append,<-G]
  .have e1:loP c (p::l)=[]:=by
    unfold loP
    rw[filter_eq_nil_iff]
    intro y i
    rcases List.mem_cons.mp i with rfl|i
    .simp;omega
    .have:=q.1 y i;simp;omega
   have j:hiP c (p::l)=p::l:=by
    unfold hiP
    rw[filter_eq_self]
    intro y i
    rcases List.mem_cons.mp i with rfl|i
    .simp;omega
    .have:=q.1 y i;simp;omega
   rw[e1,j];rfl
theorem mem_lo {c p:Nat}{l:List Nat}:p∈loP c l↔p∈l/\p<c:=by unfold loP;rw[mem_filter,decide_eq_true_eq]
theorem mem_hi {c p:Nat}{l:List Nat}:p∈hiP c l↔p∈l/\c<=p:=by unfold hiP;rw[mem_filter,decide_eq_true_eq]
theorem yv6 {n c:Nat}(J:c<=n){l:List Nat}(h:Up n l):Up n (rotL n c l):=by
 unfold rotL
 refine⟨List.pairwise_append.mpr ⟨?_,?_,?_⟩,fun y i=>?_⟩
 .rw[pairwise_map]
  refine(List.Pairwise.filter _ h.1).imp_of_mem fun{a b} ha q z=>?_
  have:=(mem_hi.mp ha).2
  have:=(mem_hi.mp q).2
  omega
 .rw[pairwise_map]
  exact(List.Pairwise.filter _ h.1).imp fun{a b} z=>by omega
 .intro a ha b q
  obtain⟨I,j,M⟩:=List.mem_map.mp ha
  obtain⟨b',G,L⟩:=List.mem_map.mp q
  have:=h.2 I (mem_hi.mp j).1
  have:=(mem_hi.mp j).2
  omega
 .rcases List.mem_append.mp i with i|i
  .obtain⟨a,ha,rfl⟩:=List.mem_map.mp i
   have:=h.2 a (mem_hi.mp ha).1
   omega
  .obtain⟨a,ha,rfl⟩:=List.mem_map.mp i
   have:=(mem_lo.mp ha).2
   omega
theorem ya7 (η:List Int)(c:Nat)(j:c<=η.length)(p:Nat)(i:p<η.length):(c<=p->xr (rotR η c) (p-c)=xr η p)/\(p<c->xr (rotR η c) (p+(η.length-c))=xr η p):=by
 unfold rotR
 constructor
 .intro h
  show (η.drop c++η.take c).getD (p-c) 0=η.getD p 0
  rw[getD_eq_getElem?_getD,getD_eq_getElem?_getD,getElem?_append_left (by rw[length_drop];omega),getElem?_drop,show c+(p-c)=p by omega]
 .intro h
  show (η.drop c++η.take c).getD (p+(η.length-c)) 0=η.getD p 0
  rw[getD_eq_getElem?_getD,getD_eq_getElem?_getD,getElem?_append_right (by rw[length_drop];omega),length_drop,show p+(η.length-c)-(η.length-c)=p by omega,getElem?_take_of_lt h]
theorem yg6 (η:List Int)(c:Nat)(j:c<=η.length){l:List Nat}(h:Up η.length l):(rotL η.length c l).map (xr (rotR η c))=(hiP c l).map (xr η)++(loP c l).map (xr η):=by
 unfold rotL
 rw[map_append,map_map,map_map]
 congr 1
 .apply map_congr_left
  intro p i
  have:=mem_hi.mp i
  exact(ya7 η c j p (h.2 p this.1)).1 this.2
 .apply map_congr_left
  intro p i
  have:=mem_lo.mp i
  exact(ya7 η c j p (h.2 p this.1)).2 this.2
theorem xx4 {s:Int}(η:List Int)(c:Nat)(i:c<=η.length){l:List Nat}(h:Up η.length l):Cx s ((rotL η.length c l).map (xr (rotR η c)))↔Cx s (l.map (xr η)):=by
 rw[yg6 η c i h]
 have e:l.map (xr η)=(loP c l).map (xr η)++(hiP c l).map (xr η):=by
  rw[<-map_append,<-yn0 c h]
 rw[e]
 exact⟨fun z=>z.swap,fun z=>z.swap⟩
theorem zd1 {n c:Nat}{l:List Nat}(h:Up n l):(rotL n c l).length=l.length:=by
 unfold rotL
 have:=congrArg List.length (yn0 c h)
 rw[length_append]at this
 rw[length_append,length_map,length_map]
 omega
theorem zk8 {η:List Int}{s:Int}(j:1<=s)(c:Nat)(i:c<=η.length)(k:Nat):an η s k<=an (rotR η c) s k:=by
 refine xo9 j (by unfold rotR;simp;omega) (rotL η.length c) (fun p=>if p<c then p+(η.length-c)else p-c) (fun l h1 h2=>⟨yv6 i h1,zd1 h1,fun x q=>?_,(xx4 η c i h1).mpr h2⟩) k
 unfold rotL
 rw[mem_append,mem_map,mem_map]
 by_cases z:x<c
 .rw[if_pos z]
  constructor
  .intro h;exact .inr ⟨x,mem_lo.mpr ⟨h,z⟩,rfl⟩
  .rintro(⟨y,hy,e⟩|⟨y,hy,e⟩)
   .have:=h1.2 y (mem_hi.mp hy).1
    have:=(mem_hi.mp hy).2
    omega
   .rw[show x=y by omega];exact(mem_lo.mp hy).1
 .rw[if_neg z]
  constructor
  .intro h;exact .inl ⟨x,mem_hi.mpr ⟨h,by omega⟩,rfl⟩
  .rintro(⟨y,hy,e⟩|⟨y,hy,e⟩)
   .have:=(mem_hi.mp hy).2
    rw[show x=y by omega];exact(mem_hi.mp hy).1
   .omega
theorem xb6 {η:List Int}{s:Int}(i:1<=s)(c:Nat)(j:c<=η.length)(k:Nat):an (rotR η c) s k=an η s k:=by
 refine Nat.le_antisymm ?_ (zk8 i c j k)
 have q:(rotR η c).length=η.length:=by unfold rotR;simp;omega
 have:=zk8 (η:=rotR η c) i (η.length-c) (by omega) k
 have e:rotR (rotR η c) (η.length-c)=η:=by
  unfold rotR
  have hd:(η.drop c).length=η.length-c:=by simp
  rw[<-hd,drop_left,take_left,take_append_drop]
 rw[e]at this
 exact this
end
section
open PySem L2
theorem Z0 (c k:Int)(hk:0<=k):Z7 [.int c,.int k]=some (.sh (.int (stir c k))):=by
 have J:((10:Int)^(18:Int).toNat)=10^18:=rfl
 have j:((2:Int)^(28:Int).toNat)=2^28:=rfl
 have I:C8 10 18=true:=by decide
 have G:C8 2 28=true:=by decide
 have z:Q6 28 k=true:=S5 _ _ (by decide) (by decide)
 have Y:Q6 1013 k=true:=S5 _ _ (by decide) (by decide)
 have U:Q6 (c+1013*k+1) 16807=true:=yq9 _ _ (by decide) (by decide)
 have S:yu6 (c-10^18) (28*k)=true:=by unfold yu6;exact decide_eq_true (by omega)
 have o7:Q6 ((c+1013*k+1)*16807 % 2147483647) ((c+1013*k+1)*16807 % 2147483647)=true:=S5 _ _ (by omega) (by omega)
 have O:Q6 (((c+1013*k+1)*16807 % 2147483647)*((c+1013*k+1)*16807 % 2147483647) % 2147483629) 39373=true:=yq9 _ _ (by decide) (by decide)
 have q:∀ i,B8 i (2^28)=true:=fun i=>t9 _ _ (by decide)
 have N:∀ i,B8 i 2147483647=true:=fun i=>t9 _ _ (by decide)
 have M:∀ i,B8 i 2147483629=true:=fun i=>t9 _ _ (by decide)
 have L:∀ i,B8 i 2147483587=true:=fun i=>t9 _ _ (by decide)
 have Z:∀ i,A9 i 8=true:=fun i=>by unfold A9;decide
 unfold Z7 b_Z21 stir
 by_cases h:10^18<=c
 .simp_arith [J,j,I,G,z,S,q,h,decide_true,if_true]
 .simp_arith [J,j,I,G,z,Y,U,o7,O,q,N,M,L,Z,h,decide_false,if_true,if_false]
theorem yb1 (ns:List Int)(many:Nat)(I:ns.length<=63):∃ G:List Int,yo4 [.lst (ns.map .int),.int many]=some (.fr (G.map .int)):=by
 unfold yo4 b_Z17
 have z:cutL (ns.map D.int) none (some (many:Int))=(ns.take many).map .int:=by rw[W1,zt8]
 have q:[D.int 0]=([0]:List Int).map .int:=rfl
 have g:((ns.take many).map D.int).length+[D.int 0].length<=sizeLine:=t8 (by simp;omega)
 have j:1<=sizeLine:=t8 (by decide)
 refine⟨cutI (ns.take many++[0]) none (some (max 1 (min (many:Int) (ns.length:Int)))),P9 ?_⟩
 simp_arith [z,j,if_true,length_map,zw1,zo1]
 have i:(ns.take many).length+(0+1)<=sizeLine:=t8 (by simp;omega)
 rw[if_pos i]
 simp_arith []
 rw[q,<-map_append,W1]
def envR (c most size kind wide block:Int)(f:List Int)(last:Int)(o8 o9 o10:Option S):Ro:=[k0c c,k0c most,k0c size,k0c kind,k0c wide,k0c block,some (.own (f.map .int)),k0c last,o8,o9,o10]
theorem yg4 (c z size kind wide q:Int)(f:List Int)(last:Int)(j:Nat)(L G:Option S)(Y:0<=kind)(U:kind<8)(hw:0<wide)(a0:wide<=1000000)(hb:0<q)(a1:q<=9)(hf:f.length<1000000)(Q:Out->Prop)
  (hQ:∀ x last o8 L G,Q (.nx (envR c z size kind wide q (f++[x]) last o8 L G))):Run zs9 (envR c z size kind wide q f last (k0b j) L G) Q:=by
 have s1:=Z0 c (10+(j:Int)) (by omega)
 have b1:=k9 (x:=stir c (10+(j:Int))) hw
 obtain⟨one,eo⟩:∃ k,stir c (10+(j:Int)) % wide=k:=⟨_,rfl⟩
 rw[eo]at b1
 have J:(10:Int)^(23:Int).toNat=100000000000000000000000:=by decide
 have M:C8 10 23=true:=by decide
 have i1:0+1<=sizeLine:=t8 (by decide)
 have i2:0+1+1<=sizeLine:=t8 (by decide)
 have i3:0+1+1+1<=sizeLine:=t8 (by decide)
 have i4:0+1+1+1+1<=sizeLine:=t8 (by decide)
 have i7:0+1+1+1+1+(0+1+1+1)<=sizeLine:=t8 (by decide)
 have i8:0+1+1+1+1+1+1+1+(0+1)<=sizeLine:=t8 (by decide)
 have Z:∀ i,A9 i 2=true:=fun i=>R0 _ _ (by decide) (by decide)
 have I:=k9 (x:=(j:Int)) (show (0:Int)<2 by decide)
 obtain⟨x2,e2⟩:=at2 one (0-one) ((j:Int) % 2) I.1 I.2
 have mb:=k9 (x:=(j:Int) / q) (show (0:Int)<2 by decide)
 have O:Q6 ((j:Int) / q % 2) wide=true:=S5 _ _ (by omega) (by omega)
 have N:Q6 (one-wide / 2) 100000000000000000000000=true:=S5 _ _ (by omega) (by omega)
 unfold zs9 envR
 ((apply m7;focus (simp_arith [s1,t9 (stir c (10+(j:Int))) wide hw,if_true,eo];rfl)))
 ((apply m7;focus (simp_arith [Z,if_true];rfl)))
 ((apply m7;focus (simp_arith [Z,if_true,i4,i2,t9 (j:Int) 2 (by decide),e2];rfl)))
 ((apply m7;focus (simp_arith [Z,if_true,i3,i7,R0 (j:Int) q hb (by omega),t9 ((j:Int) / q) 2 (by decide),O,N,J,M,s1,t9 (stir c (10+(j:Int))) 3 (by decide)];rfl)))
 obtain⟨x8,e8⟩:=at8 (one-wide / 2) ((j:Int)+one / 2) (0-(j:Int)-one / 2) x2 (one+(j:Int) / q % 2*wide) wide ((one-wide / 2)*100000000000000000000000+stir c (10+(j:Int)) % 3) (last+one-wide / 2) kind Y U
 have hl:(f.map D.int).length<sizeLine:=by simp;have:=j6;omega
 refine⟨_,by simp_arith [i1,i8,if_true,e8,hl];rfl,?_⟩
 have:=fun a b d=>hQ x8 (last+one-wide / 2) a b d
 unfold envR at this
 simp only[map_append]at this
 exact this _ _ _
theorem xk7 (c:Int)(i:Nat)(hm:i<=300):∃ f:List Int,f.length<=i/\zi8 [.int c,.int i]=some (.fr (f.map .int)):=by
 suffices h:∃ es,zi8 [.int c,.int i]=some (.fr es)/\∃ f:List Int,f.length<=i/\es=f.map .int by
  obtain⟨es,e,f,L,rfl⟩:=h
  exact⟨f,L,e⟩
 unfold zi8 b_Z29
 refine zv8 ?_
 have M:0+1+1+1+1<=sizeLine:=t8 (by decide)
 have Z:0<=sizeLine:=Nat.zero_le _
 have U:(10:Int)^(6:Int).toNat=1000000:=by decide
 have Y:C8 10 6=true:=by decide
 have S:=k9 (x:=stir c 1) (show (0:Int)<4 by decide)
 have O:=k9 (x:=stir c 2) (show (0:Int)<8 by decide)
 have N:=k9 (x:=stir c 3) (show (0:Int)<4 by decide)
 have b4:=k9 (x:=stir c 4) (show (0:Int)<9 by decide)
 obtain⟨sz,e1,a0⟩:=at4 4 13 41 ((i:Int)+1) (stir c 1 % 4) S.1 S.2
 have J:0<sz:=by omega
 have b0:=k9 (x:=stir c 0) J
 ((apply m7;focus (simp_arith [Z0 c 0 (by decide),Z0 c 1 (by decide),M,if_true,t9 (stir c 1) 4 (by decide),e1,t9 (stir c 0) sz J];rfl)))
 ((apply m7;focus (simp_arith [Z0 c 2 (by decide),if_true,t9 (stir c 2) 8 (by decide)];rfl)))
 obtain⟨wide,e3,hw⟩:=at4 2 5 50 1000000 (stir c 3 % 4) N.1 N.2
 ((apply m7;focus (simp_arith [Z0 c 3 (by decide),M,if_true,t9 (stir c 3) 4 (by decide),U,Y,e3];rfl)))
 ((apply m7;focus (simp_arith [Z0 c 4 (by decide),if_true,t9 (stir c 4) 9 (by decide)];rfl)))
 ((apply m7;focus (simp_arith [Z,if_true];rfl)))
 ((apply m7;focus (simp_arith [];rfl)))
 obtain⟨n,en⟩:=xy4 (x:=min (stir c 0 % sz) (i:Int)) (by omega)
 have hn:n<=300:=by omega
 have a1:n<=i:=by omega
 have k1:okR (n:Int)=true:=X5 (by omega) (by omega)
 refine U2 (X6 n (f:=fun(j:Nat)=>D.int (j:Int)) (by simp_arith [zo1,en,U3 k1,Int.toNat_natCast];rw[X1,map_map];rfl)
  (I:=fun j ρ=>∃ f last G z q,f.length=j/\ρ=envR c i (stir c 0 % sz) (stir c 2 % 8) wide (1+stir c 4 % 9) f last G z q) _ ⟨[],_,_,_,_,rfl,rfl⟩ ?_ ?_)
 .rintro j ρ hj ⟨f,last,G,z,q,L,rfl⟩
  refine⟨_,rfl,yg4 c i (stir c 0 % sz) (stir c 2 % 8) wide (1+stir c 4 % 9) f last j z q O.1 O.2 (by omega) (by omega) (by omega) (by omega) (by omega) _ fun x last G z q=>⟨f++[x],last,G,z,q,by simp[L],rfl⟩⟩
 .rintro ρ ⟨f,last,G,z,q,L,rfl⟩
  exact zv6 rfl ⟨_,rfl,f,by omega,rfl⟩
theorem yd0 {i:Nat}{m:ME}{ρ:Ro}{ds:List D}{d:D}(h:ρ[i]? =some (some (.own ds)))(h2:m (ρ.set i (some (.sh (.lst ds))))=some d)(hn:noL d=true):yp6 i m ρ=some d:=by
 unfold yp6;rw[h];simp only;rw[h2];simp only[hn,if_true]
theorem K7 {x:ME}{ρ:Ro}{b:Bool}(h:x ρ=some (.bl b)):mtru x ρ=some b:=by unfold mtru;rw[h];rfl
theorem J6 {x:MB}{ρ:Ro}{b:Bool}(h:x ρ=some b):cnot x ρ=some (!b):=by unfold cnot;rw[h];rfl
theorem zt3 {x:ME}{ρ:Ro}{b:Bool}(h:x ρ=some (.bl b)):l0 x ρ=some b:=by unfold l0;rw[h]
theorem yb7 {f:List D->Option D}{m:ML}{ρ:Ro}{ds:List D}(h:m ρ=some ds):X2 f m ρ=f ds:=by
 unfold X2;rw[h];rfl
theorem Z3 {c:MB}{x:MS}{ρ:Ro}(h:c ρ=some false):mif c x g9 ρ=some (.nx ρ):=by unfold mif;rw[h];rfl
theorem O7 {f:D->D->Option D}{x y:ME}{ρ:Ro}{a b:D}(h1:x ρ=some a)(h2:y ρ=some b):m2 f x y ρ=f a b:=by
 unfold m2;rw[h1,h2];rfl
theorem wz5 (a:Int):yx4 [.int a,.int a]=some (.sh (.bl true)):=by
 unfold yx4 b_Z11
 refine j9 ?_
 ((apply seqI;focus (simp_arith [wx4];rfl)))
 ((apply seqI;focus (simp_arith [zt4,k2_i];rfl)))
 simp_arith [wx5,wx6,beq_self_eq_true]
theorem yt0 (xs:List Int)(i:xs.length<=1000):yo5 [.lst (xs.map .int),.lst (xs.map .int)]=some (.sh (.bl true)):=by
 unfold yo5 b_Z12
 refine E6 ?_
 ((apply m7;focus (simp_arith [wx2];rfl)))
 refine U2 (D9 (b:=true) (by simp_arith [zt4,k2_l]) ?_)
 show Run (mseq _ _) _ _
 ((apply m7;focus (simp_arith [wx3,zt4,k2_l,ym9,beq_self_eq_true,Bool.not_true,Bool.not_false];rfl)))
 ((apply m7;focus (simp_arith [beq_self_eq_true,Bool.not_true];rfl)))
 refine⟨.rt (.bl true),?_,rfl⟩
 have j:=yk4 (f:=D.int) (mi:=l5 zip2 (z8 (mvar 0) (z8 (mvar 1) anil))) (c:=cnot (mtru (u5 yx4 (z8 (mvar 0) (z8 (mvar 1) anil))))) (ρ:=[k0a xs,k0a xs]) xs (by simp_arith [ze7]) i
  (by
   intro x q
   unfold cnot mtru
   rw[m6 (z9 (d:=.int x) rfl (z9 (d:=.int x) rfl w6)) (wz5 x)];rfl)
 exact S7 j
end
section
open PySem L2
def Ris (f:List Int)(n:Nat):Prop:=f.Pairwise (·<·)/\∀ p∈f,0<=p/\p<n
theorem Ris.mono {f:List Int}{n m:Nat}(h:Ris f n)(q:n<=m):Ris f m:=⟨h.1,fun p i=>⟨(h.2 p i).1,by have:=(h.2 p i).2;omega⟩⟩
theorem Ris.snoc {f:List Int}{j:Nat}(h:Ris f j):Ris (f++[(j:Int)]) (j+1):=by
 refine⟨List.pairwise_append.mpr ⟨h.1,pairwise_singleton _ _,fun a ha b i=>?_⟩,fun p z=>?_⟩
 .rw[mem_singleton]at i;subst i;exact(h.2 a ha).2
 .rcases List.mem_append.mp z with q|q
  .have:=h.2 p q;omega
  .rw[mem_singleton]at q;subst q;omega
theorem Ris.nil (n:Nat):Ris [] n:=⟨.nil,by simp⟩
theorem xw4 (c k:Int)(n:Nat)(Y:0<=k)(hn:n<=300):∃ f:List Int,(f.length<=n/\Ris f n)/\zh0 [.int c,.int k,.int n]=some (.fr (f.map .int)):=by
 suffices h:∃ es,zh0 [.int c,.int k,.int n]=some (.fr es)/\∃ f:List Int,(f.length<=n/\Ris f n)/\es=f.map .int by
  obtain⟨es,e,f,G,rfl⟩:=h
  exact⟨f,G,e⟩
 unfold zh0 b_Z23
 refine zv8 ?_
 have U:0<=sizeLine:=Nat.zero_le _
 have k1:okR (n:Int)=true:=X5 (by omega) (by omega)
 ((apply m7;focus (simp_arith [U,if_true];rfl)))
 refine U2 (X6 n (f:=fun(j:Nat)=>D.int (j:Int)) (by simp_arith [U3 k1,Int.toNat_natCast];rw[X1,map_map];rfl)
  (I:=fun j ρ=>∃(f:List Int)(q i:Option S),(f.length<=j/\Ris f j)/\ρ=[k0c c,k0c k,k0b n,some (.own (f.map .int)),q,i]) _ ⟨[],_,_,⟨Nat.le_refl _,Ris.nil _⟩,rfl⟩ ?_ ?_)
 .rintro j ρ hj ⟨f,q,i,⟨G,hR⟩,rfl⟩
  refine⟨_,rfl,?_⟩
  unfold zb9
  have z:=k9 (x:=(j:Int)) (show (0:Int)<28 by decide)
  have Z:0<=(j:Int) / 28:=Int.ediv_nonneg (by omega) (by decide)
  have s1:=Z0 c (k+1+(j:Int) / 28) (by omega)
  have s2:=Z0 c (k+13+(j:Int) / 28) (by omega)
  have J:=Z0 c k Y
  have O:=ww4 _ (za9 (U1 c (k+1+(j:Int) / 28)) ((j:Int) % 28).toNat)
  obtain⟨b0,N⟩:∃ b,Builtin.bitAnd (stir c (k+1+(j:Int) / 28) / 2^((j:Int) % 28).toNat) 1=b:=⟨_,rfl⟩
  rw[N]at O
  ((apply m7;focus (simp_arith [s1,R0 (j:Int) 28 (by decide) (by decide),t9 (j:Int) 28 (by decide),if_true,zv5 (stir c (k+1+(j:Int) / 28)) ((j:Int) % 28) z.1,N];rfl)))
  have l1:(f.map D.int).length<sizeLine:=by simp;have:=j6;omega
  have fin:∀ b:Int,Run (mif (l0 (m2 eqSD (mvar 5) (mc (.int 1)))) (mapp 3 (mvar 4)) g9) [k0c c,k0c k,k0b n,some (.own (f.map .int)),k0b j,k0c b]
    (zq2 (fun(_:List Unit) ρ=>∃(f:List Int)(q i:Option S),(f.length<=j+1/\Ris f (j+1))/\ρ=[k0c c,k0c k,k0b n,some (.own (f.map .int)),q,i]) (za2 (O4 3) fun o=>∃ es,o= .rf es/\∃ f:List Int,(f.length<=n/\Ris f n)/\es=f.map .int) []):=by
   intro b
   by_cases M:b=1
   .have e1:(b==1)=true:=by rw[M];rfl
    refine⟨_,by simp_arith [e1,l1,if_true];rfl,?_⟩
    refine⟨f++[(j:Int)],k0b j,k0c b,⟨by simp;omega,hR.snoc⟩,?_⟩
    rw[map_append]
    rfl
   .have e1:(b==1)=false:=beq_eq_false_iff_ne.mpr M
    refine⟨_,by simp_arith [e1];rfl,?_⟩
    exact⟨f,_,_,⟨by omega,hR.mono (by omega)⟩,rfl⟩
  by_cases L:0<stir c k % 3
  .have mu:Q6 b0 (Builtin.bitAnd (stir c (k+13+(j:Int) / 28) / 2^((j:Int) % 28).toNat) 1)=true:=S5 _ _ (by omega) (by omega)
   ((apply m7;focus (simp_arith [J,s2,t9 (stir c k) 3 (by decide),L,decide_true,R0 (j:Int) 28 (by decide) (by decide),t9 (j:Int) 28 (by decide),if_true,zv5 (stir c (k+13+(j:Int) / 28)) ((j:Int) % 28) z.1,mu];rfl)))
   exact fin _
  ·((apply m7;focus (simp_arith [J,t9 (stir c k) 3 (by decide),L,decide_false,if_true];rfl)))
   exact fin _
 .rintro ρ ⟨f,q,i,G,rfl⟩
  exact zv6 rfl ⟨_,rfl,f,G,rfl⟩
theorem xp8 (w:Option Bool)(b:Bool):∃ t,eqS (wD w) (.bl b)=some t:=by
 cases w with
 |none=>exact⟨false,rfl⟩
 |some i=>exact⟨i==b,rfl⟩
def envT (c k:Int)(η:List Int)(step:Int)(f:List Int)(w:Option Bool)(o6 o7 o8 o9:Option S):Ro:=[k0c c,k0c k,k0a η,k0c step,some (.own (f.map .int)),some (.sh (wD w)),o6,o7,o8,o9]
theorem zf4 (c k:Int)(η:List Int)(step:Int)(hk:0<=k)(hn:η.length<=300):∃ f:List Int,(f.length<=η.length/\Ris f η.length)/\m_Z8 [.int c,.int k,.lst (η.map .int),.int step]=some (.fr (f.map .int)):=by
 suffices h:∃ es,m_Z8 [.int c,.int k,.lst (η.map .int),.int step]=some (.fr es)/\∃ f:List Int,(f.length<=η.length/\Ris f η.length)/\es=f.map .int by
  obtain⟨es,e,f,hf,rfl⟩:=h
  exact⟨f,hf,e⟩
 unfold m_Z8 b_Z8
 refine zv8 ?_
 have i0:0<=sizeLine:=Nat.zero_le _
 ((apply m7;focus (simp_arith [i0,if_true];rfl)))
 ((apply m7;focus (simp_arith [];rfl)))
 refine U2 (X6 η.length (f:=fun(i:Nat)=>D.tup [.int ((0+i:Nat):Int),.int (η.getD i 0)]) (by simp_arith [zz0])
  (I:=fun j ρ=>∃(f:List Int)(w:Option Bool)(J o7 G z:Option S),f.length<=j/\Ris f j/\ρ=envT c k η step f w J o7 G z) _ ⟨[],none,_,_,_,_,Nat.le_refl _,Ris.nil _,rfl⟩ ?_ ?_)
 .rintro j ρ hj ⟨f,w,J,o7,G,z,hf,hp,rfl⟩
  rw[show 0+j=j by omega]
  refine⟨_,rfl,?_⟩
  unfold yi0
  have a3:=k9 (x:=(j:Int)) (show (0:Int)<28 by decide)
  have a4:0<=(j:Int) / 28:=Int.ediv_nonneg (by omega) (by decide)
  have s1:=Z0 c (k+(j:Int) / 28) (by omega)
  have l1:(f.map D.int).length<sizeLine:=by simp;have:=j6;omega
  obtain⟨q,N⟩:∃ b,mand (m2 eqSD (m2 andD (m2 shrD (u5 Z7 (z8 (mvar 0) (z8 (m2 addD (mvar 1) (m2 M4 (mvar 6) (mc (.int 28)))) anil))) (m2 modD (mvar 6) (mc (.int 28)))) (mc (.int 1))) (mc (.int 1))) (m2 gtD (m2 modD (mvar 6) (mc (.int 3))) (mc (.int 0)))
    (envT c k η step f w (k0b j) (some (.sh (.int (η.getD j 0)))) G z)=some (.bl b):=
   ⟨_,xq0 (by unfold envT;simp_arith [s1,R0 (j:Int) 28 (by decide) (by decide),t9 (j:Int) 28 (by decide),if_true,zv5 (stir c (k+(j:Int) / 28)) ((j:Int) % 28) a3.1];rfl) (by unfold envT;simp_arith [t9 (j:Int) 3 (by decide),if_true];rfl)⟩
  refine m7 (ρ':=envT c k η step f w (k0b j) (some (.sh (.int (η.getD j 0)))) (some (.sh (.bl q))) z) (by unfold mset;show Option.map _ (mand _ _ (envT c k η step f w (k0b j) (some (.sh (.int (η.getD j 0)))) G z))=_;rw[N];rfl) ?_
  have keep:Run g9 (envT c k η step f w (k0b j) (some (.sh (.int (η.getD j 0)))) (some (.sh (.bl q))) z) (zq2 (fun(_:List Unit) ρ=>∃(f:List Int)(w:Option Bool)(J o7 G z:Option S),f.length<=j+1/\Ris f (j+1)/\ρ=envT c k η step f w J o7 G z) (za2 (O4 4) fun o=>∃ es,o= .rf es/\∃ f:List Int,(f.length<=η.length/\Ris f η.length)/\es=f.map .int) []):=
   zv7 ⟨f,w,_,_,_,_,by omega,hp.mono (by omega),rfl⟩
  have L:∀(w':Option Bool)(J o7 G z:Option S),zq2 (fun(_:List Unit) ρ=>∃(f:List Int)(w:Option Bool)(J o7 G z:Option S),f.length<=j+1/\Ris f (j+1)/\ρ=envT c k η step f w J o7 G z) (za2 (O4 4) fun o=>∃ es,o= .rf es/\∃ f:List Int,(f.length<=η.length/\Ris f η.length)/\es=f.map .int) []
    (.nx (envT c k η step (f++[(j:Int)]) w' J o7 G z)):=fun w' J o7 G z=>⟨_,w',J,o7,G,z,by simp;omega,hp.snoc,rfl⟩
  unfold envT at L
  simp only[map_append,map_cons,map_nil]at L
  refine D9 (b:=(f.map D.int).isEmpty&& !q) ?_ ?_
  .unfold envT
   cases hE:(f.map D.int).isEmpty <;> simp_arith [ym5,i0,if_true,hE] <;> cases q <;> rfl
  .cases f with
   |nil=>
    cases q with
    |false=>
     show Run (mapp 4 (mvar 6)) _ _
     unfold envT
     rw[map_nil,length_nil]at l1
     refine⟨_,by simp_arith [l1,if_true];rfl,?_⟩
     exact L _ _ _ _ _
    |true=>
     show Run (mif _ _ g9) _ _
     refine D9 (b:=false) ?_ keep
     unfold envT
     simp_arith [zh8,i0,if_true]
   |cons O Y=>
    show Run (mif _ _ g9) _ _
    refine D9 (b:=!q) ?_ ?_
    .unfold envT
     simp_arith [zh8,i0,if_true]
    .cases q with
     |true=>exact keep
     |false=>
      show Run (mseq _ _) _ _
      obtain⟨fi,pl,Z⟩:∃ fi pl,O::Y=fi++[pl]:=⟨_,_,(dropLast_concat_getLast (cons_ne_nil O Y)).symm⟩
      have U:0<=pl/\pl<η.length:=by have:=hp.2 pl (by rw[Z];simp);omega
      have a1:atI ((O::Y).map D.int) (-1)=some (.int pl):=by rw[Z];exact atI_last D.int fi pl
      have a2:=zz5 D.int η pl U.1 U.2 0
      rw[map_cons]at a1
      unfold envT
      ((apply m7;focus (simp_arith [a1,a2];rfl)))
      obtain⟨far,a0⟩:∃ x,η.getD j 0-η.getD pl.toNat 0=x:=⟨_,rfl⟩
      rw[a0]
      obtain⟨t,et⟩:=xp8 w (decide (0<far))
      by_cases M:step<=(far.natAbs:Int)
      .cases t with
       |true=>
        refine D9 (b:=false) (by simp_arith [zj2,M,decide_true,et]) ?_
        exact zv7 ⟨O::Y,w,_,_,_,_,by omega,hp.mono (by omega),rfl⟩
       |false=>
        refine D9 (b:=true) (by simp_arith [zj2,M,decide_true,et]) ?_
        show Run (mseq _ _) _ _
        ((apply m7;focus (simp_arith [];rfl)))
        rw[map_cons,length_cons]at l1
        refine⟨_,by simp_arith [l1,if_true];rfl,?_⟩
        have:=fun a b d e=>L (some (decide (0<far))) a b d e
        rw[map_cons,cons_append]at this
        exact this _ _ _ _
      .refine D9 (b:=false) (by simp_arith [zj2,M,decide_false]) ?_
       exact zv7 ⟨O::Y,w,_,_,_,_,by omega,hp.mono (by omega),rfl⟩
 .rintro ρ ⟨f,w,J,o7,G,z,hf,hp,rfl⟩
  exact zv6 rfl ⟨_,rfl,f,⟨hf,hp⟩,rfl⟩
theorem xc3 (c k:Int)(G:0<=k):∃ x:Int,0<=x/\yp8 [.int c,.int k]=some (.sh (.int x)):=by
 unfold yp8 b_Z28
 have z:0+1+1+1+1<=sizeLine:=t8 (by decide)
 have i:(10:Int)^(29:Int).toNat=100000000000000000000000000000:=by decide
 have j:C8 10 29=true:=by decide
 have q:=k9 (x:=stir c k) (show (0:Int)<4 by decide)
 have J:=k9 (x:=stir c (k+1)) (show (0:Int)<1000 by decide)
 obtain⟨x,e,I⟩:=at4 0 1 (stir c (k+1) % 1000) 100000000000000000000000000000 (stir c k % 4) q.1 q.2
 refine⟨x,by omega,j9 ?_⟩
 simp_arith [Z0 c k G,Z0 c (k+1) (by omega),z,if_true,i,j,t9 (stir c (k+1)) 1000 (by decide),t9 (stir c k) 4 (by decide),e]
theorem xw3 (c:Int):∃ s:Int,1<=s/\yp9 [.int c]=some (.sh (.int s)):=by
 unfold yp9 b_Z27
 have n5:=U1 c 5
 have n6:=U1 c 6
 have n7:=U1 c 7
 have J:=Z0 c 5 (by decide)
 have I:=Z0 c 6 (by decide)
 have L:=Z0 c 7 (by decide)
 have Z:0+1+1+1<=sizeLine:=t8 (by decide)
 have g1:0+1<=sizeLine:=t8 (by decide)
 have Y:0+1+1+1+(0+1)<=sizeLine:=t8 (by decide)
 have M:(10:Int)^(5:Int).toNat=100000:=by decide
 have z:(10:Int)^(23:Int).toNat=100000000000000000000000:=by decide
 have N:C8 10 5=true:=by decide
 have G:C8 10 23=true:=by decide
 have mo:∀ i j:Int,0<j->B8 i j=true:=t9
 have b6:=k9 (x:=stir c 6) (show (0:Int)<100000 by decide)
 have O:Q6 (stir c 6 % 100000) 100000000000000000000000=true:=S5 _ _ (by omega) (by omega)
 have b7:=k9 (x:=stir c 7) (show (0:Int)<4 by decide)
 have b5:=k9 (x:=stir c 5) (show (0:Int)<9 by decide)
 have a0:=k9 (x:=stir c 6) (show (0:Int)<1000 by decide)
 have q:∀ k:Int,stir c 7 % 4=k->∀ s:D,atI [D.int 1,.int (1+stir c 5 % 9),.int (1+stir c 6 % 1000),.int (1+stir c 6 % 100000*100000000000000000000000)] k=some s->b_Z27 (f7 2 [.int c])=some (.rt s):=by
  intro k U s S
  unfold b_Z27
  ((apply seqI;focus (simp_arith [J,I,Z,if_true,mo 0 9,t9 (stir c 5) 9 (by decide),t9 (stir c 6) 1000 (by decide)];rfl)))
  simp_arith [J,I,L,g1,Y,if_true,t9 (stir c 6) 100000 (by decide),t9 (stir c 7) 4 (by decide),M,z,N,G,O,U,S]
 have:stir c 7 % 4=0\/stir c 7 % 4=1\/stir c 7 % 4=2\/stir c 7 % 4=3:=by omega
 rcases this with h|h|h|h
 .exact⟨_,by decide,j9 (q _ h _ rfl)⟩
 .exact⟨_,by omega,j9 (q _ h _ rfl)⟩
 .exact⟨_,by omega,j9 (q _ h _ rfl)⟩
 .exact⟨_,by omega,j9 (q _ h _ rfl)⟩
abbrev zn9:List D:=[.bl false,.bl true,.bl false,.bl false,.bl false,.bl false,.bl false,.bl false]
theorem yc5:yo3 [.exc "NoPlace"]=some (.fr zn9):=by
 unfold yo3 b_Z19
 refine P9 ?_
 have t:∀{ρ:Ro},mvar 0 ρ=some (.exc "NoPlace")->misX [("NoPlace",true)] (mvar 0) ρ=some (.bl true):=fun h=>yp3 h rfl
 have f:∀{ρ:Ro},mvar 0 ρ=some (.exc "NoPlace")->misX [("NoPlace",false)] (mvar 0) ρ=some (.bl false):=fun h=>yp3 h rfl
 refine seqI (ρ':=[some (.sh (.exc "NoPlace")),some (.sh (.lst [.bl false,.bl true,.bl false,.bl false]))]) ((g0 (t6 (l8 (z9 (f rfl) (z9 (t rfl) (z9 (f rfl) (z9 (f rfl) w6)))) (t8 (by decide))))).trans rfl) ?_
 refine seqI (ρ':=[some (.sh (.exc "NoPlace")),some (.sh (.lst [.bl false,.bl true,.bl false,.bl false,.bl false,.bl false,.bl false]))]) ((g0 (t6 (O6 (ds:=[.bl false,.bl true,.bl false,.bl false]) (es:=[.bl false,.bl false,.bl false]) rfl (l8 (z9 (f rfl) (z9 (f rfl) (z9 (f rfl) w6))) (t8 (by decide))) (t8 (by decide))))).trans rfl) ?_
 have i:∀{ρ:Ro},mvar 0 ρ=some (.exc "NoPlace")->m1 notD (misX [("NoPlace",true)] (mvar 0)) ρ=some (.bl false):=fun h=>by unfold m1;rw[t h];rfl
 unfold zy2
 rw[O6 (ds:=[.bl false,.bl true,.bl false,.bl false,.bl false,.bl false,.bl false]) (es:=[.bl false]) rfl (l8 (z9 (i rfl) w6) (t8 (by decide))) (t8 (by decide))]
 rfl
end
section
open PySem L2
theorem L_NI (l:List Nat):D.lst ((NI l).map .int)=L l:=by unfold NI L dN;rw[map_map];rfl
theorem xz7 {n:Nat}:∀(K:List Nat)(l:Nat),K.Pairwise (·<·)->(∀ y∈K,y<n/\l<=y)->pok n (l:Int) (NI K)=true
 |[],_,_,_=>rfl
 |p::K,l,h1,h2=>by
  have q:=h2 p (by simp)
  have i:=List.pairwise_cons.mp h1
  show pok n (l:Int) ((p:Int)::NI K)=true
  rw[pok,if_neg (by omega)]
  exact xz7 K (p+1) i.2 fun y j=>⟨(h2 y (by simp[j])).1,by have:=i.1 y j;omega⟩
theorem xd8 (ns:List Int)(s:Int)(i:1<=s):zo5 [.lst (ns.map .int),.int s]=some (.sh (.bl (altW s none ns))):=by
 rw[P5,zj1 s i,zw3 _ ns.length (P7 ns)]
theorem V9 (η:List Int)(s:Int)(J:1<=s)(K:List Nat)(I:Up η.length K)(Y:K.length<=300):zo4 [RI η,.int s,L K]=some (.sh (.bl (altW s none (K.map (xr η)++(K.map (xr η)).take 2)))):=by
 have U:=j6
 unfold zo4 b_Z16
 refine j9 ?_
 refine seqI (ρ':=[some (.sh (RI η)),k0c s,some (.sh (L K)),none]) (zt5 (m6 (f:=Q7) (z9 (d:=.int s) rfl w6) (Z2 s J))) ?_
 have ep:=U8 η (NI K)
 have z:pok η.length 0 (NI K)=true:=xz7 K 0 I.1 fun y N=>⟨I.2 y N,Nat.zero_le _⟩
 rw[z,L_NI]at ep
 refine seqI (ρ':=[some (.sh (RI η)),k0c s,some (.sh (L K)),none]) (Z3 ((J6 (b:=true) (K7 (m6 (z9 (d:=RI η) rfl (z9 (d:=L K) rfl w6)) ep))).trans rfl)) ?_
 have S:l7 [none,some 0] (l6 (mvar 2)) (.nm 0) cyes (mix (bvar 1) (mvar 0)) [some (.sh (RI η)),k0c s,some (.sh (L K)),none]=some ((K.map (xr η)).map .int):=by
  unfold l7
  rw[j1 (ds:=K.map dN) rfl,Option.bind_some]
  refine(j5 (f:=dN) (G:=fun p=>D.int (xr η p)) (fun ps ρ=>(∀ p∈ps,p<η.length)/\∃ x,ρ=[x,some (.sh (RI η))]) (by
   rintro p ps ρ ⟨M,x,rfl⟩
   exact⟨[some (.sh (dN p)),some (.sh (RI η))],rfl,rfl,V4 (ds:=η.map .int) (k:=(p:Int)) rfl rfl (zk7 η p (M p (by simp))),fun q O=>M q (by simp[O]),_,rfl⟩) K _ [] ⟨I.2,none,rfl⟩ (by simp;omega)).trans ?_
  rw[nil_append,map_map]
  rfl
 refine seqI (ρ':=[some (.sh (RI η)),k0c s,some (.sh (L K)),some (.sh (RI (K.map (xr η))))]) ((g0 (t6 S)).trans rfl) ?_
 have j:mcut (bvar 3) V1 (Y8 (mc (.int 2))) [some (.sh (RI η)),k0c s,some (.sh (L K)),some (.sh (RI (K.map (xr η))))]=some (((K.map (xr η)).take 2).map .int):=by
  have:cutL ((K.map (xr η)).map D.int) none (some ((2:Nat):Int))=((K.map (xr η)).take 2).map .int:=by rw[W1,zt8]
  unfold mcut
  exact congrArg some this
 have i:=t6 (O6 (show bvar 3 [some (.sh (RI η)),k0c s,some (.sh (L K)),some (.sh (RI (K.map (xr η))))]=some ((K.map (xr η)).map .int)from rfl) j (by simp;omega))
 rw[<-map_append]at i
 exact S7 (m6 (z9 i (z9 (d:=.int s) rfl w6)) (xd8 _ s J))
theorem zk6 (η:List Int)(c:Nat)(ρ:Ro)(i j:Nat)(hi:bvar i ρ=some (η.map .int))(q:mvar j ρ=some (.int (c:Int)))(J:η.length<=300):mcat (mcut (bvar i) (Y8 (mvar j)) V1) (mcut (bvar i) V1 (Y8 (mvar j))) ρ=some ((rotR η c).map .int):=by
 have I:=j6
 have G:mcut (bvar i) (Y8 (mvar j)) V1 ρ=some ((η.drop c).map .int):=by
  have:cutL (η.map D.int) (some (c:Int)) none=(η.drop c).map .int:=by rw[W1,M7]
  unfold mcut Y8
  rw[hi,q]
  exact congrArg some this
 have z:mcut (bvar i) V1 (Y8 (mvar j)) ρ=some ((η.take c).map .int):=by
  have:cutL (η.map D.int) none (some (c:Int))=(η.take c).map .int:=by rw[W1,zt8]
  unfold mcut Y8
  rw[hi,q]
  exact congrArg some this
 rw[O6 G z (by simp;omega),<-map_append]
 rfl
theorem J7 (η:List Int)(p:Int):cor (l0 (m2 ltD (mvar 1) (mc (.int 0)))) (l0 (m2 geD (mvar 1) (mlen (bvar 0)))) [some (.sh (RI η)),k0c p]=some (decide (p<0) || decide ((η.length:Int)<=p)):=by
 refine zw4 (xz3 rfl rfl) ?_
 refine zx4 rfl ?_
 rw[j0 (ds:=η.map .int) rfl,length_map]
theorem N4 (η:List Int)(c:Nat)(j:c<η.length)(i:η.length<=300):M0 [RI η,.int (c:Int)]=some (.fr ((rotR η c).map .int)):=by
 unfold M0 b_Z24
 refine P9 ?_
 refine seqI (ρ':=[some (.sh (RI η)),k0b c]) (Z3 ((J7 η (c:Int)).trans ?_)) ?_
 .rw[decide_eq_false (by omega),decide_eq_false (by omega)];rfl
 .unfold zy2
  rw[zk6 η c _ 0 1 rfl rfl i]
  rfl
theorem yy5 (η:List Int)(p:Int)(h:p<0\/(η.length:Int)<=p):yo6 [RI η,.int p]=some (.sh (.lst zn9)):=by
 have i:(decide (p<0) || decide ((η.length:Int)<=p))=true:=by rw[Bool.or_eq_true,decide_eq_true_eq,decide_eq_true_eq];exact h
 have j:M0 [RI η,.int p]=none:=by
  unfold M0 b_Z24
  refine xv1 (xr5 ?_)
  show mif _ _ _ [some (.sh (RI η)),k0c p]=none
  rw[xe8 ((J7 η p).trans (congrArg some i))];rfl
 have ex:zr6 [RI η,.int p]=some ("NoPlace":Str):=by
  unfold zr6 yj6
  refine xv0 (ρ:=f7 2 [RI η,.int p]) ?_
  show xif _ _ _ [some (.sh (RI η)),k0c p]=_
  rw[xn5 ((J7 η p).trans (congrArg some i))]
  exact yv4 (z9 rfl w6)
 unfold yo6 b_Z10
 refine j9 ?_
 refine seqI (ρ':=[some (.sh (RI η)),k0c p,some (.sh (.lst [])),none]) ((g0 (t6 (l8 w6 (Nat.zero_le _)))).trans rfl) ?_
 refine seqI (ρ':=[some (.sh (RI η)),k0c p,some (.sh (.lst zn9)),none]) ((xa5 (c:=("NoPlace":Str)) (ρ1:=[some (.sh (RI η)),k0c p,some (.sh (.lst [])),none]) (ρ2:=[some (.sh (RI η)),k0c p,some (.sh (.lst zn9)),some (.sh (.exc "NoPlace"))]) ?_ ?_ (by simp) ?_).trans rfl) rfl
 .exact ye8 (ye9 (z9 (d:=RI η) rfl (z9 (d:=.int p) rfl w6)) j)
 .exact xa4 (yh1 (z9 (d:=RI η) rfl (z9 (d:=.int p) rfl w6)) ex)
 .exact(g0 (c8 (z9 (d:=.exc "NoPlace") rfl w6) yc5)).trans rfl
theorem xk8 (η:List Int)(c:Nat)(j:c<η.length):(List.range η.length).map (fun k=>η.getD ((c+k) % η.length) 0)=rotR η c:=by
 apply ext_getElem?
 intro i
 unfold rotR
 rcases Nat.lt_or_ge i η.length with h|h
 .rw[getElem?_map,getElem?_range h]
  rcases Nat.lt_or_ge (c+i) η.length with z|z
  .rw[getElem?_append_left (by rw[length_drop];omega),getElem?_drop,Option.map_some,Nat.mod_eq_of_lt z,getD_eq_getElem?_getD,getElem?_eq_getElem z]
   rfl
  .have e:(c+i) % η.length=i-(η.length-c):=by
    rw[Nat.mod_eq_sub_mod z,Nat.mod_eq_of_lt (by omega)];omega
   rw[getElem?_append_right (by rw[length_drop];omega),length_drop,Option.map_some,e,getElem?_take_of_lt (by omega),getD_eq_getElem?_getD,getElem?_eq_getElem (by omega)]
   rfl
 .rw[getElem?_eq_none (by simpa using h),getElem?_eq_none (by simp;omega)]
end
section
open PySem L2
theorem yw0:eqFD true (.lst zn9) (.lst ((List.range 8).map fun(k:Nat)=>D.bl (decide ((k:Int)=1))))=some (.bl false):=by
 rfl
theorem xp7 (xs:List Int):eqFD false (.lst (xs.map .int)) (.lst (xs.map .int))=some (.bl true):=by
 unfold eqFD
 rw[xx3 6];rfl
def eG (c:Int)(η:List Int)(far:Int)(o4 o5:Option S):Ro:=[k0c c,some (.sh (RI η)),some (.sh (RI η)),k0c far,o4,o5]
theorem zy8 (c:Int)(η:List Int)(O:η.length<=300):m_Z1 [.int c,RI η]=some (.sh (.bl true)):=by
 have a0:=j6
 obtain⟨far,hf,ef⟩:=xc3 c 380 (by decide)
 unfold m_Z1 b_Z1
 refine j9 ?_
 refine seqI (ρ':=[k0c c,some (.sh (RI η)),some (.sh (RI η)),none,none,none]) ((g0 (t6 (ds:=η.map .int) rfl)).trans rfl) ?_
 refine seqI (ρ':=eG c η far none none) ((g0 (m6 (z9 (d:=.int c) rfl (z9 (d:=.int 380) rfl w6)) ef)).trans rfl) ?_
 have Y:l5 rng1 (z8 (mlen (bvar 1)) anil) (eG c η far none none)=some ((List.range η.length).map dN):=by
  unfold l5
  rw[z9 (d:=.int (η.length:Int)) (by rw[j0 (ds:=η.map .int) rfl,length_map]) w6,Option.bind_some,U3 (X5 (by omega) (by omega)),Int.toNat_natCast,X1,map_map]
  rfl
 refine yg3 η.length Y (I:=fun _ ρ=>∃ z i,ρ=eG c η far z i) (Q:=fun o=>∃ z i,o= .nx (eG c η far z i)) ⟨none,none,rfl⟩ ?_ ?_ ?_
 .rintro j ρ hj ⟨z,i,rfl⟩
  have S:=N4 η j hj O
  refine⟨eG c η far (k0b j) i,.nx (eG c η far (k0b j) (some (.own ((rotR η j).map .int++[.int 0])))),rfl,?_,_,_,rfl⟩
  unfold yi4
  have J:∀ i,z8 (mvar 2) (z8 (mvar 4) anil) (eG c η far (k0b j) i)=some [RI η,.int (j:Int)]:=fun i=>z9 (d:=RI η) rfl (z9 (d:=.int (j:Int)) rfl w6)
  have lr:(rotR η j).length=η.length:=by unfold rotR;simp;omega
  refine seqI (ρ':=eG c η far (k0b j) (some (.own ((rotR η j).map .int)))) ?_ ?_
  .unfold Y9 zo2
   rw[J,Option.bind_some,S]
   rfl
  refine seqI (ρ':=eG c η far (k0b j) (some (.own ((rotR η j).map .int)))) (Z3 ((J6 (b:=true) (K7 (yd0 (ds:=(rotR η j).map .int) rfl ?_ rfl))).trans rfl)) ?_
  .have ec:∀ i,l7 [none,some 1,some 4] (l5 rng1 (z8 (mlen (bvar 1)) anil)) (.nm 0) cyes (mix (bvar 1) (m2 modD (m2 addD (mvar 2) (mvar 0)) (mlen (bvar 1)))) (eG c η far (k0b j) i)=some ((rotR η j).map .int):=fun i=>by
    unfold l7
    rw[show l5 rng1 (z8 (mlen (bvar 1)) anil) (eG c η far (k0b j) i)=some ((List.range η.length).map dN)from by
     unfold l5
     rw[z9 (d:=.int (η.length:Int)) (by rw[j0 (ds:=η.map .int) rfl,length_map]) w6,Option.bind_some,U3 (X5 (by omega) (by omega)),Int.toNat_natCast,X1,map_map]
     rfl,Option.bind_some]
    refine(j5 (f:=dN) (G:=fun k=>D.int (η.getD ((j+k) % η.length) 0)) (fun _ ρ=>∃ x,ρ=[x,some (.sh (RI η)),k0b j]) (by
     rintro k ks ρ ⟨x,rfl⟩
     refine⟨[some (.sh (dN k)),some (.sh (RI η)),k0b j],rfl,rfl,?_,_,rfl⟩
     have N:m2 addD (mvar 2) (mvar 0) [some (.sh (dN k)),some (.sh (RI η)),k0b j]=some (.int ((j+k:Nat):Int)):=(O7 (a:=.int (j:Int)) (b:=.int (k:Int)) rfl rfl).trans rfl
     have L:mlen (bvar 1) [some (.sh (dN k)),some (.sh (RI η)),k0b j]=some (.int (η.length:Int)):=by rw[j0 (ds:=η.map .int) rfl,length_map]
     have e3:m2 modD (m2 addD (mvar 2) (mvar 0)) (mlen (bvar 1)) [some (.sh (dN k)),some (.sh (RI η)),k0b j]=some (.int (((j+k) % η.length:Nat):Int)):=by
      rw[O7 N L]
      show (if B8 ((j+k:Nat):Int) (η.length:Int)=true then some (D.int (((j+k:Nat):Int) % (η.length:Int)))else none)=_
      rw[if_pos (t9 _ _ (by omega))]
      congr 2
     exact V4 (ds:=η.map .int) rfl e3 (zk7 η _ (Nat.mod_lt _ (by omega)))) (List.range η.length) _ [] ⟨none,rfl⟩ (by simp;omega)).trans ?_
    rw[nil_append,<-xk8 η j hj,map_map]
    rfl
   exact m6 (z9 (d:=.lst ((rotR η j).map .int)) rfl (z9 (t6 (ec _)) w6)) (yt0 (rotR η j) (by omega))
  refine seqI (ρ':=eG c η far (k0b j) (some (.own ((rotR η j).map .int++[.int 0])))) ?_ ?_
  .unfold mapp
   show (some (D.int 0)).bind (fun d=>if ((rotR η j).map D.int).length<sizeLine then some (Out.nx _)else none)=_
   rw[Option.bind_some,if_pos (by rw[length_map];omega)]
   rfl
  .refine Z3 ?_
   unfold l0 meqB
   rw[j1 (c8 (J _) S),zk6 η j _ 1 4 rfl rfl O]
   simp only[Option.bind_some,xx0]
 .rintro ρ ⟨z,i,rfl⟩
  exact⟨z,i,rfl⟩
 .rintro o ⟨z,i,rfl⟩
  show ze0 _=_
  unfold ze0
  have Z:mlst (m5 (z8 (m1 negD (mc (.int 1))) (z8 (m2 subD (m1 negD (mc (.int 1))) (mvar 3)) (z8 (mlen (bvar 1)) (z8 (m2 addD (mlen (bvar 1)) (mvar 3)) anil))))) (eG c η far z i)=some (RI [-1,-1-far,(η.length:Int),(η.length:Int)+far]):=by
   have L:mlen (bvar 1) (eG c η far z i)=some (.int (η.length:Int)):=by rw[j0 (ds:=η.map .int) rfl,length_map]
   exact t6 (l8 (z9 (d:=.int (-1)) rfl (z9 (d:=.int (-1-far)) ((O7 (f:=subD) (a:=.int (-1)) (b:=.int far) rfl rfl).trans rfl) (z9 L (z9 (d:=.int ((η.length:Int)+far)) ((O7 (f:=addD) L (b:=.int far) rfl).trans rfl) w6)))) (t8 (by simp)))
  refine K3 [-1,-1-far,(η.length:Int),(η.length:Int)+far] (f:=D.int) (j1 Z) (I:=fun ps ρ=>(∀ p∈ps,p<0\/(η.length:Int)<=p)/\∃ z,ρ=eG c η far z i) (Q:=fun o=>∃ z,o= .nx (eG c η far z i)) ⟨fun p M=>?_,z,rfl⟩ ?_ ?_ ?_
  .simp only[mem_cons,not_mem_nil,or_false]at M
   rcases M with rfl|rfl|rfl|rfl <;> omega
  .rintro p ps ρ ⟨M,z,rfl⟩
   refine⟨eG c η far (k0c p) i,.nx (eG c η far (k0c p) i),rfl,?_,fun q U=>M q (by simp[U]),_,rfl⟩
   unfold yi3
   refine Z3 ?_
   have N:=m6 (ρ:=eG c η far (k0c p) i) (z9 (x:=mvar 2) (d:=RI η) rfl (z9 (x:=mvar 4) (d:=.int p) rfl w6)) (yy5 η p (M p (by simp)))
   have L:l7 [none] (l5 rng1 (z8 (mc (.int 8)) anil)) (.nm 0) cyes (m2 eqSD (mvar 0) (mc (.int 1))) (eG c η far (k0c p) i)=some ((List.range 8).map fun(k:Nat)=>D.bl (decide ((k:Int)=1))):=by
    unfold l7
    rw[show l5 rng1 (z8 (mc (.int 8)) anil) (eG c η far (k0c p) i)=some ((List.range 8).map dN)from by
     unfold l5
     rw[z9 (d:=.int 8) rfl w6,Option.bind_some,U3 (X5 (by decide) (by decide))]
     rfl,Option.bind_some]
    refine(j5 (f:=dN) (G:=fun(k:Nat)=>D.bl (decide ((k:Int)=1))) (fun _ ρ=>∃ x,ρ=[x]) (by
     rintro k ks ρ ⟨x,rfl⟩
     refine⟨[some (.sh (dN k))],rfl,rfl,?_,_,rfl⟩
     rw[O7 (a:=.int (k:Int)) (b:=.int 1) rfl rfl]
     show some (D.bl ((k:Int)==1))=_
     congr 2) (List.range 8) _ [] ⟨none,rfl⟩ (t8 (by simp))).trans rfl
   unfold l0 meqB
   rw[j1 N,L]
   simp only[Option.bind_some,yw0]
  .rintro ρ ⟨_,z,rfl⟩
   exact⟨z,rfl⟩
  .rintro o ⟨z,rfl⟩
   show mret _ _=_
   refine S7 ?_
   unfold meqB
   rw[show bvar 2 (eG c η far z i)=some (η.map .int)from rfl,show bvar 1 (eG c η far z i)=some (η.map .int)from rfl]
   simp only[Option.bind_some,xp7]
theorem yg5 (n c:Nat)(z:c<n){K:List Nat}(i:Up n K):zt7 (K.map fun(p:Nat)=>((p:Int)-(c:Int)) % (n:Int))=NI (rotL n c K):=by
 have q:=yv6 (Nat.le_of_lt z) i
 refine P8 ?_ (S8 _) ?_
 .refine(R8 _).trans ?_
  have e:K.map (fun(p:Nat)=>((p:Int)-(c:Int)) % (n:Int))=NI ((loP c K).map fun p=>p+(n-c))++NI ((hiP c K).map fun p=>p-c):=by
   rw[yn0 c i]
   unfold NI
   rw[map_append,map_map,map_map,<-yn0 c i]
   congr 1
   .apply map_congr_left
    intro p j
    have:=(mem_lo.mp j).2
    show ((p:Int)-(c:Int)) % (n:Int)=((p+(n-c):Nat):Int)
    have:(p:Int)-(c:Int)=((p+(n-c):Nat):Int)+(-1)*(n:Int):=by omega
    rw[this,Int.add_mul_emod_self_right,Int.emod_eq_of_lt (by omega) (by omega)]
   .apply map_congr_left
    intro p j
    have:=mem_hi.mp j
    have:=i.2 p this.1
    show ((p:Int)-(c:Int)) % (n:Int)=((p-c:Nat):Int)
    rw[Int.emod_eq_of_lt (by omega) (by omega)]
    omega
  rw[e]
  have:NI (rotL n c K)=NI ((hiP c K).map fun p=>p-c)++NI ((loP c K).map fun p=>p+(n-c)):=by
   unfold rotL NI
   rw[map_append]
  rw[this]
  exact perm_append_comm
 .unfold NI
  rw[pairwise_map]
  exact q.1.imp fun{a b} h=>by omega
theorem zy3 (η:List Int)(s:Int)(q:1<=s)(c:Nat)(z:c<η.length)(Y:η.length<=40)(K:List Nat)(j:Up η.length K)(Z:K.length<=40):m_Z0 [RI η,.int s,.int (c:Int),L K]=some (.sh (.bl true)):=by
 have U:=j6
 unfold m_Z0 b_Z0
 refine j9 ?_
 have M:(rotR η c).length=η.length:=by unfold rotR;simp;omega
 have S:l7 [none,some 2,some 0] (l6 (mvar 3)) (.nm 0) cyes (m2 modD (m2 subD (mvar 0) (mvar 1)) (mlen (bvar 2))) [some (.sh (RI η)),k0c s,k0b c,some (.sh (L K)),none]=some ((K.map fun(p:Nat)=>((p:Int)-(c:Int)) % (η.length:Int)).map .int):=by
  unfold l7
  rw[j1 (ds:=K.map dN) rfl,Option.bind_some]
  refine(j5 (f:=dN) (G:=fun p=>D.int (((p:Int)-(c:Int)) % (η.length:Int))) (fun _ ρ=>∃ x,ρ=[x,k0b c,some (.sh (RI η))]) (by
   rintro p ps ρ ⟨x,rfl⟩
   refine⟨[some (.sh (dN p)),k0b c,some (.sh (RI η))],rfl,rfl,?_,_,rfl⟩
   rw[O7 (a:=.int ((p:Int)-(c:Int))) (b:=.int (η.length:Int)) ((O7 (a:=.int (p:Int)) (b:=.int (c:Int)) rfl rfl).trans rfl) (by rw[j0 (ds:=η.map .int) rfl,length_map])]
   show (if B8 ((p:Int)-(c:Int)) (η.length:Int)=true then some (D.int (((p:Int)-(c:Int)) % (η.length:Int)))else none)=_
   rw[if_pos (t9 _ _ (by omega))]) K _ [] ⟨none,rfl⟩ (by simp;omega)).trans ?_
  rw[nil_append,map_map]
  rfl
 have es:mlst (K8 (l7 [none,some 2,some 0] (l6 (mvar 3)) (.nm 0) cyes (m2 modD (m2 subD (mvar 0) (mvar 1)) (mlen (bvar 2))))) [some (.sh (RI η)),k0c s,k0b c,some (.sh (L K)),none]=some (L (rotL η.length c K)):=by
  have:K8 (l7 [none,some 2,some 0] (l6 (mvar 3)) (.nm 0) cyes (m2 modD (m2 subD (mvar 0) (mvar 1)) (mlen (bvar 2)))) [some (.sh (RI η)),k0c s,k0b c,some (.sh (L K)),none]=some ((NI (rotL η.length c K)).map .int):=by
   unfold K8
   rw[S]
   simp only[M2]
   rw[if_pos (by rw[length_map];omega),yg5 η.length c z j]
  rw[t6 this,L_NI]
 refine seqI (ρ':=[some (.sh (RI η)),k0c s,k0b c,some (.sh (L K)),some (.sh (L (rotL η.length c K)))]) ((g0 es).trans rfl) ?_
 refine S7 ?_
 have i:Up (rotR η c).length (rotL η.length c K):=by rw[M];exact yv6 (Nat.le_of_lt z) j
 have I:=V9 (rotR η c) s q (rotL η.length c K) i (by rw[zd1 j];omega)
 have J:=V9 η s q K j (by omega)
 have eq:altW s none ((rotL η.length c K).map (xr (rotR η c))++((rotL η.length c K).map (xr (rotR η c))).take 2)=altW s none (K.map (xr η)++(K.map (xr η)).take 2):=by
  rw[Bool.eq_iff_iff,C0 q,C0 q,xx4 η c (Nat.le_of_lt z) j]
 rw[eq]at I
 have O:=m6 (ρ:=[some (.sh (RI η)),k0c s,k0b c,some (.sh (L K)),some (.sh (L (rotL η.length c K)))]) (z9 (c8 (z9 (t6 (m:=bvar 0) (ds:=η.map .int) rfl) (z9 (x:=mvar 2) (d:=.int (c:Int)) rfl w6)) (N4 η c z (by omega))) (z9 (x:=mvar 1) (d:=.int s) rfl (z9 (x:=mvar 4) (d:=L (rotL η.length c K)) rfl w6))) I
 have N:=m6 (ρ:=[some (.sh (RI η)),k0c s,k0b c,some (.sh (L K)),some (.sh (L (rotL η.length c K)))]) (z9 (t6 (m:=bvar 0) (ds:=η.map .int) rfl) (z9 (x:=mvar 1) (d:=.int s) rfl (z9 (t6 (m:=bvar 3) (ds:=K.map dN) rfl) w6))) J
 rw[O7 O N]
 unfold eqSD
 rw[ym9,beq_self_eq_true]
 rfl
end
section
open PySem L2
theorem C3 {η:List Int}{s:Int}{l:List Nat}(h:l=[]\/Rg η s l):l.length % 2=0:=by
 rcases h with rfl|⟨d,f,i,w,_,h,_⟩
 .rfl
 .exact h
theorem zd2 {η:List Int}{s:Int}{l:List Nat}(h:l=[]\/Rg η s l):tn η s (l.length / 2)≠0:=by
 have q:=C3 h
 rcases h with rfl|h
 .show (1:Nat)≠0;decide
 .have hne:l.length≠0:=by
   obtain⟨d,f,j,w,⟨m,rfl⟩,_⟩:=h
   simp
  obtain⟨k,i⟩:∃ k,l.length / 2=k+1:=⟨l.length / 2-1,by omega⟩
  rw[i]
  show an η s k≠0
  rw[<-za1]
  have:=length_pos_of_mem (al_mem.mpr ⟨h,(by omega:l.length=2*k+2)⟩)
  omega
theorem yu1 {η:List Int}{s:Int}{h:Nat}(z:tn η s h≠0):∃ l,(l=[]\/Rg η s l)/\l.length=2*h:=by
 cases h with
 |zero=>exact⟨[],.inl rfl,rfl⟩
 |succ k=>
  have z:an η s k≠0:=z
  rw[<-za1]at z
  cases hA:al η s k with
  |nil=>rw[hA]at z;exact absurd rfl z
  |cons a A=>
   obtain⟨h1,h2⟩:=al_mem.mp (show a∈al η s k by rw[hA];simp)
   exact⟨a,.inr h1,by omega⟩
theorem zd0 (η:List Int)(s:Int)(j:1<=s)(q:η.length<=300):∃ l,Best (fun m=>m=[]\/Rg η s m) l/\m_Z4 [RI η,.int s]=some (.sh (L l))/\m_Z6 [RI η,.int s]=some (.fr (((List.range (l.length / 2+1)).map (tn η s)).map dN)):=by
 obtain⟨l,G,i⟩:=E3 η s j q
 obtain⟨M,N,h1,h2,e⟩:=zz1 η s j q
 refine⟨l,i,G,?_⟩
 have J:=C3 i.1
 have I:l.length<=η.length:=by
  rcases i.1 with z|z
  .rw[z];simp
  .exact xj1 z
 have:M=l.length / 2:=by
  rcases Nat.lt_trichotomy M (l.length / 2)with z|z|z
  .exact absurd (h2 (l.length / 2) z (by omega)) (zd2 i.1)
  .exact z
  .obtain⟨m,hm,em⟩:=yu1 h1
   have:=i.len m hm
   omega
 rw[e,this]
theorem yu0 {η i:List Int}{s:Int}(M:1<=s)(hn:i.length=η.length)(Y:η.length<=300)(ha:∀ k,an i s k=an η s k){l:List Nat}(I:Best (fun m=>m=[]\/Rg η s m) l):∃ l',l'.length=l.length/\m_Z4 [RI i,.int s]=some (.sh (L l'))/\m_Z6 [RI i,.int s]=some (.fr (((List.range (l.length / 2+1)).map (tn η s)).map dN)):=by
 have q:tn i s=tn η s:=by
  funext h
  cases h with
  |zero=>rfl
  |succ k=>exact ha k
 obtain⟨l',j,U,S⟩:=zd0 i s M (by omega)
 have h1:=zd2 I.1
 have h2:=zd2 j.1
 rw[<-q]at h1
 rw[q]at h2
 obtain⟨a,G,O⟩:=yu1 h1
 obtain⟨b,z,N⟩:=yu1 h2
 have:=j.len a G
 have:=I.len b z
 have:=C3 I.1
 have:=C3 j.1
 have J:l'.length=l.length:=by omega
 exact⟨l',J,U,by rw[S,J,q]⟩
theorem xj0 {η:List Int}{s:Int}{l:List Nat}(h:l=[]\/Rg η s l):Wv (xr η) η.length s l:=by
 rcases h with rfl|⟨d,f,i,w,_⟩
 .exact .inl rfl
 .exact .inr ⟨d,w⟩
def eH (scr:D)(c:Int)(o2 o3 o4 o5 o6 o7 o8 o9:Option S):Ro:=[some (.sh scr),k0c c,o2,o3,o4,o5,o6,o7,o8,o9]
theorem ye0 (j:D)(c:Int)(η:List Int)(s:Int)(G:1<=s)(I:η.length<=300){l:List Nat}(J:Best (fun m=>m=[]\/Rg η s m) l)(i:List Int)(hn:i.length=η.length)(ha:∀ k,an i s k=an η s k)(z o7 q:Option S):
  L7 (eH j c (some (.sh (RI η))) (k0c s) (some (.sh (.lst (((List.range (l.length / 2+1)).map (tn η s)).map dN)))) (some (.sh (L l))) z o7 q (some (.sh (RI i))))=some (.nx (eH j c (some (.sh (RI η))) (k0c s) (some (.sh (.lst (((List.range (l.length / 2+1)).map (tn η s)).map dN)))) (some (.sh (L l))) z o7 q (some (.sh (RI i))))):=by
 obtain⟨l',h1,h2,M⟩:=yu0 G hn I ha J
 unfold L7
 refine Z3 ((zw4 (a:=false) (b:=false) ?_ ?_).trans rfl)
 .unfold l0 meqB
  rw[j1 (c8 (z9 (t6 (m:=bvar 9) (ds:=i.map .int) rfl) (z9 (x:=mvar 3) (d:=.int s) rfl w6)) M),show bvar 4 (eH j c (some (.sh (RI η))) (k0c s) (some (.sh (.lst (((List.range (l.length / 2+1)).map (tn η s)).map dN)))) (some (.sh (L l))) z o7 q (some (.sh (RI i))))=some (((List.range (l.length / 2+1)).map (tn η s)).map dN)from rfl]
  simp only[Option.bind_some]
  rw[dns,xx0]
 .refine zt3 ?_
  rw[O7 (j0 (j1 (ds:=l'.map dN) (m6 (z9 (t6 (m:=bvar 9) (ds:=i.map .int) rfl) (z9 (x:=mvar 3) (d:=.int s) rfl w6)) h2))) (j0 (m:=bvar 5) (ds:=l.map dN) rfl),length_map,length_map,h1]
  unfold neSD
  rw[ym8]
  simp
end
section
open PySem L2
theorem xz5 {n:Nat}{f:List Int}(h:Ris f n):∃ K:List Nat,f=NI K/\Up n K:=by
 refine⟨f.map Int.toNat,?_,?_,fun y j=>?_⟩
 .unfold NI
  rw[map_map]
  refine Eq.trans (map_id f).symm (map_congr_left fun p i=>?_)
  have:=(h.2 p i).1
  show p=((p.toNat:Nat):Int)
  omega
 .rw[pairwise_map]
  refine h.1.imp_of_mem fun{a b} ha q z=>?_
  have:=h.2 a ha
  have:=h.2 b q
  omega
 .obtain⟨p,i,rfl⟩:=List.mem_map.mp j
  have:=h.2 p i
  omega
theorem ya9 {n:Nat}{K:List Nat}(h:Up n K):K.length<=n:=by
 have:=xy8 (A:=K.map fun p=>[p]) (B:=(List.range n).map fun p=>[p]) id (by
  unfold List.Nodup
  rw[pairwise_map]
  exact h.1.imp fun{a b} j=>by simp;omega) (fun _ _ _ _ e=>e) (fun a ha=>by
   obtain⟨p,i,rfl⟩:=List.mem_map.mp ha
   exact List.mem_map.mpr ⟨p,List.mem_range.mpr (h.2 p i),rfl⟩)
 simpa using this
theorem xo1 (I:D)(c:Int)(o2 o3 o4 o5 N o7 J M:Option S):∃ p2 p3 p4 p5 p6 p7 p8 O,zs6 (eH I c o2 o3 o4 o5 N o7 J M)=some (.nx (eH I c p2 p3 p4 p5 p6 p7 p8 O)):=by
 have ax:=j6
 have i1:0+1<=sizeLine:=t8 (by decide)
 obtain⟨U,ai,er⟩:=xk7 c 20 (by decide)
 obtain⟨s,Y,es⟩:=xw3 c
 have ad:(10:Int)^(28:Int).toNat=10000000000000000000000000000:=by decide
 have ag:C8 10 28=true:=by decide
 have ae:(10:Int)^(27:Int).toNat=1000000000000000000000000000:=by decide
 have ah:C8 10 27=true:=by decide
 have a0:l7 [none] (l6 (u5 zi8 (z8 (mvar 1) (z8 (mc (.int 20)) anil)))) (.nm 0) cyes (m2 modD (mvar 0) (m2 powD (mc (.int 10)) (mc (.int 28)))) (eH I c o2 o3 o4 o5 N o7 J M)=some ((U.map fun x=>x % 10000000000000000000000000000).map .int):=by
  unfold l7
  rw[j1 (c8 (z9 (x:=mvar 1) (d:=.int c) rfl (z9 (x:=mc (.int 20)) (d:=.int ((20:Nat):Int)) rfl w6)) er),Option.bind_some]
  refine(j5 (f:=D.int) (G:=fun x=>D.int (x % 10000000000000000000000000000)) (fun _ ρ=>∃ x,ρ=[x]) (by
   rintro x xs ρ ⟨y,rfl⟩
   refine⟨[k0c x],rfl,rfl,?_,_,rfl⟩
   simp_arith [ad,ag,if_true,t9 x 10000000000000000000000000000 (by decide)]) U _ [] ⟨none,rfl⟩ (by simp;omega)).trans ?_
  rw[nil_append,map_map]
  rfl
 have hr:(U.map fun x=>x % 10000000000000000000000000000).length<=20:=by rw[length_map];exact ai
 generalize U.map (fun x=>x % 10000000000000000000000000000)=η at a0 hr
 obtain⟨l,hB,e5,e4⟩:=zd0 η s Y (by omega)
 obtain⟨w,ew,hw⟩:=yx5 η s Y (by omega)
 have au:=hw.len l (xj0 hB.1)
 have eh:=zh4 η s w ew
 have aw:=C3 hB.1
 have Z:Up η.length l:=by
  rcases hB.1 with z|z
  .rw[z];exact⟨List.Pairwise.nil,fun y hy=>by cases hy⟩
  .exact xv5 z
 have av:l.length<=20:=Nat.le_trans (ya9 Z) hr
 have ao:=zy8 c η (by omega)
 have a6:=V9 η s Y l Z (by omega)
 rw[(C0 Y _).mpr ((xv6 Z).mp hB.1)]at a6
 have ab:=ze4 η (NI l) s Y (by unfold NI;rw[length_map];omega)
 rw[xo7 η s Y l (xj0 hB.1),L_NI]at ab
 have as:=zd2 hB.1
 generalize a2:(some (S.sh (.lst (((List.range (l.length / 2+1)).map (tn η s)).map dN))))=B4
 have af:∀(Os:List (List Int))(o7 J M:Option S),Os.length<=10->(∀ r∈Os,r.length=η.length/\∀ k,an r s k=an η s k)->∃ p6 O,zs5 (eH I c (some (.sh (RI η))) (k0c s) B4 (some (.sh (L l))) (some (.own (Os.map RI))) o7 J M)=some (.nx (eH I c (some (.sh (RI η))) (k0c s) B4 (some (.sh (L l))) p6 o7 J O)):=by
  intro Os o7 J M _ hO
  unfold zs5 X3
  show ∃ p6 O,mfor (l6 (mvar 6)) (.nm 9) L7 (eH I c (some (.sh (RI η))) (k0c s) B4 (some (.sh (L l))) (some (.sh (.lst (Os.map RI)))) o7 J M)=_
  obtain⟨o,e,O,rfl⟩:=S9 (g:=.nm 9) (body:=L7) (f:=RI) (fun rs ρ=>(∀ r∈rs,r.length=η.length/\∀ k,an r s k=an η s k)/\∃ O,ρ=eH I c (some (.sh (RI η))) (k0c s) B4 (some (.sh (L l))) (some (.sh (.lst (Os.map RI)))) o7 J O) (fun o=>∃ O,o= .nx (eH I c (some (.sh (RI η))) (k0c s) B4 (some (.sh (L l))) (some (.sh (.lst (Os.map RI)))) o7 J O))
   (by
    rintro r rs ρ ⟨h,O,rfl⟩
    have a3:=h r (by simp)
    have:=ye0 I c η s Y (by omega) hB r a3.1 a3.2 (some (.sh (.lst (Os.map RI)))) o7 J
    rw[a2]at this
    exact⟨eH I c (some (.sh (RI η))) (k0c s) B4 (some (.sh (L l))) (some (.sh (.lst (Os.map RI)))) o7 J (some (.sh (RI r))),_,rfl,this,fun q hq=>h q (by simp[hq]),_,rfl⟩)
   (by rintro ρ ⟨_,O,rfl⟩;exact⟨O,rfl⟩) Os (eH I c (some (.sh (RI η))) (k0c s) B4 (some (.sh (L l))) (some (.sh (.lst (Os.map RI)))) o7 J M) ⟨hO,_,rfl⟩
  refine⟨some (.sh (.lst (Os.map RI))),O,?_⟩
  unfold mfor
  rw[j1 (ds:=Os.map RI) rfl,Option.bind_some]
  exact e
 have h3:∀ r∈[η.reverse,η.map (fun x=>0-x),η.map (fun x=>x+1000000000000000000000000000)],r.length=η.length/\∀ k,an r s k=an η s k:=fun r h=>by
  simp only[mem_cons,not_mem_nil,or_false]at h
  rcases h with rfl|rfl|rfl
  .exact⟨by simp,xb7 Y⟩
  .exact⟨by simp,xb8 Y⟩
  .exact⟨by simp,ya2 Y _⟩
 generalize a5:[η.reverse,η.map (fun x=>0-x),η.map (fun x=>x+1000000000000000000000000000)]=O3 at h3
 have ar:O3.length=3:=by rw[<-a5];rfl
 have ac:∀(o7 J M:Option S),∃(Os:List (List Int))(p7 p8:Option S),Os.length<=10/\(∀ r∈Os,r.length=η.length/\∀ k,an r s k=an η s k)/\mfor (l6 (mlst (mcut (m5 (z8 (m2 modD (u5 Z7 (z8 (mvar 1) (z8 (mc (.int 384)) anil))) (X2 zy5 (z8 (mc (.int 1)) (z8 (mlen (bvar 2)) anil)))) anil)) V1 (Y8 (mlen (bvar 2)))))) (.nm 7) L8 (eH I c (some (.sh (RI η))) (k0c s) B4 (some (.sh (L l))) (some (.own (O3.map RI))) o7 J M)=some (.nx (eH I c (some (.sh (RI η))) (k0c s) B4 (some (.sh (L l))) (some (.own (Os.map RI))) p7 p8 M)):=by
  intro o7 J M
  have a1:mlen (bvar 2) (eH I c (some (.sh (RI η))) (k0c s) B4 (some (.sh (L l))) (some (.own (O3.map RI))) o7 J M)=some (.int (η.length:Int)):=by rw[j0 (ds:=η.map .int) rfl,length_map]
  have a8:X2 zy5 (z8 (mc (.int 1)) (z8 (mlen (bvar 2)) anil)) (eH I c (some (.sh (RI η))) (k0c s) B4 (some (.sh (L l))) (some (.own (O3.map RI))) o7 J M)=some (.int (max 1 (η.length:Int))):=by
   rw[yb7 (z9 (d:=.int 1) rfl (z9 a1 w6))]
   show some (D.int (if (η.length:Int)>1 then (η.length:Int)else 1))=_
   rw[zw1]
  have a7:m2 modD (u5 Z7 (z8 (mvar 1) (z8 (mc (.int 384)) anil))) (X2 zy5 (z8 (mc (.int 1)) (z8 (mlen (bvar 2)) anil))) (eH I c (some (.sh (RI η))) (k0c s) B4 (some (.sh (L l))) (some (.own (O3.map RI))) o7 J M)=some (.int (stir c 384 % max 1 (η.length:Int))):=by
   rw[O7 (m6 (z9 (x:=mvar 1) (d:=.int c) rfl (z9 (x:=mc (.int 384)) (d:=.int 384) rfl w6)) (Z0 c 384 (by decide))) a8]
   show (if B8 (stir c 384) (max 1 (η.length:Int))=true then some (D.int (stir c 384 % max 1 (η.length:Int)))else none)=_
   rw[if_pos (t9 _ _ (by omega))]
  have a9:mcut (m5 (z8 (m2 modD (u5 Z7 (z8 (mvar 1) (z8 (mc (.int 384)) anil))) (X2 zy5 (z8 (mc (.int 1)) (z8 (mlen (bvar 2)) anil)))) anil)) V1 (Y8 (mlen (bvar 2))) (eH I c (some (.sh (RI η))) (k0c s) B4 (some (.sh (L l))) (some (.own (O3.map RI))) o7 J M)=some (([stir c 384 % max 1 (η.length:Int)].take η.length).map .int):=by
   have hc:cutL ([stir c 384 % max 1 (η.length:Int)].map D.int) none (some (η.length:Int))=([stir c 384 % max 1 (η.length:Int)].take η.length).map .int:=by rw[W1,zt8]
   unfold mcut Y8
   rw[l8 (z9 a7 w6) i1,a1]
   exact congrArg some hc
  unfold mfor
  rw[j1 (t6 a9),Option.bind_some]
  rcases Nat.eq_zero_or_pos η.length with z|z
  .refine⟨O3,o7,J,by omega,h3,?_⟩
   rw[z]
   rfl
  .obtain⟨k,hk⟩:=xy4 (x:=stir c 384 % max 1 (η.length:Int)) (Int.emod_nonneg _ (by omega))
   have a4:k<η.length:=by
    have:=Int.emod_lt_of_pos (stir c 384) (show 0<max 1 (η.length:Int)by omega)
    omega
   rw[hk,take_of_length_le (by simp;omega)]
   obtain⟨f1,⟨_,g1⟩,am⟩:=xw4 c 320 η.length (by decide) (by omega)
   obtain⟨f2,⟨_,g2⟩,al⟩:=zf4 c 350 η s (by decide) (by omega)
   obtain⟨K1,rfl,u1⟩:=xz5 g1
   obtain⟨K2,rfl,u2⟩:=xz5 g2
   refine⟨O3++[rotR η k],k0b k,some (.sh (L l)),by simp;omega,fun r h=>?_,?_⟩
   .rcases List.mem_append.mp h with h|h
    .exact h3 r h
    .rw[List.mem_singleton.mp h]
     exact⟨by unfold rotR;simp;omega,xb6 Y k (by omega)⟩
   .have body:L8 (eH I c (some (.sh (RI η))) (k0c s) B4 (some (.sh (L l))) (some (.own (O3.map RI))) (k0b k) J M)=some (.nx (eH I c (some (.sh (RI η))) (k0c s) B4 (some (.sh (L l))) (some (.own ((O3++[rotR η k]).map RI))) (k0b k) (some (.sh (L l))) M)):=by
     unfold L8
     refine seqI (ρ':=eH I c (some (.sh (RI η))) (k0c s) B4 (some (.sh (L l))) (some (.own ((O3++[rotR η k]).map RI))) (k0b k) J M) ?_ ?_
     .unfold mapp
      rw[c8 (z9 (t6 (m:=bvar 2) (ds:=η.map .int) rfl) (z9 (x:=mvar 7) (d:=.int (k:Int)) rfl w6)) (N4 η k a4 (by omega))]
      show (if (O3.map RI).length<sizeLine then some (Out.nx _)else none)=_
      rw[if_pos (by rw[length_map];omega),map_append]
      rfl
     .have el3:l6 (mlst (m5 (z8 (u5 zh0 (z8 (mvar 1) (z8 (mc (.int 320)) (z8 (mlen (bvar 2)) anil)))) (z8 (u5 m_Z8 (z8 (mvar 1) (z8 (mc (.int 350)) (z8 (mvar 2) (z8 (mvar 3) anil))))) (z8 (mvar 5) anil))))) (eH I c (some (.sh (RI η))) (k0c s) B4 (some (.sh (L l))) (some (.own ((O3++[rotR η k]).map RI))) (k0b k) J M)=some ([K1,K2,l].map L):=by
       have q1:=c8 (ρ:=eH I c (some (.sh (RI η))) (k0c s) B4 (some (.sh (L l))) (some (.own ((O3++[rotR η k]).map RI))) (k0b k) J M) (z9 (x:=mvar 1) (d:=.int c) rfl (z9 (x:=mc (.int 320)) (d:=.int 320) rfl (z9 (x:=mlen (bvar 2)) (d:=.int (η.length:Int)) (by rw[j0 (ds:=η.map .int) rfl,length_map]) w6))) am
       have q2:=c8 (ρ:=eH I c (some (.sh (RI η))) (k0c s) B4 (some (.sh (L l))) (some (.own ((O3++[rotR η k]).map RI))) (k0b k) J M) (z9 (x:=mvar 1) (d:=.int c) rfl (z9 (x:=mc (.int 350)) (d:=.int 350) rfl (z9 (x:=mvar 2) (d:=RI η) rfl (z9 (x:=mvar 3) (d:=.int s) rfl w6)))) al
       rw[L_NI]at q1 q2
       exact j1 (t6 (l8 (z9 q1 (z9 q2 (z9 (x:=mvar 5) (d:=L l) rfl w6))) (t8 (by simp))))
      have one:∀(K:List Nat)(J:Option S),Up η.length K->D3 (eH I c (some (.sh (RI η))) (k0c s) B4 (some (.sh (L l))) (some (.own ((O3++[rotR η k]).map RI))) (k0b k) (some (.sh (L K))) M)=some (.nx (eH I c (some (.sh (RI η))) (k0c s) B4 (some (.sh (L l))) (some (.own ((O3++[rotR η k]).map RI))) (k0b k) (some (.sh (L K))) M)):=fun K J hK=>by
       unfold D3
       refine Z3 ((J6 (b:=true) (K7 ?_)).trans rfl)
       exact m6 (z9 (x:=mvar 2) (d:=RI η) rfl (z9 (x:=mvar 3) (d:=.int s) rfl (z9 (x:=mvar 7) (d:=.int (k:Int)) rfl (z9 (x:=mvar 8) (d:=L K) rfl w6)))) (zy3 η s Y k a4 (by omega) K hK (by have:=ya9 hK;omega))
      unfold mfor
      rw[el3,Option.bind_some]
      show forD (.nm 8) D3 [L K1,L K2,L l] _=_
      unfold forD
      rw[show tgD (.nm 8) (L K1) (eH I c (some (.sh (RI η))) (k0c s) B4 (some (.sh (L l))) (some (.own ((O3++[rotR η k]).map RI))) (k0b k) J M)=some (eH I c (some (.sh (RI η))) (k0c s) B4 (some (.sh (L l))) (some (.own ((O3++[rotR η k]).map RI))) (k0b k) (some (.sh (L K1))) M)from rfl]
      simp only[one K1 none u1]
      exact zb4 (ρ1:=eH I c (some (.sh (RI η))) (k0c s) B4 (some (.sh (L l))) (some (.own ((O3++[rotR η k]).map RI))) (k0b k) (some (.sh (L K2))) M) rfl (one K2 none u2) rfl (one l none Z)
    show forD (.nm 7) L8 [.int (k:Int)] _=_
    unfold forD
    rw[show tgD (.nm 7) (.int (k:Int)) (eH I c (some (.sh (RI η))) (k0c s) B4 (some (.sh (L l))) (some (.own (O3.map RI))) o7 J M)=some (eH I c (some (.sh (RI η))) (k0c s) B4 (some (.sh (L l))) (some (.own (O3.map RI))) (k0b k) J M)from rfl]
    simp only[body]
    rfl
 obtain⟨Os,p7,p8,aj,hO,ef⟩:=ac o7 J M
 obtain⟨p6,O,ak⟩:=af Os p7 p8 M aj hO
 refine⟨some (.sh (RI η)),k0c s,B4,some (.sh (L l)),p6,p7,p8,O,?_⟩
 unfold zs6
 refine seqI (ρ':=eH I c (some (.sh (RI η))) o3 o4 o5 N o7 J M) ((g0 (t6 a0)).trans rfl) ?_
 refine seqI (ρ':=eH I c (some (.sh (RI η))) (k0c s) o4 o5 N o7 J M) ((g0 (m6 (z9 (x:=mvar 1) (d:=.int c) rfl w6) es)).trans rfl) ?_
 refine seqI (ρ':=eH I c (some (.sh (RI η))) (k0c s) B4 o5 N o7 J M) ((g0 (c8 (z9 (t6 (m:=bvar 2) (ds:=η.map .int) rfl) (z9 (x:=mvar 3) (d:=.int s) rfl w6)) e4)).trans (by rw[<-a2];rfl)) ?_
 refine seqI (ρ':=eH I c (some (.sh (RI η))) (k0c s) B4 (some (.sh (L l))) N o7 J M) ((g0 (m6 (z9 (t6 (m:=bvar 2) (ds:=η.map .int) rfl) (z9 (x:=mvar 3) (d:=.int s) rfl w6)) e5)).trans rfl) ?_
 have aa:bvar 4 (eH I c (some (.sh (RI η))) (k0c s) B4 (some (.sh (L l))) N o7 J M)=some (((List.range (l.length / 2+1)).map (tn η s)).map dN):=by rw[<-a2];rfl
 refine seqI (ρ':=eH I c (some (.sh (RI η))) (k0c s) B4 (some (.sh (L l))) N o7 J M) (Z3 ((zw4 (a:=false) (b:=false) ?_ ((zw4 (a:=false) (b:=false) ?_ ?_).trans rfl)).trans rfl)) ?_
 .exact(J6 (b:=true) (K7 (m6 (z9 (x:=mvar 1) (d:=.int c) rfl (z9 (x:=mvar 2) (d:=RI η) rfl w6)) ao))).trans rfl
 .refine zt3 ?_
  have aq:m2 mulD (mc (.int 2)) (mlen (bvar 4)) (eH I c (some (.sh (RI η))) (k0c s) B4 (some (.sh (L l))) N o7 J M)=some (.int (2*((l.length / 2+1:Nat):Int))):=by
   rw[O7 (a:=.int 2) (b:=.int ((l.length / 2+1:Nat):Int)) rfl (by rw[j0 aa,length_map,length_map,length_range])]
   show (if Q6 2 ((l.length / 2+1:Nat):Int)=true then some (D.int (2*((l.length / 2+1:Nat):Int)))else none)=_
   rw[if_pos (S5 _ _ (by decide) (by decide))]
  have ap:m2 subD (m2 mulD (mc (.int 2)) (mlen (bvar 4))) (mc (.int 2)) (eH I c (some (.sh (RI η))) (k0c s) B4 (some (.sh (L l))) N o7 J M)=some (.int (l.length:Int)):=by
   rw[O7 aq (b:=.int 2) rfl]
   show some (D.int (2*((l.length / 2+1:Nat):Int)-2))=_
   congr 2
   omega
  rw[O7 (j0 (m:=bvar 5) (ds:=l.map dN) rfl) ap,length_map]
  unfold neSD
  rw[ym8]
  simp
 .have e1:mix (bvar 4) (m1 negD (mc (.int 1))) (eH I c (some (.sh (RI η))) (k0c s) B4 (some (.sh (L l))) N o7 J M)=some (dN (tn η s (l.length / 2))):=by
   refine V4 (k:=-1) aa rfl ?_
   rw[U5]
   exact atI_last dN _ _
  rw[xz3 (i:=((tn η s (l.length / 2):Nat):Int)) (j:=1) e1 rfl]
  exact congrArg some (decide_eq_false (by omega))
 refine seqI (ρ':=eH I c (some (.sh (RI η))) (k0c s) B4 (some (.sh (L l))) N o7 J M) (Z3 ((zw4 (a:=false) (b:=false) ?_ ?_).trans rfl)) ?_
 .exact(J6 (b:=true) (K7 (m6 (z9 (t6 (m:=bvar 2) (ds:=η.map .int) rfl) (z9 (x:=mvar 3) (d:=.int s) rfl (z9 (t6 (m:=bvar 5) (ds:=l.map dN) rfl) w6))) a6))).trans rfl
 .exact(J6 (b:=true) (K7 (m6 (z9 (t6 (m:=bvar 2) (ds:=η.map .int) rfl) (z9 (x:=mvar 3) (d:=.int s) rfl (z9 (t6 (m:=bvar 5) (ds:=l.map dN) rfl) w6))) ab))).trans rfl
 refine seqI (ρ':=eH I c (some (.sh (RI η))) (k0c s) B4 (some (.sh (L l))) N o7 J M) (Z3 (zt3 ?_)) ?_
 .rw[O7 (j0 (m:=bvar 5) (ds:=l.map dN) rfl) (m6 (z9 (t6 (m:=bvar 2) (ds:=η.map .int) rfl) (z9 (x:=mvar 3) (d:=.int s) rfl w6)) eh),length_map]
  show some (D.bl (decide ((l.length:Int)>(w.length:Int))))=_
  rw[decide_eq_false (by omega)]
 have e6:m5 (z8 (mlst (mrev (bvar 2) (Y8 (m1 negD (mc (.int 1)))))) (z8 (mlst (l7 [none] (l6 (mvar 2)) (.nm 0) cyes (m2 subD (mc (.int 0)) (mvar 0)))) (z8 (mlst (l7 [none] (l6 (mvar 2)) (.nm 0) cyes (m2 addD (mvar 0) (m2 powD (mc (.int 10)) (mc (.int 27)))))) anil))) (eH I c (some (.sh (RI η))) (k0c s) B4 (some (.sh (L l))) N o7 J M)=some (O3.map RI):=by
  have g1:mrev (bvar 2) (Y8 (m1 negD (mc (.int 1)))) (eH I c (some (.sh (RI η))) (k0c s) B4 (some (.sh (L l))) N o7 J M)=some (η.reverse.map .int):=by
   unfold mrev
   rw[show bvar 2 (eH I c (some (.sh (RI η))) (k0c s) B4 (some (.sh (L l))) N o7 J M)=some (η.map .int)from rfl,Option.bind_some,map_reverse]
   rfl
  have g2:l7 [none] (l6 (mvar 2)) (.nm 0) cyes (m2 subD (mc (.int 0)) (mvar 0)) (eH I c (some (.sh (RI η))) (k0c s) B4 (some (.sh (L l))) N o7 J M)=some ((η.map fun x=>0-x).map .int):=by
   unfold l7
   rw[j1 (ds:=η.map .int) rfl,Option.bind_some]
   refine(j5 (f:=D.int) (G:=fun x=>D.int (0-x)) (fun _ ρ=>∃ x,ρ=[x]) (by
    rintro x xs ρ ⟨y,rfl⟩
    exact⟨[k0c x],rfl,rfl,(O7 (f:=subD) (a:=.int 0) (b:=.int x) rfl rfl).trans rfl,_,rfl⟩) η _ [] ⟨none,rfl⟩ (by simp;omega)).trans ?_
   rw[nil_append,map_map]
   rfl
  have g3:l7 [none] (l6 (mvar 2)) (.nm 0) cyes (m2 addD (mvar 0) (m2 powD (mc (.int 10)) (mc (.int 27)))) (eH I c (some (.sh (RI η))) (k0c s) B4 (some (.sh (L l))) N o7 J M)=some ((η.map fun x=>x+1000000000000000000000000000).map .int):=by
   unfold l7
   rw[j1 (ds:=η.map .int) rfl,Option.bind_some]
   refine(j5 (f:=D.int) (G:=fun x=>D.int (x+1000000000000000000000000000)) (fun _ ρ=>∃ x,ρ=[x]) (by
    rintro x xs ρ ⟨y,rfl⟩
    refine⟨[k0c x],rfl,rfl,?_,_,rfl⟩
    simp_arith [ae,ah,if_true]) η _ [] ⟨none,rfl⟩ (by simp;omega)).trans ?_
   rw[nil_append,map_map]
   rfl
  rw[<-a5]
  exact l8 (z9 (t6 g1) (z9 (t6 g2) (z9 (t6 g3) w6))) (t8 (by simp))
 refine seqI (ρ':=eH I c (some (.sh (RI η))) (k0c s) B4 (some (.sh (L l))) (some (.own (O3.map RI))) o7 J M) ((B7 e6).trans rfl) ?_
 exact seqI ef ak
theorem law_true (ns:List Int)(hn:ns.length<=63):zi7 [.lst (ns.map .int)]=some (.sh (.bl true)):=by
 obtain⟨O,N⟩:=yb1 ns 3 hn
 unfold zi7 yb9
 refine j9 ?_
 refine K3 O (f:=D.int) (j1 (c8 (z9 (d:=.lst (ns.map .int)) rfl (z9 (d:=.int ((3:Nat):Int)) rfl w6)) N)) (I:=fun _ ρ=>∃ M p2 L J G z q j i,ρ=[k0a ns,M,p2,L,J,G,z,q,j,i]) (Q:=fun o=>∃ M p2 L J G z q j i,o= .nx [k0a ns,M,p2,L,J,G,z,q,j,i]) ⟨none,none,none,none,none,none,none,none,none,rfl⟩ ?_ ?_ ?_
 .rintro c ks ρ ⟨M,p2,L,J,G,z,q,j,i,rfl⟩
  obtain⟨q2,q3,q4,q5,Z,Y,U,S,e⟩:=xo1 (.lst (ns.map .int)) c p2 L J G z q j i
  exact⟨_,_,rfl,e,_,_,_,_,_,_,_,_,_,rfl⟩
 .rintro ρ ⟨M,p2,L,J,G,z,q,j,i,rfl⟩
  exact⟨_,_,_,_,_,_,_,_,_,rfl⟩
 .rintro o ⟨M,p2,L,J,G,z,q,j,i,rfl⟩
  rfl
end
end
end Lw
namespace Lw
open List
open PySem L2
open PyProof.Rows
section
def top (i:Nat):Stmt:=PySem.Challenge.pw_wavyrow_k50_whole_rings_begun_elsewhere.main.body.getD i (.Pass ⟨0,0,0,0⟩)
abbrev yy3:Stmt:=top 10
abbrev wv9:List Str:=["step"]
theorem xk2:FnScope wv9 ["step"] (y9 yy3):=⟨rfl,rfl,rfl,by decide +kernel,rfl,by decide +kernel,by decide +kernel⟩
theorem xe2 {P:Program}{w:World}{K:W.Frag}{mg:Str->Option Value}{base:Heap}{f:Addr}{fd:FuncData}(i:Fun K "refuse_step" "refuse_step" yy3 f fd):FnOk P w K mg base CX0 1 f fd ["step"] (spR K 1 Q7):=
 i.okD (k:=0) (m:=b_Z13) xk2 fun cdv A outer s H E j=>(x9 (j3 (k8 zp6 G1 (z6 0 (pv 0)) w4 (o0 _)) (x9 C7) t4))
abbrev s_Z9:Stmt:=top 11
abbrev N_Z9:List Str:=["row","step","above","below","place","number"]
theorem sc_Z9:FnScope N_Z9 ["row","step"] (y9 s_Z9):=⟨rfl,rfl,rfl,by decide +kernel,rfl,by decide +kernel,by decide +kernel⟩
theorem T7:List.Nodup (["later","step","number","row"]:List Str):=by decide +kernel
theorem T6:List.Nodup (["later","step","number","row"]:List Str):=by decide +kernel
theorem wy2 {P:Program}{w:World}{K:W.Frag}{mg:Str->Option Value}{base:Heap}{f:Addr}{fd:FuncData}(I:Fun K "later_steps" "later_steps" s_Z9 f fd)(z:mg "enumerate"=none)(q:mg "len"=none)(j:mg "range"=none):FnOk P w K mg base CX0 1 f fd ["row","step"] (spR K 2 m_Z9):=
 I.okD (k:=0) (m:=b_Z9) sc_Z9 fun cdv A outer s H E J=>(y8 (Y2 (i:=2) sc_Z9.nd rfl (by first|exact Or.inl rfl|exact Or.inr rfl) (m8 y7)) (y8 (Y2 (i:=3) sc_Z9.nd rfl (by first|exact Or.inl rfl|exact Or.inr rfl) (m8 y7)) (y8 (g8 PassesOwn.never rfl (zd9 rfl z (z0 (z6 0 (pv 0)) y7)) (W5 (is:=[4,5]) (P2 rfl (k6 (u0 (i:=4) sc_Z9.nd rfl (by first|exact Or.inl rfl|exact Or.inr rfl)) (k6 (u0 (i:=5) sc_Z9.nd rfl (by first|exact Or.inl rfl|exact Or.inr rfl)) W4)))) (y8 (c6 (i:=2) (pv 2) (k7 (d8 (b9 (N:=["later","step","number","row"]) (src:=[none,some 1,some 5,some 0]) (y9 s_Z9) N_Z9 rfl rfl (by decide +kernel)) rfl (W9 rfl j (z0 (j7 (z6 4 (pv 4)) w4) (z0 (u9 rfl q (w8 0 (pv 0))) y7))) (fun C fp G H0=>(u6 (i:=0) (u0 T7 rfl (by first|exact Or.inl rfl|exact Or.inr rfl)))) (fun C fp G H0=>(N8 (k8 K5 V0 (Y4 (c7 (w8 3 (pv 3)) (z6 0 (pv 0))) (z6 2 (pv 2))) (z6 1 (pv 1)) (o0 _)))) (fun C fp G H0=>(z6 0 (pv 0))))) (fun t ha=>zu3 PySem.F.plainAttrs_list PySem.F.slot_list_append PySem.F.type_list_append d9 (pv 2) ha) (z0 (k7 (d8 (b9 (N:=["later","step","number","row"]) (src:=[none,some 1,some 5,some 0]) (y9 s_Z9) N_Z9 rfl rfl (by decide +kernel)) rfl (W9 rfl j (z0 (j7 (z6 4 (pv 4)) w4) (z0 (u9 rfl q (w8 0 (pv 0))) y7))) (fun C fp G H0=>(u6 (i:=0) (u0 T7 rfl (by first|exact Or.inl rfl|exact Or.inr rfl)))) (fun C fp G H0=>(N8 (k8 K5 V0 (Y4 (c7 (w8 3 (pv 3)) (z6 0 (pv 0))) (z6 2 (pv 2))) (z6 1 (pv 1)) (o0 _)))) (fun C fp G H0=>(z6 0 (pv 0))))) y7)) (x9 (c6 (i:=3) (pv 3) (k7 (d8 (b9 (N:=["later","step","number","row"]) (src:=[none,some 1,some 5,some 0]) (y9 s_Z9) N_Z9 rfl rfl (by decide +kernel)) rfl (W9 rfl j (z0 (j7 (z6 4 (pv 4)) w4) (z0 (u9 rfl q (w8 0 (pv 0))) y7))) (fun C fp G H0=>(u6 (i:=0) (u0 T6 rfl (by first|exact Or.inl rfl|exact Or.inr rfl)))) (fun C fp G H0=>(N8 (k8 K5 V0 (Y4 (z6 2 (pv 2)) (c7 (w8 3 (pv 3)) (z6 0 (pv 0)))) (z6 1 (pv 1)) (o0 _)))) (fun C fp G H0=>(z6 0 (pv 0))))) (fun t ha=>zu3 PySem.F.plainAttrs_list PySem.F.slot_list_append PySem.F.type_list_append d9 (pv 3) ha) (z0 (k7 (d8 (b9 (N:=["later","step","number","row"]) (src:=[none,some 1,some 5,some 0]) (y9 s_Z9) N_Z9 rfl rfl (by decide +kernel)) rfl (W9 rfl j (z0 (j7 (z6 4 (pv 4)) w4) (z0 (u9 rfl q (w8 0 (pv 0))) y7))) (fun C fp G H0=>(u6 (i:=0) (u0 T6 rfl (by first|exact Or.inl rfl|exact Or.inr rfl)))) (fun C fp G H0=>(N8 (k8 K5 V0 (Y4 (z6 2 (pv 2)) (c7 (w8 3 (pv 3)) (z6 0 (pv 0)))) (z6 1 (pv 1)) (o0 _)))) (fun C fp G H0=>(z6 0 (pv 0))))) y7))))) (Y7 3 (Y7 2 (x9 (u8 (zx9 (z0 (z6 2 (pv 2)) (z0 (z6 3 (pv 3)) y7))))))))))
abbrev yy1:Stmt:=top 12
abbrev wv7:List Str:=["row","places","least","place"]
theorem sc_Z15:FnScope wv7 ["row","places"] (y9 yy1):=⟨rfl,rfl,rfl,by decide +kernel,rfl,by decide +kernel,by decide +kernel⟩
theorem xe0 {P:Program}{w:World}{K:W.Frag}{mg:Str->Option Value}{base:Heap}{f:Addr}{fd:FuncData}(q:Fun K "are_places" "are_places" yy1 f fd)(j:mg "len"=none):FnOk P w K mg base CX0 1 f fd ["row","places"] (spR K 2 zh1):=
 q.okD (k:=0) (m:=b_Z15) sc_Z15 fun cdv A outer s H E z=>(y8 (t5 (i:=2) sc_Z15.nd rfl (by first|exact Or.inl rfl|exact Or.inr rfl) w4) (y8 (g8 PassesOwn.never rfl (d6 (z6 1 (pv 1))) (u6 (i:=3) (u0 sc_Z15.nd rfl (by first|exact Or.inl rfl|exact Or.inr rfl))) (y8 (j3 (pc_w (S3 (k8 zp6 G1 (z6 3 (pv 3)) (z6 2 (pv 2)) (o0 _)) (P1 (k8 K5 V0 (z6 3 (pv 3)) (u9 rfl j (w8 0 (pv 0))) (o0 _))))) (x9 (u8 S2)) t4) (x9 (t5 (i:=2) sc_Z15.nd rfl (by first|exact Or.inl rfl|exact Or.inr rfl) (j7 (z6 3 (pv 3)) w4))))) (x9 (u8 S2))))
abbrev yz7:Stmt:=top 13
abbrev wv3:List Str:=["numbers","many","left","middle","right"]
theorem sc_Z20:FnScope wv3 ["numbers"] (y9 yz7):=⟨rfl,rfl,rfl,by decide +kernel,rfl,by decide +kernel,by decide +kernel⟩
theorem xf5 {P:Program}{w:World}{K:W.Frag}{mg:Str->Option Value}{base:Heap}{f:Addr}{fd:FuncData}(G:Fun K "turns_of" "turns_of" yz7 f fd)(z:mg "max"=none)(q:mg "min"=none)(j:mg "zip"=none):FnOk P w K mg base CX0 1 f fd ["numbers"] (spR K 1 yo2):=
 G.okD (k:=0) (m:=b_Z20) sc_Z20 fun cdv A outer s H E I=>(y8 (t5 (i:=1) sc_Z20.nd rfl (by first|exact Or.inl rfl|exact Or.inr rfl) w4) (y8 (g8 PassesOwn.never rfl (yf5 rfl j (z0 (z6 0 (pv 0)) (z0 (k7 (B0 (w8 0 (pv 0)) (Z4 w4) Y3)) (z0 (k7 (B0 (w8 0 (pv 0)) (Z4 w4) Y3)) y7)))) (W5 (is:=[2,3,4]) (P2 rfl (k6 (u0 (i:=2) sc_Z20.nd rfl (by first|exact Or.inl rfl|exact Or.inr rfl)) (k6 (u0 (i:=3) sc_Z20.nd rfl (by first|exact Or.inl rfl|exact Or.inr rfl)) (k6 (u0 (i:=4) sc_Z20.nd rfl (by first|exact Or.inl rfl|exact Or.inr rfl)) W4))))) (x9 (j3 (pc_w (S3 (k8 zp6 G1 (zu5 rfl rfl z (z0 (z6 2 (pv 2)) (z0 (z6 4 (pv 4)) y7))) (z6 3 (pv 3)) (o0 _)) (P1 (k8 zp6 G1 (z6 3 (pv 3)) (zi0 rfl rfl q (z0 (z6 2 (pv 2)) (z0 (z6 4 (pv 4)) y7))) (o0 _))))) (x9 (xu2 (i:=1) sc_Z20.nd rfl (by first|exact Or.inl rfl|exact Or.inr rfl) w4)) t4))) (x9 (U4 1 (pv 1)))))
abbrev yy2:Stmt:=top 14
abbrev wv8:List Str:=["numbers","step","left","right"]
theorem sc_Z14:FnScope wv8 ["numbers","step"] (y9 yy2):=⟨rfl,rfl,rfl,by decide +kernel,rfl,by decide +kernel,by decide +kernel⟩
theorem xe1 {P:Program}{w:World}{K:W.Frag}{mg:Str->Option Value}{base:Heap}{f:Addr}{fd:FuncData}{j:Addr}{q:FuncData}(O:Fun K "go_by_turns" "go_by_turns" yy2 f fd)(M:FnOk P w K mg base CX0 1 j q ["numbers"] (spR K 1 yo2))(b_Z20:Binds K q ["numbers"] [])(k_Z20:W.keepIn K (.ref j)=true)(L:mg "turns_of"=some (.ref j))(J:mg "abs"=none)(I:mg "len"=none)(G:mg "max"=none)(z:mg "zip"=none):FnOk P w K mg base CX0 2 f fd ["numbers","step"] (spR K 2 zo5):=
 O.okD (k:=1) (m:=b_Z14) sc_Z14 fun cdv A outer s H E N=>(y8 (g8 PassesOwn.never rfl (zd8 rfl z (z0 (z6 0 (pv 0)) (z0 (k7 (B0 (w8 0 (pv 0)) (Z4 w4) Y3)) y7))) (W5 (is:=[2,3]) (P2 rfl (k6 (u0 (i:=2) sc_Z14.nd rfl (by first|exact Or.inl rfl|exact Or.inr rfl)) (k6 (u0 (i:=3) sc_Z14.nd rfl (by first|exact Or.inl rfl|exact Or.inr rfl)) W4)))) (x9 (j3 (k8 zp6 G1 (xy2 rfl J (z0 (Y4 (z6 3 (pv 3)) (z6 2 (pv 2))) y7)) (z6 1 (pv 1)) (o0 _)) (x9 (u8 S2)) t4))) (x9 (u8 (S1 zy1 W7 (v5 (fun t ha=>w9 (M.mono (by decide)) N rfl L k_Z20 b_Z20 .nil m9 ha) rfl (z0 (z6 0 (pv 0)) y7) (z7 w5)) (zu5 rfl rfl G (z0 w4 (z0 (Y4 (u9 rfl I (w8 0 (pv 0))) w4) y7))) (o0 _)))))
abbrev zj6:Stmt:=top 15
abbrev xa0:List Str:=["row","step","places"]
theorem xm8:FnScope xa0 ["row","step","places"] (y9 zj6):=⟨rfl,rfl,rfl,by decide +kernel,rfl,by decide +kernel,by decide +kernel⟩
theorem zu9:List.Nodup (["place","row"]:List Str):=by decide +kernel
theorem xg9 {P:Program}{w:World}{K:W.Frag}{mg:Str->Option Value}{base:Heap}{f:Addr}{fd:FuncData}{j:Addr}{G:FuncData}{q:Addr}{I:FuncData}{z:Addr}{J:FuncData}(Fn:Fun K "are_wavy" "are_wavy" zj6 f fd)(S:FnOk P w K mg base CX0 1 j G ["row","places"] (spR K 2 zh1))(b_Z15:Binds K G ["row","places"] [])(k_Z15:W.keepIn K (.ref j)=true)(L:mg "are_places"=some (.ref j))(U:FnOk P w K mg base CX0 2 q I ["numbers","step"] (spR K 2 zo5))(b_Z14:Binds K I ["numbers","step"] [])(k_Z14:W.keepIn K (.ref q)=true)(M:mg "go_by_turns"=some (.ref q))(Y:FnOk P w K mg base CX0 1 z J ["step"] (spR K 1 Q7))(b_Z13:Binds K J ["step"] [])(k_Z13:W.keepIn K (.ref z)=true)(O:mg "refuse_step"=some (.ref z)):FnOk P w K mg base CX0 3 f fd ["row","step","places"] (spR K 3 yo0):=
 Fn.okD (k:=2) (m:=b_Z26) xm8 fun cdv A outer s H E Z=>(y8 (R6 (v5 (fun t ha=>w9 (Y.mono (by decide)) Z rfl O k_Z13 b_Z13 .nil m9 ha) rfl (z0 (z6 1 (pv 1)) y7) (z7 w5))) (x9 (u8 (G0 (v5 (fun t ha=>w9 (S.mono (by decide)) Z rfl L k_Z15 b_Z15 .nil m9 ha) rfl (z0 (z6 0 (pv 0)) (z0 (z6 2 (pv 2)) y7)) (z7 (z7 w5))) (zw0 (v5 (fun t ha=>w9 (U.mono (by decide)) Z rfl M k_Z14 b_Z14 .nil m9 ha) rfl (z0 (k7 (d8 (b9 (N:=["place","row"]) (src:=[none,some 0]) (y9 zj6) xa0 rfl rfl (by decide +kernel)) rfl (d6 (z6 2 (pv 2))) (fun C fp s0 H0=>(u6 (i:=0) (u0 zu9 rfl (by first|exact Or.inl rfl|exact Or.inr rfl)))) (fun C fp s0 H0=>i9) (fun C fp s0 H0=>(c7 (w8 1 (pv 1)) (z6 0 (pv 0)))))) (z0 (z6 1 (pv 1)) y7)) (z7 (z7 w5))))))))
abbrev zq4:Stmt:=top 19
abbrev xn2:List Str:=["row","step","ups","downs","place","later","rise"]
theorem sc_Z31:FnScope xn2 ["row","step"] (y9 zq4):=⟨rfl,rfl,rfl,by decide +kernel,rfl,by decide +kernel,by decide +kernel⟩
theorem yy8:List.Nodup (["place"]:List Str):=by decide +kernel
theorem yy7:List.Nodup (["place"]:List Str):=by decide +kernel
theorem xg4 {P:Program}{w:World}{K:W.Frag}{mg:Str->Option Value}{base:Heap}{f:Addr}{fd:FuncData}(I:Fun K "tails" "tails" zq4 f fd)(j:mg "len"=none)(q:mg "range"=none)(z:mg "reversed"=none):FnOk P w K mg base CX0 1 f fd ["row","step"] (spR K 2 yd2):=
 I.okD (k:=0) (m:=b_Z31) sc_Z31 fun cdv A outer s H E J=>(y8 (zd6 (zu0 (i:=2) sc_Z31.nd rfl (by first|exact Or.inl rfl|exact Or.inr rfl) (b9 (N:=["place"]) (src:=[none]) (y9 zq4) xn2 rfl rfl (by decide +kernel)) rfl (e9 rfl q (z0 (u9 rfl j (w8 0 (pv 0))) y7)) (fun C fp G H0=>(u6 (i:=0) (u0 yy8 rfl (by first|exact Or.inl rfl|exact Or.inr rfl)))) (fun C fp G H0=>i9) (fun C fp G H0=>(k7 (m8 (z0 (z6 0 (pv 0)) y7)))))) (y8 (zd6 (zu0 (i:=3) sc_Z31.nd rfl (by first|exact Or.inl rfl|exact Or.inr rfl) (b9 (N:=["place"]) (src:=[none]) (y9 zq4) xn2 rfl rfl (by decide +kernel)) rfl (e9 rfl q (z0 (u9 rfl j (w8 0 (pv 0))) y7)) (fun C fp G H0=>(u6 (i:=0) (u0 yy7 rfl (by first|exact Or.inl rfl|exact Or.inr rfl)))) (fun C fp G H0=>i9) (fun C fp G H0=>(k7 (m8 (z0 (z6 0 (pv 0)) y7)))))) (y8 (g8 PassesOwn.never rfl (ys9 rfl z rfl q (z0 (u9 rfl j (w8 0 (pv 0))) y7)) (u6 (i:=4) (u0 sc_Z31.nd rfl (by first|exact Or.inl rfl|exact Or.inr rfl))) (x9 (g8 PassesOwn.never rfl (W9 rfl q (z0 (j7 (z6 4 (pv 4)) w4) (z0 (u9 rfl j (w8 0 (pv 0))) y7))) (u6 (i:=5) (u0 sc_Z31.nd rfl (by first|exact Or.inl rfl|exact Or.inr rfl))) (y8 (t5 (i:=6) sc_Z31.nd rfl (by first|exact Or.inl rfl|exact Or.inr rfl) (Y4 (c7 (w8 0 (pv 0)) (z6 5 (pv 5))) (c7 (w8 0 (pv 0)) (z6 4 (pv 4))))) (y8 (j3 (pc_w (B3 (k8 K5 V0 (z6 6 (pv 6)) (z6 1 (pv 1)) (o0 _)) (C6 (k8 K5 V0 (u9 rfl j (E2 (c7 (w8 3 (pv 3)) (z6 5 (pv 5))))) (u9 rfl j (E2 (c7 (w8 2 (pv 2)) (z6 4 (pv 4))))) (o0 _))))) (x9 (N9 (i:=2) (zx8 (k7 (X4 (g7 (m8 (z0 (z6 4 (pv 4)) y7))) (E2 (c7 (w8 3 (pv 3)) (z6 5 (pv 5)))))) (zc0 (pv 2) (z6 4 (pv 4)) N6)))) t4) (x9 (j3 (pc_w (B3 (k8 K5 V0 (J9 (z6 6 (pv 6))) (z6 1 (pv 1)) (o0 _)) (C6 (k8 K5 V0 (u9 rfl j (E2 (c7 (w8 2 (pv 2)) (z6 5 (pv 5))))) (u9 rfl j (E2 (c7 (w8 3 (pv 3)) (z6 4 (pv 4))))) (o0 _))))) (x9 (N9 (i:=3) (zx8 (k7 (X4 (g7 (m8 (z0 (z6 4 (pv 4)) y7))) (E2 (c7 (w8 2 (pv 2)) (z6 5 (pv 5)))))) (zc0 (pv 3) (z6 4 (pv 4)) N6)))) t4))))))) (Y7 2 (Y7 3 (x9 (u8 (zx9 (z0 (z6 2 (pv 2)) (z0 (z6 3 (pv 3)) y7))))))))))
abbrev zq5:Stmt:=top 17
abbrev xa1:List Str:=["tails","laters"]
theorem xm9:FnScope xa1 ["tails","laters"] (y9 zq5):=⟨rfl,rfl,rfl,by decide +kernel,rfl,by decide +kernel,by decide +kernel⟩
theorem zt1:List.Nodup (["each","tails"]:List Str):=by decide +kernel
theorem zt0:List.Nodup (["later","tails"]:List Str):=by decide +kernel
theorem xf0 {P:Program}{w:World}{K:W.Frag}{mg:Str->Option Value}{base:Heap}{f:Addr}{fd:FuncData}(z:Fun K "added_up" "added_up" zq5 f fd)(j:mg "sum"=none):FnOk P w K mg base CX0 1 f fd ["tails","laters"] (spR K 2 zi9):=
 z.okD (k:=0) (m:=b_Z25) xm9 fun cdv A outer s H E G=>(x9 (E7 (d8 (b9 (N:=["each","tails"]) (src:=[none,some 0]) (y9 zq5) xa1 rfl rfl (by decide +kernel)) rfl (d6 (z6 1 (pv 1))) (fun C fp q H0=>(u6 (i:=0) (u0 zt1 rfl (by first|exact Or.inl rfl|exact Or.inr rfl)))) (fun C fp q H0=>i9) (fun C fp q H0=>(yr6 rfl rfl j (g7 (d8 (xo4 (N:=["later","tails"]) (src:=[none,some 1]) (y9 zq5) rfl (by decide +kernel)) rfl (d6 (z6 0 (pv 0))) (fun C fp q H0=>(u6 (i:=0) (u0 zt0 rfl (by first|exact Or.inl rfl|exact Or.inr rfl)))) (fun C fp q H0=>i9) (fun C fp q H0=>(c7 (w8 1 (pv 1)) (z6 0 (pv 0)))))) PyProof.Rows.boot_sum)))))
abbrev s_Z7:Stmt:=top 20
abbrev N_Z7:List Str:=["places"]
theorem wz3:FnScope N_Z7 ["places"] (y9 s_Z7):=⟨rfl,rfl,rfl,by decide +kernel,rfl,by decide +kernel,by decide +kernel⟩
theorem wy4 {P:Program}{w:World}{K:W.Frag}{mg:Str->Option Value}{base:Heap}{f:Addr}{fd:FuncData}(j:Fun K "longer_first" "longer_first" s_Z7 f fd)(i:mg "len"=none):FnOk P w K mg base CX0 1 f fd ["places"] (spR K 1 m_Z7):=
 j.okD (k:=0) (m:=b_Z7) wz3 fun cdv A outer s H E q=>(x9 (u8 (zx9 (z0 (J9 (u9 rfl i (w8 0 (pv 0)))) (z0 (z6 0 (pv 0)) y7)))))
abbrev yz0:Stmt:=top 21
abbrev ww5:List Str:=["row","step","ups","downs"]
theorem sc_Z30:FnScope ww5 ["row","step"] (y9 yz0):=⟨rfl,rfl,rfl,by decide +kernel,rfl,by decide +kernel,by decide +kernel⟩
theorem xg5 {P:Program}{w:World}{K:W.Frag}{mg:Str->Option Value}{base:Heap}{f:Addr}{fd:FuncData}{z:Addr}{J:FuncData}{q:Addr}{I:FuncData}{j:Addr}{G:FuncData}(Fn:Fun K "longest" "longest" yz0 f fd)(Y:FnOk P w K mg base CX0 1 z J ["places"] (spR K 1 m_Z7))(b_Z7:Binds K J ["places"] [])(k_Z7:W.keepIn K (.ref z)=true)(U:mg "longer_first"=some (.ref z))(S:FnOk P w K mg base CX0 1 q I ["step"] (spR K 1 Q7))(b_Z13:Binds K I ["step"] [])(k_Z13:W.keepIn K (.ref q)=true)(N:mg "refuse_step"=some (.ref q))(O:FnOk P w K mg base CX0 1 j G ["row","step"] (spR K 2 yd2))(b_Z31:Binds K G ["row","step"] [])(k_Z31:W.keepIn K (.ref j)=true)(M:mg "tails"=some (.ref j))(L:mg "min"=none):FnOk P w K mg base CX0 3 f fd ["row","step"] (spR K 2 yx3):=
 Fn.okD (k:=2) (m:=b_Z30) sc_Z30 fun cdv A outer s H E Z=>(y8 (R6 (v5 (fun t ha=>w9 (S.mono (by decide)) Z rfl N k_Z13 b_Z13 .nil m9 ha) rfl (z0 (z6 1 (pv 1)) y7) (z7 w5))) (y8 (ys2 (zx8 (v5 (fun t ha=>w9 (O.mono (by decide)) Z rfl M k_Z31 b_Z31 .nil m9 ha) rfl (z0 (z6 0 (pv 0)) (z0 (z6 1 (pv 1)) y7)) (z7 (z7 w5))) (W5 (is:=[2,3]) (P2 rfl (k6 (u0 (i:=2) sc_Z30.nd rfl (by first|exact Or.inl rfl|exact Or.inr rfl)) (k6 (u0 (i:=3) sc_Z30.nd rfl (by first|exact Or.inl rfl|exact Or.inr rfl)) W4)))))) (x9 (u8 (yr8 (zc7 (Y.mono (by decide)) Z.in1 b_Z7) rfl Z.units rfl L rfl U (E2 (j7 (z6 2 (pv 2)) (z6 3 (pv 3)))) (k7 (m8 y7)))))))
abbrev yz5:Stmt:=top 22
abbrev wv1:List Str:=["row","step"]
theorem xk0:FnScope wv1 ["row","step"] (y9 yz5):=⟨rfl,rfl,rfl,by decide +kernel,rfl,by decide +kernel,by decide +kernel⟩
theorem xf3 {P:Program}{w:World}{K:W.Frag}{mg:Str->Option Value}{base:Heap}{f:Addr}{fd:FuncData}{i:Addr}{j:FuncData}(J:Fun K "how_long" "how_long" yz5 f fd)(G:FnOk P w K mg base CX0 3 i j ["row","step"] (spR K 2 yx3))(b_Z30:Binds K j ["row","step"] [])(k_Z30:W.keepIn K (.ref i)=true)(z:mg "longest"=some (.ref i))(q:mg "len"=none):FnOk P w K mg base CX0 4 f fd ["row","step"] (spR K 2 yo1):=
 J.okD (k:=3) (m:=b_Z22) xk0 fun cdv A outer s H E I=>(x9 (u8 (u9 rfl q (E2 (v5 (fun t ha=>w9 (G.mono (by decide)) I rfl z k_Z30 b_Z30 .nil m9 ha) rfl (z0 (z6 0 (pv 0)) (z0 (z6 1 (pv 1)) y7)) (z7 (z7 w5)))))))
abbrev s_Z2:Stmt:=top 24
abbrev N_Z2:List Str:=["tails","laters"]
theorem wz4:FnScope N_Z2 ["tails","laters"] (y9 s_Z2):=⟨rfl,rfl,rfl,by decide +kernel,rfl,by decide +kernel,by decide +kernel⟩
theorem O2:List.Nodup (["later","tails"]:List Str):=by decide +kernel
theorem wy9 {P:Program}{w:World}{K:W.Frag}{mg:Str->Option Value}{base:Heap}{f:Addr}{fd:FuncData}(I:Fun K "longest_behind" "longest_behind" s_Z2 f fd)(q:mg "len"=none)(j:mg "max"=none):FnOk P w K mg base CX0 1 f fd ["tails","laters"] (spR K 2 m_Z2):=
 I.okD (k:=0) (m:=b_Z2) wz4 fun cdv A outer s H E G=>(x9 (u8 (yr9 rfl G.units rfl j rfl q (g7 (d8 (b9 (N:=["later","tails"]) (src:=[none,some 0]) (y9 s_Z2) N_Z2 rfl rfl (by decide +kernel)) rfl (d6 (z6 1 (pv 1))) (fun C fp z H0=>(u6 (i:=0) (u0 O2 rfl (by first|exact Or.inl rfl|exact Or.inr rfl)))) (fun C fp z H0=>i9) (fun C fp z H0=>(c7 (w8 1 (pv 1)) (z6 0 (pv 0)))))) (k7 (m8 y7)))))
abbrev zj8:Stmt:=top 26
abbrev xa2:List Str:=["row","step","places","numbers"]
theorem sc_Z16:FnScope xa2 ["row","step","places"] (y9 zj8):=⟨rfl,rfl,rfl,by decide +kernel,rfl,by decide +kernel,by decide +kernel⟩
theorem B6:List.Nodup (["place","row"]:List Str):=by decide +kernel
theorem xf9 {P:Program}{w:World}{K:W.Frag}{mg:Str->Option Value}{base:Heap}{f:Addr}{fd:FuncData}{j:Addr}{G:FuncData}{q:Addr}{I:FuncData}{z:Addr}{J:FuncData}(Fn:Fun K "wavy_round" "wavy_round" zj8 f fd)(S:FnOk P w K mg base CX0 1 j G ["row","places"] (spR K 2 zh1))(b_Z15:Binds K G ["row","places"] [])(k_Z15:W.keepIn K (.ref j)=true)(L:mg "are_places"=some (.ref j))(U:FnOk P w K mg base CX0 2 q I ["numbers","step"] (spR K 2 zo5))(b_Z14:Binds K I ["numbers","step"] [])(k_Z14:W.keepIn K (.ref q)=true)(M:mg "go_by_turns"=some (.ref q))(Y:FnOk P w K mg base CX0 1 z J ["step"] (spR K 1 Q7))(b_Z13:Binds K J ["step"] [])(k_Z13:W.keepIn K (.ref z)=true)(O:mg "refuse_step"=some (.ref z)):FnOk P w K mg base CX0 3 f fd ["row","step","places"] (spR K 3 zo4):=
 Fn.okD (k:=2) (m:=b_Z16) sc_Z16 fun cdv A outer s H E Z=>(y8 (R6 (v5 (fun t ha=>w9 (Y.mono (by decide)) Z rfl O k_Z13 b_Z13 .nil m9 ha) rfl (z0 (z6 1 (pv 1)) y7) (z7 w5))) (y8 (j3 (S4 (Y5 (v5 (fun t ha=>w9 (S.mono (by decide)) Z rfl L k_Z15 b_Z15 .nil m9 ha) rfl (z0 (z6 0 (pv 0)) (z0 (z6 2 (pv 2)) y7)) (z7 (z7 w5))))) (x9 (u8 S2)) t4) (y8 (zp1 (zu0 (i:=3) sc_Z16.nd rfl (by first|exact Or.inl rfl|exact Or.inr rfl) (b9 (N:=["place","row"]) (src:=[none,some 0]) (y9 zj8) xa2 rfl rfl (by decide +kernel)) rfl (d6 (z6 2 (pv 2))) (fun C fp s0 H0=>(u6 (i:=0) (u0 B6 rfl (by first|exact Or.inl rfl|exact Or.inr rfl)))) (fun C fp s0 H0=>i9) (fun C fp s0 H0=>(c7 (w8 1 (pv 1)) (z6 0 (pv 0)))))) (x9 (u8 (v5 (fun t ha=>w9 (U.mono (by decide)) Z rfl M k_Z14 b_Z14 .nil m9 ha) rfl (z0 (k7 (X4 (w8 3 (pv 3)) (g7 (B0 (w8 3 (pv 3)) Y3 (Z4 w4))))) (z0 (z6 1 (pv 1)) y7)) (z7 (z7 w5))))))))
abbrev yz9:Stmt:=top 27
abbrev wv5:List Str:=["row","step","above","below"]
theorem sc_Z18:FnScope wv5 ["row","step"] (y9 yz9):=⟨rfl,rfl,rfl,by decide +kernel,rfl,by decide +kernel,by decide +kernel⟩
theorem xf7 {P:Program}{w:World}{K:W.Frag}{mg:Str->Option Value}{base:Heap}{f:Addr}{fd:FuncData}{j:Addr}{q:FuncData}(J:Fun K "both_ways" "both_ways" yz9 f fd)(G:FnOk P w K mg base CX0 1 j q ["row","step"] (spR K 2 m_Z9))(b_Z9:Binds K q ["row","step"] [])(k_Z9:W.keepIn K (.ref j)=true)(z:mg "later_steps"=some (.ref j)):FnOk P w K mg base CX0 2 f fd ["row","step"] (spR K 2 B9):=
 J.okD (k:=1) (m:=b_Z18) sc_Z18 fun cdv A outer s H E I=>(y8 (ys2 (zx8 (v5 (fun t ha=>w9 (G.mono (by decide)) I rfl z k_Z9 b_Z9 .nil m9 ha) rfl (z0 (z6 0 (pv 0)) (z0 (z6 1 (pv 1)) y7)) (z7 (z7 w5))) (W5 (is:=[2,3]) (P2 rfl (k6 (u0 (i:=2) sc_Z18.nd rfl (by first|exact Or.inl rfl|exact Or.inr rfl)) (k6 (u0 (i:=3) sc_Z18.nd rfl (by first|exact Or.inl rfl|exact Or.inr rfl)) W4)))))) (x9 (u8 (zx9 (z0 (zx9 (z0 (z6 2 (pv 2)) (z0 (z6 3 (pv 3)) y7))) (z0 (zx9 (z0 (z6 3 (pv 3)) (z0 (z6 2 (pv 2)) y7))) y7))))))
abbrev s_Z3:Stmt:=top 28
abbrev N_Z3:List Str:=["first","nexts","backs","lasts","gone","back","place","behind"]
theorem sc_Z3:FnScope N_Z3 ["first","nexts","backs"] (y9 s_Z3):=⟨rfl,rfl,rfl,by decide +kernel,rfl,by decide +kernel,by decide +kernel⟩
theorem wy8 {P:Program}{w:World}{K:W.Frag}{mg:Str->Option Value}{base:Heap}{f:Addr}{fd:FuncData}{G:Addr}{L:FuncData}(N:Fun K "longest_begun" "longest_begun" s_Z3 f fd)(J:FnOk P w K mg base CX0 1 G L ["tails","laters"] (spR K 2 m_Z2))(b_Z2:Binds K L ["tails","laters"] [])(k_Z2:W.keepIn K (.ref G)=true)(I:mg "longest_behind"=some (.ref G))(q:mg "len"=none)(z:mg "range"=none)(j:mg "reversed"=none):FnOk P w K mg base CX0 2 f fd ["first","nexts","backs"] (spR K 3 m_Z3):=
 N.okD (k:=1) (m:=b_Z3) sc_Z3 fun cdv A outer s H E M=>(y8 (t5 (i:=3) sc_Z3.nd rfl (by first|exact Or.inl rfl|exact Or.inr rfl) (c7 (w8 1 (pv 1)) (z6 0 (pv 0)))) (y8 (Y2 (i:=4) sc_Z3.nd rfl (by first|exact Or.inl rfl|exact Or.inr rfl) (yr3 (m8 (z0 (k7 (m8 y7)) y7)) (u9 rfl q (w8 1 (pv 1))))) (y8 (Y2 (i:=5) sc_Z3.nd rfl (by first|exact Or.inl rfl|exact Or.inr rfl) (yr3 (m8 (z0 (k7 (m8 y7)) y7)) (u9 rfl q (w8 1 (pv 1))))) (y8 (g8 PassesOwn.never rfl (ys8 rfl j rfl z (z0 (j7 (z6 0 (pv 0)) w4) (z0 (u9 rfl q (w8 1 (pv 1))) y7))) (u6 (i:=6) (u0 sc_Z3.nd rfl (by first|exact Or.inl rfl|exact Or.inr rfl))) (y8 (t5 (i:=7) sc_Z3.nd rfl (by first|exact Or.inl rfl|exact Or.inr rfl) (yq0 5 (v5 (fun t ha=>w9 (J.mono (by decide)) M rfl I k_Z2 b_Z2 .nil m9 ha) rfl (z0 (z6 5 (pv 5)) (z0 (c7 (w8 2 (pv 2)) (z6 6 (pv 6))) y7)) (z7 (z7 w5))))) (y8 (j3 (pc_w (S3 (Y5 (z6 7 (pv 7))) (P1 (k8 zp7 xy3 (z6 6 (pv 6)) (z6 3 (pv 3)) rfl)))) (x9 (N9 (i:=4) (zx8 (k7 (X4 (g7 (m8 (z0 (z6 6 (pv 6)) y7))) (w8 7 (pv 7)))) (zc0 (pv 4) (z6 6 (pv 6)) N6)))) t4) (y8 (t5 (i:=7) sc_Z3.nd rfl (by first|exact Or.inl rfl|exact Or.inr rfl) (yq0 4 (v5 (fun t ha=>w9 (J.mono (by decide)) M rfl I k_Z2 b_Z2 .nil m9 ha) rfl (z0 (z6 4 (pv 4)) (z0 (c7 (w8 1 (pv 1)) (z6 6 (pv 6))) y7)) (z7 (z7 w5))))) (x9 (j3 (Y5 (z6 7 (pv 7))) (x9 (N9 (i:=5) (zx8 (k7 (X4 (g7 (m8 (z0 (z6 6 (pv 6)) y7))) (w8 7 (pv 7)))) (zc0 (pv 5) (z6 6 (pv 6)) N6)))) t4)))))) (Y7 4 (y8 (t5 (i:=7) sc_Z3.nd rfl (by first|exact Or.inl rfl|exact Or.inr rfl) (v5 (fun t ha=>w9 (J.mono (by decide)) M rfl I k_Z2 b_Z2 .nil m9 ha) rfl (z0 (z6 4 (pv 4)) (z0 (z6 3 (pv 3)) y7)) (z7 (z7 w5)))) (x9 (u8 (xy0 (Y5 (z6 7 (pv 7))) (k7 (X4 (g7 (m8 (z0 (z6 0 (pv 0)) y7))) (w8 7 (pv 7)))) (k7 (m8 y7)))))))))))
abbrev s_Z4:Stmt:=top 29
abbrev N_Z4:List Str:=["row","step","lists"]
theorem sc_Z4:FnScope N_Z4 ["row","step"] (y9 s_Z4):=⟨rfl,rfl,rfl,by decide +kernel,rfl,by decide +kernel,by decide +kernel⟩
theorem Y6:List.Nodup (["nexts","backs","first","row"]:List Str):=by decide +kernel
theorem wy7 {P:Program}{w:World}{K:W.Frag}{mg:Str->Option Value}{base:Heap}{f:Addr}{fd:FuncData}{j:Addr}{J:FuncData}{G:Addr}{M:FuncData}{I:Addr}{O:FuncData}{q:Addr}{L:FuncData}(Fn:Fun K "longest_round" "longest_round" s_Z4 f fd)(a0:FnOk P w K mg base CX0 2 j J ["row","step"] (spR K 2 B9))(b_Z18:Binds K J ["row","step"] [])(k_Z18:W.keepIn K (.ref j)=true)(Y:mg "both_ways"=some (.ref j))(a4:FnOk P w K mg base CX0 1 G M ["places"] (spR K 1 m_Z7))(b_Z7:Binds K M ["places"] [])(k_Z7:W.keepIn K (.ref G)=true)(a2:mg "longer_first"=some (.ref G))(a5:FnOk P w K mg base CX0 2 I O ["first","nexts","backs"] (spR K 3 m_Z3))(b_Z3:Binds K O ["first","nexts","backs"] [])(k_Z3:W.keepIn K (.ref I)=true)(a3:mg "longest_begun"=some (.ref I))(a1:FnOk P w K mg base CX0 1 q L ["step"] (spR K 1 Q7))(b_Z13:Binds K L ["step"] [])(k_Z13:W.keepIn K (.ref q)=true)(Z:mg "refuse_step"=some (.ref q))(U:mg "len"=none)(S:mg "min"=none)(z:mg "range"=none):FnOk P w K mg base CX0 3 f fd ["row","step"] (spR K 2 m_Z4):=
 Fn.okD (k:=2) (m:=b_Z4) sc_Z4 fun cdv A outer s H E hr=>(y8 (R6 (v5 (fun t ha=>w9 (a1.mono (by decide)) hr rfl Z k_Z13 b_Z13 .nil m9 ha) rfl (z0 (z6 1 (pv 1)) y7) (z7 w5))) (y8 (yy6 (yg1 (by decide)) (yf4 (i:=2) sc_Z4.nd rfl (by first|exact Or.inl rfl|exact Or.inr rfl) (b9 (N:=["nexts","backs","first","row"]) (src:=[none,none,none,some 0]) (y9 s_Z4) N_Z4 rfl rfl (by decide +kernel)) rfl (ys7 (v5 (fun t ha=>w9 (a0.mono (by decide)) hr rfl Y k_Z18 b_Z18 .nil m9 ha) rfl (z0 (z6 0 (pv 0)) (z0 (z6 1 (pv 1)) y7)) (z7 (z7 w5)))) (fun C fp s0 H0=>(W5 (is:=[0,1]) (P2 rfl (k6 (u0 (i:=0) Y6 rfl (by first|exact Or.inl rfl|exact Or.inr rfl)) (k6 (u0 (i:=1) Y6 rfl (by first|exact Or.inl rfl|exact Or.inr rfl)) W4))))) (fun C fp s0 H0=>(e9 rfl z (z0 (u9 rfl U (w8 3 (pv 3))) y7))) (fun C fp s0 H0=>(u6 (i:=2) (u0 Y6 rfl (by first|exact Or.inl rfl|exact Or.inr rfl)))) (fun C fp s0 H0=>(v5 (fun t ha=>w9 (a5.mono (by decide)) hr rfl a3 k_Z3 b_Z3 .nil m9 ha) rfl (z0 (z6 2 (pv 2)) (z0 (z6 0 (pv 0)) (z0 (z6 1 (pv 1)) y7))) (z7 (z7 (z7 w5))))))) (x9 (u8 (yr8 (zc7 (a4.mono (by decide)) hr.in1 b_Z7) rfl hr.units rfl S rfl a2 (w8 2 (pv 2)) (k7 (m8 y7)))))))
abbrev s_Z5:Stmt:=top 30
abbrev N_Z5:List Str:=["first","nexts","backs","lasts","gone","told"]
theorem sc_Z5:FnScope N_Z5 ["first","nexts","backs"] (y9 s_Z5):=⟨rfl,rfl,rfl,by decide +kernel,rfl,by decide +kernel,by decide +kernel⟩
theorem K6:List.Nodup (["place","lasts"]:List Str):=by decide +kernel
theorem V3:List.Nodup (["place","gone"]:List Str):=by decide +kernel
theorem wy6 {P:Program}{w:World}{K:W.Frag}{mg:Str->Option Value}{base:Heap}{f:Addr}{fd:FuncData}{j:Addr}{G:FuncData}(U:Fun K "counts_begun" "counts_begun" s_Z5 f fd)(J:FnOk P w K mg base CX0 1 j G ["tails","laters"] (spR K 2 zi9))(b_Z25:Binds K G ["tails","laters"] [])(k_Z25:W.keepIn K (.ref j)=true)(I:mg "added_up"=some (.ref j))(O:mg "any"=none)(M:mg "len"=none)(z:mg "range"=none)(q:mg "sum"=none):FnOk P w K mg base CX0 2 f fd ["first","nexts","backs"] (spR K 3 m_Z5):=
 U.okD (k:=1) (m:=b_Z5) sc_Z5 fun cdv A outer s H E S=>(y8 (t5 (i:=3) sc_Z5.nd rfl (by first|exact Or.inl rfl|exact Or.inr rfl) (c7 (w8 1 (pv 1)) (z6 0 (pv 0)))) (y8 (t5 (i:=4) sc_Z5.nd rfl (by first|exact Or.inl rfl|exact Or.inr rfl) (k7 (d8 (b9 (N:=["place","lasts"]) (src:=[none,some 3]) (y9 s_Z5) N_Z5 rfl rfl (by decide +kernel)) rfl (e9 rfl z (z0 (u9 rfl M (w8 1 (pv 1))) y7)) (fun C fp L H0=>(u6 (i:=0) (u0 K6 rfl (by first|exact Or.inl rfl|exact Or.inr rfl)))) (fun C fp L H0=>i9) (fun C fp L H0=>(xy0 (k8 zp7 xy3 (z6 0 (pv 0)) (z6 1 (pv 1)) rfl) w4 w4))))) (y8 (Y2 (i:=5) sc_Z5.nd rfl (by first|exact Or.inl rfl|exact Or.inr rfl) (m8 y7)) (y8 (zp0 1000 PassesOwn.never (Y5 (xh4 rfl rfl O (w8 4 (pv 4)) PyProof.Rows.boot_any)) (y8 (c6 (i:=5) (pv 5) (yr6 rfl rfl q (g7 (d8 (b9 (N:=["place","gone"]) (src:=[none,some 4]) (y9 s_Z5) N_Z5 rfl rfl (by decide +kernel)) rfl (d6 (z6 3 (pv 3))) (fun C fp L H0=>(u6 (i:=0) (u0 V3 rfl (by first|exact Or.inl rfl|exact Or.inr rfl)))) (fun C fp L H0=>i9) (fun C fp L H0=>(c7 (w8 1 (pv 1)) (z6 0 (pv 0)))))) PyProof.Rows.boot_sum) (fun t ha=>zu3 PySem.F.plainAttrs_list PySem.F.slot_list_append PySem.F.type_list_append d9 (pv 5) ha) (z0 (yr6 rfl rfl q (g7 (d8 (b9 (N:=["place","gone"]) (src:=[none,some 4]) (y9 s_Z5) N_Z5 rfl rfl (by decide +kernel)) rfl (d6 (z6 3 (pv 3))) (fun C fp L H0=>(u6 (i:=0) (u0 V3 rfl (by first|exact Or.inl rfl|exact Or.inr rfl)))) (fun C fp L H0=>i9) (fun C fp L H0=>(c7 (w8 1 (pv 1)) (z6 0 (pv 0)))))) PyProof.Rows.boot_sum) y7)) (x9 (t5 (i:=4) sc_Z5.nd rfl (by first|exact Or.inl rfl|exact Or.inr rfl) (v5 (fun t ha=>w9 (J.mono (by decide)) S rfl I k_Z25 b_Z25 .nil m9 ha) rfl (z0 (v5 (fun t ha=>w9 (J.mono (by decide)) S rfl I k_Z25 b_Z25 .nil m9 ha) rfl (z0 (z6 4 (pv 4)) (z0 (z6 1 (pv 1)) y7)) (z7 (z7 w5))) (z0 (z6 2 (pv 2)) y7)) (z7 (z7 w5))))))) (x9 (U4 5 (pv 5)))))))
abbrev s_Z6:Stmt:=top 31
abbrev N_Z6:List Str:=["row","step","told","nexts","backs","first","half","many"]
theorem sc_Z6:FnScope N_Z6 ["row","step"] (y9 s_Z6):=⟨rfl,rfl,rfl,by decide +kernel,rfl,by decide +kernel,by decide +kernel⟩
theorem wy5 {P:Program}{w:World}{K:W.Frag}{mg:Str->Option Value}{base:Heap}{f:Addr}{fd:FuncData}{q:Addr}{L:FuncData}{J:Addr}{N:FuncData}{z:Addr}{M:FuncData}(Fn:Fun K "counts_round" "counts_round" s_Z6 f fd)(U:FnOk P w K mg base CX0 2 q L ["row","step"] (spR K 2 B9))(b_Z18:Binds K L ["row","step"] [])(k_Z18:W.keepIn K (.ref q)=true)(O:mg "both_ways"=some (.ref q))(a0:FnOk P w K mg base CX0 2 J N ["first","nexts","backs"] (spR K 3 m_Z5))(b_Z5:Binds K N ["first","nexts","backs"] [])(k_Z5:W.keepIn K (.ref J)=true)(Z:mg "counts_begun"=some (.ref J))(Y:FnOk P w K mg base CX0 1 z M ["step"] (spR K 1 Q7))(b_Z13:Binds K M ["step"] [])(k_Z13:W.keepIn K (.ref z)=true)(S:mg "refuse_step"=some (.ref z))(j:mg "enumerate"=none)(I:mg "len"=none)(G:mg "range"=none):FnOk P w K mg base CX0 3 f fd ["row","step"] (spR K 2 m_Z6):=
 Fn.okD (k:=2) (m:=b_Z6) sc_Z6 fun cdv A outer s H E hr=>(y8 (R6 (v5 (fun t ha=>w9 (Y.mono (by decide)) hr rfl S k_Z13 b_Z13 .nil m9 ha) rfl (z0 (z6 1 (pv 1)) y7) (z7 w5))) (y8 (Y2 (i:=2) sc_Z6.nd rfl (by first|exact Or.inl rfl|exact Or.inr rfl) (X4 (g7 (m8 (z0 w4 y7))) (g7 (yr3 (m8 (z0 w4 y7)) (u9 rfl I (w8 0 (pv 0))))))) (y8 (g8 PassesOwn.never rfl (ys7 (v5 (fun t ha=>w9 (U.mono (by decide)) hr rfl O k_Z18 b_Z18 .nil m9 ha) rfl (z0 (z6 0 (pv 0)) (z0 (z6 1 (pv 1)) y7)) (z7 (z7 w5)))) (W5 (is:=[3,4]) (P2 rfl (k6 (u0 (i:=3) sc_Z6.nd rfl (by first|exact Or.inl rfl|exact Or.inr rfl)) (k6 (u0 (i:=4) sc_Z6.nd rfl (by first|exact Or.inl rfl|exact Or.inr rfl)) W4)))) (x9 (g8 PassesOwn.never rfl (e9 rfl G (z0 (u9 rfl I (w8 0 (pv 0))) y7)) (u6 (i:=5) (u0 sc_Z6.nd rfl (by first|exact Or.inl rfl|exact Or.inr rfl))) (x9 (g8 PassesOwn.never rfl (xu6 rfl j (v5 (fun t ha=>w9 (a0.mono (by decide)) hr rfl Z k_Z5 b_Z5 .nil m9 ha) rfl (z0 (z6 5 (pv 5)) (z0 (z6 3 (pv 3)) (z0 (z6 4 (pv 4)) y7))) (z7 (z7 (z7 w5))))) (W5 (is:=[6,7]) (P2 rfl (k6 (u0 (i:=6) sc_Z6.nd rfl (by first|exact Or.inl rfl|exact Or.inr rfl)) (k6 (u0 (i:=7) sc_Z6.nd rfl (by first|exact Or.inl rfl|exact Or.inr rfl)) W4)))) (x9 (ys1 (i:=2) (pv 2) (z6 6 (pv 6)) (z6 7 (pv 7))))))))) (y8 (zp0 1000 PassesOwn.never (k8 zy1 W7 (c7 (w8 2 (pv 2)) (J9 w4)) w4 (o0 _)) (x9 (yf2 (i:=2) (pv 2) (xh0 PySem.F.plainAttrs_list PySem.F.slot_list_pop PySem.F.type_list_pop xe7 (pv 2))))) (x9 (U4 2 (pv 2)))))))
abbrev zj7:Stmt:=top 32
abbrev ww9:List Str:=["row","place"]
theorem xz4:FnScope ww9 ["row","place"] (y9 zj7):=⟨rfl,rfl,rfl,by decide +kernel,rfl,by decide +kernel,by decide +kernel⟩
theorem xf1 {P:Program}{w:World}{K:W.Frag}{mg:Str->Option Value}{base:Heap}{f:Addr}{fd:FuncData}(G:Fun K "begun_at" "begun_at" zj7 f fd){i:Addr}(z:mg "NoPlace"=some (.ref i))(j:XC K "NoPlace" i)(q_NoPlace:W.excIn K i bmV "ValueError.__new__"=true)(q:mg "len"=none):FnOk P w K mg base CX0 1 f fd ["row","place"] (spR K 2 M0):=
 G.okD (k:=0) (m:=b_Z24) xz4 fun cdv A outer s H E I=>(y8 (j3 (pc_w (S3 (k8 zp6 G1 (z6 1 (pv 1)) w4 (o0 _)) (P1 (k8 K5 V0 (z6 1 (pv 1)) (u9 rfl q (w8 0 (pv 0))) (o0 _))))) (x9 C7) t4) (x9 (E7 (X4 (g7 (B0 (w8 0 (pv 0)) (Z4 (z6 1 (pv 1))) Y3)) (g7 (B0 (w8 0 (pv 0)) Y3 (Z4 (z6 1 (pv 1)))))))))
theorem xs8 {P:Program}{w:World}{K:W.Frag}{mg:Str->Option Value}{base:Heap}{f:Addr}{fd:FuncData}(G:Fun K "begun_at" "begun_at" zj7 f fd){i:Addr}(q:mg "NoPlace"=some (.ref i))(j:XC K "NoPlace" i)(q_NoPlace:W.excIn K i bmV "ValueError.__new__"=true)(z:mg "len"=none):FnOk P w K mg base (CXx P w) 1 f fd ["row","place"] (spX K 2 zr6):=
 G.okX (k:=0) (m:=yj6) xz4 fun cdv A outer s H E I=>(yt9 (xj8 rfl (pc_w (S3 (k8 zp6 G1 (z6 1 (pv 1)) w4 (o0 _)) (P1 (k8 K5 V0 (z6 1 (pv 1)) (u9 rfl z (w8 0 (pv 0))) (o0 _))))) (zd4 (yt8 rfl ⟨rfl,rfl,rfl⟩ rfl rfl q j q_NoPlace (z0 xh2 y7) (z7 w5) (by decide))) zq9))
abbrev yz6:Stmt:=top 34
abbrev wv2:List Str:=["cell","k","number"]
theorem sc_Z21:FnScope wv2 ["cell","k"] (y9 yz6):=⟨rfl,rfl,rfl,by decide +kernel,rfl,by decide +kernel,by decide +kernel⟩
theorem xf4 {P:Program}{w:World}{K:W.Frag}{mg:Str->Option Value}{base:Heap}{f:Addr}{fd:FuncData}(j:Fun K "_law_stir" "_law_stir" yz6 f fd):FnOk P w K mg base CX0 1 f fd ["cell","k"] (spR K 2 Z7):=
 j.okD (k:=0) (m:=b_Z21) sc_Z21 fun cdv A outer s H E q=>(y8 (j3 (k8 K5 V0 (z6 0 (pv 0)) (P3 w4 w4) (o0 _)) (x9 (u8 (i6 (zc1 (Y4 (z6 0 (pv 0)) (P3 w4 w4)) (P4 w4 (z6 1 (pv 1)))) (P3 w4 w4)))) t4) (y8 (t5 (i:=2) sc_Z21.nd rfl (by first|exact Or.inl rfl|exact Or.inr rfl) (i6 (P4 (j7 (j7 (z6 0 (pv 0)) (P4 w4 (z6 1 (pv 1)))) w4) w4) w4)) (y8 (t5 (i:=2) sc_Z21.nd rfl (by first|exact Or.inl rfl|exact Or.inr rfl) (i6 (P4 (z6 2 (pv 2)) (z6 2 (pv 2))) w4)) (x9 (u8 (W6 (i6 (P4 (z6 2 (pv 2)) w4) w4) w4))))))
abbrev yy0:Stmt:=top 35
abbrev wv6:List Str:=["script","many"]
theorem xk1:FnScope wv6 ["script","many"] (y9 yy0):=⟨rfl,rfl,rfl,by decide +kernel,rfl,by decide +kernel,by decide +kernel⟩
theorem xf8 {P:Program}{w:World}{K:W.Frag}{mg:Str->Option Value}{base:Heap}{f:Addr}{fd:FuncData}(z:Fun K "_law_cells" "_law_cells" yy0 f fd)(q:mg "len"=none)(j:mg "max"=none)(i:mg "min"=none):FnOk P w K mg base CX0 1 f fd ["script","many"] (spR K 2 yo4):=
 z.okD (k:=0) (m:=b_Z17) xk1 fun cdv A outer s H E G=>(x9 (E7 (B0 (g7 (X4 (g7 (B0 (w8 0 (pv 0)) Y3 (Z4 (z6 1 (pv 1))))) (g7 (m8 (z0 w4 y7))))) Y3 (Z4 (zu5 rfl rfl j (z0 w4 (z0 (zi0 rfl rfl i (z0 (z6 1 (pv 1)) (z0 (u9 rfl q (w8 0 (pv 0))) y7))) y7)))))))
abbrev yz1:Stmt:=top 36
abbrev ww6:List Str:=["cell","most","size","kind","wide","block","found","last","k","one","some"]
theorem sc_Z29:FnScope ww6 ["cell","most"] (y9 yz1):=⟨rfl,rfl,rfl,by decide +kernel,rfl,by decide +kernel,by decide +kernel⟩
theorem xg6 {P:Program}{w:World}{K:W.Frag}{mg:Str->Option Value}{base:Heap}{f:Addr}{fd:FuncData}{z:Addr}{I:FuncData}(M:Fun K "_law_row" "_law_row" yz1 f fd)(q:FnOk P w K mg base CX0 1 z I ["cell","k"] (spR K 2 Z7))(b_Z21:Binds K I ["cell","k"] [])(k_Z21:W.keepIn K (.ref z)=true)(j:mg "_law_stir"=some (.ref z))(J:mg "min"=none)(G:mg "range"=none):FnOk P w K mg base CX0 2 f fd ["cell","most"] (spR K 2 zi8):=
 M.okD (k:=1) (m:=b_Z29) sc_Z29 fun cdv A outer s H E L=>(y8 (t5 (i:=2) sc_Z29.nd rfl (by first|exact Or.inl rfl|exact Or.inr rfl) (i6 (v5 (fun t ha=>w9 (q.mono (by decide)) L rfl j k_Z21 b_Z21 .nil m9 ha) rfl (z0 (z6 0 (pv 0)) (z0 w4 y7)) (z7 (z7 w5))) (c7 (g7 (m8 (z0 w4 (z0 w4 (z0 w4 (z0 (j7 (z6 1 (pv 1)) w4) y7)))))) (i6 (v5 (fun t ha=>w9 (q.mono (by decide)) L rfl j k_Z21 b_Z21 .nil m9 ha) rfl (z0 (z6 0 (pv 0)) (z0 w4 y7)) (z7 (z7 w5))) w4)))) (y8 (t5 (i:=3) sc_Z29.nd rfl (by first|exact Or.inl rfl|exact Or.inr rfl) (i6 (v5 (fun t ha=>w9 (q.mono (by decide)) L rfl j k_Z21 b_Z21 .nil m9 ha) rfl (z0 (z6 0 (pv 0)) (z0 w4 y7)) (z7 (z7 w5))) w4)) (y8 (t5 (i:=4) sc_Z29.nd rfl (by first|exact Or.inl rfl|exact Or.inr rfl) (c7 (g7 (m8 (z0 w4 (z0 w4 (z0 w4 (z0 (P3 w4 w4) y7)))))) (i6 (v5 (fun t ha=>w9 (q.mono (by decide)) L rfl j k_Z21 b_Z21 .nil m9 ha) rfl (z0 (z6 0 (pv 0)) (z0 w4 y7)) (z7 (z7 w5))) w4))) (y8 (t5 (i:=5) sc_Z29.nd rfl (by first|exact Or.inl rfl|exact Or.inr rfl) (j7 w4 (i6 (v5 (fun t ha=>w9 (q.mono (by decide)) L rfl j k_Z21 b_Z21 .nil m9 ha) rfl (z0 (z6 0 (pv 0)) (z0 w4 y7)) (z7 (z7 w5))) w4))) (y8 (Y2 (i:=6) sc_Z29.nd rfl (by first|exact Or.inl rfl|exact Or.inr rfl) (m8 y7)) (y8 (t5 (i:=7) sc_Z29.nd rfl (by first|exact Or.inl rfl|exact Or.inr rfl) w4) (y8 (g8 PassesOwn.never rfl (e9 rfl G (z0 (zi0 rfl rfl J (z0 (z6 2 (pv 2)) (z0 (z6 1 (pv 1)) y7))) y7)) (u6 (i:=8) (u0 sc_Z29.nd rfl (by first|exact Or.inl rfl|exact Or.inr rfl))) (y8 (t5 (i:=9) sc_Z29.nd rfl (by first|exact Or.inl rfl|exact Or.inr rfl) (i6 (v5 (fun t ha=>w9 (q.mono (by decide)) L rfl j k_Z21 b_Z21 .nil m9 ha) rfl (z0 (z6 0 (pv 0)) (z0 (j7 w4 (z6 8 (pv 8))) y7)) (z7 (z7 w5))) (z6 4 (pv 4)))) (y8 (t5 (i:=7) sc_Z29.nd rfl (by first|exact Or.inl rfl|exact Or.inr rfl) (Y4 (j7 (z6 7 (pv 7)) (z6 9 (pv 9))) (W6 (z6 4 (pv 4)) w4))) (y8 (t5 (i:=10) sc_Z29.nd rfl (by first|exact Or.inl rfl|exact Or.inr rfl) (k7 (m8 (z0 (Y4 (z6 9 (pv 9)) (W6 (z6 4 (pv 4)) w4)) (z0 (j7 (z6 8 (pv 8)) (W6 (z6 9 (pv 9)) w4)) (z0 (Y4 (Y4 w4 (z6 8 (pv 8))) (W6 (z6 9 (pv 9)) w4)) (z0 (c7 (g7 (m8 (z0 (z6 9 (pv 9)) (z0 (Y4 w4 (z6 9 (pv 9))) y7)))) (i6 (z6 8 (pv 8)) w4)) y7))))))) (y8 (t5 (i:=10) sc_Z29.nd rfl (by first|exact Or.inl rfl|exact Or.inr rfl) (k7 (X4 (w8 10 (pv 10)) (g7 (m8 (z0 (j7 (z6 9 (pv 9)) (P4 (i6 (W6 (z6 8 (pv 8)) (z6 5 (pv 5))) w4) (z6 4 (pv 4)))) (z0 (z6 4 (pv 4)) (z0 (j7 (P4 (Y4 (z6 9 (pv 9)) (W6 (z6 4 (pv 4)) w4)) (P3 w4 w4)) (i6 (v5 (fun t ha=>w9 (q.mono (by decide)) L rfl j k_Z21 b_Z21 .nil m9 ha) rfl (z0 (z6 0 (pv 0)) (z0 (j7 w4 (z6 8 (pv 8))) y7)) (z7 (z7 w5))) w4)) y7)))))))) (x9 (c6 (i:=6) (pv 6) (c7 (g7 (X4 (w8 10 (pv 10)) (g7 (m8 (z0 (z6 7 (pv 7)) y7))))) (z6 3 (pv 3))) (fun t ha=>zu3 PySem.F.plainAttrs_list PySem.F.slot_list_append PySem.F.type_list_append d9 (pv 6) ha) (z0 (c7 (g7 (X4 (w8 10 (pv 10)) (g7 (m8 (z0 (z6 7 (pv 7)) y7))))) (z6 3 (pv 3))) y7)))))))) (x9 (U4 6 (pv 6))))))))))
abbrev yz3:Stmt:=top 37
abbrev ww8:List Str:=["cell","some"]
theorem sc_Z27:FnScope ww8 ["cell"] (y9 yz3):=⟨rfl,rfl,rfl,by decide +kernel,rfl,by decide +kernel,by decide +kernel⟩
theorem xg8 {P:Program}{w:World}{K:W.Frag}{mg:Str->Option Value}{base:Heap}{f:Addr}{fd:FuncData}{z:Addr}{G:FuncData}(J:Fun K "_law_step" "_law_step" yz3 f fd)(q:FnOk P w K mg base CX0 1 z G ["cell","k"] (spR K 2 Z7))(b_Z21:Binds K G ["cell","k"] [])(k_Z21:W.keepIn K (.ref z)=true)(j:mg "_law_stir"=some (.ref z)):FnOk P w K mg base CX0 2 f fd ["cell"] (spR K 1 yp9):=
 J.okD (k:=1) (m:=b_Z27) sc_Z27 fun cdv A outer s H E I=>(y8 (t5 (i:=1) sc_Z27.nd rfl (by first|exact Or.inl rfl|exact Or.inr rfl) (k7 (m8 (z0 w4 (z0 (j7 w4 (i6 (v5 (fun t ha=>w9 (q.mono (by decide)) I rfl j k_Z21 b_Z21 .nil m9 ha) rfl (z0 (z6 0 (pv 0)) (z0 w4 y7)) (z7 (z7 w5))) w4)) (z0 (j7 w4 (i6 (v5 (fun t ha=>w9 (q.mono (by decide)) I rfl j k_Z21 b_Z21 .nil m9 ha) rfl (z0 (z6 0 (pv 0)) (z0 w4 y7)) (z7 (z7 w5))) w4)) y7)))))) (x9 (u8 (c7 (g7 (X4 (w8 1 (pv 1)) (g7 (m8 (z0 (j7 w4 (P4 (i6 (v5 (fun t ha=>w9 (q.mono (by decide)) I rfl j k_Z21 b_Z21 .nil m9 ha) rfl (z0 (z6 0 (pv 0)) (z0 w4 y7)) (z7 (z7 w5))) (P3 w4 w4)) (P3 w4 w4))) y7))))) (i6 (v5 (fun t ha=>w9 (q.mono (by decide)) I rfl j k_Z21 b_Z21 .nil m9 ha) rfl (z0 (z6 0 (pv 0)) (z0 w4 y7)) (z7 (z7 w5))) w4)))))
abbrev R4:Stmt:=top 38
abbrev xk5:Stmt:=top 38
abbrev wu0:List Str:=["found","due"]
theorem xk4:FnScope wu0 ["found","due"] (y9 xk5):=⟨rfl,rfl,rfl,by decide +kernel,rfl,by decide +kernel,by decide +kernel⟩
theorem xe4 {P:Program}{w:World}{K:W.Frag}{mg:Str->Option Value}{base:Heap}{f:Addr}{fd:FuncData}(L:Fun K "_law_same" "_law_same" xk5 f fd)(I:mg "bool"=none)(J:mg "int"=none)(i:mg "isinstance"=none)(G:mg "len"=none)(j:mg "list"=none)(z:mg "str"=none)(q:mg "tuple"=none):FnOk P w K mg base CX0 1 f fd ["found","due"] (spR K 2 yx4):=
 L.okD (k:=0) (m:=b_Z11) xk4 fun cdv A outer s H E M=>(y8 (j3 (Y5 (T4 (C:="str") rfl i rfl z PyProof.Rows.boot_str (z6 1 (pv 1)))) (x9 (u8 (G0 (T4 (C:="str") rfl i rfl z PyProof.Rows.boot_str (z6 0 (pv 0))) (zw0 (S1 zy1 W7 (z6 0 (pv 0)) (z6 1 (pv 1)) (o0 _)))))) t4) (y8 (j3 (Y5 (zu6 (C1:="list") (C2:="tuple") rfl i rfl j PyProof.Rows.boot_list rfl q PyProof.Rows.boot_tuple (z6 1 (pv 1)))) (y8 (j3 (pc_w (S3 (k8 zi2 O1 (T4 (C:="list") rfl i rfl j PyProof.Rows.boot_list (z6 0 (pv 0))) (T4 (C:="list") rfl i rfl j PyProof.Rows.boot_list (z6 1 (pv 1))) (o0 _)) (P1 (S4 (Y5 (zu6 (C1:="list") (C2:="tuple") rfl i rfl j PyProof.Rows.boot_list rfl q PyProof.Rows.boot_tuple (z6 0 (pv 0)))))))) (x9 (u8 S2)) t4) (y8 (j3 (k8 zi2 O1 (zc2 rfl G (z0 (z6 0 (pv 0)) y7)) (zc2 rfl G (z0 (z6 1 (pv 1)) y7)) (o0 _)) (x9 (u8 S2)) t4) (x9 C7))) t4) (x9 (u8 (G0 (T4 (C:="int") rfl i rfl J PyProof.Rows.boot_int (z6 0 (pv 0))) (G0 (yr7 (T4 (C:="bool") rfl i rfl I PyProof.Rows.boot_bool (z6 0 (pv 0)))) (zw0 (S1 zy1 W7 (z6 0 (pv 0)) (z6 1 (pv 1)) (o0 _)))))))))
abbrev xw6:Stmt:=top 38
abbrev xa3:List Str:=["found","due"]
theorem xk3:FnScope xa3 ["found","due"] (y9 xw6):=⟨rfl,rfl,rfl,by decide +kernel,rfl,by decide +kernel,by decide +kernel⟩
theorem T5:List.Nodup (["one","other"]:List Str):=by decide +kernel
theorem xe3 {P:Program}{w:World}{K:W.Frag}{mg:Str->Option Value}{base:Heap}{f:Addr}{fd:FuncData}{G:Addr}{L:FuncData}(Fn:Fun K "_law_same" "_law_same" xw6 f fd)(Z:FnOk P w K mg base CX0 1 G L ["found","due"] (spR K 2 yx4))(b_Z11:Binds K L ["found","due"] [])(U:W.keepIn K (.ref G)=true)(Y:mg "_law_same"=some (.ref G))(M:mg "bool"=none)(S:mg "int"=none)(j:mg "isinstance"=none)(J:mg "len"=none)(q:mg "list"=none)(I:mg "str"=none)(z:mg "tuple"=none)(O:mg "zip"=none):FnOk P w K mg base CX0 2 f fd ["found","due"] (spR K 2 yo5):=
 Fn.okD (k:=1) (m:=b_Z12) xk3 fun cdv A outer s H E hr=>(y8 (j3 (Y5 (T4 (C:="str") rfl j rfl I PyProof.Rows.boot_str (z6 1 (pv 1)))) (x9 (u8 (G0 (T4 (C:="str") rfl j rfl I PyProof.Rows.boot_str (z6 0 (pv 0))) (zw0 (S1 zy1 W7 (z6 0 (pv 0)) (z6 1 (pv 1)) (o0 _)))))) t4) (y8 (j3 (Y5 (zu6 (C1:="list") (C2:="tuple") rfl j rfl q PyProof.Rows.boot_list rfl z PyProof.Rows.boot_tuple (z6 1 (pv 1)))) (y8 (j3 (pc_w (S3 (k8 zi2 O1 (T4 (C:="list") rfl j rfl q PyProof.Rows.boot_list (z6 0 (pv 0))) (T4 (C:="list") rfl j rfl q PyProof.Rows.boot_list (z6 1 (pv 1))) (o0 _)) (P1 (S4 (Y5 (zu6 (C1:="list") (C2:="tuple") rfl j rfl q PyProof.Rows.boot_list rfl z PyProof.Rows.boot_tuple (z6 0 (pv 0)))))))) (x9 (u8 S2)) t4) (y8 (j3 (k8 zi2 O1 (zc2 rfl J (z0 (z6 0 (pv 0)) y7)) (zc2 rfl J (z0 (z6 1 (pv 1)) y7)) (o0 _)) (x9 (u8 S2)) t4) (x9 (u8 (xy1 (yq2 hr.units) (g7 (d8 (b9 (N:=["one","other"]) (src:=[none,none]) (y9 xw6) xa3 rfl rfl (by decide +kernel)) rfl (zd8 rfl O (z0 (z6 0 (pv 0)) (z0 (z6 1 (pv 1)) y7))) (fun C fp s0 H0=>(W5 (is:=[0,1]) (P2 rfl (k6 (u0 (i:=0) T5 rfl (by first|exact Or.inl rfl|exact Or.inr rfl)) (k6 (u0 (i:=1) T5 rfl (by first|exact Or.inl rfl|exact Or.inr rfl)) W4))))) (fun C fp s0 H0=>(N8 (S4 (Y5 (v5 (fun t ha=>w9 (Z.mono (by decide)) hr rfl Y U b_Z11 .nil m9 ha) rfl (z0 (z6 0 (pv 0)) (z0 (z6 1 (pv 1)) y7)) (z7 (z7 w5))))))) (fun C fp s0 H0=>w4))) (g7 (m8 y7)) (o0 _)))))) t4) (x9 (u8 (G0 (T4 (C:="int") rfl j rfl S PyProof.Rows.boot_int (z6 0 (pv 0))) (G0 (yr7 (T4 (C:="bool") rfl j rfl M PyProof.Rows.boot_bool (z6 0 (pv 0)))) (zw0 (S1 zy1 W7 (z6 0 (pv 0)) (z6 1 (pv 1)) (o0 _)))))))))
abbrev yz8:Stmt:=top 39
abbrev wv4:List Str:=["e","found"]
theorem sc_Z19:FnScope wv4 ["e"] (y9 yz8):=⟨rfl,rfl,rfl,by decide +kernel,rfl,by decide +kernel,by decide +kernel⟩
theorem xf6 {P:Program}{w:World}{K:W.Frag}{mg:Str->Option Value}{base:Heap}{f:Addr}{fd:FuncData}(Fn:Fun K "_law_flags" "_law_flags" yz8 f fd){S:Addr}(a9:mg "NoForm"=some (.ref S)){z:Addr}(a1:mg "NoNumber"=some (.ref z)){I:Addr}(a6:mg "NoPlace"=some (.ref I)){O:Addr}(a8:mg "NoStep"=some (.ref O)){N:Addr}(a7:mg "NoText"=some (.ref N)){q:Addr}(Y:mg "NoWeights"=some (.ref q)){G:Addr}(a5:mg "NoneYet"=some (.ref G))(a4:∀ c k,([("NoPlace",false)]:List (Str×Bool)).lookup c=some k->∀ C,XC K c C->XCls K C/\W.kitOne K (.ref C) (.ref S)=some k)(U:∀ c k,([("NoPlace",false)]:List (Str×Bool)).lookup c=some k->∀ C,XC K c C->XCls K C/\W.kitOne K (.ref C) (.ref z)=some k)(a0:∀ c k,([("NoPlace",true)]:List (Str×Bool)).lookup c=some k->∀ C,XC K c C->XCls K C/\W.kitOne K (.ref C) (.ref I)=some k)(a3:∀ c k,([("NoPlace",false)]:List (Str×Bool)).lookup c=some k->∀ C,XC K c C->XCls K C/\W.kitOne K (.ref C) (.ref O)=some k)(a2:∀ c k,([("NoPlace",false)]:List (Str×Bool)).lookup c=some k->∀ C,XC K c C->XCls K C/\W.kitOne K (.ref C) (.ref N)=some k)(M:∀ c k,([("NoPlace",false)]:List (Str×Bool)).lookup c=some k->∀ C,XC K c C->XCls K C/\W.kitOne K (.ref C) (.ref q)=some k)(Z:∀ c k,([("NoPlace",false)]:List (Str×Bool)).lookup c=some k->∀ C,XC K c C->XCls K C/\W.kitOne K (.ref C) (.ref G)=some k)(J:∀ c k,([("NoPlace",true)]:List (Str×Bool)).lookup c=some k->∀ C,XC K c C->XCls K C/\W.kitOne K (.ref C) (.type "ValueError")=some k)(L:mg "ValueError"=none)(j:mg "isinstance"=none):FnOkN P w K mg base CX0 1 f fd ["e"] (spR K 1 yo3):=
 Fn.okN (k:=0) (m:=b_Z19) sc_Z19 fun cdv A outer s H E hr=>(y8 (t5 (i:=1) sc_Z19.nd rfl (by first|exact Or.inl rfl|exact Or.inr rfl) (k7 (m8 (z0 (B2 (tab:=[("NoPlace",false)]) rfl j rfl a8 (z6 0 (pv 0)) a3) (z0 (B2 (tab:=[("NoPlace",true)]) rfl j rfl a6 (z6 0 (pv 0)) a0) (z0 (B2 (tab:=[("NoPlace",false)]) rfl j rfl Y (z6 0 (pv 0)) M) (z0 (B2 (tab:=[("NoPlace",false)]) rfl j rfl a1 (z6 0 (pv 0)) U) y7))))))) (y8 (t5 (i:=1) sc_Z19.nd rfl (by first|exact Or.inl rfl|exact Or.inr rfl) (k7 (X4 (w8 1 (pv 1)) (g7 (m8 (z0 (B2 (tab:=[("NoPlace",false)]) rfl j rfl a7 (z6 0 (pv 0)) a2) (z0 (B2 (tab:=[("NoPlace",false)]) rfl j rfl a9 (z6 0 (pv 0)) a4) (z0 (B2 (tab:=[("NoPlace",false)]) rfl j rfl a5 (z6 0 (pv 0)) Z) y7)))))))) (x9 (E7 (X4 (w8 1 (pv 1)) (g7 (m8 (z0 (yr7 (xt4 (T:="ValueError") (tab:=[("NoPlace",true)]) rfl j rfl L (by rfl) (z6 0 (pv 0)) J)) y7))))))))
abbrev yz2:Stmt:=top 40
abbrev ww7:List Str:=["cell","k"]
theorem xm7:FnScope ww7 ["cell","k"] (y9 yz2):=⟨rfl,rfl,rfl,by decide +kernel,rfl,by decide +kernel,by decide +kernel⟩
theorem xg7 {P:Program}{w:World}{K:W.Frag}{mg:Str->Option Value}{base:Heap}{f:Addr}{fd:FuncData}{i:Addr}{j:FuncData}(I:Fun K "_law_far" "_law_far" yz2 f fd)(z:FnOk P w K mg base CX0 1 i j ["cell","k"] (spR K 2 Z7))(b_Z21:Binds K j ["cell","k"] [])(k_Z21:W.keepIn K (.ref i)=true)(q:mg "_law_stir"=some (.ref i)):FnOk P w K mg base CX0 2 f fd ["cell","k"] (spR K 2 yp8):=
 I.okD (k:=1) (m:=b_Z28) xm7 fun cdv A outer s H E G=>(x9 (u8 (c7 (g7 (m8 (z0 w4 (z0 w4 (z0 (i6 (v5 (fun t ha=>w9 (z.mono (by decide)) G rfl q k_Z21 b_Z21 .nil m9 ha) rfl (z0 (z6 0 (pv 0)) (z0 (j7 (z6 1 (pv 1)) w4) y7)) (z7 (z7 w5))) w4) (z0 (P3 w4 w4) y7)))))) (i6 (v5 (fun t ha=>w9 (z.mono (by decide)) G rfl q k_Z21 b_Z21 .nil m9 ha) rfl (z0 (z6 0 (pv 0)) (z0 (z6 1 (pv 1)) y7)) (z7 (z7 w5))) w4))))
abbrev yz4:Stmt:=top 41
abbrev wv0:List Str:=["cell","k","size","found","place","bit"]
theorem sc_Z23:FnScope wv0 ["cell","k","size"] (y9 yz4):=⟨rfl,rfl,rfl,by decide +kernel,rfl,by decide +kernel,by decide +kernel⟩
theorem xf2 {P:Program}{w:World}{K:W.Frag}{mg:Str->Option Value}{base:Heap}{f:Addr}{fd:FuncData}{j:Addr}{I:FuncData}(L:Fun K "_law_some" "_law_some" yz4 f fd)(z:FnOk P w K mg base CX0 1 j I ["cell","k"] (spR K 2 Z7))(b_Z21:Binds K I ["cell","k"] [])(k_Z21:W.keepIn K (.ref j)=true)(q:mg "_law_stir"=some (.ref j))(G:mg "range"=none):FnOk P w K mg base CX0 2 f fd ["cell","k","size"] (spR K 3 zh0):=
 L.okD (k:=1) (m:=b_Z23) sc_Z23 fun cdv A outer s H E J=>(y8 (Y2 (i:=3) sc_Z23.nd rfl (by first|exact Or.inl rfl|exact Or.inr rfl) (m8 y7)) (y8 (g8 PassesOwn.never rfl (e9 rfl G (z0 (z6 2 (pv 2)) y7)) (u6 (i:=4) (u0 sc_Z23.nd rfl (by first|exact Or.inl rfl|exact Or.inr rfl))) (y8 (t5 (i:=5) sc_Z23.nd rfl (by first|exact Or.inl rfl|exact Or.inr rfl) (zi1 (zc1 (v5 (fun t ha=>w9 (z.mono (by decide)) J rfl q k_Z21 b_Z21 .nil m9 ha) rfl (z0 (z6 0 (pv 0)) (z0 (j7 (j7 (z6 1 (pv 1)) w4) (W6 (z6 4 (pv 4)) w4)) y7)) (z7 (z7 w5))) (i6 (z6 4 (pv 4)) w4)) w4)) (y8 (j3 (k8 yq1 zp5 (i6 (v5 (fun t ha=>w9 (z.mono (by decide)) J rfl q k_Z21 b_Z21 .nil m9 ha) rfl (z0 (z6 0 (pv 0)) (z0 (z6 1 (pv 1)) y7)) (z7 (z7 w5))) w4) w4 (o0 _)) (x9 (t5 (i:=5) sc_Z23.nd rfl (by first|exact Or.inl rfl|exact Or.inr rfl) (P4 (z6 5 (pv 5)) (zi1 (zc1 (v5 (fun t ha=>w9 (z.mono (by decide)) J rfl q k_Z21 b_Z21 .nil m9 ha) rfl (z0 (z6 0 (pv 0)) (z0 (j7 (j7 (z6 1 (pv 1)) w4) (W6 (z6 4 (pv 4)) w4)) y7)) (z7 (z7 w5))) (i6 (z6 4 (pv 4)) w4)) w4)))) t4) (x9 (j3 (k8 zy1 W7 (z6 5 (pv 5)) w4 (o0 _)) (x9 (c6 (i:=3) (pv 3) (z6 4 (pv 4)) (fun t ha=>zu3 PySem.F.plainAttrs_list PySem.F.slot_list_append PySem.F.type_list_append d9 (pv 3) ha) (z0 (z6 4 (pv 4)) y7))) t4))))) (x9 (U4 3 (pv 3)))))
abbrev s_Z8:Stmt:=top 42
abbrev N_Z8:List Str:=["cell","k","row","step","found","up","place","number","passed","far"]
theorem sc_Z8:FnScope N_Z8 ["cell","k","row","step"] (y9 s_Z8):=⟨rfl,rfl,rfl,by decide +kernel,rfl,by decide +kernel,by decide +kernel⟩
theorem wy3 {P:Program}{w:World}{K:W.Frag}{mg:Str->Option Value}{base:Heap}{f:Addr}{fd:FuncData}{q:Addr}{z:FuncData}(M:Fun K "_law_by_turns" "_law_by_turns" s_Z8 f fd)(J:FnOk P w K mg base CX0 1 q z ["cell","k"] (spR K 2 Z7))(b_Z21:Binds K z ["cell","k"] [])(k_Z21:W.keepIn K (.ref q)=true)(I:mg "_law_stir"=some (.ref q))(G:mg "abs"=none)(j:mg "enumerate"=none):FnOk P w K mg base CX0 2 f fd ["cell","k","row","step"] (spR K 4 m_Z8):=
 M.okD (k:=1) (m:=b_Z8) sc_Z8 fun cdv A outer s H E L=>(y8 (Y2 (i:=4) sc_Z8.nd rfl (by first|exact Or.inl rfl|exact Or.inr rfl) (m8 y7)) (y8 (t5 (i:=5) sc_Z8.nd rfl (by first|exact Or.inl rfl|exact Or.inr rfl) xh3) (y8 (g8 PassesOwn.never rfl (zd9 rfl j (z0 (z6 2 (pv 2)) y7)) (W5 (is:=[6,7]) (P2 rfl (k6 (u0 (i:=6) sc_Z8.nd rfl (by first|exact Or.inl rfl|exact Or.inr rfl)) (k6 (u0 (i:=7) sc_Z8.nd rfl (by first|exact Or.inl rfl|exact Or.inr rfl)) W4)))) (y8 (t5 (i:=8) sc_Z8.nd rfl (by first|exact Or.inl rfl|exact Or.inr rfl) (G0 (S1 zy1 W7 (zi1 (zc1 (v5 (fun t ha=>w9 (J.mono (by decide)) L rfl I k_Z21 b_Z21 .nil m9 ha) rfl (z0 (z6 0 (pv 0)) (z0 (j7 (z6 1 (pv 1)) (W6 (z6 6 (pv 6)) w4)) y7)) (z7 (z7 w5))) (i6 (z6 6 (pv 6)) w4)) w4) w4 (o0 _)) (zw0 (S1 yq1 zp5 (i6 (z6 6 (pv 6)) w4) w4 (o0 _))))) (x9 (j3 (pc_w (B3 (zp3 (yq2 L.units) (w8 4 (pv 4)) (g7 (m8 y7)) (o0 _)) (C6 (S4 (Y5 (z6 8 (pv 8))))))) (x9 (c6 (i:=4) (pv 4) (z6 6 (pv 6)) (fun t ha=>zu3 PySem.F.plainAttrs_list PySem.F.slot_list_append PySem.F.type_list_append d9 (pv 4) ha) (z0 (z6 6 (pv 6)) y7))) (x9 (j3 (pc_w (B3 (zp3 (zc3 L.units) (w8 4 (pv 4)) (g7 (m8 y7)) (o0 _)) (C6 (S4 (Y5 (z6 8 (pv 8))))))) (y8 (t5 (i:=9) sc_Z8.nd rfl (by first|exact Or.inl rfl|exact Or.inr rfl) (Y4 (z6 7 (pv 7)) (c7 (w8 2 (pv 2)) (c7 (w8 4 (pv 4)) (J9 w4))))) (x9 (j3 (pc_w (B3 (k8 K5 V0 (xy2 rfl G (z0 (z6 9 (pv 9)) y7)) (z6 3 (pv 3)) (o0 _)) (C6 (k8 zi2 O1 (z6 5 (pv 5)) (S1 yq1 zp5 (z6 9 (pv 9)) w4 (o0 _)) (o0 _))))) (y8 (t5 (i:=5) sc_Z8.nd rfl (by first|exact Or.inl rfl|exact Or.inr rfl) (S1 yq1 zp5 (z6 9 (pv 9)) w4 (o0 _))) (x9 (c6 (i:=4) (pv 4) (z6 6 (pv 6)) (fun t ha=>zu3 PySem.F.plainAttrs_list PySem.F.slot_list_append PySem.F.type_list_append d9 (pv 4) ha) (z0 (z6 6 (pv 6)) y7)))) t4))) t4)))))) (x9 (U4 4 (pv 4))))))
abbrev yy4:Stmt:=top 43
abbrev wu1:List Str:=["row","place","found","e"]
theorem sc_Z10:FnScope wu1 ["row","place"] (y9 yy4):=⟨rfl,rfl,rfl,by decide +kernel,rfl,by decide +kernel,by decide +kernel⟩
theorem xe6 {P:Program}{w:World}{K:W.Frag}{mg:Str->Option Value}{base:Heap}{f:Addr}{fd:FuncData}{I:Addr}{L:FuncData}{z:Addr}{J:FuncData}(Z:Fun K "_law_refused" "_law_refused" yy4 f fd)(U:FnOkN P w K mg base CX0 1 I L ["e"] (spR K 1 yo3))(b_Z19:Binds K L ["e"] [])(k_Z19:W.keepIn K (.ref I)=true)(O:mg "_law_flags"=some (.ref I))(S:FnOk P w K mg base CX0 1 z J ["row","place"] (spR K 2 M0))(b_Z24:Binds K J ["row","place"] [])(k_Z24:W.keepIn K (.ref z)=true)(M:mg "begun_at"=some (.ref z))(N:FnOk P w K mg base (CXx P w) 1 z J ["row","place"] (spX K 2 zr6)){j:Addr}(G:mg "WaveError"=some (.ref j))(q:∀ c∈(["NoPlace"]:List Str),∀ C,XC K c C->W.exmOne K (.ref C) (.ref j)=some true):FnOk P w K mg base CX0 2 f fd ["row","place"] (spR K 2 yo6):=
 Z.okD (k:=1) (m:=b_Z10) sc_Z10 fun cdv A outer s H E Y=>(y8 (t5 (i:=2) sc_Z10.nd rfl (by first|exact Or.inl rfl|exact Or.inr rfl) (k7 (m8 y7))) (y8 (xu1 (names:=["NoPlace"]) (i:=3) rfl ⟨rfl,rfl,rfl⟩ rfl G q sc_Z10.nd rfl rfl (x9 (R6 (v5 (fun t ha=>w9 (S.mono (by decide)) Y rfl M k_Z24 b_Z24 .nil m9 ha) rfl (z0 (z6 0 (pv 0)) (z0 (z6 1 (pv 1)) y7)) (z7 (z7 w5))))) (zd4 (yf1 (yf6 rfl ⟨rfl,rfl,rfl⟩ (N.mono (by decide)) Y rfl M k_Z24 b_Z24 rfl (z0 (z6 0 (pv 0)) (z0 (z6 1 (pv 1)) y7)) (z7 (z7 w5))))) (fun a=>(x9 (t5 (i:=2) sc_Z10.nd rfl (by first|exact Or.inl rfl|exact Or.inr rfl) (v5 (fun t ha=>yf9 (U.mono (by decide)) (Y.mark _) rfl O k_Z19 b_Z19 .nil m9 ha) rfl (z0 (z6 3 (pv 3)) y7) (z7 w5)))))) (x9 (U4 2 (pv 2)))))
abbrev s_Z1:Stmt:=top 44
abbrev N_Z1:List Str:=["cell","row","handed","far","place","found"]
theorem sc_Z1:FnScope N_Z1 ["cell","row"] (y9 s_Z1):=⟨rfl,rfl,rfl,by decide +kernel,rfl,by decide +kernel,by decide +kernel⟩
theorem Q5:List.Nodup (["k","row","place"]:List Str):=by decide +kernel
theorem Q4:List.Nodup (["k"]:List Str):=by decide +kernel
theorem wx0 {P:Program}{w:World}{K:W.Frag}{mg:Str->Option Value}{base:Heap}{f:Addr}{fd:FuncData}{z:Addr}{L:FuncData}{J:Addr}{S:FuncData}{I:Addr}{O:FuncData}{G:Addr}{M:FuncData}(Fn:Fun K "_law_begun_right" "_law_begun_right" s_Z1 f fd)(a4:FnOk P w K mg base CX0 2 z L ["cell","k"] (spR K 2 yp8))(b_Z28:Binds K L ["cell","k"] [])(k_Z28:W.keepIn K (.ref z)=true)(a1:mg "_law_far"=some (.ref z))(a6:FnOk P w K mg base CX0 2 J S ["row","place"] (spR K 2 yo6))(b_Z10:Binds K S ["row","place"] [])(k_Z10:W.keepIn K (.ref J)=true)(a3:mg "_law_refused"=some (.ref J))(a5:FnOk P w K mg base CX0 2 I O ["found","due"] (spR K 2 yo5))(b_Z12:Binds K O ["found","due"] [])(a0:W.keepIn K (.ref I)=true)(a2:mg "_law_same"=some (.ref I))(Y:FnOk P w K mg base CX0 1 G M ["row","place"] (spR K 2 M0))(b_Z24:Binds K M ["row","place"] [])(k_Z24:W.keepIn K (.ref G)=true)(U:mg "begun_at"=some (.ref G))(q:mg "len"=none)(Z:mg "list"=none)(j:mg "range"=none):FnOk P w K mg base CX0 3 f fd ["cell","row"] (spR K 2 m_Z1):=
 Fn.okD (k:=2) (m:=b_Z1) sc_Z1 fun cdv A outer s H E hr=>(y8 (t5 (i:=2) sc_Z1.nd rfl (by first|exact Or.inl rfl|exact Or.inr rfl) (k7 (Z6 rfl Z (w8 1 (pv 1)) PyProof.Rows.boot_list))) (y8 (t5 (i:=3) sc_Z1.nd rfl (by first|exact Or.inl rfl|exact Or.inr rfl) (v5 (fun t ha=>w9 (a4.mono (by decide)) hr rfl a1 k_Z28 b_Z28 .nil m9 ha) rfl (z0 (z6 0 (pv 0)) (z0 w4 y7)) (z7 (z7 w5)))) (y8 (g8 PassesOwn.never rfl (e9 rfl j (z0 (u9 rfl q (w8 1 (pv 1))) y7)) (u6 (i:=4) (u0 sc_Z1.nd rfl (by first|exact Or.inl rfl|exact Or.inr rfl))) (y8 (Y2 (i:=5) sc_Z1.nd rfl (by first|exact Or.inl rfl|exact Or.inr rfl) (xt1 (fun t ha=>w9 (Y.mono (by decide)) hr rfl U k_Z24 b_Z24 .nil m9 ha) rfl (z0 (z6 2 (pv 2)) (z0 (z6 4 (pv 4)) y7)) (z7 (z7 w5)))) (y8 (j3 (S4 (Y5 (xt5 5 (v5 (fun t ha=>w9 (a5.mono (by decide)) hr rfl a2 a0 b_Z12 .nil m9 ha) rfl (z0 (z6 5 (pv 5)) (z0 (k7 (d8 (b9 (N:=["k","row","place"]) (src:=[none,some 1,some 4]) (y9 s_Z1) N_Z1 rfl rfl (by decide +kernel)) rfl (e9 rfl j (z0 (u9 rfl q (w8 1 (pv 1))) y7)) (fun C fp s0 H0=>(u6 (i:=0) (u0 Q5 rfl (by first|exact Or.inl rfl|exact Or.inr rfl)))) (fun C fp s0 H0=>i9) (fun C fp s0 H0=>(c7 (w8 1 (pv 1)) (i6 (j7 (z6 2 (pv 2)) (z6 0 (pv 0))) (u9 rfl q (w8 1 (pv 1)))))))) y7)) (z7 (z7 w5)))))) (x9 (u8 S2)) t4) (y8 (c6 (i:=5) (pv 5) w4 (fun t ha=>zu3 PySem.F.plainAttrs_list PySem.F.slot_list_append PySem.F.type_list_append d9 (pv 5) ha) (z0 w4 y7)) (x9 (j3 (zp3 (zc3 hr.units) (E2 (v5 (fun t ha=>w9 (Y.mono (by decide)) hr rfl U k_Z24 b_Z24 .nil m9 ha) rfl (z0 (z6 2 (pv 2)) (z0 (z6 4 (pv 4)) y7)) (z7 (z7 w5)))) (g7 (X4 (g7 (B0 (w8 1 (pv 1)) (Z4 (z6 4 (pv 4))) Y3)) (g7 (B0 (w8 1 (pv 1)) Y3 (Z4 (z6 4 (pv 4))))))) (o0 _)) (x9 (u8 S2)) t4)))))) (y8 (g8 PassesOwn.never rfl (d6 (k7 (m8 (z0 (J9 w4) (z0 (Y4 (J9 w4) (z6 3 (pv 3))) (z0 (u9 rfl q (w8 1 (pv 1))) (z0 (j7 (u9 rfl q (w8 1 (pv 1))) (z6 3 (pv 3))) y7))))))) (u6 (i:=4) (u0 sc_Z1.nd rfl (by first|exact Or.inl rfl|exact Or.inr rfl))) (x9 (j3 (zp3 (zc3 hr.units) (E2 (v5 (fun t ha=>w9 (a6.mono (by decide)) hr rfl a3 k_Z10 b_Z10 .nil m9 ha) rfl (z0 (z6 2 (pv 2)) (z0 (z6 4 (pv 4)) y7)) (z7 (z7 w5)))) (g7 (d8 (b9 (N:=["k"]) (src:=[none]) (y9 s_Z1) N_Z1 rfl rfl (by decide +kernel)) rfl (e9 rfl j (z0 w4 y7)) (fun C fp s0 H0=>(u6 (i:=0) (u0 Q4 rfl (by first|exact Or.inl rfl|exact Or.inr rfl)))) (fun C fp s0 H0=>i9) (fun C fp s0 H0=>(S1 zy1 W7 (z6 0 (pv 0)) w4 (o0 _))))) (o0 _)) (x9 (u8 S2)) t4))) (x9 (u8 (xy1 (yq2 hr.units) (w8 2 (pv 2)) (w8 1 (pv 1)) (o0 _))))))))
abbrev s_Z0:Stmt:=top 45
abbrev N_Z0:List Str:=["row","step","place","some","moved"]
theorem sc_Z0:FnScope N_Z0 ["row","step","place","some"] (y9 s_Z0):=⟨rfl,rfl,rfl,by decide +kernel,rfl,by decide +kernel,by decide +kernel⟩
theorem Q3:List.Nodup (["one","place","row"]:List Str):=by decide +kernel
theorem wx1 {P:Program}{w:World}{K:W.Frag}{mg:Str->Option Value}{base:Heap}{f:Addr}{fd:FuncData}{q:Addr}{I:FuncData}{z:Addr}{J:FuncData}(Fn:Fun K "_law_moved_right" "_law_moved_right" s_Z0 f fd)(U:FnOk P w K mg base CX0 1 q I ["row","place"] (spR K 2 M0))(b_Z24:Binds K I ["row","place"] [])(k_Z24:W.keepIn K (.ref q)=true)(S:mg "begun_at"=some (.ref q))(M:FnOk P w K mg base CX0 3 z J ["row","step","places"] (spR K 3 zo4))(b_Z16:Binds K J ["row","step","places"] [])(k_Z16:W.keepIn K (.ref z)=true)(L:mg "wavy_round"=some (.ref z))(O:mg "len"=none)(j:mg "list"=none)(G:mg "sorted"=none):FnOk P w K mg base CX0 4 f fd ["row","step","place","some"] (spR K 4 m_Z0):=
 Fn.okD (k:=3) (m:=b_Z0) sc_Z0 fun cdv A outer s H E Y=>(y8 (t5 (i:=4) sc_Z0.nd rfl (by first|exact Or.inl rfl|exact Or.inr rfl) (k7 (yr2 rfl G (g7 (d8 (b9 (N:=["one","place","row"]) (src:=[none,some 2,some 0]) (y9 s_Z0) N_Z0 rfl rfl (by decide +kernel)) rfl (d6 (z6 3 (pv 3))) (fun C fp Z H0=>(u6 (i:=0) (u0 Q3 rfl (by first|exact Or.inl rfl|exact Or.inr rfl)))) (fun C fp Z H0=>i9) (fun C fp Z H0=>(i6 (Y4 (z6 0 (pv 0)) (z6 1 (pv 1))) (u9 rfl O (w8 2 (pv 2))))))) PyProof.Rows.boot_sorted))) (x9 (u8 (S1 zy1 W7 (v5 (fun t ha=>w9 (M.mono (by decide)) Y rfl L k_Z16 b_Z16 .nil m9 ha) rfl (z0 (v5 (fun t ha=>w9 (U.mono (by decide)) Y rfl S k_Z24 b_Z24 .nil m9 ha) rfl (z0 (k7 (Z6 rfl j (w8 0 (pv 0)) PyProof.Rows.boot_list)) (z0 (z6 2 (pv 2)) y7)) (z7 (z7 w5))) (z0 (z6 1 (pv 1)) (z0 (z6 4 (pv 4)) y7))) (z7 (z7 (z7 w5)))) (v5 (fun t ha=>w9 (M.mono (by decide)) Y rfl L k_Z16 b_Z16 .nil m9 ha) rfl (z0 (k7 (Z6 rfl j (w8 0 (pv 0)) PyProof.Rows.boot_list)) (z0 (z6 1 (pv 1)) (z0 (k7 (Z6 rfl j (w8 3 (pv 3)) PyProof.Rows.boot_list)) y7))) (z7 (z7 (z7 w5)))) (o0 _)))))
abbrev G9:Stmt:=top 46
abbrev ya4:List Str:=["script","cell","row","step","by_size","most_round","others","place","some","other"]
theorem sc_Z32:FnScope ya4 ["script"] (y9 G9):=⟨rfl,rfl,rfl,by decide +kernel,rfl,by decide +kernel,by decide +kernel⟩
theorem ye5:List.Nodup (["number"]:List Str):=by decide +kernel
theorem ye4:List.Nodup (["number"]:List Str):=by decide +kernel
theorem ye3:List.Nodup (["number"]:List Str):=by decide +kernel
theorem xg3 {P:Program}{w:World}{K:W.Frag}{mg:Str->Option Value}{base:Heap}{f:Addr}{fd:FuncData}{a2:Addr}{ai:FuncData}{Z:Addr}{af:FuncData}{U:Addr}{ab:FuncData}{a3:Addr}{aj:FuncData}{G:Addr}{a4:FuncData}{M:Addr}{a8:FuncData}{I:Addr}{a5:FuncData}{S:Addr}{aa:FuncData}{J:Addr}{a6:FuncData}{L:Addr}{a7:FuncData}{a0:Addr}{ag:FuncData}{O:Addr}{a9:FuncData}{a1:Addr}{ah:FuncData}{Y:Addr}{ac:FuncData}(Fn:Fun K "law" "law" G9 f fd)(bb:FnOk P w K mg base CX0 3 a2 ai ["cell","row"] (spR K 2 m_Z1))(b_Z1:Binds K ai ["cell","row"] [])(k_Z1:W.keepIn K (.ref a2)=true)(b7:mg "_law_begun_right"=some (.ref a2))(ba:FnOk P w K mg base CX0 2 Z af ["cell","k","row","step"] (spR K 4 m_Z8))(b_Z8:Binds K af ["cell","k","row","step"] [])(k_Z8:W.keepIn K (.ref Z)=true)(b6:mg "_law_by_turns"=some (.ref Z))(b4:FnOk P w K mg base CX0 1 U ab ["script","many"] (spR K 2 yo4))(b_Z17:Binds K ab ["script","many"] [])(k_Z17:W.keepIn K (.ref U)=true)(aw:mg "_law_cells"=some (.ref U))(bc:FnOk P w K mg base CX0 4 a3 aj ["row","step","place","some"] (spR K 4 m_Z0))(b_Z0:Binds K aj ["row","step","place","some"] [])(k_Z0:W.keepIn K (.ref a3)=true)(b8:mg "_law_moved_right"=some (.ref a3))(ay:FnOk P w K mg base CX0 2 G a4 ["cell","most"] (spR K 2 zi8))(b_Z29:Binds K a4 ["cell","most"] [])(k_Z29:W.keepIn K (.ref G)=true)(ap:mg "_law_row"=some (.ref G))(b1:FnOk P w K mg base CX0 2 M a8 ["cell","k","size"] (spR K 3 zh0))(b_Z23:Binds K a8 ["cell","k","size"] [])(k_Z23:W.keepIn K (.ref M)=true)(as:mg "_law_some"=some (.ref M))(az:FnOk P w K mg base CX0 2 I a5 ["cell"] (spR K 1 yp9))(b_Z27:Binds K a5 ["cell"] [])(k_Z27:W.keepIn K (.ref I)=true)(aq:mg "_law_step"=some (.ref I))(b3:FnOk P w K mg base CX0 1 S aa ["cell","k"] (spR K 2 Z7))(b_Z21:Binds K aa ["cell","k"] [])(k_Z21:W.keepIn K (.ref S)=true)(av:mg "_law_stir"=some (.ref S))(b0:FnOk P w K mg base CX0 3 J a6 ["row","step","places"] (spR K 3 yo0))(b_Z26:Binds K a6 ["row","step","places"] [])(k_Z26:W.keepIn K (.ref J)=true)(ar:mg "are_wavy"=some (.ref J))(ae:FnOk P w K mg base CX0 1 L a7 ["row","place"] (spR K 2 M0))(b_Z24:Binds K a7 ["row","place"] [])(k_Z24:W.keepIn K (.ref L)=true)(ad:mg "begun_at"=some (.ref L))(am:FnOk P w K mg base CX0 3 a0 ag ["row","step"] (spR K 2 m_Z6))(b_Z6:Binds K ag ["row","step"] [])(k_Z6:W.keepIn K (.ref a0)=true)(ak:mg "counts_round"=some (.ref a0))(b2:FnOk P w K mg base CX0 4 O a9 ["row","step"] (spR K 2 yo1))(b_Z22:Binds K a9 ["row","step"] [])(k_Z22:W.keepIn K (.ref O)=true)(au:mg "how_long"=some (.ref O))(an:FnOk P w K mg base CX0 3 a1 ah ["row","step"] (spR K 2 m_Z4))(b_Z4:Binds K ah ["row","step"] [])(k_Z4:W.keepIn K (.ref a1)=true)(al:mg "longest_round"=some (.ref a1))(b5:FnOk P w K mg base CX0 3 Y ac ["row","step","places"] (spR K 3 zo4))(b_Z16:Binds K ac ["row","step","places"] [])(k_Z16:W.keepIn K (.ref Y)=true)(ax:mg "wavy_round"=some (.ref Y))(q:mg "len"=none)(j:mg "list"=none)(ao:mg "max"=none):FnOk P w K mg base CX0 5 f fd ["script"] (spR K 1 zi7):=
 Fn.okD (k:=4) (m:=yb9) sc_Z32 fun cdv A outer s H E z=>(y8 (g8 PassesOwn.never rfl (d6 (v5 (fun t ha=>w9 (b4.mono (by decide)) z rfl aw k_Z17 b_Z17 .nil m9 ha) rfl (z0 (z6 0 (pv 0)) (z0 w4 y7)) (z7 (z7 w5)))) (u6 (i:=1) (u0 sc_Z32.nd rfl (by first|exact Or.inl rfl|exact Or.inr rfl))) (y8 (zp1 (zu0 (i:=2) sc_Z32.nd rfl (by first|exact Or.inl rfl|exact Or.inr rfl) (b9 (N:=["number"]) (src:=[none]) (y9 G9) ya4 rfl rfl (by decide +kernel)) rfl (d6 (v5 (fun t ha=>w9 (ay.mono (by decide)) z rfl ap k_Z29 b_Z29 .nil m9 ha) rfl (z0 (z6 1 (pv 1)) (z0 w4 y7)) (z7 (z7 w5)))) (fun C fp s0 H0=>(u6 (i:=0) (u0 ye5 rfl (by first|exact Or.inl rfl|exact Or.inr rfl)))) (fun C fp s0 H0=>i9) (fun C fp s0 H0=>(i6 (z6 0 (pv 0)) (P3 w4 w4))))) (y8 (t5 (i:=3) sc_Z32.nd rfl (by first|exact Or.inl rfl|exact Or.inr rfl) (v5 (fun t ha=>w9 (az.mono (by decide)) z rfl aq k_Z27 b_Z27 .nil m9 ha) rfl (z0 (z6 1 (pv 1)) y7) (z7 w5))) (y8 (t5 (i:=4) sc_Z32.nd rfl (by first|exact Or.inl rfl|exact Or.inr rfl) (v5 (fun t ha=>w9 (am.mono (by decide)) z rfl ak k_Z6 b_Z6 .nil m9 ha) rfl (z0 (k7 (Z6 rfl j (w8 2 (pv 2)) PyProof.Rows.boot_list)) (z0 (z6 3 (pv 3)) y7)) (z7 (z7 w5)))) (y8 (t5 (i:=5) sc_Z32.nd rfl (by first|exact Or.inl rfl|exact Or.inr rfl) (v5 (fun t ha=>w9 (an.mono (by decide)) z rfl al k_Z4 b_Z4 .nil m9 ha) rfl (z0 (k7 (Z6 rfl j (w8 2 (pv 2)) PyProof.Rows.boot_list)) (z0 (z6 3 (pv 3)) y7)) (z7 (z7 w5)))) (y8 (j3 (pc_w (S3 (S4 (Y5 (v5 (fun t ha=>w9 (bb.mono (by decide)) z rfl b7 k_Z1 b_Z1 .nil m9 ha) rfl (z0 (z6 1 (pv 1)) (z0 (z6 2 (pv 2)) y7)) (z7 (z7 w5))))) (S3 (k8 zi2 O1 (u9 rfl q (w8 5 (pv 5))) (Y4 (P4 w4 (u9 rfl q (w8 4 (pv 4)))) w4) (o0 _)) (P1 (k8 zp6 G1 (c7 (w8 4 (pv 4)) (J9 w4)) w4 (o0 _)))))) (x9 (u8 S2)) t4) (y8 (j3 (pc_w (S3 (S4 (Y5 (v5 (fun t ha=>w9 (b5.mono (by decide)) z rfl ax k_Z16 b_Z16 .nil m9 ha) rfl (z0 (k7 (Z6 rfl j (w8 2 (pv 2)) PyProof.Rows.boot_list)) (z0 (z6 3 (pv 3)) (z0 (k7 (Z6 rfl j (w8 5 (pv 5)) PyProof.Rows.boot_list)) y7))) (z7 (z7 (z7 w5)))))) (P1 (S4 (Y5 (v5 (fun t ha=>w9 (b0.mono (by decide)) z rfl ar k_Z26 b_Z26 .nil m9 ha) rfl (z0 (k7 (Z6 rfl j (w8 2 (pv 2)) PyProof.Rows.boot_list)) (z0 (z6 3 (pv 3)) (z0 (k7 (Z6 rfl j (w8 5 (pv 5)) PyProof.Rows.boot_list)) y7))) (z7 (z7 (z7 w5))))))))) (x9 (u8 S2)) t4) (y8 (j3 (k8 yq1 zp5 (u9 rfl q (w8 5 (pv 5))) (v5 (fun t ha=>w9 (b2.mono (by decide)) z rfl au k_Z22 b_Z22 .nil m9 ha) rfl (z0 (k7 (Z6 rfl j (w8 2 (pv 2)) PyProof.Rows.boot_list)) (z0 (z6 3 (pv 3)) y7)) (z7 (z7 w5))) (o0 _)) (x9 (u8 S2)) t4) (y8 (Y2 (i:=6) sc_Z32.nd rfl (by first|exact Or.inl rfl|exact Or.inr rfl) (m8 (z0 (k7 (xi3 (w8 2 (pv 2)) (Z4 (J9 w4)))) (z0 (k7 (d8 (b9 (N:=["number"]) (src:=[none]) (y9 G9) ya4 rfl rfl (by decide +kernel)) rfl (d6 (z6 2 (pv 2))) (fun C fp s0 H0=>(u6 (i:=0) (u0 ye3 rfl (by first|exact Or.inl rfl|exact Or.inr rfl)))) (fun C fp s0 H0=>i9) (fun C fp s0 H0=>(Y4 w4 (z6 0 (pv 0)))))) (z0 (k7 (d8 (b9 (N:=["number"]) (src:=[none]) (y9 G9) ya4 rfl rfl (by decide +kernel)) rfl (d6 (z6 2 (pv 2))) (fun C fp s0 H0=>(u6 (i:=0) (u0 ye4 rfl (by first|exact Or.inl rfl|exact Or.inr rfl)))) (fun C fp s0 H0=>i9) (fun C fp s0 H0=>(j7 (z6 0 (pv 0)) (P3 w4 w4))))) y7))))) (y8 (g8 PassesOwn.never rfl (d6 (k7 (B0 (g7 (m8 (z0 (i6 (v5 (fun t ha=>w9 (b3.mono (by decide)) z rfl av k_Z21 b_Z21 .nil m9 ha) rfl (z0 (z6 1 (pv 1)) (z0 w4 y7)) (z7 (z7 w5))) (zu5 rfl rfl ao (z0 w4 (z0 (u9 rfl q (w8 2 (pv 2))) y7)))) y7))) Y3 (Z4 (u9 rfl q (w8 2 (pv 2))))))) (u6 (i:=7) (u0 sc_Z32.nd rfl (by first|exact Or.inl rfl|exact Or.inr rfl))) (y8 (c6 (i:=6) (pv 6) (v5 (fun t ha=>w9 (ae.mono (by decide)) z rfl ad k_Z24 b_Z24 .nil m9 ha) rfl (z0 (k7 (Z6 rfl j (w8 2 (pv 2)) PyProof.Rows.boot_list)) (z0 (z6 7 (pv 7)) y7)) (z7 (z7 w5))) (fun t ha=>zu3 PySem.F.plainAttrs_list PySem.F.slot_list_append PySem.F.type_list_append d9 (pv 6) ha) (z0 (v5 (fun t ha=>w9 (ae.mono (by decide)) z rfl ad k_Z24 b_Z24 .nil m9 ha) rfl (z0 (k7 (Z6 rfl j (w8 2 (pv 2)) PyProof.Rows.boot_list)) (z0 (z6 7 (pv 7)) y7)) (z7 (z7 w5))) y7)) (x9 (g8 PassesOwn.never rfl (d6 (k7 (m8 (z0 (v5 (fun t ha=>w9 (b1.mono (by decide)) z rfl as k_Z23 b_Z23 .nil m9 ha) rfl (z0 (z6 1 (pv 1)) (z0 w4 (z0 (u9 rfl q (w8 2 (pv 2))) y7))) (z7 (z7 (z7 w5)))) (z0 (v5 (fun t ha=>w9 (ba.mono (by decide)) z rfl b6 k_Z8 b_Z8 .nil m9 ha) rfl (z0 (z6 1 (pv 1)) (z0 w4 (z0 (z6 2 (pv 2)) (z0 (z6 3 (pv 3)) y7)))) (z7 (z7 (z7 (z7 w5))))) (z0 (z6 5 (pv 5)) y7)))))) (u6 (i:=8) (u0 sc_Z32.nd rfl (by first|exact Or.inl rfl|exact Or.inr rfl))) (x9 (j3 (S4 (Y5 (v5 (fun t ha=>w9 (bc.mono (by decide)) z rfl b8 k_Z0 b_Z0 .nil m9 ha) rfl (z0 (z6 2 (pv 2)) (z0 (z6 3 (pv 3)) (z0 (z6 7 (pv 7)) (z0 (z6 8 (pv 8)) y7)))) (z7 (z7 (z7 (z7 w5))))))) (x9 (u8 S2)) t4)))))) (Y7 6 (x9 (g8 PassesOwn.never rfl (d6 (z6 6 (pv 6))) (u6 (i:=9) (u0 sc_Z32.nd rfl (by first|exact Or.inl rfl|exact Or.inr rfl))) (x9 (j3 (pc_w (S3 (zp3 (zc3 z.units) (E2 (v5 (fun t ha=>w9 (am.mono (by decide)) z rfl ak k_Z6 b_Z6 .nil m9 ha) rfl (z0 (k7 (Z6 rfl j (w8 9 (pv 9)) PyProof.Rows.boot_list)) (z0 (z6 3 (pv 3)) y7)) (z7 (z7 w5)))) (w8 4 (pv 4)) (o0 _)) (P1 (k8 zi2 O1 (u9 rfl q (E2 (v5 (fun t ha=>w9 (an.mono (by decide)) z rfl al k_Z4 b_Z4 .nil m9 ha) rfl (z0 (k7 (Z6 rfl j (w8 9 (pv 9)) PyProof.Rows.boot_list)) (z0 (z6 3 (pv 3)) y7)) (z7 (z7 w5))))) (u9 rfl q (w8 5 (pv 5))) (o0 _))))) (x9 (u8 S2)) t4))))))))))))))) (x9 (u8 S2)))
theorem all_mk {l:W.OpenLaw}{w:World}{K:W.Frag}{h:Heap}{mg:Str->Option Value}{fa bl cv bj be bk b8 b3 b9 cx b4 bc d2 bi bg d1 d0 cz cy ba bd bh b5 b7 S bf b6 bb cw bm d3 d4 b2:Addr}(X:K.In h)(G:h.Ns mainGlobals mg)(nr:mg "law"=some (.ref fa)){hd gp:Option Addr}{ew:Array (Option Value)}{g5 i0 im fj ck j9:Value}{ku kj:Option Addr}{jp:Array (Option Value)}{k9 l4 lg jz d5 lr:Value}{ha gn:Option Addr}{eu:Array (Option Value)}{g3 hy ik fh ci j7:Value}{h5 gi:Option Addr}{en:Array (Option Value)}{fy ht ie fb cd j1:Value}{hb go:Option Addr}{ev:Array (Option Value)}{g4 hz il fi cj j8:Value}{gx gc:Option Addr}{eh:Array (Option Value)}{fr hm i7 f4 c4 iv:Value}{gs g7:Option Addr}{ec:Array (Option Value)}{fm hf i2 ez bz ip:Value}{gy gd:Option Addr}{ei:Array (Option Value)}{ft hn i8 f5 c5 iw:Value}{kw kl:Option Addr}{jr:Array (Option Value)}{kb l6 li k1 d7 lt:Value}{gt g8:Option Addr}{ed:Array (Option Value)}{fn hg i3 f0 c0 iq:Value}{h3 gg:Option Addr}{el:Array (Option Value)}{fw hr ib f8 c8 iz:Value}{l1 kq:Option Addr}{jw:Array (Option Value)}{kg ld ln k6 dc ly:Value}{h9 gm:Option Addr}{et:Array (Option Value)}{g2 hx ij fg ch j6:Value}{h7 gk:Option Addr}{ep:Array (Option Value)}{g0 hv ih fe cf j3:Value}{l0 kp:Option Addr}{jv:Array (Option Value)}{kf lc lm k5 db lx:Value}{kz ko:Option Addr}{ju:Array (Option Value)}{ke l9 ll k4 da lw:Value}{ky kn:Option Addr}{jt:Array (Option Value)}{kd l8 lk k3 d9 lv:Value}{kx km:Option Addr}{js:Array (Option Value)}{kc l7 lj k2 d8 lu:Value}{gz ge:Option Addr}{ej:Array (Option Value)}{fu ho i9 f6 c6 ix:Value}{h4 gh:Option Addr}{em:Array (Option Value)}{fx hs ic f9 c9 j0:Value}{h8 gl:Option Addr}{er:Array (Option Value)}{g1 hw ii ff cg j5:Value}{gu g9:Option Addr}{ee:Array (Option Value)}{fo hh i4 f1 c1 ir:Value}{gw gb:Option Addr}{eg:Array (Option Value)}{fq hk i6 f3 c3 iu:Value}{am al:Option Addr}{ai:Array (Option Value)}{ak an ap aj a3 aq:Value}{h6 gj:Option Addr}{eo:Array (Option Value)}{fz hu ig fc ce j2:Value}{gv ga:Option Addr}{ef:Array (Option Value)}{fp hj i5 f2 c2 is:Value}{h0 gf:Option Addr}{ek:Array (Option Value)}{fv hq ia f7 c7 iy:Value}{kv kk:Option Addr}{jq:Array (Option Value)}{ka l5 lh k0 d6 ls:Value}{he gq:Option Addr}{ey:Array (Option Value)}{g6 i1 io fk cl ja:Value}{l2 kr:Option Addr}{jx:Array (Option Value)}{kh le lp k7 dd lz:Value}{l3 kt:Option Addr}{jy:Array (Option Value)}{ki lf lq k8 de m0:Value}{gr bu:Option Addr}{eb:Array (Option Value)}{fl bv bw bt ar bx:Value}
  (e_Z13:W.nsIn K mainGlobals "refuse_step"=some (some (.ref bl))) (l_Z13:K.lookup bl=some ⟨g5,hd,.func (W.fnOf "refuse_step" "refuse_step" (n4 yy3) (u7 yy3) (y9 yy3) .none i0 im fj gp ck j9),ew⟩) (c_Z13:W.codeIn K ck "refuse_step"=true) (k_Z13:W.keepIn K (.ref bl)=true)
  (e_Z9:W.nsIn K mainGlobals "later_steps"=some (some (.ref cv))) (l_Z9:K.lookup cv=some ⟨k9,ku,.func (W.fnOf "later_steps" "later_steps" (n4 s_Z9) (u7 s_Z9) (y9 s_Z9) .none l4 lg jz kj d5 lr),jp⟩) (c_Z9:W.codeIn K d5 "later_steps"=true) (k_Z9:W.keepIn K (.ref cv)=true)
  (e_Z15:W.nsIn K mainGlobals "are_places"=some (some (.ref bj))) (l_Z15:K.lookup bj=some ⟨g3,ha,.func (W.fnOf "are_places" "are_places" (n4 yy1) (u7 yy1) (y9 yy1) .none hy ik fh gn ci j7),eu⟩) (c_Z15:W.codeIn K ci "are_places"=true) (k_Z15:W.keepIn K (.ref bj)=true)
  (e_Z20:W.nsIn K mainGlobals "turns_of"=some (some (.ref be))) (l_Z20:K.lookup be=some ⟨fy,h5,.func (W.fnOf "turns_of" "turns_of" (n4 yz7) (u7 yz7) (y9 yz7) .none ht ie fb gi cd j1),en⟩) (c_Z20:W.codeIn K cd "turns_of"=true) (k_Z20:W.keepIn K (.ref be)=true)
  (e_Z14:W.nsIn K mainGlobals "go_by_turns"=some (some (.ref bk))) (l_Z14:K.lookup bk=some ⟨g4,hb,.func (W.fnOf "go_by_turns" "go_by_turns" (n4 yy2) (u7 yy2) (y9 yy2) .none hz il fi go cj j8),ev⟩) (c_Z14:W.codeIn K cj "go_by_turns"=true) (k_Z14:W.keepIn K (.ref bk)=true)
  (e_Z26:W.nsIn K mainGlobals "are_wavy"=some (some (.ref b8))) (l_Z26:K.lookup b8=some ⟨fr,gx,.func (W.fnOf "are_wavy" "are_wavy" (n4 zj6) (u7 zj6) (y9 zj6) .none hm i7 f4 gc c4 iv),eh⟩) (c_Z26:W.codeIn K c4 "are_wavy"=true) (k_Z26:W.keepIn K (.ref b8)=true)
  (e_Z31:W.nsIn K mainGlobals "tails"=some (some (.ref b3))) (l_Z31:K.lookup b3=some ⟨fm,gs,.func (W.fnOf "tails" "tails" (n4 zq4) (u7 zq4) (y9 zq4) .none hf i2 ez g7 bz ip),ec⟩) (c_Z31:W.codeIn K bz "tails"=true) (k_Z31:W.keepIn K (.ref b3)=true)
  (e_Z25:W.nsIn K mainGlobals "added_up"=some (some (.ref b9))) (l_Z25:K.lookup b9=some ⟨ft,gy,.func (W.fnOf "added_up" "added_up" (n4 zq5) (u7 zq5) (y9 zq5) .none hn i8 f5 gd c5 iw),ei⟩) (c_Z25:W.codeIn K c5 "added_up"=true) (k_Z25:W.keepIn K (.ref b9)=true)
  (e_Z7:W.nsIn K mainGlobals "longer_first"=some (some (.ref cx))) (l_Z7:K.lookup cx=some ⟨kb,kw,.func (W.fnOf "longer_first" "longer_first" (n4 s_Z7) (u7 s_Z7) (y9 s_Z7) .none l6 li k1 kl d7 lt),jr⟩) (c_Z7:W.codeIn K d7 "longer_first"=true) (k_Z7:W.keepIn K (.ref cx)=true)
  (e_Z30:W.nsIn K mainGlobals "longest"=some (some (.ref b4))) (l_Z30:K.lookup b4=some ⟨fn,gt,.func (W.fnOf "longest" "longest" (n4 yz0) (u7 yz0) (y9 yz0) .none hg i3 f0 g8 c0 iq),ed⟩) (c_Z30:W.codeIn K c0 "longest"=true) (k_Z30:W.keepIn K (.ref b4)=true)
  (e_Z22:W.nsIn K mainGlobals "how_long"=some (some (.ref bc))) (l_Z22:K.lookup bc=some ⟨fw,h3,.func (W.fnOf "how_long" "how_long" (n4 yz5) (u7 yz5) (y9 yz5) .none hr ib f8 gg c8 iz),el⟩) (c_Z22:W.codeIn K c8 "how_long"=true) (k_Z22:W.keepIn K (.ref bc)=true)
  (e_Z2:W.nsIn K mainGlobals "longest_behind"=some (some (.ref d2))) (l_Z2:K.lookup d2=some ⟨kg,l1,.func (W.fnOf "longest_behind" "longest_behind" (n4 s_Z2) (u7 s_Z2) (y9 s_Z2) .none ld ln k6 kq dc ly),jw⟩) (c_Z2:W.codeIn K dc "longest_behind"=true) (k_Z2:W.keepIn K (.ref d2)=true)
  (e_Z16:W.nsIn K mainGlobals "wavy_round"=some (some (.ref bi))) (l_Z16:K.lookup bi=some ⟨g2,h9,.func (W.fnOf "wavy_round" "wavy_round" (n4 zj8) (u7 zj8) (y9 zj8) .none hx ij fg gm ch j6),et⟩) (c_Z16:W.codeIn K ch "wavy_round"=true) (k_Z16:W.keepIn K (.ref bi)=true)
  (e_Z18:W.nsIn K mainGlobals "both_ways"=some (some (.ref bg))) (l_Z18:K.lookup bg=some ⟨g0,h7,.func (W.fnOf "both_ways" "both_ways" (n4 yz9) (u7 yz9) (y9 yz9) .none hv ih fe gk cf j3),ep⟩) (c_Z18:W.codeIn K cf "both_ways"=true) (k_Z18:W.keepIn K (.ref bg)=true)
  (e_Z3:W.nsIn K mainGlobals "longest_begun"=some (some (.ref d1))) (l_Z3:K.lookup d1=some ⟨kf,l0,.func (W.fnOf "longest_begun" "longest_begun" (n4 s_Z3) (u7 s_Z3) (y9 s_Z3) .none lc lm k5 kp db lx),jv⟩) (c_Z3:W.codeIn K db "longest_begun"=true) (k_Z3:W.keepIn K (.ref d1)=true)
  (e_Z4:W.nsIn K mainGlobals "longest_round"=some (some (.ref d0))) (l_Z4:K.lookup d0=some ⟨ke,kz,.func (W.fnOf "longest_round" "longest_round" (n4 s_Z4) (u7 s_Z4) (y9 s_Z4) .none l9 ll k4 ko da lw),ju⟩) (c_Z4:W.codeIn K da "longest_round"=true) (k_Z4:W.keepIn K (.ref d0)=true)
  (e_Z5:W.nsIn K mainGlobals "counts_begun"=some (some (.ref cz))) (l_Z5:K.lookup cz=some ⟨kd,ky,.func (W.fnOf "counts_begun" "counts_begun" (n4 s_Z5) (u7 s_Z5) (y9 s_Z5) .none l8 lk k3 kn d9 lv),jt⟩) (c_Z5:W.codeIn K d9 "counts_begun"=true) (k_Z5:W.keepIn K (.ref cz)=true)
  (e_Z6:W.nsIn K mainGlobals "counts_round"=some (some (.ref cy))) (l_Z6:K.lookup cy=some ⟨kc,kx,.func (W.fnOf "counts_round" "counts_round" (n4 s_Z6) (u7 s_Z6) (y9 s_Z6) .none l7 lj k2 km d8 lu),js⟩) (c_Z6:W.codeIn K d8 "counts_round"=true) (k_Z6:W.keepIn K (.ref cy)=true)
  (e_Z24:W.nsIn K mainGlobals "begun_at"=some (some (.ref ba))) (l_Z24:K.lookup ba=some ⟨fu,gz,.func (W.fnOf "begun_at" "begun_at" (n4 zj7) (u7 zj7) (y9 zj7) .none ho i9 f6 ge c6 ix),ej⟩) (c_Z24:W.codeIn K c6 "begun_at"=true) (k_Z24:W.keepIn K (.ref ba)=true)
  (e_Z21:W.nsIn K mainGlobals "_law_stir"=some (some (.ref bd))) (l_Z21:K.lookup bd=some ⟨fx,h4,.func (W.fnOf "_law_stir" "_law_stir" (n4 yz6) (u7 yz6) (y9 yz6) .none hs ic f9 gh c9 j0),em⟩) (c_Z21:W.codeIn K c9 "_law_stir"=true) (k_Z21:W.keepIn K (.ref bd)=true)
  (e_Z17:W.nsIn K mainGlobals "_law_cells"=some (some (.ref bh))) (l_Z17:K.lookup bh=some ⟨g1,h8,.func (W.fnOf "_law_cells" "_law_cells" (n4 yy0) (u7 yy0) (y9 yy0) .none hw ii ff gl cg j5),er⟩) (c_Z17:W.codeIn K cg "_law_cells"=true) (k_Z17:W.keepIn K (.ref bh)=true)
  (e_Z29:W.nsIn K mainGlobals "_law_row"=some (some (.ref b5))) (l_Z29:K.lookup b5=some ⟨fo,gu,.func (W.fnOf "_law_row" "_law_row" (n4 yz1) (u7 yz1) (y9 yz1) .none hh i4 f1 g9 c1 ir),ee⟩) (c_Z29:W.codeIn K c1 "_law_row"=true) (k_Z29:W.keepIn K (.ref b5)=true)
  (e_Z27:W.nsIn K mainGlobals "_law_step"=some (some (.ref b7))) (l_Z27:K.lookup b7=some ⟨fq,gw,.func (W.fnOf "_law_step" "_law_step" (n4 yz3) (u7 yz3) (y9 yz3) .none hk i6 f3 gb c3 iu),eg⟩) (c_Z27:W.codeIn K c3 "_law_step"=true) (k_Z27:W.keepIn K (.ref b7)=true)
  (e_law_same:W.nsIn K mainGlobals "_law_same"=some (some (.ref S))) (l_law_same:K.lookup S=some ⟨ak,am,.func (W.fnOf "_law_same" "_law_same" (n4 R4) (u7 R4) (y9 R4) .none an ap aj al a3 aq),ai⟩) (c_law_same:W.codeIn K a3 "_law_same"=true) (k_law_same:W.keepIn K (.ref S)=true)
  (e_Z19:W.nsIn K mainGlobals "_law_flags"=some (some (.ref bf))) (l_Z19:K.lookup bf=some ⟨fz,h6,.func (W.fnOf "_law_flags" "_law_flags" (n4 yz8) (u7 yz8) (y9 yz8) .none hu ig fc gj ce j2),eo⟩) (c_Z19:W.codeIn K ce "_law_flags"=true) (k_Z19:W.keepIn K (.ref bf)=true)
  (e_Z28:W.nsIn K mainGlobals "_law_far"=some (some (.ref b6))) (l_Z28:K.lookup b6=some ⟨fp,gv,.func (W.fnOf "_law_far" "_law_far" (n4 yz2) (u7 yz2) (y9 yz2) .none hj i5 f2 ga c2 is),ef⟩) (c_Z28:W.codeIn K c2 "_law_far"=true) (k_Z28:W.keepIn K (.ref b6)=true)
  (e_Z23:W.nsIn K mainGlobals "_law_some"=some (some (.ref bb))) (l_Z23:K.lookup bb=some ⟨fv,h0,.func (W.fnOf "_law_some" "_law_some" (n4 yz4) (u7 yz4) (y9 yz4) .none hq ia f7 gf c7 iy),ek⟩) (c_Z23:W.codeIn K c7 "_law_some"=true) (k_Z23:W.keepIn K (.ref bb)=true)
  (e_Z8:W.nsIn K mainGlobals "_law_by_turns"=some (some (.ref cw))) (l_Z8:K.lookup cw=some ⟨ka,kv,.func (W.fnOf "_law_by_turns" "_law_by_turns" (n4 s_Z8) (u7 s_Z8) (y9 s_Z8) .none l5 lh k0 kk d6 ls),jq⟩) (c_Z8:W.codeIn K d6 "_law_by_turns"=true) (k_Z8:W.keepIn K (.ref cw)=true)
  (e_Z10:W.nsIn K mainGlobals "_law_refused"=some (some (.ref bm))) (l_Z10:K.lookup bm=some ⟨g6,he,.func (W.fnOf "_law_refused" "_law_refused" (n4 yy4) (u7 yy4) (y9 yy4) .none i1 io fk gq cl ja),ey⟩) (c_Z10:W.codeIn K cl "_law_refused"=true) (k_Z10:W.keepIn K (.ref bm)=true)
  (e_Z1:W.nsIn K mainGlobals "_law_begun_right"=some (some (.ref d3))) (l_Z1:K.lookup d3=some ⟨kh,l2,.func (W.fnOf "_law_begun_right" "_law_begun_right" (n4 s_Z1) (u7 s_Z1) (y9 s_Z1) .none le lp k7 kr dd lz),jx⟩) (c_Z1:W.codeIn K dd "_law_begun_right"=true) (k_Z1:W.keepIn K (.ref d3)=true)
  (e_Z0:W.nsIn K mainGlobals "_law_moved_right"=some (some (.ref d4))) (l_Z0:K.lookup d4=some ⟨ki,l3,.func (W.fnOf "_law_moved_right" "_law_moved_right" (n4 s_Z0) (u7 s_Z0) (y9 s_Z0) .none lf lq k8 kt de m0),jy⟩) (c_Z0:W.codeIn K de "_law_moved_right"=true) (k_Z0:W.keepIn K (.ref d4)=true)
  (e_Z32:W.nsIn K mainGlobals "law"=some (some (.ref b2))) (l_Z32:K.lookup b2=some ⟨fl,gr,.func (W.fnOf "law" "law" (n4 G9) (u7 G9) (y9 G9) .none bv bw bt bu ar bx),eb⟩) (c_Z32:W.codeIn K ar "law"=true) (k_Z32:W.keepIn K (.ref b2)=true) {a0:Addr} {J:Addr} {i:Addr} {Z:Addr} {Y:Addr} {I:Addr} {O:Addr} {N:Addr}
  (e_NoForm:W.nsIn K mainGlobals "NoForm"=some (some (.ref a0)))
  (e_NoNumber:W.nsIn K mainGlobals "NoNumber"=some (some (.ref J)))
  (e_NoPlace:W.nsIn K mainGlobals "NoPlace"=some (some (.ref i)))
  (e_NoStep:W.nsIn K mainGlobals "NoStep"=some (some (.ref Z)))
  (e_NoText:W.nsIn K mainGlobals "NoText"=some (some (.ref Y)))
  (e_NoWeights:W.nsIn K mainGlobals "NoWeights"=some (some (.ref I)))
  (e_NoneYet:W.nsIn K mainGlobals "NoneYet"=some (some (.ref O)))
  (e_WaveError:W.nsIn K mainGlobals "WaveError"=some (some (.ref N)))
  (n_NoPlace:xx8 K i=some "NoPlace")
  (q_NoPlace:W.excIn K i bmV "ValueError.__new__"=true)
  (w_NoPlace:xx6 K i=true)
  (m_NoPlace_WaveError:W.exmOne K (.ref i) (.ref N)=some true)
  (i_NoPlace_NoForm:W.kitOne K (.ref i) (.ref a0)=some false)
  (i_NoPlace_NoNumber:W.kitOne K (.ref i) (.ref J)=some false)
  (i_NoPlace_NoPlace:W.kitOne K (.ref i) (.ref i)=some true)
  (i_NoPlace_NoStep:W.kitOne K (.ref i) (.ref Z)=some false)
  (i_NoPlace_NoText:W.kitOne K (.ref i) (.ref Y)=some false)
  (i_NoPlace_NoWeights:W.kitOne K (.ref i) (.ref I)=some false)
  (i_NoPlace_NoneYet:W.kitOne K (.ref i) (.ref O)=some false)
  (j_NoPlace_ValueError:W.kitOne K (.ref i) (.type "ValueError")=some true)
  (y_ValueError:W.nsIn K mainGlobals "ValueError"=some none)
  (y_abs:W.nsIn K mainGlobals "abs"=some none)
  (y_any:W.nsIn K mainGlobals "any"=some none)
  (y_bool:W.nsIn K mainGlobals "bool"=some none)
  (y_enumerate:W.nsIn K mainGlobals "enumerate"=some none)
  (y_int:W.nsIn K mainGlobals "int"=some none)
  (y_isinstance:W.nsIn K mainGlobals "isinstance"=some none)
  (y_len:W.nsIn K mainGlobals "len"=some none)
  (y_list:W.nsIn K mainGlobals "list"=some none)
  (y_max:W.nsIn K mainGlobals "max"=some none)
  (y_min:W.nsIn K mainGlobals "min"=some none)
  (y_range:W.nsIn K mainGlobals "range"=some none)
  (y_reversed:W.nsIn K mainGlobals "reversed"=some none)
  (y_sorted:W.nsIn K mainGlobals "sorted"=some none)
  (y_str:W.nsIn K mainGlobals "str"=some none)
  (y_sum:W.nsIn K mainGlobals "sum"=some none)
  (y_tuple:W.nsIn K mainGlobals "tuple"=some none)
  (y_zip:W.nsIn K mainGlobals "zip"=some none):
  ∃ fd:FuncData,(∀(s:Shared)(v:Value),BindsTo s fd ⟨[v],[]⟩ [("script",v)])/\∀ base:Heap,K.In base->base.Ns mainGlobals mg->FnOk l.prog w K mg base CX0 5 fa fd ["script"] (spR K 1 zi7):=by
 have e:=nr.symm.trans (W.mg_of X G e_Z32)
 cases e
 have e9:=j4 (st:=yy3) l_Z13 c_Z13 k_Z13
 have b_Z13:=e9.binds (ps:=["step"]) fun _ _ _ _ _ _ us q=>by refine us1 (P:=fun vs=>bindArgs _ { pos:=vs }=pure (List.zip _ vs)) ?_ us q;intros;rfl
 have ae:=W.mg_of X G e_Z13
 have je:=j4 (st:=s_Z9) l_Z9 c_Z9 k_Z9
 have b_Z9:=je.binds (ps:=["row","step"]) fun _ _ _ _ _ _ us q=>by refine us2 (P:=fun vs=>bindArgs _ { pos:=vs }=pure (List.zip _ vs)) ?_ us q;intros;rfl
 have n5:=W.mg_of X G e_Z9
 have e7:=j4 (st:=yy1) l_Z15 c_Z15 k_Z15
 have b_Z15:=e7.binds (ps:=["row","places"]) fun _ _ _ _ _ _ us q=>by refine us2 (P:=fun vs=>bindArgs _ { pos:=vs }=pure (List.zip _ vs)) ?_ us q;intros;rfl
 have dh:=W.mg_of X G e_Z15
 have e1:=j4 (st:=yz7) l_Z20 c_Z20 k_Z20
 have b_Z20:=e1.binds (ps:=["numbers"]) fun _ _ _ _ _ _ us q=>by refine us1 (P:=fun vs=>bindArgs _ { pos:=vs }=pure (List.zip _ vs)) ?_ us q;intros;rfl
 have md:=W.mg_of X G e_Z20
 have e8:=j4 (st:=yy2) l_Z14 c_Z14 k_Z14
 have b_Z14:=e8.binds (ps:=["numbers","step"]) fun _ _ _ _ _ _ us q=>by refine us2 (P:=fun vs=>bindArgs _ { pos:=vs }=pure (List.zip _ vs)) ?_ us q;intros;rfl
 have di:=W.mg_of X G e_Z14
 have dv:=j4 (st:=zj6) l_Z26 c_Z26 k_Z26
 have b_Z26:=dv.binds (ps:=["row","step","places"]) fun _ _ _ _ _ _ us q=>by refine us3 (P:=fun vs=>bindArgs _ { pos:=vs }=pure (List.zip _ vs)) ?_ us q;intros;rfl
 have m7:=W.mg_of X G e_Z26
 have dp:=j4 (st:=zq4) l_Z31 c_Z31 k_Z31
 have b_Z31:=dp.binds (ps:=["row","step"]) fun _ _ _ _ _ _ us q=>by refine us2 (P:=fun vs=>bindArgs _ { pos:=vs }=pure (List.zip _ vs)) ?_ us q;intros;rfl
 have m2:=W.mg_of X G e_Z31
 have dw:=j4 (st:=zq5) l_Z25 c_Z25 k_Z25
 have b_Z25:=dw.binds (ps:=["tails","laters"]) fun _ _ _ _ _ _ us q=>by refine us2 (P:=fun vs=>bindArgs _ { pos:=vs }=pure (List.zip _ vs)) ?_ us q;intros;rfl
 have m8:=W.mg_of X G e_Z25
 have jg:=j4 (st:=s_Z7) l_Z7 c_Z7 k_Z7
 have b_Z7:=jg.binds (ps:=["places"]) fun _ _ _ _ _ _ us q=>by refine us1 (P:=fun vs=>bindArgs _ { pos:=vs }=pure (List.zip _ vs)) ?_ us q;intros;rfl
 have jc:=W.mg_of X G e_Z7
 have dq:=j4 (st:=yz0) l_Z30 c_Z30 k_Z30
 have b_Z30:=dq.binds (ps:=["row","step"]) fun _ _ _ _ _ _ us q=>by refine us2 (P:=fun vs=>bindArgs _ { pos:=vs }=pure (List.zip _ vs)) ?_ us q;intros;rfl
 have m3:=W.mg_of X G e_Z30
 have dz:=j4 (st:=yz5) l_Z22 c_Z22 k_Z22
 have b_Z22:=dz.binds (ps:=["row","step"]) fun _ _ _ _ _ _ us q=>by refine us2 (P:=fun vs=>bindArgs _ { pos:=vs }=pure (List.zip _ vs)) ?_ us q;intros;rfl
 have mc:=W.mg_of X G e_Z22
 have jl:=j4 (st:=s_Z2) l_Z2 c_Z2 k_Z2
 have b_Z2:=jl.binds (ps:=["tails","laters"]) fun _ _ _ _ _ _ us q=>by refine us2 (P:=fun vs=>bindArgs _ { pos:=vs }=pure (List.zip _ vs)) ?_ us q;intros;rfl
 have nd:=W.mg_of X G e_Z2
 have e6:=j4 (st:=zj8) l_Z16 c_Z16 k_Z16
 have b_Z16:=e6.binds (ps:=["row","step","places"]) fun _ _ _ _ _ _ us q=>by refine us3 (P:=fun vs=>bindArgs _ { pos:=vs }=pure (List.zip _ vs)) ?_ us q;intros;rfl
 have dg:=W.mg_of X G e_Z16
 have e4:=j4 (st:=yz9) l_Z18 c_Z18 k_Z18
 have b_Z18:=e4.binds (ps:=["row","step"]) fun _ _ _ _ _ _ us q=>by refine us2 (P:=fun vs=>bindArgs _ { pos:=vs }=pure (List.zip _ vs)) ?_ us q;intros;rfl
 have df:=W.mg_of X G e_Z18
 have jk:=j4 (st:=s_Z3) l_Z3 c_Z3 k_Z3
 have b_Z3:=jk.binds (ps:=["first","nexts","backs"]) fun _ _ _ _ _ _ us q=>by refine us3 (P:=fun vs=>bindArgs _ { pos:=vs }=pure (List.zip _ vs)) ?_ us q;intros;rfl
 have nc:=W.mg_of X G e_Z3
 have jj:=j4 (st:=s_Z4) l_Z4 c_Z4 k_Z4
 have b_Z4:=jj.binds (ps:=["row","step"]) fun _ _ _ _ _ _ us q=>by refine us2 (P:=fun vs=>bindArgs _ { pos:=vs }=pure (List.zip _ vs)) ?_ us q;intros;rfl
 have n9:=W.mg_of X G e_Z4
 have ji:=j4 (st:=s_Z5) l_Z5 c_Z5 k_Z5
 have b_Z5:=ji.binds (ps:=["first","nexts","backs"]) fun _ _ _ _ _ _ us q=>by refine us3 (P:=fun vs=>bindArgs _ { pos:=vs }=pure (List.zip _ vs)) ?_ us q;intros;rfl
 have n8:=W.mg_of X G e_Z5
 have jh:=j4 (st:=s_Z6) l_Z6 c_Z6 k_Z6
 have b_Z6:=jh.binds (ps:=["row","step"]) fun _ _ _ _ _ _ us q=>by refine us2 (P:=fun vs=>bindArgs _ { pos:=vs }=pure (List.zip _ vs)) ?_ us q;intros;rfl
 have n7:=W.mg_of X G e_Z6
 have br:=j4 (st:=zj7) l_Z24 c_Z24 k_Z24
 have b_Z24:=br.binds (ps:=["row","place"]) fun _ _ _ _ _ _ us q=>by refine us2 (P:=fun vs=>bindArgs _ { pos:=vs }=pure (List.zip _ vs)) ?_ us q;intros;rfl
 have as:=W.mg_of X G e_Z24
 have e0:=j4 (st:=yz6) l_Z21 c_Z21 k_Z21
 have b_Z21:=e0.binds (ps:=["cell","k"]) fun _ _ _ _ _ _ us q=>by refine us2 (P:=fun vs=>bindArgs _ { pos:=vs }=pure (List.zip _ vs)) ?_ us q;intros;rfl
 have a4:=W.mg_of X G e_Z21
 have e5:=j4 (st:=yy0) l_Z17 c_Z17 k_Z17
 have b_Z17:=e5.binds (ps:=["script","many"]) fun _ _ _ _ _ _ us q=>by refine us2 (P:=fun vs=>bindArgs _ { pos:=vs }=pure (List.zip _ vs)) ?_ us q;intros;rfl
 have mh:=W.mg_of X G e_Z17
 have dr:=j4 (st:=yz1) l_Z29 c_Z29 k_Z29
 have b_Z29:=dr.binds (ps:=["cell","most"]) fun _ _ _ _ _ _ us q=>by refine us2 (P:=fun vs=>bindArgs _ { pos:=vs }=pure (List.zip _ vs)) ?_ us q;intros;rfl
 have m4:=W.mg_of X G e_Z29
 have du:=j4 (st:=yz3) l_Z27 c_Z27 k_Z27
 have b_Z27:=du.binds (ps:=["cell"]) fun _ _ _ _ _ _ us q=>by refine us1 (P:=fun vs=>bindArgs _ { pos:=vs }=pure (List.zip _ vs)) ?_ us q;intros;rfl
 have m6:=W.mg_of X G e_Z27
 have U:=j4 (st:=R4) l_law_same c_law_same k_law_same
 have a8:=U.binds (ps:=["found","due"]) fun _ _ _ _ _ _ us q=>by refine us2 (P:=fun vs=>bindArgs _ { pos:=vs }=pure (List.zip _ vs)) ?_ us q;intros;rfl
 have a9:=W.mg_of X G e_law_same
 have e2:=j4 (st:=yz8) l_Z19 c_Z19 k_Z19
 have b_Z19:=e2.binds (ps:=["e"]) fun _ _ _ _ _ _ us q=>by refine us1 (P:=fun vs=>bindArgs _ { pos:=vs }=pure (List.zip _ vs)) ?_ us q;intros;rfl
 have me:=W.mg_of X G e_Z19
 have dt:=j4 (st:=yz2) l_Z28 c_Z28 k_Z28
 have b_Z28:=dt.binds (ps:=["cell","k"]) fun _ _ _ _ _ _ us q=>by refine us2 (P:=fun vs=>bindArgs _ { pos:=vs }=pure (List.zip _ vs)) ?_ us q;intros;rfl
 have m5:=W.mg_of X G e_Z28
 have dy:=j4 (st:=yz4) l_Z23 c_Z23 k_Z23
 have b_Z23:=dy.binds (ps:=["cell","k","size"]) fun _ _ _ _ _ _ us q=>by refine us3 (P:=fun vs=>bindArgs _ { pos:=vs }=pure (List.zip _ vs)) ?_ us q;intros;rfl
 have m9:=W.mg_of X G e_Z23
 have jf:=j4 (st:=s_Z8) l_Z8 c_Z8 k_Z8
 have b_Z8:=jf.binds (ps:=["cell","k","row","step"]) fun _ _ _ _ _ _ us q=>by refine us4 (P:=fun vs=>bindArgs _ { pos:=vs }=pure (List.zip _ vs)) ?_ us q;intros;rfl
 have n6:=W.mg_of X G e_Z8
 have ea:=j4 (st:=yy4) l_Z10 c_Z10 k_Z10
 have b_Z10:=ea.binds (ps:=["row","place"]) fun _ _ _ _ _ _ us q=>by refine us2 (P:=fun vs=>bindArgs _ { pos:=vs }=pure (List.zip _ vs)) ?_ us q;intros;rfl
 have mi:=W.mg_of X G e_Z10
 have jm:=j4 (st:=s_Z1) l_Z1 c_Z1 k_Z1
 have b_Z1:=jm.binds (ps:=["cell","row"]) fun _ _ _ _ _ _ us q=>by refine us2 (P:=fun vs=>bindArgs _ { pos:=vs }=pure (List.zip _ vs)) ?_ us q;intros;rfl
 have ne:=W.mg_of X G e_Z1
 have jn:=j4 (st:=s_Z0) l_Z0 c_Z0 k_Z0
 have b_Z0:=jn.binds (ps:=["row","step","place","some"]) fun _ _ _ _ _ _ us q=>by refine us4 (P:=fun vs=>bindArgs _ { pos:=vs }=pure (List.zip _ vs)) ?_ us q;intros;rfl
 have nf:=W.mg_of X G e_Z0
 have dn:=j4 (st:=G9) l_Z32 c_Z32 k_Z32
 have yb9:=dn.binds (ps:=["script"]) fun _ _ _ _ _ _ us q=>by refine us1 (P:=fun vs=>bindArgs _ { pos:=vs }=pure (List.zip _ vs)) ?_ us q;intros;rfl
 have ns:=W.mg_of X G e_Z32
 have ag:=W.mg_none_of X G y_ValueError
 have cu:=W.mg_none_of X G y_abs
 have jo:=W.mg_none_of X G y_any
 have bs:=W.mg_none_of X G y_bool
 have M:=W.mg_none_of X G y_enumerate
 have ct:=W.mg_none_of X G y_int
 have L:=W.mg_none_of X G y_isinstance
 have j:=W.mg_none_of X G y_len
 have a2:=W.mg_none_of X G y_list
 have ab:=W.mg_none_of X G y_max
 have aa:=W.mg_none_of X G y_min
 have z:=W.mg_none_of X G y_range
 have a6:=W.mg_none_of X G y_reversed
 have cm:=W.mg_none_of X G y_sorted
 have cs:=W.mg_none_of X G y_str
 have cr:=W.mg_none_of X G y_sum
 have ax:=W.mg_none_of X G y_tuple
 have b1:=W.mg_none_of X G y_zip
 have cq:=W.mg_of X G e_NoForm
 have b0:=W.mg_of X G e_NoNumber
 have a1:=W.mg_of X G e_NoPlace
 have cp:=W.mg_of X G e_NoStep
 have co:=W.mg_of X G e_NoText
 have av:=W.mg_of X G e_NoWeights
 have bq:=W.mg_of X G e_NoneYet
 have au:=W.mg_of X G e_WaveError
 have a7:XC K "NoPlace" i:=⟨e_NoPlace,n_NoPlace⟩
 have ac:∀ c∈(["NoPlace"]:List Str),∀ C,XC K c C->W.exmOne K (.ref C) (.ref N)=some true:=by
  intro c hc C h
  simp only[mem_cons,not_mem_nil,or_false]at hc
  rcases hc with rfl
  .rw[h.eq e_NoPlace];exact m_NoPlace_WaveError
 have bp:∀ c k,([("NoPlace",false)]:List (Str×Bool)).lookup c=some k->∀ C,XC K c C->XCls K C/\W.kitOne K (.ref C) (.ref a0)=some k:=Y0 (P:=fun c k=>∀ C,XC K c C->XCls K C/\W.kitOne K (.ref C) (.ref a0)=some k) (by
  intro p hp
  simp only[mem_cons,not_mem_nil,or_false]at hp
  rcases hp with rfl
  .intro C h;rw[h.eq e_NoPlace];exact⟨S0 w_NoPlace,i_NoPlace_NoForm⟩
  )
 have ao:∀ c k,([("NoPlace",false)]:List (Str×Bool)).lookup c=some k->∀ C,XC K c C->XCls K C/\W.kitOne K (.ref C) (.ref J)=some k:=Y0 (P:=fun c k=>∀ C,XC K c C->XCls K C/\W.kitOne K (.ref C) (.ref J)=some k) (by
  intro p hp
  simp only[mem_cons,not_mem_nil,or_false]at hp
  rcases hp with rfl
  .intro C h;rw[h.eq e_NoPlace];exact⟨S0 w_NoPlace,i_NoPlace_NoNumber⟩
  )
 have az:∀ c k,([("NoPlace",true)]:List (Str×Bool)).lookup c=some k->∀ C,XC K c C->XCls K C/\W.kitOne K (.ref C) (.ref i)=some k:=Y0 (P:=fun c k=>∀ C,XC K c C->XCls K C/\W.kitOne K (.ref C) (.ref i)=some k) (by
  intro p hp
  simp only[mem_cons,not_mem_nil,or_false]at hp
  rcases hp with rfl
  .intro C h;rw[h.eq e_NoPlace];exact⟨S0 w_NoPlace,i_NoPlace_NoPlace⟩
  )
 have bo:∀ c k,([("NoPlace",false)]:List (Str×Bool)).lookup c=some k->∀ C,XC K c C->XCls K C/\W.kitOne K (.ref C) (.ref Z)=some k:=Y0 (P:=fun c k=>∀ C,XC K c C->XCls K C/\W.kitOne K (.ref C) (.ref Z)=some k) (by
  intro p hp
  simp only[mem_cons,not_mem_nil,or_false]at hp
  rcases hp with rfl
  .intro C h;rw[h.eq e_NoPlace];exact⟨S0 w_NoPlace,i_NoPlace_NoStep⟩
  )
 have bn:∀ c k,([("NoPlace",false)]:List (Str×Bool)).lookup c=some k->∀ C,XC K c C->XCls K C/\W.kitOne K (.ref C) (.ref Y)=some k:=Y0 (P:=fun c k=>∀ C,XC K c C->XCls K C/\W.kitOne K (.ref C) (.ref Y)=some k) (by
  intro p hp
  simp only[mem_cons,not_mem_nil,or_false]at hp
  rcases hp with rfl
  .intro C h;rw[h.eq e_NoPlace];exact⟨S0 w_NoPlace,i_NoPlace_NoText⟩
  )
 have ah:∀ c k,([("NoPlace",false)]:List (Str×Bool)).lookup c=some k->∀ C,XC K c C->XCls K C/\W.kitOne K (.ref C) (.ref I)=some k:=Y0 (P:=fun c k=>∀ C,XC K c C->XCls K C/\W.kitOne K (.ref C) (.ref I)=some k) (by
  intro p hp
  simp only[mem_cons,not_mem_nil,or_false]at hp
  rcases hp with rfl
  .intro C h;rw[h.eq e_NoPlace];exact⟨S0 w_NoPlace,i_NoPlace_NoWeights⟩
  )
 have ay:∀ c k,([("NoPlace",false)]:List (Str×Bool)).lookup c=some k->∀ C,XC K c C->XCls K C/\W.kitOne K (.ref C) (.ref O)=some k:=Y0 (P:=fun c k=>∀ C,XC K c C->XCls K C/\W.kitOne K (.ref C) (.ref O)=some k) (by
  intro p hp
  simp only[mem_cons,not_mem_nil,or_false]at hp
  rcases hp with rfl
  .intro C h;rw[h.eq e_NoPlace];exact⟨S0 w_NoPlace,i_NoPlace_NoneYet⟩
  )
 have ad:∀ c k,([("NoPlace",true)]:List (Str×Bool)).lookup c=some k->∀ C,XC K c C->XCls K C/\W.kitOne K (.ref C) (.type "ValueError")=some k:=Y0 (P:=fun c k=>∀ C,XC K c C->XCls K C/\W.kitOne K (.ref C) (.type "ValueError")=some k) (by
  intro p hp
  simp only[mem_cons,not_mem_nil,or_false]at hp
  rcases hp with rfl
  .intro C h;rw[h.eq e_NoPlace];exact⟨S0 w_NoPlace,j_NoPlace_ValueError⟩
  )
 refine⟨W.fnOf "law" "law" (n4 G9) (u7 G9) (y9 G9) .none bv bw bt bu ar bx,fun s v=>.of_eq rfl,fun base _ _=>?_⟩
 have af:=xe2 (P:=l.prog) (w:=w) (mg:=mg) (base:=base) e9
 have ng:=wy2 (P:=l.prog) (w:=w) (mg:=mg) (base:=base) je         M j z
 have dl:=xe0 (P:=l.prog) (w:=w) (mg:=mg) (base:=base) e7         j
 have mw:=xf5 (P:=l.prog) (w:=w) (mg:=mg) (base:=base) e1         ab aa b1
 have dm:=xe1 (P:=l.prog) (w:=w) (mg:=mg) (base:=base) e8  mw b_Z20 k_Z20 md       cu j ab b1
 have mr:=xg9 (P:=l.prog) (w:=w) (mg:=mg) (base:=base) dv  dl b_Z15 k_Z15 dh dm b_Z14 k_Z14 di af b_Z13 k_Z13 ae
 have ml:=xg4 (P:=l.prog) (w:=w) (mg:=mg) (base:=base) dp         j z a6
 have ms:=xf0 (P:=l.prog) (w:=w) (mg:=mg) (base:=base) dw         cr
 have jd:=wy4 (P:=l.prog) (w:=w) (mg:=mg) (base:=base) jg         j
 have mm:=xg5 (P:=l.prog) (w:=w) (mg:=mg) (base:=base) dq  jd b_Z7 k_Z7 jc af b_Z13 k_Z13 ae ml b_Z31 k_Z31 m2       aa
 have mu:=xf3 (P:=l.prog) (w:=w) (mg:=mg) (base:=base) dz  mm b_Z30 k_Z30 m3       j
 have nn:=wy9 (P:=l.prog) (w:=w) (mg:=mg) (base:=base) jl         j ab
 have dk:=xf9 (P:=l.prog) (w:=w) (mg:=mg) (base:=base) e6  dl b_Z15 k_Z15 dh dm b_Z14 k_Z14 di af b_Z13 k_Z13 ae
 have dj:=xf7 (P:=l.prog) (w:=w) (mg:=mg) (base:=base) e4  ng b_Z9 k_Z9 n5
 have nl:=wy8 (P:=l.prog) (w:=w) (mg:=mg) (base:=base) jk  nn b_Z2 k_Z2 nd       j z a6
 have nk:=wy7 (P:=l.prog) (w:=w) (mg:=mg) (base:=base) jj  dj b_Z18 k_Z18 df jd b_Z7 k_Z7 jc nl b_Z3 k_Z3 nc af b_Z13 k_Z13 ae       j aa z
 have nj:=wy6 (P:=l.prog) (w:=w) (mg:=mg) (base:=base) ji  ms b_Z25 k_Z25 m8       jo j z cr
 have ni:=wy5 (P:=l.prog) (w:=w) (mg:=mg) (base:=base) jh  dj b_Z18 k_Z18 df nj b_Z5 k_Z5 n8 af b_Z13 k_Z13 ae       M j z
 have aw:=xf1 (P:=l.prog) (w:=w) (mg:=mg) (base:=base) br      a1 a7 q_NoPlace   j
 have jb:=xs8 (P:=l.prog) (w:=w) (mg:=mg) (base:=base) br      a1 a7 q_NoPlace   j
 have a5:=xf4 (P:=l.prog) (w:=w) (mg:=mg) (base:=base) e0
 have n0:=xf8 (P:=l.prog) (w:=w) (mg:=mg) (base:=base) e5         j ab aa
 have mn:=xg6 (P:=l.prog) (w:=w) (mg:=mg) (base:=base) dr  a5 b_Z21 k_Z21 a4       aa z
 have mq:=xg8 (P:=l.prog) (w:=w) (mg:=mg) (base:=base) du  a5 b_Z21 k_Z21 a4
 have n2:=xe4 (P:=l.prog) (w:=w) (mg:=mg) (base:=base) U         bs ct L j a2 cs ax
 have n1:=xe3 (P:=l.prog) (w:=w) (mg:=mg) (base:=base) U  n2 a8 k_law_same a9       bs ct L j a2 cs ax b1
 have my:=xf6 (P:=l.prog) (w:=w) (mg:=mg) (base:=base) e2      cq b0 a1 cp co av bq bp ao az bo bn ah ay ad   ag L
 have mp:=xg7 (P:=l.prog) (w:=w) (mg:=mg) (base:=base) dt  a5 b_Z21 k_Z21 a4
 have mt:=xf2 (P:=l.prog) (w:=w) (mg:=mg) (base:=base) dy  a5 b_Z21 k_Z21 a4       z
 have nh:=wy3 (P:=l.prog) (w:=w) (mg:=mg) (base:=base) jf  a5 b_Z21 k_Z21 a4       cu M
 have n3:=xe6 (P:=l.prog) (w:=w) (mg:=mg) (base:=base) ea  my b_Z19 k_Z19 me aw b_Z24 k_Z24 as   jb au ac
 have no:=wx0 (P:=l.prog) (w:=w) (mg:=mg) (base:=base) jm  mp b_Z28 k_Z28 m5 n3 b_Z10 k_Z10 mi n1 a8 k_law_same a9 aw b_Z24 k_Z24 as       j a2 z
 have nq:=wx1 (P:=l.prog) (w:=w) (mg:=mg) (base:=base) jn  aw b_Z24 k_Z24 as dk b_Z16 k_Z16 dg       j a2 cm
 have mj:=xg3 (P:=l.prog) (w:=w) (mg:=mg) (base:=base) dn  no b_Z1 k_Z1 ne nh b_Z8 k_Z8 n6 n0 b_Z17 k_Z17 mh nq b_Z0 k_Z0 nf mn b_Z29 k_Z29 m4 mt b_Z23 k_Z23 m9 mq b_Z27 k_Z27 m6 a5 b_Z21 k_Z21 a4 mr b_Z26 k_Z26 m7 aw b_Z24 k_Z24 as ni b_Z6 k_Z6 n7 mu b_Z22 k_Z22 mc nk b_Z4 k_Z4 n9 dk b_Z16 k_Z16 dg       j a2 ab
 exact mj
theorem walk {l:W.OpenLaw}{q:Program}{i:List Str}{O:(Str->Option Value)->Heap->Prop}{J:World->Heap->Prop}{d:DefRec}{K:Params->W.Frag}(hn:l.most=some 63)(G:d.params.defaults=[])
  (j:∀ ns:List Int,ns.length<=63->zi7 [.lst (ns.map .int)]=some (.sh (.bl true)))
  (M:∀(w:World)(h:Heap),J w h->(K w.params).In h)
  (F:∀(w:World)(mg:Str->Option Value)(I:Addr)(h:Heap),(K w.params).In h->h.Ns mainGlobals mg->mg d.name=some (.ref I)->
   ∃ fd:FuncData,(∀(s:Shared)(u:Value),BindsTo s fd ⟨[u],[]⟩ [("script",u)])/\∀ base:Heap,(K w.params).In base->base.Ns mainGlobals mg->FnOk l.prog w (K w.params) mg base CX0 5 I fd ["script"] (spR (K w.params) 1 zi7)):
  W.WalkO q i O J l.row.toRowW d [] (fun f vs=>PySem.call f vs):=
 L2.walk_of (n:=63) (k:=5) (x:="script") (CX:=fun _=>CX0) (sp:=fun w=>spR (K w.params) 1 zi7) hn (by decide) G ⟨rfl,by decide,by decide⟩ M F (fun w H a ns L _ N=>xm5 j H a ns L N _) fun _ _ _ _ _ z=>z
end
end Lw
open PySem PySem.W PyProof.Rows
set_option maxRecDepth 100000 in
set_option maxHeartbeats 0 in
theorem PySem.Challenge.cw_wavyrow_k50_whole_rings_begun_elsewhere_holds : PySem.Challenge.rw_wavyrow_k50_whole_rings_begun_elsewhere.Holds := by
 w_on;o_law;k_head;(case hw=>w_witness2)
 k_fill
 refine Lw.walk (l:=PySem.Challenge.rw_wavyrow_k50_whole_rings_begun_elsewhere) rfl rfl Lw.law_true (fun w h Y=>PySem.W.kIn_of Y) ?F
 case F=>
  intro w mg fa h KX G hmg
  refine' Lw.all_mk KX G hmg  ?e_Z13 ?l_Z13 ?c_Z13 ?k_Z13 ?e_Z9 ?l_Z9 ?c_Z9 ?k_Z9 ?e_Z15 ?l_Z15 ?c_Z15 ?k_Z15 ?e_Z20 ?l_Z20 ?c_Z20 ?k_Z20 ?e_Z14 ?l_Z14 ?c_Z14 ?k_Z14 ?e_Z26 ?l_Z26 ?c_Z26 ?k_Z26 ?e_Z31 ?l_Z31 ?c_Z31 ?k_Z31 ?e_Z25 ?l_Z25 ?c_Z25 ?k_Z25 ?e_Z7 ?l_Z7 ?c_Z7 ?k_Z7 ?e_Z30 ?l_Z30 ?c_Z30 ?k_Z30 ?e_Z22 ?l_Z22 ?c_Z22 ?k_Z22 ?e_Z2 ?l_Z2 ?c_Z2 ?k_Z2 ?e_Z16 ?l_Z16 ?c_Z16 ?k_Z16 ?e_Z18 ?l_Z18 ?c_Z18 ?k_Z18 ?e_Z3 ?l_Z3 ?c_Z3 ?k_Z3 ?e_Z4 ?l_Z4 ?c_Z4 ?k_Z4 ?e_Z5 ?l_Z5 ?c_Z5 ?k_Z5 ?e_Z6 ?l_Z6 ?c_Z6 ?k_Z6 ?e_Z24 ?l_Z24 ?c_Z24 ?k_Z24 ?e_Z21 ?l_Z21 ?c_Z21 ?k_Z21 ?e_Z17 ?l_Z17 ?c_Z17 ?k_Z17 ?e_Z29 ?l_Z29 ?c_Z29 ?k_Z29 ?e_Z27 ?l_Z27 ?c_Z27 ?k_Z27 ?e_law_same ?l_law_same ?c_law_same ?k_law_same ?e_Z19 ?l_Z19 ?c_Z19 ?k_Z19 ?e_Z28 ?l_Z28 ?c_Z28 ?k_Z28 ?e_Z23 ?l_Z23 ?c_Z23 ?k_Z23 ?e_Z8 ?l_Z8 ?c_Z8 ?k_Z8 ?e_Z10 ?l_Z10 ?c_Z10 ?k_Z10 ?e_Z1 ?l_Z1 ?c_Z1 ?k_Z1 ?e_Z0 ?l_Z0 ?c_Z0 ?k_Z0 ?e_Z32 ?l_Z32 ?c_Z32 ?k_Z32   ?e_NoForm ?e_NoNumber ?e_NoPlace ?e_NoStep ?e_NoText ?e_NoWeights ?e_NoneYet ?e_WaveError ?n_NoPlace ?q_NoPlace ?w_NoPlace ?m_NoPlace_WaveError ?i_NoPlace_NoForm ?i_NoPlace_NoNumber ?i_NoPlace_NoPlace ?i_NoPlace_NoStep ?i_NoPlace_NoText ?i_NoPlace_NoWeights ?i_NoPlace_NoneYet ?j_NoPlace_ValueError ?y_ValueError ?y_abs ?y_any ?y_bool ?y_enumerate ?y_int ?y_isinstance ?y_len ?y_list ?y_max ?y_min ?y_range ?y_reversed ?y_sorted ?y_str ?y_sum ?y_tuple ?y_zip
  (case e_Z13=>k_is);(case l_Z13=>k_is);(case c_Z13=>k_is);(case k_Z13=>k_is)
  (case e_Z9=>k_is);(case l_Z9=>k_is);(case c_Z9=>k_is);(case k_Z9=>k_is)
  (case e_Z15=>k_is);(case l_Z15=>k_is);(case c_Z15=>k_is);(case k_Z15=>k_is)
  (case e_Z20=>k_is);(case l_Z20=>k_is);(case c_Z20=>k_is);(case k_Z20=>k_is)
  (case e_Z14=>k_is);(case l_Z14=>k_is);(case c_Z14=>k_is);(case k_Z14=>k_is)
  (case e_Z26=>k_is);(case l_Z26=>k_is);(case c_Z26=>k_is);(case k_Z26=>k_is)
  (case e_Z31=>k_is);(case l_Z31=>k_is);(case c_Z31=>k_is);(case k_Z31=>k_is)
  (case e_Z25=>k_is);(case l_Z25=>k_is);(case c_Z25=>k_is);(case k_Z25=>k_is)
  (case e_Z7=>k_is);(case l_Z7=>k_is);(case c_Z7=>k_is);(case k_Z7=>k_is)
  (case e_Z30=>k_is);(case l_Z30=>k_is);(case c_Z30=>k_is);(case k_Z30=>k_is)
  (case e_Z22=>k_is);(case l_Z22=>k_is);(case c_Z22=>k_is);(case k_Z22=>k_is)
  (case e_Z2=>k_is);(case l_Z2=>k_is);(case c_Z2=>k_is);(case k_Z2=>k_is)
  (case e_Z16=>k_is);(case l_Z16=>k_is);(case c_Z16=>k_is);(case k_Z16=>k_is)
  (case e_Z18=>k_is);(case l_Z18=>k_is);(case c_Z18=>k_is);(case k_Z18=>k_is)
  (case e_Z3=>k_is);(case l_Z3=>k_is);(case c_Z3=>k_is);(case k_Z3=>k_is)
  (case e_Z4=>k_is);(case l_Z4=>k_is);(case c_Z4=>k_is);(case k_Z4=>k_is)
  (case e_Z5=>k_is);(case l_Z5=>k_is);(case c_Z5=>k_is);(case k_Z5=>k_is)
  (case e_Z6=>k_is);(case l_Z6=>k_is);(case c_Z6=>k_is);(case k_Z6=>k_is)
  (case e_Z24=>k_is);(case l_Z24=>k_is);(case c_Z24=>k_is);(case k_Z24=>k_is)
  (case e_Z21=>k_is);(case l_Z21=>k_is);(case c_Z21=>k_is);(case k_Z21=>k_is)
  (case e_Z17=>k_is);(case l_Z17=>k_is);(case c_Z17=>k_is);(case k_Z17=>k_is)
  (case e_Z29=>k_is);(case l_Z29=>k_is);(case c_Z29=>k_is);(case k_Z29=>k_is)
  (case e_Z27=>k_is);(case l_Z27=>k_is);(case c_Z27=>k_is);(case k_Z27=>k_is)
  (case e_law_same=>k_is);(case l_law_same=>k_is);(case c_law_same=>k_is);(case k_law_same=>k_is)
  (case e_Z19=>k_is);(case l_Z19=>k_is);(case c_Z19=>k_is);(case k_Z19=>k_is)
  (case e_Z28=>k_is);(case l_Z28=>k_is);(case c_Z28=>k_is);(case k_Z28=>k_is)
  (case e_Z23=>k_is);(case l_Z23=>k_is);(case c_Z23=>k_is);(case k_Z23=>k_is)
  (case e_Z8=>k_is);(case l_Z8=>k_is);(case c_Z8=>k_is);(case k_Z8=>k_is)
  (case e_Z10=>k_is);(case l_Z10=>k_is);(case c_Z10=>k_is);(case k_Z10=>k_is)
  (case e_Z1=>k_is);(case l_Z1=>k_is);(case c_Z1=>k_is);(case k_Z1=>k_is)
  (case e_Z0=>k_is);(case l_Z0=>k_is);(case c_Z0=>k_is);(case k_Z0=>k_is)
  (case e_Z32=>k_is);(case l_Z32=>k_is);(case c_Z32=>k_is);(case k_Z32=>k_is)
  (case e_NoForm=>first|k_is|rfl|k_exc| (unfold L2.bmV;k_exc))
  (case e_NoNumber=>first|k_is|rfl|k_exc| (unfold L2.bmV;k_exc))
  (case e_NoPlace=>first|k_is|rfl|k_exc| (unfold L2.bmV;k_exc))
  (case e_NoStep=>first|k_is|rfl|k_exc| (unfold L2.bmV;k_exc))
  (case e_NoText=>first|k_is|rfl|k_exc| (unfold L2.bmV;k_exc))
  (case e_NoWeights=>first|k_is|rfl|k_exc| (unfold L2.bmV;k_exc))
  (case e_NoneYet=>first|k_is|rfl|k_exc| (unfold L2.bmV;k_exc))
  (case e_WaveError=>first|k_is|rfl|k_exc| (unfold L2.bmV;k_exc))
  (case n_NoPlace=>first|k_is|rfl|k_exc| (unfold L2.bmV;k_exc))
  (case q_NoPlace=>first|k_is|rfl|k_exc| (unfold L2.bmV;k_exc))
  (case w_NoPlace=>first|k_is|rfl|k_exc| (unfold L2.bmV;k_exc))
  (case m_NoPlace_WaveError=>first|k_is|rfl|k_exc| (unfold L2.bmV;k_exc))
  (case i_NoPlace_NoForm=>first|k_is|rfl|k_exc| (unfold L2.bmV;k_exc))
  (case i_NoPlace_NoNumber=>first|k_is|rfl|k_exc| (unfold L2.bmV;k_exc))
  (case i_NoPlace_NoPlace=>first|k_is|rfl|k_exc| (unfold L2.bmV;k_exc))
  (case i_NoPlace_NoStep=>first|k_is|rfl|k_exc| (unfold L2.bmV;k_exc))
  (case i_NoPlace_NoText=>first|k_is|rfl|k_exc| (unfold L2.bmV;k_exc))
  (case i_NoPlace_NoWeights=>first|k_is|rfl|k_exc| (unfold L2.bmV;k_exc))
  (case i_NoPlace_NoneYet=>first|k_is|rfl|k_exc| (unfold L2.bmV;k_exc))
  (case j_NoPlace_ValueError=>first|k_is|rfl|k_exc| (unfold L2.bmV;k_exc))
  (case y_ValueError=>k_is)
  (case y_abs=>k_is)
  (case y_any=>k_is)
  (case y_bool=>k_is)
  (case y_enumerate=>k_is)
  (case y_int=>k_is)
  (case y_isinstance=>k_is)
  (case y_len=>k_is)
  (case y_list=>k_is)
  (case y_max=>k_is)
  (case y_min=>k_is)
  (case y_range=>k_is)
  (case y_reversed=>k_is)
  (case y_sorted=>k_is)
  (case y_str=>k_is)
  (case y_sum=>k_is)
  (case y_tuple=>k_is)
  (case y_zip=>k_is)
