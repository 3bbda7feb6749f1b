import PyProof.Rows.All
import Wide.All
import OpenK.AllK
import Wide.FinOn
import Lean
import PyProof.EqAt
import PyProof.EqKinds
import PyProof.TupleCall
import PyProof.NeKinds
import KE.IntBitsLaws
import PyProof.FitsBits
import PySem.Challenge.RW_wavyrow_k49_long_rings
set_option Elab.async false
set_option linter.all false
set_option maxRecDepth 100000
namespace L2
open List
open PySem PySem.Spec PyProof.Rows
section
noncomputable abbrev Key:=Sum Int Str
noncomputable def xi7:Key->Value->Bool
 | .inl k,v=>Value.isInt k v
 | .inr x,v=>Value.isStrOf x v
noncomputable def keyH (w:World):Key->Int
 | .inl k=>hashInt k
 | .inr x=>hashStr w x
theorem j0:∀{k:Key}{v:Value},xi7 k v=true->(∃ i t,k=Sum.inl i/\v=Value.int i t)\/(∃ x t,k=Sum.inr x/\v=Value.str x t)
 | .inl i,v,h=>by
  obtain⟨t,e⟩:=Value.isInt_shape (k:=i) (v:=v) h
  exact .inl ⟨i,t,rfl,e⟩
 | .inr x,v,h=>by
  obtain⟨t,e⟩:=Value.isStrOf_shape (x:=x) (v:=v) h
  exact .inr ⟨x,t,rfl,e⟩
theorem xi5 (a b:Int):decide ((Sum.inl a:Key)=Sum.inl b)=(a==b):=by
 by_cases e:a=b
 .subst e;simp
 .have h:¬ (Sum.inl a:Key)=Sum.inl b:=fun q=>e (Sum.inl.inj q)
  rw[decide_eq_false h]
  exact(beq_eq_false_iff_ne.mpr e).symm
theorem xi2 (a b:Str):decide ((Sum.inr a:Key)=Sum.inr b)=decide (a=b):=by
 by_cases e:a=b
 .subst e;simp
 .have h:¬ (Sum.inr a:Key)=Sum.inr b:=fun q=>e (Sum.inr.inj q)
  rw[decide_eq_false h,decide_eq_false e]
theorem xi4 (a:Int)(b:Str):decide ((Sum.inl a:Key)=Sum.inr b)=false:=decide_eq_false (fun q=>nomatch q)
theorem xi3 (a:Str)(b:Int):decide ((Sum.inr a:Key)=Sum.inl b)=false:=decide_eq_false (fun q=>nomatch q)
noncomputable def zp6 (prog:Program)(w:World):PySem.KeyKind prog w Key where
 is:=xi7
 hash:=keyH w
 inj:=fun v a b ha hb=>by
  rcases j0 ha with⟨i,t,rfl,rfl⟩|⟨x,t,rfl,rfl⟩
  .rcases j0 hb with⟨j,u,rfl,e⟩|⟨y,u,rfl,e⟩
   .injection e with e1 _;rw[e1]
   .exact nomatch e
  .rcases j0 hb with⟨j,u,rfl,e⟩|⟨y,u,rfl,e⟩
   .exact nomatch e
   .injection e with e1 _;rw[e1]
 byValue:=fun k v h=>by
  rcases j0 h with⟨i,t,rfl,rfl⟩|⟨x,t,rfl,rfl⟩ <;> rfl
 pyHash:=fun hv h=>by
  rcases j0 hv with⟨i,t,rfl,rfl⟩|⟨x,t,rfl,rfl⟩
  .exact wpAny_pyHash_int h
  .exact wpAny_pyHash_str h
 eqBool:=fun hu hv h=>by
  rcases j0 hu with⟨i,t,rfl,rfl⟩|⟨x,t,rfl,rfl⟩
  .rcases j0 hv with⟨j,u,rfl,rfl⟩|⟨y,u,rfl,rfl⟩
   .rw[xi5]at h;exact wpAny_eqBool_int h
   .rw[xi4]at h;exact SeqAt.EqAt.int_str i t y u _ _ _ _ h
  .rcases j0 hv with⟨j,u,rfl,rfl⟩|⟨y,u,rfl,rfl⟩
   .rw[xi3]at h;exact SeqAt.EqAt.str_int x t j u _ _ _ _ h
   .rw[xi2]at h;exact wpAny_eqBool_str h
 «strs»:=fun k x t v h=>by
  rcases j0 h with⟨i,u,rfl,e⟩|⟨y,u,rfl,e⟩
  .exact nomatch e
  .injection e with e1 _
   subst e1
   cases v <;> rfl
end
section
inductive V where
 |non|bl (b:Bool)|int (i:Int)|str (x:Str)|byt (b:Array UInt8)|flt (b:UInt64)|ref (a:Addr)|ty (n:String)
 deriving DecidableEq
noncomputable def RelV:V->Value->Prop
 | .non,u=>u=Value.none
 | .bl b,u=>u=Value.bool b
 | .int i,u=>∃ t,u=Value.int i t
 | .str x,u=>∃ t,u=Value.str x t
 | .byt b,u=>∃ t,u=Value.bytes b t
 | .flt b,u=>∃ t,u=Value.float b t
 | .ref a,u=>u=Value.ref a
 | .ty n,u=>u=Value.type n
abbrev Vals:List V->List Value->Prop:=Paired RelV
theorem Vals.length {xs:List V}{us:List Value}(r:Vals xs us):xs.length=us.length:=Paired.length r
theorem Vals.get:∀{xs:List V}{us:List Value}{i:Nat}{x:V},Vals xs us->xs[i]? =some x->∃ u,us[i]? =some u/\RelV x u
 |_,_,_,_,.nil,e=>by simp at e
 |_,_,0,_,.cons r _,e=>by simp at e;subst e;exact⟨_,rfl,r⟩
 |_,_,i+1,x,.cons _ t,e=>by
  obtain⟨u,h1,h2⟩:=Vals.get (i:=i) (x:=x) t (by simpa using e)
  exact⟨u,by simpa using h1,h2⟩
theorem Vals.set {x:V}{u:Value}(r:RelV x u):∀{xs:List V}{us:List Value}(i:Nat),Vals xs us->Vals (xs.set i x) (us.set i u)
 |_,_,_,.nil=>.nil
 |_,_,0,.cons _ t=>.cons r t
 |_,_,i+1,.cons q t=>.cons q (Vals.set r i t)
theorem Vals.append:∀{xs ys:List V}{us ws:List Value},Vals xs us->Vals ys ws->Vals (xs++ys) (us++ws)
 |_,_,_,_,.nil,s=>s
 |_,_,_,_,.cons r t,s=>.cons r (Vals.append t s)
theorem Vals.take:∀{xs:List V}{us:List Value}(n:Nat),Vals xs us->Vals (xs.take n) (us.take n)
 |_,_,0,_=>.nil
 |_,_,_+1,.nil=>.nil
 |_,_,n+1,.cons r t=>.cons r (Vals.take n t)
theorem Vals.drop:∀{xs:List V}{us:List Value}(n:Nat),Vals xs us->Vals (xs.drop n) (us.drop n)
 |_,_,0,r=>r
 |_,_,_+1,.nil=>.nil
 |_,_,n+1,.cons _ t=>Vals.drop n t
noncomputable def RelO:Option V->Option Value->Prop
 |some v,some u=>RelV v u
 |none,none=>True
 |_,_=>False
def KV {κ:Type}:List (κ×V)->List (κ×Value)->Prop:=Paired fun(p:κ×V)(q:κ×Value)=>p.1=q.1/\RelV p.2 q.2
noncomputable def kV:Key->V
 | .inl i=>.int i
 | .inr x=>.str x
inductive HO where
 |lst (xs:List V)
 |tup (xs:List V)
 |dK (kvs:List (Key×V))|dT (kvs:List (List Key×V))
 |set (S:Int->Bool) (n:Nat)
 |ins (C dx:Addr) (fs:List (Str×V))
 |own (x:Addr)
 |xd (fs:List (Str×V))
 |met (f x:Addr)
 |rng (lo hi:Int)
 |frz (o:Obj) (u:HO)
 |tbl (ps:Array Value)
 |ext (φ:Heap->Prop)
noncomputable abbrev Hp:=Addr->Option HO
noncomputable def upd (H:Hp)(a:Addr)(o:HO):Hp:=fun b=>if b=a then some o else H b
theorem z9 {H:Hp}{a:Addr}{o:HO}:upd H a o a=some o:=by unfold upd;rw[if_pos rfl]
theorem y3 {H:Hp}{a b:Addr}{o:HO}(h:b≠a):upd H a o b=H b:=by unfold upd;rw[if_neg h]
theorem l8 {H:Hp}{a b:Addr}{o:HO}(h:H a=some o)(h':H b=none):a≠b:=by
 intro e;subst e;rw[h]at h';cases h'
section
variable (P:Program)(w:World)
noncomputable def ObjOk (H:Hp)(h:Heap)(a:Addr):HO->Prop
 | .lst xs=>xs.length<=sizeLine/\∃(its:List Value)(n:Nat),Vals xs its/\h.get? a=some { cls:=.type "list",data:=.seq its.toArray n }
 | .tup xs=>xs.length<=sizeLine/\∃ its:List Value,Vals xs its/\IsTup h a its.toArray
 | .dK kvs=>kvs.length<=sizeLine/\(a==sysModules)=false/\∃ vs,KV kvs vs/\h.DictOf (zp6 P w) a vs
 | .dT kvs=>kvs.length<=sizeLine/\(a==sysModules)=false/\∃ xs:List (List Key×Addr×Value),
   Paired (fun(p:List Key×V)(q:List Key×Addr×Value)=>p.1=q.1/\H q.2.1=some (.tup (p.1.map kV))/\RelV p.2 q.2.2) kvs xs/\
   ∃ o es ep,h.get? a=some o/\o.ExactDict/\o.data= .dict es ep/\es.toList=xs.map (entryOfKey (tupleKind (zp6 P w)))/\(xs.map (·.1)).Nodup
 | .set S n=>h.SetOf (intKind P w) a S n
 | .ins C dx fs=>H dx=some (.own a)/\fs.length<=1000/\dx≠a/\h.get? a=some (W.instObj C dx)/\
   ∃ mA,h.Ns1 dx mA/\(∀ f,RelO (fs.lookup f) (mA f))/\PySem.Within mA (fs.map (·.1))
 | .own _=>∃ o,h.get? a=some o
 | .xd fs=>∃ mA,h.Ns1 a mA/\∀ f,RelO (fs.lookup f) (mA f)
 | .rng lo hi=>∃ t u v,h.get? a=some { cls:=.type "range",data:=.fields #[.int lo t,.int hi u,.int 1 v] }
 | .frz o u=>h.get? a=some o/\ObjOk H h a u
 | .tbl ps=>h.get? a=some { cls:=.none,data:=.fields ps }
 | .met f x=>h.get? a=some (W.methodObj (.ref f) (.ref x))
 | .ext φ=>φ h/\(∃ o,h.get? a=some o)/\∀ h1 h2:Heap,φ h1->(∀ o,h1.get? a=some o->h2.get? a=some o)->φ h2
def HOk (H:Hp)(h:Heap):Prop:=∀ a o,H a=some o->ObjOk P w H h a o
end
section
variable {P:Program}{w:World}{H H':Hp}{h h':Heap}{a:Addr}{o:HO}
theorem ObjOk.lt (x:ObjOk P w H h a o):a<h.objs.size:=by
 cases o with
 |lst xs=>obtain⟨_,_,_,_,e⟩:=x;exact Heap.lt_size e
 |tup xs=>obtain⟨_,_,_,p⟩:=x;exact p.lt
 |dK kvs=>obtain⟨_,_,_,_,o,_,_,e,_⟩:=x;exact Heap.lt_size e
 |dT kvs=>obtain⟨_,_,_,_,o,_,_,e,_⟩:=x;exact Heap.lt_size e
 |set S n=>obtain⟨o,_,_,_,e,_⟩:=x;exact Heap.lt_size e
 |ins C dx fs=>obtain⟨_,_,_,e,_⟩:=x;exact Heap.lt_size e
 |own y=>obtain⟨_,e⟩:=x;exact Heap.lt_size e
 |xd fs=>obtain⟨_,⟨_,_,_,e,_⟩,_⟩:=x;exact Heap.lt_size e
 |rng lo hi=>obtain⟨_,_,_,e⟩:=x;exact Heap.lt_size e
 |frz ob u=>obtain⟨e,_⟩:=x;exact Heap.lt_size e
 |tbl ps=>exact Heap.lt_size (show h.get? a=some _ from x)
 |met f y=>exact Heap.lt_size (show h.get? a=some _ from x)
 |ext φ=>obtain⟨_,⟨_,e⟩,_⟩:=x;exact Heap.lt_size e
theorem Paired.mapP {α β:Type}{F G:α->β->Prop}:∀{j:List α}{i:List β},Paired F j i->(∀ a b,F a b->G a b)->Paired G j i
 |_,_,.nil,_=>.nil
 |_,_,.cons r t,f=>.cons (f _ _ r) (Paired.mapP t f)
theorem ObjOk.stay (x:ObjOk P w H h a o)(k:∀ b u,(b=a\/H b=some (.own a))->h.get? b=some u->h'.get? b=some u)
  (G:∀ b,H b=some (.own a)->H' b=some (.own a)) (j:∀ b xs,H b=some (.tup xs)->H' b=some (.tup xs)):ObjOk P w H' h' a o:=by
 induction o with
 |lst xs=>obtain⟨z,its,n,r,e⟩:=x;exact⟨z,its,n,r,k _ _ (.inl rfl) e⟩
 |tup xs=>obtain⟨z,its,r,ob,e,c⟩:=x;exact⟨z,its,r,ob,k _ _ (.inl rfl) e,c⟩
 |dK kvs=>obtain⟨z,y,vs,r,ob,es,ep,e,c⟩:=x;exact⟨z,y,vs,r,ob,es,ep,k _ _ (.inl rfl) e,c⟩
 |dT kvs=>
  obtain⟨z,y,xs,r,ob,es,ep,e,c⟩:=x
  exact⟨z,y,xs,Paired.mapP r fun p q z=>⟨z.1,j _ _ z.2.1,z.2.2⟩,ob,es,ep,k _ _ (.inl rfl) e,c⟩
 |set S n=>obtain⟨ob,es,ep,t,e,c⟩:=x;exact⟨ob,es,ep,t,k _ _ (.inl rfl) e,c⟩
 |ins C dx fs=>
  obtain⟨d,z,ne,e,mA,⟨od,es,ep,e2,c⟩,r⟩:=x
  exact⟨G _ d,z,ne,k _ _ (.inl rfl) e,mA,⟨od,es,ep,k _ _ (.inr d) e2,c⟩,r⟩
 |own y=>obtain⟨ob,e⟩:=x;exact⟨ob,k _ _ (.inl rfl) e⟩
 |xd fs=>obtain⟨mA,⟨od,es,ep,e,c⟩,r⟩:=x;exact⟨mA,⟨od,es,ep,k _ _ (.inl rfl) e,c⟩,r⟩
 |rng lo hi=>obtain⟨t,u,v,e⟩:=x;exact⟨t,u,v,k _ _ (.inl rfl) e⟩
 |frz ob u i=>obtain⟨e,q⟩:=x;exact⟨k _ _ (.inl rfl) e,i q⟩
 |tbl ps=>
  have e:h.get? a=some { cls:=.none,data:=.fields ps }:=x
  show h'.get? a=some { cls:=.none,data:=.fields ps }
  exact k a _ (.inl rfl) e
 |met f y=>
  have e:h.get? a=some (W.methodObj (.ref f) (.ref y)):=x
  show h'.get? a=some (W.methodObj (.ref f) (.ref y))
  exact k a _ (.inl rfl) e
 |ext φ=>obtain⟨p,⟨o,e⟩,st⟩:=x;exact⟨st _ _ p fun o q=>k _ _ (.inl rfl) q,⟨o,k _ _ (.inl rfl) e⟩,st⟩
theorem HOk.lt (x:HOk P w H h)(e:H a=some o):a<h.objs.size:=(x a o e).lt
theorem HOk.fresh (x:HOk P w H h)(e:h.objs.size<=a):H a=none:=by
 cases q:H a with
 |none=>rfl
 |some u=>exact absurd (Nat.lt_of_lt_of_le (x.lt q) e) (Nat.lt_irrefl _)
theorem HOk.kept (x:HOk P w H h)(k:∀ b u,h.get? b=some u->h'.get? b=some u):HOk P w H h':=fun a o e=>
 (x a o e).stay (fun b u _ q=>k b u q) (fun _ q=>q) fun _ _ q=>q
theorem HOk.laid (x:HOk P w H h)(k:∀ b u,h.get? b=some u->h'.get? b=some u)(hp:h.objs.size<=a)(new:ObjOk P w (upd H a o) h' a o):HOk P w (upd H a o) h':=fun b u e=>by
 have hn:=x.fresh hp
 by_cases i:b=a
 .subst i;rw[z9]at e;cases e;exact new
 .rw[y3 i]at e
  exact(x b u e).stay (fun c v _ q=>k c v q) (fun c q=>by rw[y3 (l8 q hn)];exact q) fun c xs q=>by rw[y3 (l8 q hn)];exact q
end
def Rd (H:Hp)(a:Addr)(u:HO):Prop:=H a=some u\/∃ o,H a=some (.frz o u)
theorem Rd.ok {P:Program}{w:World}{H:Hp}{h:Heap}{a:Addr}{u:HO}(r:Rd H a u)(x:HOk P w H h):ObjOk P w H h a u:=by
 rcases r with r|⟨o,r⟩
 .exact x a u r
 .obtain⟨_,q⟩:=x a _ r
  exact q
noncomputable def Mut:Option HO->Prop
 |some (.lst _)=>True
 |some (.dK _)=>True
 |some (.dT _)=>True
 |some (.set _ _)=>True
 |some (.ins _ _ _)=>True
 |some (.ext _)=>True
 |_=>False
section
variable {P:Program}{w:World}{H:Hp}{h h':Heap}{x e:Addr}{o':HO}
theorem HOk.write (ok:HOk P w H h)(I:Mut (H x))(O:e=x\/H e=some (.own x))(k:∀ b u,b≠e->h.get? b=some u->h'.get? b=some u)(N:∃ u,h'.get? e=some u)
  (new:ObjOk P w (upd H x o') h' x o'):HOk P w (upd H x o') h':=fun b u q=>by
 have j:∀ c y,H c=some (.own y)->c≠x:=fun c y r z=>by subst z;rw[r]at I;exact I
 have G:∀ c xs,H c=some (.tup xs)->c≠x:=fun c xs r z=>by subst z;rw[r]at I;exact I
 by_cases M:b=x
 .subst M;rw[z9]at q;cases q;exact new
 .rw[y3 M]at q
  by_cases i:b=e
  .have q':H b=some (.own x):=by
    rcases O with z|z
    .exact absurd (i.trans z) M
    .rw[i];exact z
   rw[q]at q';cases q'
   obtain⟨v,S⟩:=N
   exact⟨v,by rw[i];exact S⟩
  .refine(ok b u q).stay (fun c v L r=>k c v ?_ r) (fun c r=>by rw[y3 (j c b r)];exact r) fun c xs r=>by rw[y3 (G c xs r)];exact r
   rcases L with rfl|L
   .exact i
   .rintro rfl
    rcases O with z|z
    .exact j c b L z
    .rw[L]at z;cases z;exact M rfl
end
structure Un (fs ex:List Addr)(H H':Hp)(h h':Heap):Prop where
 keep:∀ b o,h.get? b=some o->H b=none->b∉fs->b∉ex->h'.get? b=some o
 slot:∀ b o,h.get? b=some o->H b=none->b∈fs->b∉ex->∃ sl,h'.get? b=some { o with slots:=sl }
 free:∀ b o,h.get? b=some o->H b=none->b∉ex->H' b=none
 there:∀ b o,h.get? b=some o->b∉ex->∃ o',h'.get? b=some o'
 tups:∀ b xs,H b=some (.tup xs)->H' b=some (.tup xs)
 frzs:∀ b o u,H b=some (.frz o u)->H' b=some (.frz o u)
 tbls:∀ b ps,H b=some (.tbl ps)->∃ more,H' b=some (.tbl (ps++more))
section
variable {fs fs' ex ex':List Addr}{H H1 H2:Hp}{h h1 h2 h':Heap}{a x e:Addr}{o:HO}
theorem Un.any (u:Un fs ex H H1 h h1){b:Addr}{ob:Obj}(q:h.get? b=some ob)(n:H b=none)(i:b∉ex):∃ sl,h1.get? b=some { ob with slots:=sl }:=by
 by_cases j:b∈fs
 .exact u.slot b ob q n j i
 .exact⟨ob.slots,u.keep b ob q n j i⟩
theorem Un.kept (k:∀ b u,h.get? b=some u->h'.get? b=some u):Un fs ex H H h h':=
 ⟨fun b ob q _ _ _=>k b ob q,fun b ob q _ _ _=>⟨ob.slots,k b ob q⟩,fun _ _ _ n _=>n,fun b ob q _=>⟨ob,k b ob q⟩,fun _ _ q=>q,fun _ _ _ q=>q,fun _ ps q=>⟨#[],by rw[q];simp⟩⟩
theorem Un.refl:Un fs ex H H h h:=Un.kept fun _ _ q=>q
theorem Un.laid (k:∀ b u,h.get? b=some u->h'.get? b=some u)(hp:h.objs.size<=a)(hn:H a=none):Un fs ex H (upd H a o) h h' where
 keep:=fun b u q _ _ _=>k b u q
 slot:=fun b u q _ _ _=>⟨u.slots,k b u q⟩
 free:=fun b u q n _=>by rw[y3 (Nat.ne_of_lt (Nat.lt_of_lt_of_le (Heap.lt_size q) hp))];exact n
 there:=fun b u q _=>⟨u,k b u q⟩
 tups:=fun b xs q=>by rw[y3 (l8 q hn)];exact q
 frzs:=fun b u xs q=>by rw[y3 (l8 q hn)];exact q
 tbls:=fun b ps q=>⟨#[],by rw[y3 (l8 q hn),q];simp⟩
theorem Un.write (j:Mut (H x))(M:e=x\/H e=some (.own x))(k:∀ b u,b≠e->h.get? b=some u->h'.get? b=some u)(G:∃ u,h'.get? e=some u):Un fs ex H (upd H x o) h h':=by
 have I:∀ b,H b=none->b≠x:=fun b n z=>by subst z;rw[n]at j;exact j
 have L:∀ b,H b=none->b≠e:=fun b n z=>by
  subst z
  rcases M with r|r
  .exact I b n r
  .rw[n]at r;cases r
 have hm:∀ b u,H b=some u->¬ Mut (some u)->b≠x:=fun b u q nm z=>by subst z;rw[q]at j;exact nm j
 refine⟨fun b u q n _ _=>k b u (L b n) q,fun b u q n _ _=>⟨u.slots,k b u (L b n) q⟩,fun b u q n _=>by rw[y3 (I b n)];exact n,fun b u q _=>?_,
  fun b xs q=>by rw[y3 (hm b _ q fun z=>z)];exact q,fun b u xs q=>by rw[y3 (hm b _ q fun z=>z)];exact q,fun b ps q=>⟨#[],by rw[y3 (hm b _ q fun z=>z),q];simp⟩⟩
 by_cases i:b=e
 .subst i;exact G
 .exact⟨u,k b u i q⟩
end
noncomputable def trk (h:Heap)(H:Hp):List Addr:=(List.range h.objs.size).filter fun a=>(H a).isSome
noncomputable def hidT (h:Heap)(H:Hp):Heap:=W.hideAll h (trk h H)
theorem yt6 (h:Heap)(H:Hp):(hidT h H).objs.size=h.objs.size:=W.hideAll_size _ _
theorem yh2 {h:Heap}{H:Hp}{b:Addr}{o:Obj}(e:h.get? b=some o)(n:H b=none):(hidT h H).get? b=some o:=
 W.hideAll_get _ e fun hm=>by
  have q:(H b).isSome=true:=(List.mem_filter.mp hm).2
  rw[n]at q;simp at q
theorem xw0 {h:Heap}{H:Hp}{b:Addr}{o:Obj}(e:(hidT h H).get? b=some o):h.get? b=some o/\H b=none:=by
 have i:h.get? b=some o:=W.of_hideAll (trk h H) e
 refine⟨i,?_⟩
 cases q:H b with
 |none=>rfl
 |some x=>
  have hm:b∈trk h H:=List.mem_filter.mpr ⟨List.mem_range.mpr (Heap.lt_size i),by simp[q]⟩
  have z:(hidT h H).get? b=none:=W.hideAll_none (trk h H) hm
  rw[z]at e;cases e
noncomputable def xr7 (g h:Heap)(L:Addr):List (Addr×Obj):=(List.range h.objs.size).filterMap fun a=>if a=L\/(g.get? a).isSome=true then none else (h.get? a).map fun o=>(a,o)
noncomputable def rest (g h:Heap)(L d:Addr):List (Addr×Obj):=(xr7 g h L).filter fun p=>decide (p.1≠d)
end
section
structure Mod (K:W.Frag)(mg:Str->Option Value)(base:Heap):Prop where
 kin:K.In base
 glob:base.Ns mainGlobals mg
 blt:∃ mb,base.Ns builtinsNs mb/\∀ x:Str,x≠"__name__"->mb x=bootBuiltins x
 nolimit:base.NoLimit
structure Cx where
 prog:Program
 w:World
 K:W.Frag
 mg:Str->Option Value
 base:Heap
 A:Around
 N:List Str
 s₀:Shared
 H₀:Hp
 env:Env
 outer:List Env
 stack:List Env
 ex:List Addr
 fn:Str->Bool
 calm:Bool
 pn:List (Addr×Obj)
 xe:Value->Shared->Prop
noncomputable def frs (l:List Env):List Addr:=l.filterMap (·.frame)
noncomputable abbrev Cx.fs (X:Cx):List Addr:=frs X.outer
def Vis (sc:Scope)(x:Str):Prop:=sc.names.lookup x=some .local\/sc.names.lookup x=some .cell\/sc.names.lookup x=some .free
def Loc (sc:Scope)(x:Str):Prop:=sc.names.lookup x=some .local\/sc.names.lookup x=some .cell
def Look (env:Env)(h:Heap)(m:Str->Option Value)(x:Str)(u:Value):Prop:=
 (env.kindOf x=some .local/\m x=some u)\/((env.kindOf x=some .cell\/env.kindOf x=some .free)/\∃ c,env.cells.lookup x=some c/\h.IsCell c (some u))
structure Cx.Ok (X:Cx):Prop where
 mod:Mod X.K X.mg X.base
 kind:X.env.scope.kind= .function
 glob:X.env.globals=mainGlobals
 blt:X.env.builtins=builtinsNs
 above:X.s₀.heap.objs.size<=X.env.locals
 inj:∀ x y c,X.env.cells.lookup x=some c->X.env.cells.lookup y=some c->x=y
 has:∀ x,(X.env.kindOf x=some .cell\/X.env.kindOf x=some .free)->∃ c,X.env.cells.lookup x=some c
 cab:∀ x c,X.fn x=true->X.env.cells.lookup x=some c->X.s₀.heap.objs.size<=c
 hd:X.calm=true->X.A.handled=none
 frames:X.A.frames=some X.stack
 stk:X.stack=X.outer\/(X.stack=X.env::X.outer/\X.env.frame=some X.env.locals)
 exf:∀ b∈X.ex,b≠X.env.locals/\∀ x c,X.env.cells.lookup x=some c->c≠b
 bs:∀ b o,X.base.get? b=some o->X.s₀.heap.get? b=some o/\X.H₀ b=none
 bsz:X.base.objs.size<=X.s₀.heap.objs.size
 noex:∀ b o,X.base.get? b=some o->b∉X.ex
 exfs:∀ b∈X.ex,b∉X.fs
 funs:X.s₀.heap.FunFrames X.base X.outer
 frf:∀ b∈X.fs,X.H₀ b=none
structure Inv (X:Cx)(pins:List (Addr×Obj))(σ:List (Option V))(H:Hp)(s:Shared):Prop where
 ok:X.Ok
 os:s.os=X.s₀.os
 bare:AllBare s.gens
 base:Un X.fs X.ex X.H₀ H X.s₀.heap s.heap
 loc:∃ m,s.heap.Ns X.env.locals m/\∀(i:Nat)(x:Str)(v:V),X.N[i]? =some x->σ[i]? =some (some v)->Vis X.env.scope x->∃ u,RelV v u/\Look X.env s.heap m x u
 cell:∀ x c,X.env.cells.lookup x=some c->∃ v,s.heap.IsCell c v
 free:H X.env.locals=none
 freeC:∀ x c,X.env.cells.lookup x=some c->H c=none
 pin:∀ p∈X.pn++pins,s.heap.get? p.1=some p.2/\H p.1=none/\p.1≠X.env.locals/\p.1∉X.fs/\∀ v,p.2.data≠ .cell v
 hok:HOk X.prog X.w H s.heap
 len:σ.length=X.N.length
section
variable {X:Cx}{pins:List (Addr×Obj)}{σ:List (Option V)}{H H':Hp}{s:Shared}{h':Heap}
theorem Cx.Ok.nofr (ok:X.Ok){b:Addr}{o:Obj}(e:X.base.get? b=some o):b∉X.fs:=fun i=>by
 have:=(ok.funs.mem i).1
 rw[e]at this;cases this
theorem Inv.bs (I:Inv X pins σ H s):∀ b o,X.base.get? b=some o->s.heap.get? b=some o/\H b=none:=fun b o e=>
 ⟨I.base.keep b o (I.ok.bs b o e).1 (I.ok.bs b o e).2 (I.ok.nofr e) (I.ok.noex b o e),I.base.free b o (I.ok.bs b o e).1 (I.ok.bs b o e).2 (I.ok.noex b o e)⟩
theorem Inv.bk (I:Inv X pins σ H s):∀ b o,X.base.get? b=some o->s.heap.get? b=some o:=fun b o e=>(I.bs b o e).1
theorem Inv.mod (I:Inv X pins σ H s):Mod X.K X.mg X.base:=I.ok.mod
theorem Inv.kIn (I:Inv X pins σ H s):X.K.In s.heap:=I.ok.mod.kin.keeps I.bk
theorem Inv.lt (I:Inv X pins σ H s):X.env.locals<s.heap.objs.size:=let ⟨_,hn,_⟩:=I.loc;hn.lt
theorem Inv.sz (I:Inv X pins σ H s):X.s₀.heap.objs.size<=s.heap.objs.size:=Nat.le_trans I.ok.above (Nat.le_of_lt I.lt)
theorem Inv.nofs (I:Inv X pins σ H s){a:Addr}(h:s.heap.objs.size<=a):a∉X.fs:=fun j=>by
 obtain⟨_,o,i,_⟩:=I.ok.funs.mem j
 exact absurd (Nat.lt_of_lt_of_le (Heap.lt_size i) (Nat.le_trans I.sz h)) (Nat.lt_irrefl _)
theorem Inv.cne (I:Inv X pins σ H s):∀ x c,X.env.cells.lookup x=some c->c≠X.env.locals:=fun x c e z=>by
 obtain⟨v,o,G,hd⟩:=I.cell x c e
 obtain⟨m,⟨o',es,ep,i,j,_⟩,_⟩:=I.loc
 rw[z,i]at G;cases G;rw[j]at hd;cases hd
theorem Inv.funs (I:Inv X pins σ H s):s.heap.FunFrames X.base X.outer:=by
 have all:∀(l:List Env),(∀ b∈frs l,b∈X.fs)->X.s₀.heap.FunFrames X.base l->s.heap.FunFrames X.base l:=by
  intro l
  induction l with
  |nil=>intro _ _;trivial
  |cons env r M=>
   intro hs S
   obtain⟨U,⟨L,o,i,hn,O,hd⟩,N⟩:=S
   have G:L∈X.fs:=hs L (by unfold frs;rw[filterMap_cons,i];exact mem_cons_self)
   obtain⟨sl,e⟩:=I.base.slot L o O (I.ok.frf L G) G fun z=>I.ok.exfs L z G
   exact⟨U,⟨L,_,i,hn,e,hd⟩,M (fun b j=>hs b (by unfold frs;rw[filterMap_cons,i];exact mem_cons_of_mem _ j)) N⟩
 exact all X.outer (fun _ j=>j) I.ok.funs
theorem Inv.stack (I:Inv X pins σ H s):s.heap.FunFrames X.base X.stack:=by
 rcases I.ok.stk with e|⟨e,i⟩
 .rw[e];exact I.funs
 .rw[e]
  obtain⟨m,hn,_⟩:=I.loc
  refine .cons (by rw[I.ok.kind];decide) i hn ?_ I.funs
  exact Heap.get?_none_of_le (Nat.le_trans I.ok.bsz I.ok.above)
theorem Inv.stkSub (I:Inv X pins σ H s):∀ b∈frs X.stack,b∈X.env.locals::X.fs:=fun b i=>by
 rcases I.ok.stk with e|⟨e,j⟩
 .rw[e]at i;exact mem_cons_of_mem _ i
 .rw[e]at i
  unfold frs at i
  rw[filterMap_cons,j]at i
  exact i
theorem Inv.stkFree (I:Inv X pins σ H s):∀ b∈frs X.stack,H b=none:=fun b i=>by
 rcases List.mem_cons.mp (I.stkSub b i)with e|i
 .rw[e];exact I.free
 .obtain⟨_,o,ho,_⟩:=I.ok.funs.mem i
  exact I.base.free b o ho (I.ok.frf b i) fun z=>I.ok.exfs b z i
theorem Inv.step {g':Array GenState}{t':Nat}{d':Drawn}{ch:List Addr}(I:Inv X pins σ H s)
  (L:∀ b∈ch,(b∈X.ex\/X.s₀.heap.objs.size<=b)/\b≠X.env.locals/\(∀ x c,X.env.cells.lookup x=some c->c≠b)/\∀ p∈X.pn++pins,p.1≠b)
  (keep:∀ b o,b≠X.env.locals->b∉X.fs->b∉ch->s.heap.get? b=some o->H b=none->h'.get? b=some o)
  (slot:∀ b o,b≠X.env.locals->b∈X.fs->b∉ch->s.heap.get? b=some o->H b=none->∃ sl,h'.get? b=some { o with slots:=sl }) (free:∀ b o,b∉ch->s.heap.get? b=some o->H b=none->H' b=none)
  (there:∀ b o,b∉ch->s.heap.get? b=some o->∃ o',h'.get? b=some o')
  (tups:∀ b xs,H b=some (.tup xs)->H' b=some (.tup xs)) (frzs:∀ b o u,H b=some (.frz o u)->H' b=some (.frz o u)) (tbls:∀ b ps,H b=some (.tbl ps)->∃ more,H' b=some (.tbl (ps++more)))
  (ns:∀ m,s.heap.Ns X.env.locals m->h'.Ns X.env.locals m) (hok:HOk X.prog X.w H' h') (hg:AllBare g'):
  Inv X pins σ H' { s with heap:=h',gens:=g',drawn:=d',toks:=t' }:=by
 have U:∀ b o,X.s₀.heap.get? b=some o->b≠X.env.locals:=fun b o e=>Nat.ne_of_lt (Nat.lt_of_lt_of_le (Heap.lt_size e) I.ok.above)
 have N:∀ b o,X.s₀.heap.get? b=some o->b∉X.ex->b∉ch:=fun b o e j O=>by
  rcases (L b O).1 with z|z
  .exact j z
  .exact absurd (Nat.lt_of_lt_of_le (Heap.lt_size e) z) (Nat.lt_irrefl _)
 have M:∀ x c,X.env.cells.lookup x=some c->∀ v,s.heap.IsCell c v->h'.IsCell c v:=fun x c e v Y=>by
  obtain⟨o,S,hd⟩:=Y
  have G:c∉ch:=fun z=>(L c z).2.2.1 x c e rfl
  by_cases hc:c∈X.fs
  .obtain⟨sl,q⟩:=slot c o (I.cne x c e) hc G S (I.freeC x c e)
   exact⟨_,q,hd⟩
  .exact⟨o,keep c o (I.cne x c e) hc G S (I.freeC x c e),hd⟩
 refine⟨I.ok,I.os,hg,⟨fun b o e n O j=>?_,fun b o e n O j=>?_,fun b o e n j=>?_,fun b o e j=>?_,fun b xs e=>tups b xs (I.base.tups b xs e),fun b o xs e=>frzs b o xs (I.base.frzs b o xs e),fun b ps e=>?_⟩,?_,fun x c e=>?_,?_,fun x c e=>?_,fun p hp=>?_,hok,I.len⟩
 .exact keep b o (U b o e) O (N b o e j) (I.base.keep b o e n O j) (I.base.free b o e n j)
 .obtain⟨sl,e1⟩:=I.base.slot b o e n O j
  obtain⟨Z,e2⟩:=slot b _ (U b o e) O (N b o e j) e1 (I.base.free b o e n j)
  exact⟨Z,e2⟩
 .obtain⟨o',e1⟩:=I.base.there b o e j
  exact free b o' (N b o e j) e1 (I.base.free b o e n j)
 .obtain⟨o',e1⟩:=I.base.there b o e j
  exact there b o' (N b o e j) e1
 .obtain⟨m1,e1⟩:=I.base.tbls b ps e
  obtain⟨m2,e2⟩:=tbls b _ e1
  exact⟨m1++m2,by rw[e2,Array.append_assoc]⟩
 .obtain⟨m,hn,hl⟩:=I.loc
  refine⟨m,ns m hn,fun i x v e1 e2 e3=>?_⟩
  obtain⟨u,r,l⟩:=hl i x v e1 e2 e3
  refine⟨u,r,?_⟩
  rcases l with l|⟨k,c,e,z⟩
  .exact .inl l
  .exact .inr ⟨k,c,e,M x c e _ z⟩
 .obtain⟨v,z⟩:=I.cell x c e
  exact⟨v,M x c e v z⟩
 .obtain⟨m,⟨o,_,_,S,_⟩,_⟩:=I.loc
  exact free _ o (fun z=>(L _ z).2.1 rfl) S I.free
 .obtain⟨v,o,S,hd⟩:=I.cell x c e
  exact free c o (fun z=>(L c z).2.2.1 x c e rfl) S (I.freeC x c e)
 .obtain⟨e,n,ne,nf,d⟩:=I.pin p hp
  have G:p.1∉ch:=fun z=>(L p.1 z).2.2.2 p hp rfl
  exact⟨keep p.1 p.2 ne nf G e n,free p.1 p.2 G e n,ne,nf,d⟩
theorem Inv.un {t':Nat}(I:Inv X pins σ H s)(u:Un X.fs [] H H' s.heap h')(hok:HOk X.prog X.w H' h'):Inv X pins σ H' { s with heap:=h',toks:=t' }:=by
 obtain⟨m,⟨o,es,ep,M,r⟩,_⟩:=id I.loc
 obtain⟨sl,O⟩:=u.any M I.free (by simp)
 exact I.step (g':=s.gens) (d':=s.drawn) (ch:=[]) (fun _ z=>nomatch z) (fun b o _ j _ e n=>u.keep b o e n j (by simp)) (fun b o _ j _ e n=>u.slot b o e n j (by simp)) (fun b o _ e n=>u.free b o e n (by simp)) (fun b o _ e=>u.there b o e (by simp)) u.tups u.frzs u.tbls (fun S hm=>by
  obtain⟨o',G,L,i,N⟩:=hm
  rw[M]at i;cases i
  exact⟨_,G,L,O,N⟩) hok I.bare
theorem Inv.call {g':Array GenState}{t':Nat}{d':Drawn}{ch:List Addr}(I:Inv X pins σ H s)(u:Un (frs X.stack) ch H H' s.heap h')(hok:HOk X.prog X.w H' h')(U:AllBare g')
  (G:∀ b∈ch,(b∈X.ex\/X.s₀.heap.objs.size<=b)/\b≠X.env.locals/\(∀ x c,X.env.cells.lookup x=some c->c≠b)/\∀ p∈X.pn++pins,p.1≠b):
  Inv X pins σ H' { s with heap:=h',gens:=g',drawn:=d',toks:=t' }:=by
 obtain⟨m,⟨o,es,ep,O,r⟩,_⟩:=id I.loc
 obtain⟨sl,L⟩:=u.any O I.free fun z=>(G _ z).2.1 rfl
 exact I.step (ch:=ch) G (fun b o L Y i e n=>u.keep b o e n (fun z=>(List.mem_cons.mp (I.stkSub b z)).elim L Y) i) (fun b o _ _ i e n=>u.any e n i) (fun b o i e n=>u.free b o e n i) (fun b o i e=>u.there b o e i) u.tups u.frzs u.tbls (fun Z hm=>by
  obtain⟨o',M,N,j,S⟩:=hm
  rw[O]at j;cases j
  exact⟨_,M,N,L,S⟩) hok U
theorem Inv.turned {t':Nat}{it:Addr}(I:Inv X pins σ H s)(k:∀ b o,b≠it->s.heap.get? b=some o->h'.get? b=some o)(hn:H it=none)(G:it≠X.env.locals)
  (h1:it∈X.ex\/X.s₀.heap.objs.size<=it) (h2:∀ x c,X.env.cells.lookup x=some c->c≠it) (M:∀ p∈X.pn++pins,p.1≠it):Inv X pins σ H { s with heap:=h',toks:=t' }:=by
 have j:∀ b u,H b=some u->b≠it:=fun b u e z=>by rw[z,hn]at e;cases e
 refine I.step (g':=s.gens) (d':=s.drawn) (ch:=[it]) (fun b L=>?_) (fun b o _ _ i e _=>k b o (fun z=>i (by simp[z])) e) (fun b o _ _ i e _=>⟨o.slots,k b o (fun z=>i (by simp[z])) e⟩) (fun _ _ _ _ n=>n)
  (fun b o i e=>⟨o,k b o (fun z=>i (by simp[z])) e⟩) (fun _ _ e=>e) (fun _ _ _ e=>e) (fun b ps e=>⟨#[],by rw[e];simp⟩) (fun m hm=>?_) (fun b u e=>?_) I.bare
 .have e:b=it:=by simpa using L
  subst e
  exact⟨h1,G,h2,M⟩
 .obtain⟨o,es,ep,ho,r⟩:=hm
  exact⟨o,es,ep,k _ o (Ne.symm G) ho,r⟩
 .refine(I.hok b u e).stay (fun c v i q=>k c v ?_ q) (fun _ q=>q) fun _ _ q=>q
  rcases i with z|z
  .rw[z];exact j b u e
  .exact j c _ z
theorem Inv.tok (I:Inv X pins σ H s)(t:Nat):Inv X pins σ H { s with toks:=t }:=I.un (h':=s.heap) (t':=t) Un.refl I.hok
theorem Inv.kept {t':Nat}(I:Inv X pins σ H s)(k:∀ b u,s.heap.get? b=some u->h'.get? b=some u):Inv X pins σ H { s with heap:=h',toks:=t' }:=I.un (Un.kept k) (I.hok.kept k)
theorem Inv.laid {a:Addr}{o:HO}{t':Nat}(I:Inv X pins σ H s)(k:∀ b u,s.heap.get? b=some u->h'.get? b=some u)(hp:s.heap.objs.size<=a)(new:ObjOk X.prog X.w (upd H a o) h' a o):
  Inv X pins σ (upd H a o) { s with heap:=h',toks:=t' }:=I.un (Un.laid k hp (I.hok.fresh hp)) (I.hok.laid k hp new)
theorem Inv.write {x e:Addr}{o:HO}{t':Nat}(I:Inv X pins σ H s)(j:Mut (H x))(z:e=x\/H e=some (.own x))(k:∀ b u,b≠e->s.heap.get? b=some u->h'.get? b=some u)(i:∃ u,h'.get? e=some u)
  (new:ObjOk X.prog X.w (upd H x o) h' x o):Inv X pins σ (upd H x o) { s with heap:=h',toks:=t' }:=I.un (Un.write j z k i) (I.hok.write j z k i new)
theorem Inv.pins_of {pins':List (Addr×Obj)}(I:Inv X pins σ H s)(h:∀ p∈pins',s.heap.get? p.1=some p.2/\H p.1=none/\p.1≠X.env.locals/\p.1∉X.fs/\∀ v,p.2.data≠ .cell v):Inv X pins' σ H s:=
 ⟨I.ok,I.os,I.bare,I.base,I.loc,I.cell,I.free,I.freeC,fun p hp=>(List.mem_append.mp hp).elim (fun z=>I.pin p (mem_append_left _ z)) (h p),I.hok,I.len⟩
theorem zi4 {N:List Str}(z:N.Nodup){i j:Nat}{x:Str}(a:N[i]? =some x)(b:N[j]? =some x):i=j:=by
 obtain⟨h1,e1⟩:=List.getElem?_eq_some_iff.mp a
 obtain⟨h2,e2⟩:=List.getElem?_eq_some_iff.mp b
 exact(getElem_inj z).mp (e1.trans e2.symm)
theorem J7 {M:Model}{A:Around}{E:Value->Shared->Prop}{i:Nat}{x:Str}{v:V}{u:Value}{Q:Unit->Shared->Prop}(I:Inv X pins σ H s)(hN:X.N.Nodup)(hi:X.N[i]? =some x)(O:Loc X.env.scope x)(r:RelV v u)
  (h:∀ s',Inv X pins (σ.set i (some v)) H s'->(∃ a,Heap.SameBut a s.heap s'.heap/\(a=X.env.locals\/X.env.cells.lookup x=some a))->Q () s') (hf:X.fn x=true\/X.env.scope.names.lookup x=some .local:=by first|exact .inl rfl|exact .inr rfl|assumption):wpAny M A (storeName X.env x u) Q E s:=by
 obtain⟨m,hn,hl⟩:=id I.loc
 have a2:(X.env.scope.kind== .class || (X.env.scope.kind== .module&&X.env.locals != X.env.globals))=false:=by rw[I.ok.kind];rfl
 have Y:i<σ.length:=by rw[I.len];exact(List.getElem?_eq_some_iff.mp hi).1
 have cne:=I.cne
 have G:∀{a:Addr}{h':Heap},(∃ o,s.heap.get? a=some o/\H a=none)->Heap.SameBut a s.heap h'->HOk X.prog X.w H h':=fun{a h'} ha hs b ob e=>by
  obtain⟨_,_,S⟩:=ha
  refine(I.hok b ob e).stay (fun c w' L q=>(hs.2 c ?_).trans q) (fun _ q=>q) fun _ _ q=>q
  rintro rfl
  rcases L with rfl|L
  .rw[S]at e;cases e
  .rw[S]at L;cases L
 rcases O with U|U
 .refine wpAny_storeName_local U hn (fun h' a5 hs=>?_) a2
  obtain⟨oL,_,_,a4,_⟩:=id hn
  refine h _ ⟨I.ok,I.os,I.bare,⟨fun b o e n Z O=>?_,fun b o e n Z O=>?_,I.base.free,fun b o e O=>?_,I.base.tups,I.base.frzs,I.base.tbls⟩,⟨_,a5,fun j y v' e1 e2 e3=>?_⟩,fun y c e=>?_,I.free,I.freeC,fun p hp=>?_,G ⟨oL,a4,I.free⟩ hs,by simpa using I.len⟩ ⟨_,hs,.inl rfl⟩
  .exact(hs.2 b (Nat.ne_of_lt (Nat.lt_of_lt_of_le (Heap.lt_size e) I.ok.above))).trans (I.base.keep b o e n Z O)
  .obtain⟨sl,e1⟩:=I.base.slot b o e n Z O
   exact⟨sl,(hs.2 b (Nat.ne_of_lt (Nat.lt_of_lt_of_le (Heap.lt_size e) I.ok.above))).trans e1⟩
  .obtain⟨o',e1⟩:=I.base.there b o e O
   exact⟨o',(hs.2 b (Nat.ne_of_lt (Nat.lt_of_lt_of_le (Heap.lt_size e) I.ok.above))).trans e1⟩
  .by_cases hj:j=i
   .subst hj
    rw[hi]at e1;cases e1
    rw[getElem?_set_self Y]at e2
    cases e2
    exact⟨u,r,.inl ⟨U,by simp⟩⟩
   .rw[getElem?_set_ne (Ne.symm hj)]at e2
    obtain⟨u',r',q⟩:=hl j y v' e1 e2 e3
    refine⟨u',r',?_⟩
    rcases q with⟨k,e⟩|⟨k,c,e,z⟩
    .refine .inl ⟨k,?_⟩
     have:y≠x:=fun e=>hj (zi4 hN e1 (e ▸ hi))
     simp[this,e]
    .exact .inr ⟨k,c,e,z.sameBut hs (cne y c e)⟩
  .obtain⟨w',z⟩:=I.cell y c e
   exact⟨w',z.sameBut hs (cne y c e)⟩
  .obtain⟨e,n,ne,nf,d⟩:=I.pin p hp
   exact⟨(hs.2 p.1 ne).trans e,n,ne,nf,d⟩
 .have hfn:X.fn x=true:=by
   rcases hf with z|z
   .exact z
   .rw[z]at U;cases U
  obtain⟨c,L⟩:=I.ok.has x (.inl U)
  obtain⟨w',z⟩:=I.cell x c L
  refine wpAny_storeName_cell I.ok.kind U L z (fun h' a3 hs=>?_)
  obtain⟨oc,a1,a0⟩:=id z
  refine h { s with heap:=h' } ⟨I.ok,I.os,I.bare,⟨fun b o e n Z O=>?_,fun b o e n Z O=>?_,I.base.free,fun b o e O=>?_,I.base.tups,I.base.frzs,I.base.tbls⟩,⟨m,hn.sameBut hs (Ne.symm (cne x c L)),fun j y v' e1 e2 e3=>?_⟩,fun y c' e=>?_,I.free,I.freeC,fun p hp=>?_,G ⟨oc,a1,I.freeC x c L⟩ hs,by simpa using I.len⟩ ⟨c,hs,.inr L⟩
  .exact(hs.2 b (Nat.ne_of_lt (Nat.lt_of_lt_of_le (Heap.lt_size e) (I.ok.cab x c hfn L)))).trans (I.base.keep b o e n Z O)
  .obtain⟨sl,e1⟩:=I.base.slot b o e n Z O
   exact⟨sl,(hs.2 b (Nat.ne_of_lt (Nat.lt_of_lt_of_le (Heap.lt_size e) (I.ok.cab x c hfn L)))).trans e1⟩
  .obtain⟨o',e1⟩:=I.base.there b o e O
   exact⟨o',(hs.2 b (Nat.ne_of_lt (Nat.lt_of_lt_of_le (Heap.lt_size e) (I.ok.cab x c hfn L)))).trans e1⟩
  .by_cases hj:j=i
   .subst hj
    rw[hi]at e1;cases e1
    rw[getElem?_set_self Y]at e2
    cases e2
    exact⟨u,r,.inr ⟨.inl U,c,L,a3⟩⟩
   .rw[getElem?_set_ne (Ne.symm hj)]at e2
    obtain⟨u',r',q⟩:=hl j y v' e1 e2 e3
    refine⟨u',r',?_⟩
    rcases q with q|⟨k,c',e,z'⟩
    .exact .inl q
    .refine .inr ⟨k,c',e,z'.sameBut hs ?_⟩
     rintro rfl
     exact hj (zi4 hN e1 (I.ok.inj _ _ _ e L ▸ hi))
  .by_cases hcc:c'=c
   .subst hcc;exact⟨_,a3⟩
   .obtain⟨w2,z2⟩:=I.cell y c' e
    exact⟨w2,z2.sameBut hs hcc⟩
  .obtain⟨e,n,ne,nf,d⟩:=I.pin p hp
   refine⟨(hs.2 p.1 ?_).trans e,n,ne,nf,d⟩
   intro q
   rw[q,a1]at e
   have q':oc=p.2:=Option.some.inj e
   exact d w' (by rw[<-q'];exact a0)
theorem zk7 {M:Model}{A:Around}{E:Value->Shared->Prop}{i:Nat}{x:Str}{v:V}{u:Value}{Q:Unit->Shared->Prop}(I:Inv X pins σ H s)(G:X.N.Nodup)(hi:X.N[i]? =some x)(j:Loc X.env.scope x)(r:RelV v u)
  (h:∀ s',Inv X pins (σ.set i (some v)) H s'->Q () s') (z:X.fn x=true\/X.env.scope.names.lookup x=some .local:=by first|exact .inl rfl|exact .inr rfl|assumption):wpAny M A (storeName X.env x u) Q E s:=
 J7 I G hi j r (fun s' L _=>h s' L) z
theorem Inv.call' {s':Shared}{ch:List Addr}(I:Inv X pins σ H s)(j:s'.os=s.os)(u:Un (frs X.stack) ch H H' s.heap s'.heap)(hok:HOk X.prog X.w H' s'.heap)(z:AllBare s'.gens)
  (i:∀ b∈ch,(b∈X.ex\/X.s₀.heap.objs.size<=b)/\b≠X.env.locals/\(∀ x c,X.env.cells.lookup x=some c->c≠b)/\∀ p∈X.pn++pins,p.1≠b):Inv X pins σ H' s':=by
 obtain⟨h',g',d',t',o'⟩:=s'
 have e:o'=s.os:=j
 subst e
 exact I.call (g':=g') (t':=t') (d':=d') u hok z i
end
noncomputable abbrev XK:=Value->Option Addr->Hp->Prop
noncomputable abbrev St:=List (Option V)
noncomputable abbrev VK:=V->Hp->Prop
noncomputable abbrev TE:=St->Hp->VK->Prop
noncomputable abbrev TT:=St->Hp->(Bool->Hp->Prop)->Prop
noncomputable abbrev TA:=St->Hp->(List V->Hp->Prop)->Prop
structure Ends where
 nx:St->Hp->Prop
 rt:VK
 bk:St->Hp->Prop:=fun _ _=>False
 ct:St->Hp->Prop:=fun _ _=>False
noncomputable abbrev TS:=Ends->St->Hp->Prop
def EP (X:Cx)(pins:List (Addr×Obj))(σ:St)(Q:VK)(u:Value)(s':Shared):Prop:=∃ v H',Inv X pins σ H' s'/\RelV v u/\Q v H'
def TP (X:Cx)(pins:List (Addr×Obj))(σ:St)(Q:Bool->Hp->Prop)(b:Bool)(s':Shared):Prop:=∃ H',Inv X pins σ H' s'/\Q b H'
def AP (X:Cx)(pins:List (Addr×Obj))(σ:St)(Q:List V->Hp->Prop)(us:List Value)(s':Shared):Prop:=∃ vs H',Inv X pins σ H' s'/\Vals vs us/\Q vs H'
def SP (X:Cx)(pins:List (Addr×Obj))(D:Ends)(f:Flow)(s':Shared):Prop:=
 match f with
 | .next=>∃ σ' H',Inv X pins σ' H' s'/\D.nx σ' H'
 | .brk=>∃ σ' H',Inv X pins σ' H' s'/\D.bk σ' H'
 | .cont=>∃ σ' H',Inv X pins σ' H' s'/\D.ct σ' H'
 | .ret u=>∃ v σ' H',Inv X pins σ' H' s'/\RelV v u/\D.rt v H'
def PE (X:Cx)(e:Expr)(t:TE):Prop:=
 ∀(pins:List (Addr×Obj))(s:Shared)(σ:St)(H:Hp)(Q:VK),Inv X pins σ H s->t σ H Q->wpAny (model X.prog X.w) X.A (eval e X.env) (EP X pins σ Q) X.xe s
def PT (X:Cx)(e:Expr)(t:TT):Prop:=
 ∀(pins:List (Addr×Obj))(s:Shared)(σ:St)(H:Hp)(Q:Bool->Hp->Prop),Inv X pins σ H s->t σ H Q->wpAny (model X.prog X.w) X.A (isTrue e X.env (eval e X.env)) (TP X pins σ Q) X.xe s
def PW (X:Cx)(e:Expr)(t:TT):Prop:=
 ∀(whole:Sem Value)(pins:List (Addr×Obj))(s:Shared)(σ:St)(H:Hp)(Q:Bool->Hp->Prop),Inv X pins σ H s->t σ H Q->wpAny (model X.prog X.w) X.A (isTrue e X.env whole) (TP X pins σ Q) X.xe s
theorem PW.pt {X:Cx}{e:Expr}{t:TT}(h:PW X e t):PT X e t:=h _
def PA (X:Cx)(es:List Expr)(t:TA):Prop:=
 ∀(pos:Pos)(pins:List (Addr×Obj))(s:Shared)(σ:St)(H:Hp)(Q:List V->Hp->Prop),Inv X pins σ H s->t σ H Q->wpAny (model X.prog X.w) X.A (spliced (backTo pos (starEach es X.env))) (AP X pins σ Q) X.xe s
def PS (X:Cx)(st:Stmt)(t:TS):Prop:=
 ∀(pins:List (Addr×Obj))(s:Shared)(σ:St)(H:Hp)(D:Ends),Inv X pins σ H s->t D σ H->wpAny (model X.prog X.w) X.A (exec st X.env) (SP X pins D) X.xe s
def PSs (X:Cx)(st:List Stmt)(t:TS):Prop:=
 ∀(pins:List (Addr×Obj))(s:Shared)(σ:St)(H:Hp)(D:Ends),Inv X pins σ H s->t D σ H->wpAny (model X.prog X.w) X.A (execs st X.env) (SP X pins D) X.xe s
theorem thn {α:Type}{t:Sem α}{Q i:α->Shared->Prop}{M:Model}{A:Around}{E:Value->Shared->Prop}{s:Shared}(h:wpAny M A t Q E s)(j:∀ a s,Q a s->i a s):wpAny M A t i E s:=wpAny_mono h j fun _ _ x=>x
end
section
section
variable {X:Cx}
def tVar (i:Nat):TE:=fun σ H Q=>∃ v,σ[i]? =some (some v)/\Q v H
def tC (v:V):TE:=fun _ H Q=>Q v H
theorem xn3 {i:Nat}{x:Str}{pos:Pos}(S:X.N[i]? =some x)(M:Vis X.env.scope x)(hd:(x==("__debug__":Str))=false:=by decide)(G:(x==("__classdict__":Str))=false:=by decide):PE X (.Name x pos) (tVar i):=by
 intro pins s σ H Q I h
 obtain⟨v,e,h⟩:=h
 obtain⟨m,hn,O⟩:=I.loc
 obtain⟨u,r,l⟩:=O i x v S e M
 have fin:EP X pins σ Q u s:=⟨v,H,I,r,h⟩
 rcases l with⟨z,hm⟩|⟨z,c,L,j⟩
 .exact wpAny_Name (wpAny_loadName_local I.ok.kind z hn hm fin) hd
 .rcases z with z|z
  .exact wpAny_Name (wpAny_loadName_cell I.ok.kind z L j fin) hd
  .exact wpAny_Name (wpAny_loadName_free I.ok.kind z L j fin G) hd
theorem pe_int {i j pos}:PE X (.Constant (.int i) j pos) (tC (.int i)):=fun _ _ _ H _ I h=>wpAny_Constant_int ⟨.int i,H,I.tok _,⟨_,rfl⟩,h⟩
theorem pe_bl {b j pos}:PE X (.Constant (.bool b) j pos) (tC (.bl b)):=fun _ _ _ H _ I h=>Constant_bool ⟨.bl b,H,I,rfl,h⟩
theorem pe_non {j pos}:PE X (.Constant .none j pos) (tC .non):=fun _ _ _ H _ I h=>Constant_none ⟨.non,H,I,rfl,h⟩
def Gl (X:Cx)(x:Str):Prop:=X.env.kindOf x=some .globalImplicit
theorem yu8 {E:Value->Shared->Prop}{pins:List (Addr×Obj)}{s:Shared}{σ:St}{H:Hp}{x:Str}{u:Value}{pos:Pos}{Q:Value->Shared->Prop}(I:Inv X pins σ H s)(i:Gl X x)(hm:X.mg x=some u)(h:Q u s)
  (hd:(x==("__debug__":Str))=false:=by decide):wpAny (model X.prog X.w) X.A (eval (.Name x pos) X.env) Q E s:=
 Calls.Name_function_global I.ok.kind i (Calls.loadGlobal_global (by rw[I.ok.glob];exact I.mod.glob.keeps I.bk) hm h) hd
theorem T7 {E:Value->Shared->Prop}{pins:List (Addr×Obj)}{s:Shared}{σ:St}{H:Hp}{x:Str}{u:Value}{pos:Pos}{Q:Value->Shared->Prop}(I:Inv X pins σ H s)(j:Gl X x)(hm:X.mg x=none)(i:bootBuiltins x=some u)(h:Q u s)
  (hn:x≠"__name__":=by decide) (hd:(x==("__debug__":Str))=false:=by decide):wpAny (model X.prog X.w) X.A (eval (.Name x pos) X.env) Q E s:=by
 obtain⟨mb,h1,h2⟩:=I.mod.blt
 exact Calls.Name_function_global I.ok.kind j (Calls.loadGlobal_builtin (by rw[I.ok.glob];exact I.mod.glob.keeps I.bk) hm (by rw[I.ok.blt];exact h1.keeps I.bk) ((h2 x hn).trans i) h) hd
theorem xy7 {x:Str}{v:V}{u:Value}{pos:Pos}(i:Gl X x)(hm:X.mg x=some u)(r:RelV v u)(hd:(x==("__debug__":Str))=false:=by decide):PE X (.Name x pos) (tC v):=
 fun _ _ _ H _ I h=>yu8 I i hm ⟨v,H,I,r,h⟩ hd
theorem zp0 {x:Str}{v:V}{u:Value}{pos:Pos}(j:Gl X x)(hm:X.mg x=none)(i:bootBuiltins x=some u)(r:RelV v u)(hn:x≠"__name__":=by decide)(hd:(x==("__debug__":Str))=false:=by decide):PE X (.Name x pos) (tC v):=
 fun _ _ _ H _ I h=>T7 I j hm i ⟨v,H,I,r,h⟩ hn hd
variable {a b:Expr}{ta tb:TE}{pos:Pos}
def tB (t:TE):TT:=fun σ H Q=>t σ H fun x H1=>∃ c,x= .bl c/\Q c H1
variable {tA tB':TT}{rest:List Expr}
def tAnd (t u:TT):TT:=fun σ H Q=>t σ H fun c H1=>if c=true then u σ H1 Q else Q false H1
def tOr (t u:TT):TT:=fun σ H Q=>t σ H fun c H1=>if c=true then Q true H1 else u σ H1 Q
def tNot (t:TT):TT:=fun σ H Q=>t σ H fun c H1=>Q (!c) H1
theorem xz2 (ha:PT X a tA):PW X (.BoolOp .And [a] pos) tA:=by
 intro i pins s σ H Q I h
 refine isTrue_and (thn (ha pins s σ H Q I h) fun c s1 e=>?_)
 cases c with
 |true=>exact isTrue_and_nil e
 |false=>exact e
theorem xo2 (ha:PT X a tA):PW X (.BoolOp .Or [a] pos) tA:=by
 intro i pins s σ H Q I h
 refine isTrue_or (thn (ha pins s σ H Q I h) fun c s1 e=>?_)
 cases c with
 |false=>exact isTrue_or_nil e
 |true=>exact e
theorem xo3 (ha:PT X a tA)(L:PW X (.BoolOp .And (b::rest) pos) tB'):PW X (.BoolOp .And (a::b::rest) pos) (tAnd tA tB'):=by
 intro G pins s σ H Q I h
 refine isTrue_and (thn (ha pins s σ H _ I h) fun c s1 i=>?_)
 obtain⟨H1,z,j⟩:=i
 cases c with
 |true=>exact L G pins s1 σ H1 Q z j
 |false=>exact⟨H1,z,j⟩
theorem xc9 (ha:PT X a tA)(L:PW X (.BoolOp .Or (b::rest) pos) tB'):PW X (.BoolOp .Or (a::b::rest) pos) (tOr tA tB'):=by
 intro G pins s σ H Q I h
 refine isTrue_or (thn (ha pins s σ H _ I h) fun c s1 i=>?_)
 obtain⟨H1,z,j⟩:=i
 cases c with
 |true=>exact⟨H1,z,j⟩
 |false=>exact L G pins s1 σ H1 Q z j
theorem xo5 (ha:PT X a tA):PT X (.UnaryOp .Not a pos) (tNot tA):=by
 intro pins s σ H Q I h
 exact isTrue_not (ha pins s σ H (fun c H1=>Q (!c) H1) I h)
def xd9 (ta tb:TE):TE:=fun σ H Q=>ta σ H fun x H1=>∃ c,x= .bl c/\if c=true then tb σ H1 Q else Q (.bl false) H1
def xd5 (ta:TE):TE:=fun σ H Q=>ta σ H fun x H1=>∃ c,x= .bl c/\Q (.bl (!c)) H1
theorem ye1 {op}{t:TE}(h:PE X a t):PE X (.BoolOp op [a] pos) t:=fun pins s σ H Q I hw=>BoolOp_one (h pins s σ H Q I hw)
theorem xn7 (ha:PE X a ta)(L:PE X (.BoolOp .And (b::rest) pos) tb):PE X (.BoolOp .And (a::b::rest) pos) (xd9 ta tb):=by
 intro pins s σ H Q I h
 refine BoolOp_and (thn (ha pins s σ H _ I h) fun v s1 i=>?_)
 obtain⟨x,H1,z,G,j⟩:=i
 obtain⟨c,rfl,j⟩:=j
 cases G
 refine wpAny_truthy_bool ?_
 cases c with
 |true=>exact L pins s1 σ H1 Q z j
 |false=>exact⟨.bl false,H1,z,rfl,j⟩
theorem xn5 (ha:PE X a ta):PE X (.UnaryOp .Not a pos) (xd5 ta):=by
 intro pins s σ H Q I h
 refine UnaryOp_ (thn (ha pins s σ H _ I h) fun v s1 i=>?_)
 obtain⟨x,H1,G,z,j⟩:=i
 obtain⟨c,rfl,j⟩:=j
 cases z
 exact not_of (wpAny_truthy_bool ⟨.bl (!c),H1,G,rfl,j⟩)
def tIf (t:TT)(ta tb:TE):TE:=fun σ H Q=>t σ H fun c H1=>if c=true then ta σ H1 Q else tb σ H1 Q
theorem yk3 {c:Expr}(G:PT X c tA)(ha:PE X a ta)(L:PE X b tb):PE X (.IfExp c a b pos) (tIf tA ta tb):=by
 intro pins s σ H Q I h
 refine wpAny_IfExp (thn (G pins s σ H _ I h) fun d s1 i=>?_)
 obtain⟨H1,z,j⟩:=i
 cases d with
 |true=>exact ha pins s1 σ H1 Q z j
 |false=>exact L pins s1 σ H1 Q z j
end
end
section
def SqL (K:W.Frag)(H:Hp)(a:Addr)(xs:List V):Prop:=
 Rd H a (.lst xs)\/
  ∃(o:Obj)(its:Array Value)(n:Nat),K.lookup a=some o/\o.cls= .type "list"/\o.dict=none/\o.data= .seq its n/\its.size<=sizeLine/\Vals xs its.toList
def SqT (K:W.Frag)(H:Hp)(a:Addr)(xs:List V):Prop:=
 Rd H a (.tup xs)\/
  ∃(o:Obj)(its:Array Value)(n:Nat),K.lookup a=some o/\o.cls= .type "tuple"/\o.data= .seq its n/\its.size<=sizeLine/\Vals xs its.toList
noncomputable def absV:Value->Option V
 | .none=>some .non
 | .bool b=>some (.bl b)
 | .int i _=>some (.int i)
 | .str x _=>some (.str x)
 | .bytes b _=>some (.byt b)
 | .float b _=>some (.flt b)
 | .ref a=>some (.ref a)
 | .type n=>some (.ty n)
 |_=>none
theorem RelV.abs {x:V}{u:Value}(r:RelV x u):absV u=some x:=by
 cases x with
 |non=>cases r;rfl
 |bl _=>cases r;rfl
 |int _=>obtain⟨t,rfl⟩:=r;rfl
 |str _=>obtain⟨t,rfl⟩:=r;rfl
 |byt _=>obtain⟨t,rfl⟩:=r;rfl
 |flt _=>obtain⟨t,rfl⟩:=r;rfl
 |ref _=>cases r;rfl
 |ty _=>cases r;rfl
theorem RelV.inj {x y:V}{u:Value}(r:RelV x u)(q:RelV y u):x=y:=Option.some.inj (r.abs.symm.trans q.abs)
theorem Vals.inj:∀{xs ys:List V}{us:List Value},Vals xs us->Vals ys us->xs=ys
 |_,_,_,.nil,.nil=>rfl
 |_,_,_,.cons r t,.cons r' t'=>by rw[r.inj r',Vals.inj t t']
section
variable {X:Cx}{pins:List (Addr×Obj)}{σ:St}{H:Hp}{s:Shared}{a:Addr}{xs ys:List V}
theorem SqL.of {K:W.Frag}(h:H a=some (.lst xs)):SqL K H a xs:=.inl (.inl h)
theorem SqT.of {K:W.Frag}(h:H a=some (.tup xs)):SqT K H a xs:=.inl (.inl h)
theorem Inv.list (I:Inv X pins σ H s)(h:SqL X.K H a xs):∃ its:List Value,Vals xs its/\PlainL s.heap a its.toArray/\xs.length<=sizeLine:=by
 rcases h with h|⟨o,its,n,i,j,hd,hs,G,r⟩
 .obtain⟨z,its,n,r,e⟩:=h.ok I.hok
  exact⟨its,r,⟨_,n,e,rfl,rfl,rfl⟩,z⟩
 .refine⟨its.toList,r,⟨o,n,I.kIn a o i,j,hd,by simpa using hs⟩,?_⟩
  have e:=r.length
  simp only[Array.length_toList]at e
  omega
theorem Inv.tuple (I:Inv X pins σ H s)(h:SqT X.K H a xs):∃ its:List Value,Vals xs its/\IsTup s.heap a its.toArray/\xs.length<=sizeLine:=by
 rcases h with h|⟨o,its,n,i,j,hs,G,r⟩
 .obtain⟨z,its,r,p⟩:=h.ok I.hok
  exact⟨its,r,p,z⟩
 .refine⟨its.toList,r,⟨o,I.kIn a o i,j,n,by simpa using hs⟩,?_⟩
  have e:=r.length
  simp only[Array.length_toList]at e
  omega
theorem Inv.list_inj (I:Inv X pins σ H s)(h:SqL X.K H a xs)(h':SqL X.K H a ys):xs=ys:=by
 obtain⟨its,r,⟨o,n,e,_,_,d⟩,_⟩:=I.list h
 obtain⟨its',j,⟨o',n',i,_,_,d'⟩,_⟩:=I.list h'
 rw[e]at i;cases i
 rw[d]at d'
 injection d' with z _
 have:its=its':=by simpa using congrArg Array.toList z
 subst this
 exact r.inj j
theorem Inv.tuple_inj (I:Inv X pins σ H s)(h:SqT X.K H a xs)(h':SqT X.K H a ys):xs=ys:=by
 obtain⟨its,r,⟨o,e,_,n,d⟩,_⟩:=I.tuple h
 obtain⟨its',j,⟨o',i,_,n',d'⟩,_⟩:=I.tuple h'
 rw[e]at i;cases i
 rw[d]at d'
 injection d' with z _
 have:its=its':=by simpa using congrArg Array.toList z
 subst this
 exact r.inj j
end
noncomputable abbrev Cx.wish (X:Cx)(E:Value->Shared->Prop):Cx:={ X with xe:=E }
noncomputable abbrev Cx.nox (X:Cx):Cx:=X.wish fun _ _=>False
theorem Cx.Ok.wish {X:Cx}(ok:X.Ok)(E:Value->Shared->Prop):(X.wish E).Ok:=
 ⟨ok.mod,ok.kind,ok.glob,ok.blt,ok.above,ok.inj,ok.has,ok.cab,ok.hd,ok.frames,ok.stk,ok.exf,ok.bs,ok.bsz,ok.noex,ok.exfs,ok.funs,ok.frf⟩
theorem Cx.Ok.unwish {X:Cx}{E:Value->Shared->Prop}(ok:(X.wish E).Ok):X.Ok:=
 ⟨ok.mod,ok.kind,ok.glob,ok.blt,ok.above,ok.inj,ok.has,ok.cab,ok.hd,ok.frames,ok.stk,ok.exf,ok.bs,ok.bsz,ok.noex,ok.exfs,ok.funs,ok.frf⟩
section
variable {X:Cx}{pins:List (Addr×Obj)}{σ:St}{H:Hp}{s:Shared}{E:Value->Shared->Prop}
theorem Inv.wish (I:Inv X pins σ H s)(E:Value->Shared->Prop):Inv (X.wish E) pins σ H s:=⟨I.ok.wish E,I.os,I.bare,I.base,I.loc,I.cell,I.free,I.freeC,I.pin,I.hok,I.len⟩
theorem Inv.unwish (I:Inv (X.wish E) pins σ H s):Inv X pins σ H s:=⟨I.ok.unwish,I.os,I.bare,I.base,I.loc,I.cell,I.free,I.freeC,I.pin,I.hok,I.len⟩
theorem SP.unwish {D:Ends}{f:Flow}{s':Shared}(h:SP (X.wish E) pins D f s'):SP X pins D f s':=by
 cases f with
 |next=>obtain⟨i,H',I,q⟩:=h;exact⟨i,H',I.unwish,q⟩
 |brk=>obtain⟨i,H',I,q⟩:=h;exact⟨i,H',I.unwish,q⟩
 |cont=>obtain⟨i,H',I,q⟩:=h;exact⟨i,H',I.unwish,q⟩
 |ret u=>obtain⟨v,i,H',I,r,q⟩:=h;exact⟨v,i,H',I.unwish,r,q⟩
theorem PSs.nox {st:List Stmt}{t:TS}(h:PSs X.nox st t):PSs X st t:=fun pins s σ H D I hw=>
 wpAny_mono (h pins s σ H D (I.wish _) hw) (fun _ _ q=>q.unwish) fun _ _ z=>False.elim z
end
section
variable {X:Cx}{st:Stmt}{rest:List Stmt}{t u:TS}{e:Expr}{te:TE}{pos:Pos}
def xd6:TS:=fun D σ H=>D.nx σ H
def tSeq (t u:TS):TS:=fun D σ H=>t { D with nx:=u D } σ H
theorem pss_nil:PSs X [] xd6:=fun _ _ σ H _ I h=>wpAny_execs_nil ⟨σ,H,I,h⟩
theorem zz2 (h1:PS X st t)(h2:PSs X rest u):PSs X (st::rest) (tSeq t u):=by
 intro pins s σ H D I h
 refine wpAny_execs_cons (thn (h1 pins s σ H { D with nx:=u D } I h) fun f s1 q=>?_)
 cases f with
 |next=>
  obtain⟨i,H',j,q⟩:=q
  exact h2 pins s1 i H' D j q
 |ret v=>exact q
 |brk=>exact q
 |cont=>exact q
theorem yz2 (h1:PS X st t):PSs X [st] t:=by
 intro pins s σ H D I h
 refine wpAny_execs_cons (thn (h1 pins s σ H D I h) fun f s1 q=>?_)
 cases f with
 |next=>exact wpAny_execs_nil q
 |ret v=>exact q
 |brk=>exact q
 |cont=>exact q
theorem Inv.quiet {pins:List (Addr×Obj)}{σ:St}{H:Hp}{s:Shared}(I:Inv X pins σ H s):interactive X.env=false:=by simp[interactive,I.ok.kind]
def xd7 (te:TE):TS:=fun D σ H=>te σ H fun _ H1=>D.nx σ H1
theorem zq8 (j:PE X e te)(hs:swapsWith e none pos.line X.env=pure false:=by rfl):PS X (.Expr e pos) (xd7 te):=by
 intro pins s σ H D I h
 exact wpAny_Expr_any (thn (j pins s σ H _ I h) fun v s1 ⟨x,H1,z,G,i⟩=>⟨σ,H1,z,i⟩) I.quiet hs
def tRet (te:TE):TS:=fun D σ H=>te σ H D.rt
theorem zj8 (z:PE X e te):PS X (.Return (some e) pos) (tRet te):=by
 intro pins s σ H D I h
 exact wpAny_Return_some (thn (z pins s σ H _ I h) fun v s1 ⟨x,H1,G,i,j⟩=>⟨x,σ,H1,G,i,j⟩)
def tIfS (c:TT)(t u:TS):TS:=fun D σ H=>c σ H fun b H1=>if b=true then t D σ H1 else u D σ H1
theorem xo8 {c:Expr}{a b:List Stmt}{tc:TT}(G:PT X c tc)(ha:PSs X a t)(L:PSs X b u):PS X (.If c a b pos) (tIfS tc t u):=by
 intro pins s σ H D I h
 refine wpAny_If (thn (G pins s σ H _ I h) fun d s1 i=>?_)
 obtain⟨H1,z,j⟩:=i
 cases d with
 |true=>exact ha pins s1 σ H1 D z j
 |false=>exact L pins s1 σ H1 D z j
def xq8:TS:=fun _ _ _=>False
theorem ps_never:PS X st xq8:=fun _ _ _ _ _ _ h=>h.elim
end
noncomputable abbrev TG:=V->St->Hp->(St->Hp->Prop)->Prop
noncomputable abbrev TGs:=List V->St->Hp->(St->Hp->Prop)->Prop
def PG (X:Cx)(target:Expr)(t:TG):Prop:=
 ∀(pins:List (Addr×Obj))(s:Shared)(σ:St)(H:Hp)(v:V)(u:Value)(Q:St->Hp->Prop),Inv X pins σ H s->RelV v u->t v σ H Q->
  wpAny (model X.prog X.w) X.A (assign target X.env u) (fun _ s'=>∃ σ' H',Inv X pins σ' H' s'/\Q σ' H') X.xe s
def PGs (X:Cx)(ts:List Expr)(t:TGs):Prop:=
 ∀(pins:List (Addr×Obj))(s:Shared)(σ:St)(H:Hp)(vs:List V)(us:List Value)(Q:St->Hp->Prop),Inv X pins σ H s->Vals vs us->t vs σ H Q->
  wpAny (model X.prog X.w) X.A (assignInOrder ((assignEach ts X.env).map (·.2)) us) (fun _ s'=>∃ σ' H',Inv X pins σ' H' s'/\Q σ' H') X.xe s
noncomputable abbrev TSet:=V->V->V->Hp->(Hp->Prop)->Prop
def PSet (X:Cx)(t:TSet):Prop:=
 ∀(pins:List (Addr×Obj))(s:Shared)(σ:St)(H:Hp)(o i v:V)(ov iv u:Value)(Q:Hp->Prop),Inv X pins σ H s->RelV o ov->RelV i iv->RelV v u->t o i v H Q->
  wpAny (model X.prog X.w) X.A (setItem ov iv u) (fun _ s'=>∃ H',Inv X pins σ H' s'/\Q H') X.xe s
noncomputable abbrev TIp:=V->V->Hp->VK->Prop
def PIp (X:Cx)(op:Operator)(t:TIp):Prop:=
 ∀(pins:List (Addr×Obj))(s:Shared)(σ:St)(H:Hp)(x y:V)(v u:Value)(Q:VK),Inv X pins σ H s->RelV x v->RelV y u->t x y H Q->
  wpAny (model X.prog X.w) X.A (inplaceOp op v u) (EP X pins σ Q) X.xe s
section
variable {X:Cx}{pos:Pos}
def K2 (i:Nat):TG:=fun v σ H Q=>Q (σ.set i (some v)) H
theorem y7 {i:Nat}{x:Str}(G:X.N.Nodup)(hi:X.N[i]? =some x)(j:Loc X.env.scope x)(z:X.fn x=true\/X.env.scope.names.lookup x=some .local:=by first|exact .inl rfl|exact .inr rfl|assumption):PG X (.Name x pos) (K2 i):=by
 intro pins s σ H v u Q I r h
 exact wpAny_assign_Name (zk7 I G hi j r (fun s' L=>⟨_,H,L,h⟩) z)
def gNil:TGs:=fun vs σ H Q=>vs=[]/\Q σ H
def xh3 (t:TG)(u:TGs):TGs:=fun vs σ H Q=>∃ v r,vs=v::r/\t v σ H fun σ' H'=>u r σ' H' Q
theorem a8:PGs X [] gNil:=by
 intro pins s σ H vs us Q I r h
 obtain⟨e,h⟩:=h
 subst e
 cases r
 exact assignInOrder_nil ⟨σ,H,I,h⟩
theorem v7 {e:Expr}{es:List Expr}{t:TG}{u:TGs}(h1:PG X e t)(h2:PGs X es u)
  (hs:(assignEach (e::es) X.env).map (·.2)=assign e X.env::(assignEach es X.env).map (·.2):=by rfl):PGs X (e::es) (xh3 t u):=by
 intro pins s σ H vs us Q I r h
 obtain⟨v,M,e1,h⟩:=h
 subst e1
 cases r with
 |cons r z=>
  rw[hs]
  refine assignInOrder_cons (thn (h1 pins s σ H _ _ _ I r h) fun _ s1 i=>?_)
  obtain⟨j,H1,L,G⟩:=i
  exact h2 pins s1 j H1 _ _ Q L z G
def gTup (K:W.Frag)(n:Nat)(t:TGs):TG:=fun v σ H Q=>∃ a xs,v= .ref a/\SqT K H a xs/\xs.length=n/\t xs σ H Q
theorem T0 {es:List Expr}{k:Nat}{t:TGs}{n:Nat}(M:X.calm=true)(h:PGs X es t)
  (hn:(assignEach es X.env).length=n:=by rfl) (i:(assignEach es X.env).findIdx? (·.1)=none:=by rfl):PG X (.Tuple es k pos) (gTup X.K n t):=by
 intro pins s σ H v u Q I r hw
 obtain⟨a,xs,e1,hq,L,hw⟩:=hw
 subst e1
 cases r
 obtain⟨its,j,G,O⟩:=I.tuple hq
 refine assign_Tuple_tuple (I.ok.hd M) G (by simp[hn,<-L,j.length]) i fun h' z=>?_
 have N:Inv X pins σ H { s with heap:=h' }:=I.kept (t':=s.toks) fun b o e=>z b o (Nat.ne_of_lt (Heap.lt_size e)) e
 exact h pins _ σ H xs _ Q N (by simpa using j) hw
def gSub (to ti:TE)(t:TSet):TG:=fun v σ H Q=>to σ H fun o H1=>ti σ H1 fun i H2=>t o i v H2 fun H3=>Q σ H3
theorem M6 {o i:Expr}{to L:TE}{t:TSet}(Y:PE X o to)(hi:PE X i L)(hs:PSet X t)
  (ha:∀ v,assign (.Subscript o i pos) X.env v=(do
   let z ← holding [v] (eval o X.env)
   let G ← holding [v,z] (eval i X.env)
   standAt pos
   holding [v,z,G] (setItem z G v)
   release [v,z,G] []):=by intro _;rfl):PG X (.Subscript o i pos) (gSub to L t):=by
 intro pins s σ H v u Q I r h
 rw[ha]
 refine wpAny_bind (wpAny_holding (thn (Y pins s σ H _ I h) fun z s1 j=>?_))
 obtain⟨x,H1,I1,N,U⟩:=j
 refine wpAny_bind (wpAny_holding (thn (hi pins s1 σ H1 _ I1 U) fun G s2 j=>?_))
 obtain⟨y,H2,I2,M,S⟩:=j
 refine wpAny_bind (wpAny_standAt (wpAny_bind (wpAny_holding (thn (hs pins s2 σ H2 x y v z G u _ I2 N M r S) fun _ s3 j=>?_))))
 obtain⟨H3,Z,O⟩:=j
 exact wpAny_release ⟨σ,H3,Z,O⟩
def tAsg (te:TE)(g:TG):TS:=fun D σ H=>te σ H fun x H1=>g x σ H1 D.nx
theorem U9 {tg e:Expr}{te:TE}{g:TG}(L:PE X e te)(G:PG X tg g)(hs:swapsWithSole [tg] e pos.line X.env=pure false:=by rfl)(hw:swappedStores [tg] e X.env=pure none:=by rfl)
  (h1:(assignEach [tg] X.env).map (·.2)=[assign tg X.env]:=by rfl):PS X (.Assign [tg] e pos) (tAsg te g):=by
 intro pins s σ H D I h
 refine wpAny_Assign_stores (thn (L pins s σ H _ I h) fun v s1 i=>?_) hs hw
 obtain⟨x,H1,M,j,z⟩:=i
 rw[h1]
 exact thn (G pins s1 σ H1 x v _ M j z) fun _ s2 q=>q
theorem yf9 {i:Nat}{x:Str}{e:Expr}{te:TE}{pos':Pos}(S:X.N.Nodup)(hi:X.N[i]? =some x)(L:Loc X.env.scope x)(O:PE X e te)(hs:swapsWith e (some (.Name x pos')) pos.line X.env=pure false:=by rfl)(M:X.fn x=true\/X.env.scope.names.lookup x=some .local:=by first|exact .inl rfl|exact .inr rfl|assumption):
  PS X (.Assign [.Name x pos'] e pos) (tAsg te (K2 i)):=by
 intro pins s σ H D I h
 refine wpAny_Assign_Name (thn (O pins s σ H _ I h) fun v s1 j=>?_) hs
 obtain⟨y,H1,Y,z,G⟩:=j
 exact zk7 Y S hi L z (fun s2 U=>⟨_,H1,U,G⟩) M
def xd8 (to ti te:TE)(tget:V->V->Hp->VK->Prop)(tip:TIp)(tset:TSet):TS:=fun D σ H=>to σ H fun o H1=>ti σ H1 fun i H2=>tget o i H2 fun x H3=>te σ H3 fun y H4=>tip x y H4 fun z H5=>tset o i z H5 fun H6=>D.nx σ H6
def PGet (X:Cx)(t:V->V->Hp->VK->Prop):Prop:=
 ∀(pins:List (Addr×Obj))(s:Shared)(σ:St)(H:Hp)(o i:V)(ov iv:Value)(Q:VK),Inv X pins σ H s->RelV o ov->RelV i iv->t o i H Q->
  wpAny (model X.prog X.w) X.A (getItem ov iv) (EP X pins σ Q) X.xe s
theorem xz9 {o i e:Expr}{to U te:TE}{G:V->V->Hp->VK->Prop}{N:TIp}{z:TSet}{op:Operator}{tpos:Pos}(ho:PE X o to)(hi:PE X i U)(hg:PGet X G)(he:PE X e te)(hp:PIp X op N)(hs:PSet X z)
  (ha:∀ L M new,augStore i L M new=(do holding [new,L,M] (setItem L M new);release [new,L,M] [];pure .next):=by intros;rfl):PS X (.AugAssign (.Subscript o i tpos) op e pos) (xd8 to U te G N z):=by
 intro pins s σ H D I h
 refine wpAny_AugAssign_SubscriptAny (thn (ho pins s σ H _ I h) fun L s1 j=>?_) ha
 obtain⟨S,H1,I1,Z,q1⟩:=j
 refine thn (hi pins s1 σ H1 _ I1 q1) fun M s2 j=>?_
 obtain⟨O,H2,I2,Y,q2⟩:=j
 refine thn (hg pins s2 σ H2 S O L M _ I2 Z Y q2) fun old s3 j=>?_
 obtain⟨x3,H3,I3,r3,q3⟩:=j
 refine thn (he pins s3 σ H3 _ I3 q3) fun v s4 j=>?_
 obtain⟨x4,H4,I4,r4,q4⟩:=j
 refine thn (hp pins s4 σ H4 x3 x4 old v _ I4 r3 r4 q4) fun new s5 j=>?_
 obtain⟨x5,H5,I5,r5,q5⟩:=j
 exact thn (hs pins s5 σ H5 S O x5 L M new _ I5 Z Y r5 q5) fun _ s6 ⟨H6,I6,q6⟩=>⟨σ,H6,I6,q6⟩
noncomputable def ipI (f:Int->Int->Int):TIp:=fun x y H Q=>∃ i j,x= .int i/\y= .int j/\Q (.int (f i j)) H
theorem xh1:PIp X .Add (ipI fun i j=>i+j):=by
 intro pins s σ H x y v u Q I G z h
 obtain⟨i,j,e1,e2,q⟩:=h
 subst e1;subst e2
 obtain⟨t,rfl⟩:=G
 obtain⟨t',rfl⟩:=z
 exact iadd_int ⟨.int _,H,I.tok _,⟨_,rfl⟩,q⟩
end
section
variable {X:Cx}{pos:Pos}
def xq7 (c:TT)(tb:TS):TS:=fun D σ H=>∃ W:Nat->St->Hp->Prop,(∃ m,W m σ H)/\∀ m σ H,W m σ H->
 c σ H fun b H1=>if b=true then ∃ N:St->Hp->Prop,(∀ σ' H',N σ' H'->∃ m',m'<m/\W m' σ' H')/\tb { D with nx:=N,ct:=N,bk:=D.nx } σ H1 else D.nx σ H1
theorem ym7 {c:Expr}{body:List Stmt}{tc:TT}{tb:TS}(hp:PassesOwn (model X.prog X.w) X.A X.env X.xe)(hc:PT X c tc)(hb:PSs X body tb):PS X (.While c body [] pos) (xq7 tc tb):=by
 intro pins s σ H D I h
 obtain⟨W,⟨m0,w0⟩,turn⟩:=h
 refine wpAny_While (codeAny_whileLoop (fun n s'=>∃ z H',Inv X pins z H' s'/\W n z H') ?_ m0 ⟨σ,H,I,w0⟩)
 rintro n s1 ⟨j,H1,I1,w1⟩
 refine wpAny_passesOwn hp (thn (hc pins s1 j H1 _ I1 (turn n j H1 w1)) fun b s2 G=>?_)
 obtain⟨H2,I2,O⟩:=G
 cases b with
 |true=>
  obtain⟨N,hN,O⟩:=O
  rw[if_pos rfl]
  refine wpAny_passesOwn hp (thn (hb pins s2 j H2 _ I2 O) fun f s3 M=>?_)
  cases f with
  |next=>
   obtain⟨i,L,Z,U⟩:=M
   obtain⟨Y,hm,S⟩:=hN i L U
   exact⟨Y,hm,i,L,Z,S⟩
  |cont=>
   obtain⟨i,L,Z,U⟩:=M
   obtain⟨Y,hm,S⟩:=hN i L U
   exact⟨Y,hm,i,L,Z,S⟩
  |brk=>exact M
  |ret v=>exact M
 |false=>
  rw[if_neg Bool.false_ne_true]
  exact wpAny_execs_nil ⟨j,H2,I2,O⟩
end
structure It where
 go:Nat->Hp->Prop
 yld:Nat->Hp->V->Hp->Prop
 stop:Nat->Hp->Prop
def FpOk (X:Cx)(pins:List (Addr×Obj))(H:Hp)(b:Addr):Prop:=
 H b=none/\b≠X.env.locals/\b∉X.fs/\(b∈X.ex\/X.s₀.heap.objs.size<=b)/\(∀ x c,X.env.cells.lookup x=some c->c≠b)/\∀ p∈X.pn++pins,p.1≠b
theorem Inv.fpOk {X:Cx}{pins:List (Addr×Obj)}{σ:St}{H H':Hp}{s:Shared}{b:Addr}(I:Inv X pins σ H s)(i:s.heap.objs.size<=b)(hn:H' b=none):FpOk X pins H' b:=by
 refine⟨hn,Nat.ne_of_gt (Nat.lt_of_lt_of_le I.lt i),I.nofs i,.inr (Nat.le_trans I.sz i),fun x c e z=>?_,fun p hp z=>?_⟩
 .obtain⟨v,q⟩:=I.cell x c e
  exact absurd (Nat.lt_of_lt_of_le q.lt (by rw[z];exact i)) (Nat.lt_irrefl _)
 .exact absurd (Nat.lt_of_lt_of_le (Heap.lt_size (I.pin p hp).1) (by rw[z];exact i)) (Nat.lt_irrefl _)
structure Turn (P:Program)(w:World)(K:W.Frag)(tg:Expr)(J:It)(fp:List Addr)(it:Addr)(tn:Nat->Heap->Prop):Prop where
 mem:it∈fp
 obj:∀ i h,tn i h->∀ b∈fp,∃ o,h.get? b=some o/\∀ v,o.data≠ .cell v
 keep:∀ i h h',tn i h->(∀ b∈fp,∀ o,h.get? b=some o->h'.get? b=some o)->tn i h'
 item:∀(X:Cx),X.prog=P->X.w=w->X.K=K->X.calm=true->∀(i:Nat)(pins:List (Addr×Obj))(s:Shared)(σ:St)(H:Hp)(E:Value->Shared->Prop),Inv X pins σ H s->(∀ b∈fp,FpOk X pins H b)->tn i s.heap->J.go i H->
  wpAny (model P w) X.A (pyNext (.ref it)) (fun r s1=>∃ u,r=some u/\
   wpAny (model P w) X.A (letOwnedTupleGo tg (.ref it) u) (fun _ s2=>∃ x H',Inv X pins σ H' s2/\RelV x u/\J.yld i H x H'/\tn (i+1) s2.heap/\∀ b∈fp,H' b=none) E s1) E s
 done:∀(X:Cx),X.prog=P->X.w=w->X.K=K->X.calm=true->∀(i:Nat)(pins:List (Addr×Obj))(s:Shared)(σ:St)(H:Hp)(E:Value->Shared->Prop),Inv X pins σ H s->(∀ b∈fp,FpOk X pins H b)->tn i s.heap->J.stop i H->
  wpAny (model P w) X.A (pyNext (.ref it)) (fun r s1=>r=none/\Inv X pins σ H s1) E s
 self:∀(A:Around)(i:Nat)(s:Shared)(Q:Value->Shared->Prop)(E:Value->Shared->Prop),tn i s.heap->Q (.ref it) s->wpAny (model P w) A (pyIter (.ref it)) Q E s
noncomputable abbrev TI:=St->Hp->(It->Hp->Prop)->Prop
def PIE (X:Cx)(pins:List (Addr×Obj))(σ:St)(tg:Expr)(R:It->Hp->Prop)(itv:Value)(s2:Shared):Prop:=
 ∃(it:Addr)(fp:List Addr)(tn:Nat->Heap->Prop)(J:It)(H':Hp),itv= .ref it/\Inv X pins σ H' s2/\Turn X.prog X.w X.K tg J fp it tn/\tn 0 s2.heap/\(∀ b∈fp,FpOk X pins H' b)/\R J H'
def PI (X:Cx)(tg iter:Expr)(wi:TI):Prop:=
 ∀(pins:List (Addr×Obj))(s:Shared)(σ:St)(H:Hp)(R:It->Hp->Prop),Inv X pins σ H s->wi σ H R->
  wpAny (model X.prog X.w) X.A (eval iter X.env) (fun v s1=>wpAny (model X.prog X.w) X.A (pyIter v) (PIE X pins σ tg R) X.xe s1) X.xe s
theorem yh3 {M:Model}{A:Around}{E:Value->Shared->Prop}{s:Shared}{tg:Expr}{it:Addr}{u:Value}{o:Obj}{n:String}{vs:Array Value}{Q:Unit->Shared->Prop}(j:s.heap.get? it=some o)(z:o.cls= .type n)(hd:o.data= .fields vs)
  (hn:["enumerate","zip","dict_itemiterator","dict_reverseitemiterator","odict_iterator","itertools.zip_longest","itertools.pairwise"].contains n=false) (i:Q () s):wpAny M A (letOwnedTupleGo tg (.ref it) u) Q E s:=by
 unfold letOwnedTupleGo
 cases tg <;> first
  |exact wpAny_pure i
  | (cases u <;> first
    |exact wpAny_pure i
    | (refine wpAny_bind (wpAny_load j ?_)
       rw[z,hd]
       show wpAny M A (if (["enumerate","zip","dict_itemiterator","dict_reverseitemiterator","odict_iterator","itertools.zip_longest","itertools.pairwise"].contains n&&vs[0]? ==some (rawInt _))=true then _ else _) Q E s
       rw[if_neg (by intro h;rw[hn,Bool.false_and]at h;cases h)]
       exact wpAny_pure i))
noncomputable def Itl (K:W.Frag)(a:Addr):It:=
 ⟨fun i H=>∃ xs x,SqL K H a xs/\xs[i]? =some x,fun i H x H'=>H'=H/\∀ xs,SqL K H a xs->xs[i]? =some x,fun i H=>∃ xs,SqL K H a xs/\xs.length<=i⟩
noncomputable def Itt (K:W.Frag)(a:Addr):It:=
 ⟨fun i H=>∃ xs x,SqT K H a xs/\xs[i]? =some x,fun i H x H'=>H'=H/\∀ xs,SqT K H a xs->xs[i]? =some x,fun i H=>∃ xs,SqT K H a xs/\xs.length<=i⟩
noncomputable def Itr (lo:Int)(n:Nat):It:=⟨fun i _=>i<n,fun i H x H'=>H'=H/\x= .int (lo+i),fun i _=>n<=i⟩
theorem zc9 {P:Program}{w:World}{K:W.Frag}{tg:Expr}(a it:Addr):Turn P w K tg (Itl K a) [it] it (fun i h=>h.IsListIter it a i) where
 mem:=by simp
 obj:=fun i h st b j=>by
  have e:b=it:=by simpa using j
  subst e
  obtain⟨o,e,c,d⟩:=st
  exact⟨o,e,fun v z=>by rw[d]at z;cases z⟩
 keep:=fun i h h' st k=>st.at fun o e=>k it (by simp) o e
 item:=by
  intro X S hw U hc i pins s σ H E I L st O
  subst S hw U
  obtain⟨xs,x,hq,N⟩:=O
  obtain⟨its,M,p,hz⟩:=I.list hq
  obtain⟨u,hu,ru⟩:=M.get N
  obtain⟨f0,f1,f2,f3,Z,Y⟩:=L it (by simp)
  refine wpAny_pyNext_list_item st p.isList (x:=u) (by simpa using hu) fun h' G sb=>?_
  have I1:Inv X pins σ H { s with heap:=h' }:=I.turned (t':=s.toks) (fun b o j e=>(sb.2 b j).trans e) f0 f1 f3 Z Y
  obtain⟨o,e,c,d⟩:=id G
  exact⟨u,rfl,yh3 (s:={ s with heap:=h' }) e c d (by decide) ⟨x,H,I1,ru,⟨rfl,fun ys hy=>by rw[I.list_inj hy hq];exact N⟩,G,fun b j=>(L b j).1⟩⟩
 done:=by
  intro X S hw U hc i pins s σ H E I L st O
  subst S hw U
  obtain⟨xs,hq,N⟩:=O
  obtain⟨its,M,p,hz⟩:=I.list hq
  obtain⟨f0,f1,f2,f3,Z,Y⟩:=L it (by simp)
  have hl:=M.length
  exact wpAny_pyNext_list_end (I.ok.hd hc) st p.isList (by simp;omega) fun h' eb=>⟨rfl,I.turned (t':=s.toks) (fun b o j e=>eb b o j e) f0 f1 f3 Z Y⟩
 self:=fun _ _ _ _ _ st h=>wpAny_pyIter_listiter st h
theorem zg9 {P:Program}{w:World}{K:W.Frag}{tg:Expr}(a it:Addr):Turn P w K tg (Itt K a) [it] it (fun i h=>h.IsTupleIter it a i) where
 mem:=by simp
 obj:=fun i h st b j=>by
  have e:b=it:=by simpa using j
  subst e
  obtain⟨o,e,c,d⟩:=st
  exact⟨o,e,fun v z=>by rw[d]at z;cases z⟩
 keep:=fun i h h' st k=>st.at fun o e=>k it (by simp) o e
 item:=by
  intro X S hw U hc i pins s σ H E I L st O
  subst S hw U
  obtain⟨xs,x,hq,N⟩:=O
  obtain⟨its,M,p,hz⟩:=I.tuple hq
  obtain⟨u,hu,ru⟩:=M.get N
  obtain⟨f0,f1,f2,f3,Z,Y⟩:=L it (by simp)
  refine wpAny_pyNext_tuple_item st (show s.heap.IsTuple a its.toArray from p) (x:=u) (by simpa using hu) fun h' G sb=>?_
  have I1:Inv X pins σ H { s with heap:=h' }:=I.turned (t':=s.toks) (fun b o j e=>(sb.2 b j).trans e) f0 f1 f3 Z Y
  obtain⟨o,e,c,d⟩:=id G
  exact⟨u,rfl,yh3 (s:={ s with heap:=h' }) e c d (by decide) ⟨x,H,I1,ru,⟨rfl,fun ys hy=>by rw[I.tuple_inj hy hq];exact N⟩,G,fun b j=>(L b j).1⟩⟩
 done:=by
  intro X S hw U hc i pins s σ H E I L st O
  subst S hw U
  obtain⟨xs,hq,N⟩:=O
  obtain⟨its,M,p,hz⟩:=I.tuple hq
  obtain⟨f0,f1,f2,f3,Z,Y⟩:=L it (by simp)
  have hl:=M.length
  exact wpAny_pyNext_tuple_end (I.ok.hd hc) st (show s.heap.IsTuple a its.toArray from p) (by simp;omega) fun h' eb=>⟨rfl,I.turned (t':=s.toks) (fun b o j e=>eb b o j e) f0 f1 f3 Z Y⟩
 self:=fun _ _ _ _ _ st h=>wpAny_pyIter_tupleiter st h
theorem zf0 {P:Program}{w:World}{K:PySem.W.Frag}{tg:Expr}(it:Addr)(lo:Int)(n:Nat):Turn P w K tg (Itr lo n) [it] it (fun i h=>IsRangeIter h it (lo+(i:Nat)*1) ((n:Int)-(i:Nat)) 1) where
 mem:=by simp
 obj:=fun i h st b j=>by
  have e:b=it:=by simpa using j
  subst e
  exact⟨_,st,fun v z=>by
   have z':Data.fields _=Data.cell v:=z
   cases z'⟩
 keep:=fun i h h' st k=>k it (by simp) _ st
 item:=by
  intro X O hw S N i pins s σ H E I L st M
  subst O hw S
  obtain⟨f0,f1,f2,Z,Y,U⟩:=L it (by simp)
  have W:=Walks.range (prog:=X.prog) (w:=X.w) (I.ok.hd N) it lo 1 n
  refine W.item i s _ _ M st fun v h' tk hv G kk=>?_
  obtain⟨t,rfl⟩:=hv
  have I1:Inv X pins σ H { s with heap:=h',toks:=tk }:=I.turned (fun b o j e=>kk b o (by simpa using j) e) f0 f1 Z Y U
  refine⟨_,rfl,yh3 (s:={ s with heap:=h',toks:=tk }) (n:="range_iterator") G rfl rfl (by decide) ⟨.int (lo+i),H,I1,⟨t,?_⟩,⟨rfl,rfl⟩,G,fun b j=>(L b j).1⟩⟩
  rw[Int.mul_one]
 done:=by
  intro X O hw S N i pins s σ H E I L st M
  subst O hw S
  obtain⟨f0,f1,f2,Z,Y,U⟩:=L it (by simp)
  exact wpAny_pyNext_range_end (I.ok.hd N) st (by have:n<=i:=M;omega) fun h' eb=>⟨rfl,I.turned (t':=s.toks) (fun b o j e=>eb b o j e) f0 f1 Z Y U⟩
 self:=fun _ _ _ _ _ st h=>wpAny_pyIter_rangeiter st h
end
section
section
variable {X:Cx}{tg:Expr}
def wz4 (K:W.Frag)(tl:TE):TI:=fun σ H R=>tl σ H fun x H1=>∃ a,x= .ref a/\(∃ xs,SqL K H1 a xs)/\R (Itl K a) H1
def iTup (K:W.Frag)(tl:TE):TI:=fun σ H R=>tl σ H fun x H1=>∃ a,x= .ref a/\(∃ xs,SqT K H1 a xs)/\R (Itt K a) H1
theorem xy4 {l:Expr}{tl:TE}(L:PE X l tl):PI X tg l (wz4 X.K tl):=by
 intro pins s σ H R I h
 refine thn (L pins s σ H _ I h) fun v s1 i=>?_
 obtain⟨x,H1,j,z,G⟩:=i
 obtain⟨a,e,⟨xs,hq⟩,q⟩:=G
 subst e
 cases z
 obtain⟨its,N,p,O⟩:=j.list hq
 refine wpAny_pyIter_list p.isList ?_
 refine⟨s1.heap.objs.size,[s1.heap.objs.size],_,_,H1,rfl,j.kept (t':=s1.toks) fun b o e=>Heap.get?_push_of_some _ e,zc9 a _,⟨_,Heap.get?_push_size _ rfl,rfl,rfl⟩,fun b M=>?_,q⟩
 have e:b=s1.heap.objs.size:=by simpa using M
 subst e
 exact j.fpOk (Nat.le_refl _) (j.hok.fresh (Nat.le_refl _))
theorem xo9 {l:Expr}{tl:TE}(L:PE X l tl):PI X tg l (iTup X.K tl):=by
 intro pins s σ H R I h
 refine thn (L pins s σ H _ I h) fun v s1 i=>?_
 obtain⟨x,H1,j,z,G⟩:=i
 obtain⟨a,e,⟨xs,hq⟩,q⟩:=G
 subst e
 cases z
 obtain⟨its,N,p,O⟩:=j.tuple hq
 refine wpAny_pyIter_tuple (show s1.heap.IsTuple a its.toArray from p) ?_
 refine⟨s1.heap.objs.size,[s1.heap.objs.size],_,_,H1,rfl,j.kept (t':=s1.toks) fun b o e=>Heap.get?_push_of_some _ e,zg9 a _,⟨_,Heap.get?_push_size _ rfl,rfl,rfl⟩,fun b M=>?_,q⟩
 have e:b=s1.heap.objs.size:=by simpa using M
 subst e
 exact j.fpOk (Nat.le_refl _) (j.hok.fresh (Nat.le_refl _))
theorem zj3 {pins:List (Addr×Obj)}{σ:St}{H:Hp}{s:Shared}{R:It->Hp->Prop}{E:Value->Shared->Prop}{lo hi:Int}{t u v:Tok}{tk:Nat}(I:Inv X pins σ H s)(h1:-(2^62)<=lo)(h2:lo<2^62)(G:-(2^62)<=hi)(z:hi<2^62)
  (q:R (Itr lo (hi-lo).toNat) H):wpAny (model X.prog X.w) X.A (pyIter (.ref s.heap.objs.size)) (PIE X pins σ tg R) E { s with heap:=s.heap.push { cls:=.type "range",data:=.fields #[.int lo t,.int hi u,.int 1 v] },toks:=tk }:=by
 refine wpAny_pyIter_range (IsRange.new ..) (small_one h1 h2 G z) ?_
 have i:Inv X pins σ H { s with heap:=s.heap.push { cls:=.type "range",data:=.fields #[.int lo t,.int hi u,.int 1 v] },toks:=tk }:=I.kept fun b o e=>Heap.get?_push_of_some _ e
 refine⟨(s.heap.push { cls:=.type "range",data:=.fields #[.int lo t,.int hi u,.int 1 v] }).objs.size,[(s.heap.push { cls:=.type "range",data:=.fields #[.int lo t,.int hi u,.int 1 v] }).objs.size],_,_,H,rfl,
  i.kept (t':=tk) fun b o e=>Heap.get?_push_of_some _ e,zf0 _ lo (hi-lo).toNat,?_,fun b j=>?_,q⟩
 .have e1:lo+((0:Nat):Int)*1=lo:=by simp
  have e2:(((hi-lo).toNat:Nat):Int)-((0:Nat):Int)=Builtin.Range.rangeSize lo hi 1:=by rw[rangeSize_one];split <;> omega
  show IsRangeIter _ _ (lo+((0:Nat):Int)*1) ((((hi-lo).toNat:Nat):Int)-((0:Nat):Int)) 1
  rw[e1,e2]
  exact Heap.get?_push_size _ rfl
 .have e:b=(s.heap.push { cls:=.type "range",data:=.fields #[.int lo t,.int hi u,.int 1 v] }).objs.size:=by simpa using j
  subst e
  exact i.fpOk (Nat.le_refl _) (i.hok.fresh (Nat.le_refl _))
def wz3 (ta:TA):TI:=fun σ H R=>ta σ H fun vs H1=>∃ j:Int,vs=[.int j]/\ -(2^62)<=j/\j<2^62/\R (Itr 0 j.toNat) H1
def wz2 (ta:TA):TI:=fun σ H R=>ta σ H fun vs H1=>∃ i j:Int,vs=[.int i,.int j]/\(-(2^62)<=i/\i<2^62/\ -(2^62)<=j/\j<2^62)/\R (Itr i (j-i).toNat) H1
theorem yy2 {a:Expr}{ta:TA}{p pos:Pos}(N:Gl X "range")(hm:X.mg "range"=none)(ha:PA X [a] ta)(hs:starEach [a] X.env=[(false,eval a X.env)]:=by rfl):PI X tg (.Call (.Name "range" p) [a] [] pos) (wz3 ta):=by
 intro pins s σ H R I h
 refine Call_ (T7 I N hm boot_range (PyProof.Rows.callWith_type1 (thn (ha pos pins s σ H _ I h) fun us s1 i=>?_) hs rfl))
 obtain⟨vs,H1,O,L,z⟩:=i
 obtain⟨j,e,z,M,q⟩:=z
 subst e
 cases L with
 |cons r G=>
  cases G
  obtain⟨t,rfl⟩:=r
  exact call_range_1 (zj3 O (by omega) (by omega) z M (by simpa using q))
theorem yy1 {a b:Expr}{ta:TA}{p pos:Pos}(Z:Gl X "range")(hm:X.mg "range"=none)(ha:PA X [a,b] ta)(hs:starEach [a,b] X.env=[(false,eval a X.env),(false,eval b X.env)]:=by rfl)(z:starEach [b] X.env=[(false,eval b X.env)]:=by rfl):
  PI X tg (.Call (.Name "range" p) [a,b] [] pos) (wz2 ta):=by
 intro pins s σ H R I h
 refine Call_ (T7 I Z hm boot_range (PyProof.Rows.callWith_type1 (thn (ha pos pins s σ H _ I h) fun us s1 G=>?_) (by rw[hs,z]) (by rw[z];rfl)))
 obtain⟨vs,H1,I1,N,M⟩:=G
 obtain⟨i,j,e,⟨M,Y,U,S⟩,q⟩:=M
 subst e
 cases N with
 |cons r L=>
  cases L with
  |cons O L=>
   cases L
   obtain⟨t,rfl⟩:=r
   obtain⟨t',rfl⟩:=O
   exact call_range_2 (zj3 I1 M Y U S q)
def tFor (wi:TI)(g:TG)(tb:TS):TS:=fun D σ H=>wi σ H fun J H1=>∃ W:Nat->Nat->St->Hp->Prop,(∃ m,W 0 m σ H1)/\∀ i m σ H,W i m σ H->
 (J.stop i H/\D.nx σ H)\/(J.go i H/\∃ N:St->Hp->Prop,(∀ σ' H',N σ' H'->∃ m',m'<m/\W (i+1) m' σ' H')/\∀ x H',J.yld i H x H'->g x σ H' fun σ2 H2=>tb { D with nx:=N,ct:=N,bk:=D.nx } σ2 H2)
noncomputable def G0 (fp:List Addr)(h:Heap):List (Addr×Obj):=fp.filterMap fun b=>(h.get? b).map fun o=>(b,o)
theorem g7 {fp:List Addr}{h:Heap}{b:Addr}{o:Obj}(i:b∈fp)(e:h.get? b=some o):(b,o)∈G0 fp h:=List.mem_filterMap.mpr ⟨b,i,by rw[e];rfl⟩
theorem yw2 {fp:List Addr}{h:Heap}{p:Addr×Obj}(hp:p∈G0 fp h):p.1∈fp/\h.get? p.1=some p.2:=by
 obtain⟨b,i,e⟩:=List.mem_filterMap.mp hp
 cases q:h.get? b with
 |none=>rw[q]at e;cases e
 |some o=>
  rw[q]at e
  have j:(b,o)=p:=Option.some.inj e
  subst j
  exact⟨i,q⟩
theorem Inv.pinned {pins:List (Addr×Obj)}{σ:St}{H:Hp}{s:Shared}{fp:List Addr}(I:Inv X pins σ H s)(L:∀ b∈fp,FpOk X pins H b)(G:∀ b∈fp,∃ o,s.heap.get? b=some o/\∀ v,o.data≠ .cell v):Inv X (pins++G0 fp s.heap) σ H s:=
 I.pins_of fun p hp=>(List.mem_append.mp hp).elim (fun z=>I.pin p (mem_append_right _ z)) fun z=>by
  obtain⟨i,e⟩:=yw2 z
  obtain⟨O,N,M,_⟩:=L p.1 i
  obtain⟨o,j,d⟩:=G p.1 i
  rw[e]at j;cases j
  exact⟨e,O,N,M,d⟩
theorem Inv.unpinned {pins pl:List (Addr×Obj)}{σ:St}{H:Hp}{s:Shared}(I:Inv X (pins++pl) σ H s):Inv X pins σ H s:=I.pins_of fun p hp=>I.pin p (mem_append_right _ (mem_append_left _ hp))
theorem yz5 {iter:Expr}{body:List Stmt}{wi:TI}{g:TG}{tb:TS}{pos:Pos}(hp:PassesOwn (model X.prog X.w) X.A X.env X.xe)(hc:X.calm=true)(hi:PI X tg iter wi)(hg:PG X tg g)(O:PSs X body tb)
  (hs:∀ x,foldedSetIterable iter X.env x=pure x:=by intro _;rfl):PS X (.For tg iter body [] pos) (tFor wi g tb):=by
 intro pins s σ H D I h
 refine wpAny_For (thn (hi pins s σ H _ I h) fun v s1 h1=>thn h1 fun a6 s2 h2=>?_) hs
 obtain⟨it,fp,tn,J,H2,e,I2,T,a3,f2,W,⟨m0,w0⟩,turn⟩:=h2
 subst e
 have L:∀{H':Hp},(∀ b∈fp,H' b=none)->∀ b∈fp,FpOk X pins H' b:=fun hn b O=>⟨hn b O,(f2 b O).2⟩
 refine codeAny_forLoop_any (fun n s'=>∃ i G H',Inv X pins G H' s'/\tn i s'.heap/\(∀ b∈fp,H' b=none)/\W i n G H') ?_ m0 ⟨0,σ,H2,I2,a3,fun b O=>(f2 b O).1,w0⟩
 rintro n s3 ⟨i,z,H3,I3,a0,a1,w3⟩
 rcases turn i n z H3 w3 with⟨stop,qn⟩|⟨go,N,hN,step⟩
 .refine wpAny_passesOwn hp (thn (T.done X rfl rfl rfl hc i pins s3 z H3 X.xe I3 (L a1) a0 stop) fun r s4 ⟨hr,I4⟩=>?_)
  subst hr
  exact wpAny_execs_nil ⟨z,H3,I4,qn⟩
 .refine wpAny_passesOwn hp (thn (T.item X rfl rfl rfl hc i pins s3 z H3 X.xe I3 (L a1) a0 go) fun r s4 ⟨u,hr,h4⟩=>?_)
  subst hr
  refine wpAny_passesOwn hp (thn h4 fun _ s5 M=>?_)
  obtain⟨x,H5,I5,r5,y5,Z,a4⟩:=M
  have a5:=I5.pinned (L a4) (T.obj _ _ Z)
  refine wpAny_passesOwn hp (thn (hg _ s5 z H5 x u _ a5 r5 (step x H5 y5)) fun _ s6 M=>?_)
  obtain⟨a2,H6,I6,q6⟩:=M
  refine wpAny_passesOwn hp (thn (O _ s6 a2 H6 _ I6 q6) fun f s7 Y=>?_)
  have again:∀{j:St}{U:Hp},Inv X (pins++G0 fp s5.heap) j U s7->N j U->∃ m,m<n/\∃ i G H',Inv X pins G H' s7/\tn i s7.heap/\(∀ b∈fp,H' b=none)/\W i m G H':=fun{j U} S n7=>by
   obtain⟨m',hm,w7⟩:=hN j U n7
   refine⟨m',hm,i+1,j,U,S.unpinned,T.keep _ _ _ Z fun b O o e=>(S.pin (b,o) (mem_append_right _ (mem_append_right _ (g7 O e)))).1,fun b O=>?_,w7⟩
   obtain⟨o,e,d⟩:=T.obj _ _ Z b O
   exact(S.pin (b,o) (mem_append_right _ (mem_append_right _ (g7 O e)))).2.1
  cases f with
  |next=>obtain⟨j,U,S,n7⟩:=Y;exact again S n7
  |cont=>obtain⟨j,U,S,n7⟩:=Y;exact again S n7
  |brk=>obtain⟨j,U,S,Y⟩:=Y;exact⟨j,U,S.unpinned,Y⟩
  |ret v=>obtain⟨x7,j,U,S,r7,Y⟩:=Y;exact⟨x7,j,U,S.unpinned,r7,Y⟩
end
end
section
noncomputable abbrev R2:=V->V->Hp->VK->Prop
def OpR (X:Cx)(f:Value->Value->Sem Value)(r:R2):Prop:=
 ∀(pins:List (Addr×Obj))(s:Shared)(σ:St)(H:Hp)(x y:V)(v u:Value)(Q:VK),Inv X pins σ H s->RelV x v->RelV y u->r x y H Q->
  wpAny (model X.prog X.w) X.A (f v u) (EP X pins σ Q) X.xe s
def UnR (X:Cx)(f:Value->Sem Value)(r:V->Hp->VK->Prop):Prop:=
 ∀(pins:List (Addr×Obj))(s:Shared)(σ:St)(H:Hp)(x:V)(v:Value)(Q:VK),Inv X pins σ H s->RelV x v->r x H Q->
  wpAny (model X.prog X.w) X.A (f v) (EP X pins σ Q) X.xe s
def CallR (X:Cx)(f:Value)(r:List V->Hp->VK->Prop):Prop:=
 ∀(pins:List (Addr×Obj))(s:Shared)(σ:St)(H:Hp)(xs:List V)(us:List Value)(Q:VK),Inv X pins σ H s->Vals xs us->r xs H Q->
  wpAny (model X.prog X.w) X.A (call f us) (EP X pins σ Q) X.xe s
def TruR (X:Cx)(r:V->Hp->(Bool->Hp->Prop)->Prop):Prop:=
 ∀(pins:List (Addr×Obj))(s:Shared)(σ:St)(H:Hp)(x:V)(v:Value)(Q:Bool->Hp->Prop),Inv X pins σ H s->RelV x v->r x H Q->
  wpAny (model X.prog X.w) X.A (truthy v) (TP X pins σ Q) X.xe s
def tOp (r:R2)(ta tb:TE):TE:=fun σ H Q=>ta σ H fun x H1=>tb σ H1 fun y H2=>r x y H2 Q
def tUn (r:V->Hp->VK->Prop)(ta:TE):TE:=fun σ H Q=>ta σ H fun x H1=>r x H1 Q
def rI (C:Int->Int->Prop)(g:Int->Int->V):R2:=fun x y H Q=>∃ i j,x= .int i/\y= .int j/\C i j/\Q (g i j) H
def rI0 (g:Int->Int->V):R2:=fun x y H Q=>∃ i j,x= .int i/\y= .int j/\Q (g i j) H
def rU (g:Int->V):V->Hp->VK->Prop:=fun x H Q=>∃ i,x= .int i/\Q (g i) H
section
variable {X:Cx}{a b c:Expr}{ta tb tc:TE}{pos:Pos}
theorem binT (ha:PE X a ta)(S:PE X b tb){pins:List (Addr×Obj)}{s:Shared}{σ:St}{H:Hp}{R:V->V->Hp->Prop}(I:Inv X pins σ H s)
  (h:ta σ H fun x H1=>tb σ H1 fun y H2=>R x y H2) {Q:Value->Shared->Prop} {f:Value->Value->Sem Value}
  (O:∀ v u s2 x y H2,Inv X pins σ H2 s2->RelV x v->RelV y u->R x y H2->wpAny (model X.prog X.w) X.A (f v u) Q X.xe s2):
  wpAny (model X.prog X.w) X.A (eval a X.env) (fun v z=>wpAny (model X.prog X.w) X.A (eval b X.env) (fun u j=>wpAny (model X.prog X.w) X.A (f v u) Q X.xe j) X.xe z) X.xe s:=by
 refine thn (ha pins s σ H _ I h) fun v s1 i=>?_
 obtain⟨x,H1,Y,L,N⟩:=i
 refine thn (S pins s1 σ H1 _ Y N) fun u s2 i=>?_
 obtain⟨y,H2,U,G,M⟩:=i
 exact O v u s2 x y H2 U L G M
theorem xy6 {op:Operator}{r:R2}(z:OpR X (binaryOp op) r)(ha:PE X a ta)(G:PE X b tb):PE X (.BinOp a op b pos) (tOp r ta tb):=by
 intro pins s σ H Q I h
 exact wpAny_BinOp (binT ha G I h fun v u s2 x y H2 L j i q=>z pins s2 σ H2 x y v u Q L j i q)
theorem xb0 {op:UnaryOp}{r:V->Hp->VK->Prop}(z:UnR X (unaryOp op) r)(ha:PE X a ta):PE X (.UnaryOp op a pos) (tUn r ta):=by
 intro pins s σ H Q I h
 exact UnaryOp_ (thn (ha pins s σ H _ I h) fun v s1 ⟨x,H1,G,i,j⟩=>z pins s1 σ H1 x v Q G i j)
theorem opI {f:Value->Value->Sem Value}{C:Int->Int->Prop}{g:Int->Int->Int}
  (rule:∀(i j:Int)(t u:Tok)(s:Shared)(Q:Value->Shared->Prop)(E:Value->Shared->Prop),C i j->Q (.int (g i j) s.toks) { s with toks:=s.toks+1 }->wpAny (model X.prog X.w) X.A (f (.int i t) (.int j u)) Q E s):
  OpR X f (rI C fun i j=>.int (g i j)):=by
 intro pins s σ H x y v u Q I G z h
 obtain⟨i,j,rfl,rfl,L,q⟩:=h
 obtain⟨t,rfl⟩:=G
 obtain⟨t',rfl⟩:=z
 exact rule i j t t' s _ _ L ⟨.int (g i j),H,I.tok _,⟨_,rfl⟩,q⟩
theorem opI0 {f:Value->Value->Sem Value}{g:Int->Int->Int}
  (rule:∀(i j:Int)(t u:Tok)(s:Shared)(Q:Value->Shared->Prop)(E:Value->Shared->Prop),Q (.int (g i j) s.toks) { s with toks:=s.toks+1 }->wpAny (model X.prog X.w) X.A (f (.int i t) (.int j u)) Q E s):
  OpR X f (rI0 fun i j=>.int (g i j)):=by
 intro pins s σ H x y v u Q I G z h
 obtain⟨i,j,rfl,rfl,q⟩:=h
 obtain⟨t,rfl⟩:=G
 obtain⟨t',rfl⟩:=z
 exact rule i j t t' s _ _ ⟨.int (g i j),H,I.tok _,⟨_,rfl⟩,q⟩
theorem opB0 {f:Value->Value->Sem Value}{g:Int->Int->Bool}
  (rule:∀(i j:Int)(t u:Tok)(s:Shared)(Q:Value->Shared->Prop)(E:Value->Shared->Prop),Q (.bool (g i j)) s->wpAny (model X.prog X.w) X.A (f (.int i t) (.int j u)) Q E s):
  OpR X f (rI0 fun i j=>.bl (g i j)):=by
 intro pins s σ H x y v u Q I G z h
 obtain⟨i,j,rfl,rfl,q⟩:=h
 obtain⟨t,rfl⟩:=G
 obtain⟨t',rfl⟩:=z
 exact rule i j t t' s _ _ ⟨.bl (g i j),H,I,rfl,q⟩
def CDiv (i j:Int):Prop:=0<j/\j<1073741824
def CPow (i j:Int):Prop:=0<=j/\j<=1000000/\i.natAbs<2^64
def CMul (i j:Int):Prop:=(-(2^64)<i/\i<2^64)\/(-(2^64)<j/\j<2^64)
theorem CMul.ok {i j:Int}(h:CMul i j):IntMulOk i j:=by
 rcases h with⟨h1,h2⟩|⟨h1,h2⟩
 .exact .of_left (intBits_le_64 h1 h2)
 .exact .of_right (intBits_le_64 h1 h2)
theorem zg8 (k:Nat):(0:Int)<=2^k:=by
 rw[two_pow_cast]
 exact Int.natCast_nonneg _
theorem xk3:OpR X (binaryOp .Add) (rI0 fun i j=>.int (i+j)):=opI0 fun _ _ _ _ _ _ _ q=>add_int q
theorem xm6:OpR X (binaryOp .Sub) (rI0 fun i j=>.int (i-j)):=opI0 fun _ _ _ _ _ _ _ q=>sub_int q
theorem xk0:OpR X (binaryOp .Mult) (rI CMul fun i j=>.int (i*j)):=opI fun _ _ _ _ _ _ _ z q=>mul_int q z.ok
theorem xx9:OpR X (binaryOp .FloorDiv) (rI CDiv fun i j=>.int (i / j)):=opI fun i j _ _ _ _ _ z q=>by
 have h1:(0:Int)<j:=z.1
 have h2:j<1073741824:=z.2
 exact floordiv_int (by omega) (by rw[Int.fdiv_eq_ediv_of_nonneg i (by omega)];exact q) (.inl (PyProof.noPylong_small (by omega)))
theorem xk1:OpR X (binaryOp .Mod) (rI (fun _ j=>0<j) fun i j=>.int (i % j)):=opI fun i j _ _ _ _ _ z q=>by
 have h1:(0:Int)<j:=z
 exact mod_int' (by omega) (by rw[Int.fmod_eq_emod_of_nonneg i (by omega)];exact q)
theorem xm9:OpR X (binaryOp .Pow) (rI CPow fun i j=>.int (i^j.toNat)):=opI fun _ _ _ _ _ _ _ z q=>pow_int_small z.1 z.2.1 z.2.2 q
theorem xm7:OpR X (binaryOp .RShift) (rI (fun _ j=>0<=j) fun i j=>.int (i / 2^j.toNat)):=opI fun i j _ _ _ _ _ z q=>
 rshift_int z (by rw[Int.fdiv_eq_ediv_of_nonneg i (zg8 _)];exact q)
theorem unI {f:Value->Sem Value}{g:Int->Int}
  (rule:∀(i:Int)(t:Tok)(s:Shared)(Q:Value->Shared->Prop)(E:Value->Shared->Prop),Q (.int (g i) s.toks) { s with toks:=s.toks+1 }->wpAny (model X.prog X.w) X.A (f (.int i t)) Q E s):
  UnR X f (rU fun i=>.int (g i)):=by
 intro pins s σ H x v Q I j h
 obtain⟨i,rfl,q⟩:=h
 obtain⟨t,rfl⟩:=j
 exact rule i t s _ _ ⟨.int (g i),H,I.tok _,⟨_,rfl⟩,q⟩
theorem xq2:UnR X (unaryOp .USub) (rU fun i=>.int (-i)):=unI fun _ _ _ _ _ q=>neg_int q
end
noncomputable def scal:V->V->Bool
 | .non,.non=>true| .non,.int _=>true| .int _,.non=>true| .non,.bl _=>true| .bl _,.non=>true| .non,.str _=>true| .str _,.non=>true
 | .int _,.int _=>true| .bl _,.bl _=>true| .str _,.str _=>true| .byt _,.byt _=>true
 | .int _,.str _=>true| .str _,.int _=>true| .bl _,.str _=>true| .str _,.bl _=>true
 |_,_=>false
def rEq:R2:=fun x y H Q=>scal x y=true/\Q (.bl (decide (x=y))) H
def rNe:R2:=fun x y H Q=>scal x y=true/\Q (.bl (!decide (x=y))) H
theorem zn1 {i j:Int}:decide (V.int i=V.int j)=(i==j):=by
 rw[Bool.eq_iff_iff]
 simp
theorem yr0 {i j:Bool}:decide (V.bl i=V.bl j)=(i==j):=by
 rw[Bool.eq_iff_iff]
 simp
theorem zn0 {i j:Str}:decide (V.str i=V.str j)=(i==j):=by
 rw[Bool.eq_iff_iff]
 simp
theorem ys9 {i j:Array UInt8}:decide (V.byt i=V.byt j)=(i.toList==j.toList):=by
 rw[Bool.eq_iff_iff]
 cases i
 cases j
 simp
section
variable {X:Cx}{a b c:Expr}{ta tb tc:TE}{pos:Pos}
theorem o0 {pins:List (Addr×Obj)}{σ:St}{H:Hp}{s:Shared}{Q:VK}{k i:Bool}(I:Inv X pins σ H s)(q:Q (.bl k) H)(e:k=i):EP X pins σ Q (.bool i) s:=by
 subst e
 exact⟨.bl k,H,I,rfl,q⟩
theorem zu9:OpR X (compareOp .Eq) rEq:=by
 intro pins s σ H x y v u Q I G z h
 obtain⟨hs,q⟩:=h
 cases x with
 |non=>
  cases G
  cases y with
  |non=>cases z;exact PySem.EqNone.eq_none_none (o0 I q (by simp))
  |bl j=>cases z;exact PySem.EqNone.eq_none_bool (o0 I q (by simp))
  |int j=>obtain⟨t',rfl⟩:=z;exact PySem.EqNone.eq_none_int (o0 I q (by simp))
  |str j=>obtain⟨t',rfl⟩:=z;exact PySem.EqNone.eq_none_str (o0 I q (by simp))
  |_=>exact absurd (show false=true from hs) Bool.false_ne_true
 |bl i=>
  cases G
  cases y with
  |non=>cases z;exact PySem.EqNone.eq_bool_none (o0 I q (by simp))
  |bl j=>cases z;exact eq_bool (o0 I q yr0)
  |str j=>obtain⟨t',rfl⟩:=z;exact PySem.EqMixed.eq_bool_str (o0 I q (by simp))
  |_=>exact absurd (show false=true from hs) Bool.false_ne_true
 |int i=>
  obtain⟨t,rfl⟩:=G
  cases y with
  |non=>cases z;exact PySem.EqNone.eq_int_none (o0 I q (by simp))
  |int j=>obtain⟨t',rfl⟩:=z;exact eq_int (o0 I q zn1)
  |str j=>obtain⟨t',rfl⟩:=z;exact PySem.EqMixed.eq_int_str (o0 I q (by simp))
  |_=>exact absurd (show false=true from hs) Bool.false_ne_true
 |str i=>
  obtain⟨t,rfl⟩:=G
  cases y with
  |non=>cases z;exact PySem.EqNone.eq_str_none (o0 I q (by simp))
  |bl j=>cases z;exact PySem.EqMixed.eq_str_bool (o0 I q (by simp))
  |int j=>obtain⟨t',rfl⟩:=z;exact PySem.EqMixed.eq_str_int (o0 I q (by simp))
  |str j=>obtain⟨t',rfl⟩:=z;exact eq_str (o0 I q zn0)
  |_=>exact absurd (show false=true from hs) Bool.false_ne_true
 |byt i=>
  obtain⟨t,rfl⟩:=G
  cases y with
  |byt j=>obtain⟨t',rfl⟩:=z;exact W.eq_bytes (o0 I q ys9)
  |_=>exact absurd (show false=true from hs) Bool.false_ne_true
 |_=>cases y <;> exact absurd (show false=true from hs) Bool.false_ne_true
theorem yk8:OpR X (compareOp .NotEq) rNe:=by
 intro pins s σ H x y v u Q I G z h
 obtain⟨hs,q⟩:=h
 cases x with
 |non=>
  cases G
  cases y with
  |non=>cases z;exact PySem.EqNone.ne_none_none (o0 I q (by simp))
  |bl j=>cases z;exact PySem.EqNone.ne_none_bool (o0 I q (by simp))
  |int j=>obtain⟨t',rfl⟩:=z;exact PySem.EqNone.ne_none_int (o0 I q (by simp))
  |str j=>obtain⟨t',rfl⟩:=z;exact PySem.EqNone.ne_none_str (o0 I q (by simp))
  |_=>exact absurd (show false=true from hs) Bool.false_ne_true
 |bl i=>
  cases G
  cases y with
  |non=>cases z;exact PySem.EqNone.ne_bool_none (o0 I q (by simp))
  |bl j=>cases z;exact ne_bool (o0 I q (congrArg not yr0))
  |str j=>obtain⟨t',rfl⟩:=z;exact PySem.EqMixed.ne_bool_str (o0 I q (by simp))
  |_=>exact absurd (show false=true from hs) Bool.false_ne_true
 |int i=>
  obtain⟨t,rfl⟩:=G
  cases y with
  |non=>cases z;exact PySem.EqNone.ne_int_none (o0 I q (by simp))
  |int j=>obtain⟨t',rfl⟩:=z;exact ne_int (o0 I q (congrArg not zn1))
  |str j=>obtain⟨t',rfl⟩:=z;exact PySem.EqMixed.ne_int_str (o0 I q (by simp))
  |_=>exact absurd (show false=true from hs) Bool.false_ne_true
 |str i=>
  obtain⟨t,rfl⟩:=G
  cases y with
  |non=>cases z;exact PySem.EqNone.ne_str_none (o0 I q (by simp))
  |bl j=>cases z;exact PySem.EqMixed.ne_str_bool (o0 I q (by simp))
  |int j=>obtain⟨t',rfl⟩:=z;exact PySem.EqMixed.ne_str_int (o0 I q (by simp))
  |str j=>obtain⟨t',rfl⟩:=z;exact ne_str (o0 I q (congrArg not zn0))
  |_=>exact absurd (show false=true from hs) Bool.false_ne_true
 |byt i=>
  obtain⟨t,rfl⟩:=G
  cases y with
  |byt j=>obtain⟨t',rfl⟩:=z;exact W.ne_bytes (o0 I q (congrArg not ys9))
  |_=>exact absurd (show false=true from hs) Bool.false_ne_true
 |_=>cases y <;> exact absurd (show false=true from hs) Bool.false_ne_true
theorem xb3:OpR X (compareOp .Lt) (rI0 fun i j=>.bl (decide (i<j))):=opB0 fun _ _ _ _ _ _ _ q=>lt_int q
theorem xb4:OpR X (compareOp .Gt) (rI0 fun i j=>.bl (decide (j<i))):=opB0 fun _ _ _ _ _ _ _ q=>gt_int q
theorem zp3:OpR X (compareOp .GtE) (rI0 fun i j=>.bl (decide (j<=i))):=opB0 fun _ _ _ _ _ _ _ q=>ge_int q
theorem OpR.or {f:Value->Value->Sem Value}{r z:R2}(h:OpR X f r)(h':OpR X f z):OpR X f (fun x y H Q=>r x y H Q\/z x y H Q):=by
 intro pins s σ H x y v u Q I j i q
 rcases q with q|q
 .exact h pins s σ H x y v u Q I j i q
 .exact h' pins s σ H x y v u Q I j i q
theorem j5 (b:Expr){op:CmpOp}(h:op≠ .In:=by decide)(h2:op≠ .NotIn:=by decide):behindInMarks op b=false:=by
 have e1:(op==CmpOp.In)=false:=by cases op <;> first|rfl|exact absurd rfl h
 have e2:(op==CmpOp.NotIn)=false:=by cases op <;> first|rfl|exact absurd rfl h2
 cases b <;> simp[behindInMarks,e1,e2]
theorem yy5 {op:CmpOp}{r:R2}(z:OpR X (compareOp op) r)(ha:PE X a ta)(G:PE X b tb)(hm:behindInMarks op b=false):PE X (.Compare a [op] [b] pos) (tOp r ta tb):=by
 intro pins s σ H Q I h
 exact wpAny_Compare1 (binT ha G I h fun v u s2 x y H2 L j i q=>z pins s2 σ H2 x y v u Q L j i q) hm
def xd3 (t:TE):TT:=fun σ H Q=>t σ H fun x H'=>∃ k,x= .bl k/\Q k H'
theorem yz0 {op:CmpOp}{r:R2}(O:OpR X (compareOp op) r)(ha:PE X a ta)(S:PE X b tb)(hm:behindInMarks op b=false):PT X (.Compare a [op] [b] pos) (xd3 (tOp r ta tb)):=by
 intro pins s σ H Q I h
 refine wpAny_isTrue_Compare1 (thn (ha pins s σ H _ I h) fun v s1 ⟨x,H1,Z,G,N⟩=>thn (S pins s1 σ H1 _ Z N) fun u s2 ⟨y,H2,Y,j,M⟩=>
  thn (O pins s2 σ H2 x y v u _ Y G j M) fun c s3 ⟨z,H3,U,i,k,e,L⟩=>?_) hm
 subst e
 cases i
 exact wpAny_truthy_bool ⟨H3,U,L⟩
def TruV (K:W.Frag)(x:V)(H:Hp)(k:Bool):Prop:=
 match x with
 | .non=>k=false
 | .bl b=>k=b
 | .int i=>k=(i != 0)
 | .str y=>y.length<=sizeLine/\k=((y.length:Int) != 0)
 | .byt y=>y.size<=sizeLine/\k=((y.size:Int) != 0)
 | .ref p=>(∃ xs,SqL K H p xs/\k= !xs.isEmpty)\/(∃ xs,SqT K H p xs/\k= !xs.isEmpty)\/∃ kvs,H p=some (.dK kvs)/\k= !kvs.isEmpty
 |_=>False
theorem ze9 {i:Type}{kvs:List (i×V)}{vs:List (i×Value)}(r:KV kvs vs):(!vs.isEmpty)= !kvs.isEmpty:=by
 cases r <;> rfl
theorem B4 {xs:List V}{its:List Value}(r:Vals xs its):(!its.toArray.isEmpty)= !xs.isEmpty:=by
 cases r <;> simp
theorem L0:(sizeLine:Nat)<2^63:=by rw[sizeLine_eq];decide
theorem yf4:TruR X (fun x H Q=>∃ k,TruV X.K x H k/\Q k H):=by
 intro pins s σ H x v Q I G h
 obtain⟨k,e,q⟩:=h
 have S:=L0
 have hs:sizeLine=16777216:=sizeLine_eq
 cases x with
 |non=>
  cases G
  have j:k=false:=e
  subst j
  exact truthy_none ⟨H,I,q⟩
 |bl b=>
  cases G
  have j:k=b:=e
  subst j
  exact wpAny_truthy_bool ⟨H,I,q⟩
 |int i=>
  obtain⟨t,rfl⟩:=G
  have j:k=(i != 0):=e
  subst j
  exact PySem.P.truthy_int ⟨H,I,q⟩
 |str y=>
  obtain⟨t,rfl⟩:=G
  obtain⟨N,j⟩:y.length<=sizeLine/\k=((y.length:Int) != 0):=e
  subst j
  exact PySem.P.truthy_str (by omega) ⟨H,I.tok _,q⟩
 |byt y=>
  obtain⟨t,rfl⟩:=G
  obtain⟨N,j⟩:y.size<=sizeLine/\k=((y.size:Int) != 0):=e
  subst j
  exact W.truthy_bytes (by omega) ⟨H,I.tok _,q⟩
 |ref p=>
  cases G
  have j:(∃ xs,SqL X.K H p xs/\k= !xs.isEmpty)\/(∃ xs,SqT X.K H p xs/\k= !xs.isEmpty)\/∃ kvs,H p=some (.dK kvs)/\k= !kvs.isEmpty:=e
  rcases j with⟨xs,L,j⟩|⟨xs,L,j⟩|⟨kvs,L,j⟩
  .subst j
   obtain⟨its,r,pl,M⟩:=I.list L
   have z:=r.length
   exact wpAny_truthy_list pl.isList (by simp only[size_toArray];omega) ⟨H,I.tok _,by rw[B4 r];exact q⟩
  .subst j
   obtain⟨its,r,pl,M⟩:=I.tuple L
   have z:=r.length
   exact truthy_tuple pl (by simp only[size_toArray];omega) ⟨H,I.tok _,by rw[B4 r];exact q⟩
  .subst j
   obtain⟨M,O,vs,r,m⟩:kvs.length<=sizeLine/\(p==sysModules)=false/\∃ vs,KV kvs vs/\s.heap.DictOf (zp6 X.prog X.w) p vs:=I.hok p _ L
   have z:kvs.length=vs.length:=Paired.length r
   exact wpAny_truthy_dict O m (by omega) ⟨H,I.tok _,by rw[ze9 r];exact q⟩
 |_=>exact(show False from e).elim
theorem ym1 (ha:PE X a ta)(G:∀ i,isTrue a X.env i=(do let v ← i;standAt a.pos;holding [v] (truthy v))):
  PT X a (fun σ H Q=>ta σ H fun x H'=>∃ k,TruV X.K x H' k/\Q k H'):=by
 intro pins s σ H Q I h
 exact isTrue_plain (thn (ha pins s σ H _ I h) fun v s1 ⟨x,H1,L,j,z⟩=>yf4 pins s1 σ H1 x v Q L j z) (G _)
theorem Q8 {x:V}{us:List Value}(r:Vals [x] us):∃ u,us=[u]/\RelV x u:=by
 cases r with
 |cons j i=>cases i;exact⟨_,rfl,j⟩
theorem zv0 {x y:V}{us:List Value}(r:Vals [x,y] us):∃ u i,us=[u,i]/\RelV x u/\RelV y i:=by
 cases r with
 |cons I G=>
  cases G with
  |cons z j=>cases j;exact⟨_,_,rfl,I,z⟩
theorem yg6:CallR X (.builtin "abs") (fun xs H Q=>∃ i,xs=[.int i]/\Q (.int (if i<0 then -i else i)) H):=by
 intro pins s σ H xs us Q I r h
 obtain⟨i,rfl,q⟩:=h
 obtain⟨u,rfl,t,rfl⟩:=Q8 r
 exact call_abs_int fun u tk=>⟨.int (if i<0 then -i else i),H,I.tok _,⟨_,rfl⟩,q⟩
theorem yq6 (G:X.calm=true):CallR X (.builtin "max") (fun xs H Q=>∃ i j,xs=[.int i,.int j]/\Q (.int (if j>i then j else i)) H):=by
 intro pins s σ H xs us Q I r h
 obtain⟨i,j,rfl,q⟩:=h
 obtain⟨u,L,rfl,⟨t,rfl⟩,⟨t',rfl⟩⟩:=zv0 r
 refine max_two_ints (I.ok.hd G) fun h' tk k=>⟨_,H,I.kept k,?_,q⟩
 by_cases z:j>i
 .rw[if_pos z,if_pos z];exact⟨_,rfl⟩
 .rw[if_neg z,if_neg z];exact⟨_,rfl⟩
theorem yq5 (G:X.calm=true):CallR X (.builtin "min") (fun xs H Q=>∃ i j,xs=[.int i,.int j]/\Q (.int (if j<i then j else i)) H):=by
 intro pins s σ H xs us Q I r h
 obtain⟨i,j,rfl,q⟩:=h
 obtain⟨u,L,rfl,⟨t,rfl⟩,⟨t',rfl⟩⟩:=zv0 r
 refine min_two_ints (I.ok.hd G) fun h' tk k=>⟨_,H,I.kept k,?_,q⟩
 by_cases z:j<i
 .rw[if_pos z,if_pos z];exact⟨_,rfl⟩
 .rw[if_neg z,if_neg z];exact⟨_,rfl⟩
theorem yq8:CallR X (.type "int") (fun xs H Q=>(∃ i,xs=[.int i]/\Q (.int i) H)\/∃ k,xs=[.bl k]/\Q (.int (if k then 1 else 0)) H):=by
 intro pins s σ H xs us Q I r h
 rcases h with⟨i,rfl,q⟩|⟨k,rfl,q⟩
 .obtain⟨u,rfl,t,rfl⟩:=Q8 r
  exact call_int_int ⟨.int i,H,I,⟨_,rfl⟩,q⟩
 .obtain⟨u,rfl,r1⟩:=Q8 r
  cases r1
  exact call_int_bool ⟨.int (if k then 1 else 0),H,I.tok _,⟨_,rfl⟩,q⟩
end
end
section
structure ObjM (h:Heap)(x dx C:Addr)(mA:Str->Option Value):Prop where
 obj:h.get? x=some (W.instObj C dx)
 ns:h.Ns1 dx mA
 ne:dx≠x
theorem yu4 {h:Heap}{dx:Addr}{mA:Str->Option Value}(n:h.Ns1 dx mA):∃ od,h.get? dx=some od/\∀ name,W.lookIn name od=some (mA name):=by
 obtain⟨o,es,ep,G,hd,I,_,hm⟩:=n
 refine⟨o,G,fun name=>?_⟩
 have e:=hm name
 unfold nsFind findBy at e
 rw[<-Array.find?_toList]at e
 unfold W.lookIn
 rw[hd]
 dsimp only
 split
 .rename_i y q
  rw[q]at e
  exact congrArg some e
 .rename_i q
  rw[q]at e
  have a:es.toList.any (·.refKey)=false:=by
   rw[any_eq_false]
   intro y j
   obtain⟨z,t,i⟩:=I y (Array.mem_toList_iff.mp j)
   simp[DictEntry.refKey,i]
  have L:¬ es.toList.any (·.refKey)=true:=by rw[a];exact Bool.false_ne_true
  rw[if_neg L]
  exact congrArg some e
theorem ObjM.look {h:Heap}{x dx C:Addr}{mA:Str->Option Value}(I:ObjM h x dx C mA):∃ od,W.InstAt h x (W.instObj C dx) C (some od)/\∀ name,W.lookIn name od=some (mA name):=
 let ⟨od,i,j⟩:=yu4 I.ns
 ⟨od,⟨I.obj,rfl,rfl,i⟩,j⟩
section
variable {prog:Program}{w:World}{A:Around}{E:Value->Shared->Prop}{s:Shared}{K:W.Frag}{x dx C f:Addr}{mA:Str->Option Value}{name:Str}{v:Value}
end
section
variable {P:Program}{w:World}{H H':Hp}{h h':Heap}{a C dx:Addr}{fs fs':List (Str×V)}
theorem xu0 (hok:HOk P w H h)(e:H a=some (.ins C dx fs)):∃ mA,ObjM h a dx C mA/\(∀ f,RelO (fs.lookup f) (mA f))/\PySem.Within mA (fs.map (·.1))/\fs.length<=1000/\H dx=some (.own a):=by
 obtain⟨d,z,ne,ob,mA,n,r,q⟩:=(show ObjOk P w H h a (.ins C dx fs)from hok a _ e)
 exact⟨mA,⟨ob,n,ne⟩,r,q,z,d⟩
end
structure Cls (K:W.Frag)(C:Addr):Prop where
 pg:W.plainGet K C Str.empty=true
 hd:W.hasDictIn K C=true
 po:W.plainOver K C=true
 sa:W.findIn K (.ref C) "__setattr__"=some (some (.builtin "object.__setattr__"))
theorem Cls.get {K:W.Frag}{C:Addr}(c:Cls K C)(f:Str):W.plainGet K C f=true:=c.pg
structure Con (K:W.Frag)(C:Addr)(f:Str)(v:V)(u:Value):Prop where
 at_:W.findIn K (.ref C) f=some (some u)
 rel:RelV v u
 get:W.specialIn K u "__get__"=some none
 cp:W.copiedNames.contains f=false
structure Meth (K:W.Frag)(C:Addr)(m:Str)(f:Addr):Prop where
 at_:W.findIn K (.ref C) m=some (some (.ref f))
 fn:W.isFn K (.ref f)=true
 kp:W.keepIn K (.ref f)=true
section
variable {X:Cx}{pins:List (Addr×Obj)}{σ:St}{H:Hp}{s:Shared}{a C dx:Addr}{fs:List (Str×V)}{f:Str}{v:V}{A:Around}{E:Value->Shared->Prop}
end
section
variable {X:Cx}{o e value:Expr}{f:Str}{pos pos' tpos:Pos}{ta tv:TE}
end
section
variable {X:Cx}{pins:List (Addr×Obj)}{σ:St}{H:Hp}{s:Shared}{A:Around}{E:Value->Shared->Prop}{Q:Value->Shared->Prop}{c:Value}{b:Bool}
inductive TyOf (K:W.Frag)(H:Hp):V->Value->Prop where
 |non:TyOf K H .non (.type "NoneType")
 |bl (x:Bool):TyOf K H (.bl x) (.type "bool")
 |int (i:Int):TyOf K H (.int i) (.type "int")
 |str (x:Str):TyOf K H (.str x) (.type "str")
 |flt (x:UInt64):TyOf K H (.flt x) (.type "float")
 |lst {a:Addr} {xs:List V} (e:H a=some (.lst xs)):TyOf K H (.ref a) (.type "list")
 |frz {a:Addr} {o:Obj} {xs:List V} (e:H a=some (.frz o (.lst xs))):TyOf K H (.ref a) (.type "list")
 |tup {a:Addr} {xs:List V} (e:H a=some (.tup xs)):TyOf K H (.ref a) (.type "tuple")
 |dK {a:Addr} {kvs:List (Key×V)} (e:H a=some (.dK kvs)):TyOf K H (.ref a) (.type "dict")
 |dT {a:Addr} {kvs:List (List Key×V)} (e:H a=some (.dT kvs)):TyOf K H (.ref a) (.type "dict")
 |ins {a C dx:Addr} {fs:List (Str×V)} (e:H a=some (.ins C dx fs)) (cl:Cls K C) (ha:W.findIn K (.ref C) "__class__"=some (some (.builtin "object.__class__")))
   (hn:W.specialIn K (.builtin "object.__class__") "__get__"=some (some (.builtin "getset_descriptor.__get__"))) (htk:W.takesIn K (.builtin "object.__class__")=some true)
   (hm:W.mroIn K C (.type "object")=some true):TyOf K H (.ref a) (.ref C)
theorem P9 {x:V}{u t:Value}(I:Inv X pins σ H s)(j:RelV x u)(ty:TyOf X.K H x t)(e:W.kitOne X.K t c=some b)(h:∀ tk,Q (.bool b) { s with toks:=tk }):
  wpAny (model X.prog X.w) A (call (.builtin "isinstance") [u,c]) Q E s:=by
 cases ty with
 |non=>cases (show u=Value.none from j);exact W.kia_one W.kitx_none I.kIn True.intro e (fun z=>nomatch z) h
 |bl y=>cases (show u=Value.bool y from j);exact W.kia_one W.kitx_bool I.kIn True.intro e (fun z=>nomatch z) h
 |int i=>obtain⟨t,q⟩:=(show ∃ t,u=Value.int i t from j);cases q;exact W.kia_one W.kitx_int I.kIn True.intro e (fun z=>nomatch z) h
 |str y=>obtain⟨t,q⟩:=(show ∃ t,u=Value.str y t from j);cases q;exact W.kia_one W.kitx_str I.kIn True.intro e (fun z=>nomatch z) h
 |flt y=>obtain⟨t,q⟩:=(show ∃ t,u=Value.float y t from j);cases q;exact W.kia_one W.kitx_float I.kIn True.intro e (fun z=>nomatch z) h
 |@lst a xs ea=>
  cases (show u=Value.ref a from j)
  obtain⟨_,_,n,_,h1⟩:=(show ObjOk X.prog X.w H s.heap a (.lst xs)from I.hok a _ ea)
  exact W.kia_one W.kitx_list I.kIn ⟨_,h1,rfl⟩ e (fun z=>nomatch z) h
 |@frz a ob xs ea=>
  cases (show u=Value.ref a from j)
  obtain⟨_,_,_,n,_,h1⟩:=(show ObjOk X.prog X.w H s.heap a (.frz ob (.lst xs))from I.hok a _ ea)
  exact W.kia_one W.kitx_list I.kIn ⟨_,h1,rfl⟩ e (fun z=>nomatch z) h
 |@tup a xs ea=>
  cases (show u=Value.ref a from j)
  obtain⟨_,_,_,p⟩:=(show ObjOk X.prog X.w H s.heap a (.tup xs)from I.hok a _ ea)
  obtain⟨o,h1,h2,_⟩:=p
  exact W.kia_one W.kitx_tuple I.kIn ⟨o,h1,h2⟩ e (fun z=>nomatch z) h
 |@dK a kvs ea=>
  cases (show u=Value.ref a from j)
  obtain⟨_,_,vs,_,p⟩:=(show ObjOk X.prog X.w H s.heap a (.dK kvs)from I.hok a _ ea)
  obtain⟨o,es,ep,h1,h2,_⟩:=p
  exact W.kia_one W.kitx_dict I.kIn ⟨o,h1,h2.1⟩ e (fun z=>nomatch z) h
 |@dT a kvs ea=>
  cases (show u=Value.ref a from j)
  obtain⟨_,_,xs,_,o,es,ep,h1,h2,_⟩:=(show ObjOk X.prog X.w H s.heap a (.dT kvs)from I.hok a _ ea)
  exact W.kia_one W.kitx_dict I.kIn ⟨o,h1,h2.1⟩ e (fun z=>nomatch z) h
 |@ins a C dx fs ea cl ha hn htk hm=>
  cases (show u=Value.ref a from j)
  obtain⟨mA,O,_⟩:=xu0 I.hok ea
  obtain⟨od,J,_⟩:=O.look
  exact W.kia_one (W.kitx_own (cl.get _) cl.hd ha hn htk hm) I.kIn J e (fun z=>nomatch z) h
end
end
section
structure Room (k:Nat)(A:Around):Prop where
 hd:A.handled=none
 dp:A.depth+3*k+5<recursionLimit
 un:A.units+16*k+200<cLine
theorem Room.mono {j k:Nat}{A:Around}(r:Room k A)(h:j<=k):Room j A:=⟨r.hd,by have:=r.dp;omega,by have:=r.un;omega⟩
theorem Room.deeper {k:Nat}{A:Around}(r:Room (k+1) A)(env:Env):Room k (A.deeper env):=
 ⟨r.hd,by have:=r.dp;show A.depth+1+3*k+5<_;omega,by have:=r.un;show A.units+3+16*k+200<_;omega⟩
theorem Room.in1 {k:Nat}{A:Around}(r:Room (k+1) A):Room k A.in1:=
 ⟨r.hd,by have:=r.dp;show A.depth+3*k+5<_;omega,by have:=r.un;show A.units+1+16*k+200<_;omega⟩
theorem Room.depth {k:Nat}{A:Around}(r:Room k A):A.depth<recursionLimit:=by have:=r.dp;omega
theorem Room.units {k:Nat}{A:Around}(r:Room k A):A.units+64<cLine:=by have:=r.un;omega
def tNil:TA:=fun _ H Q=>Q [] H
def xq9 (ta:TE)(tr:TA):TA:=fun σ H Q=>ta σ H fun x H1=>tr σ H1 fun xs H2=>Q (x::xs) H2
section
variable {X:Cx}{e:Expr}{es:List Expr}{te:TE}{t:TA}{pos:Pos}
theorem pa_nil:PA X [] tNil:=fun _ _ _ _ H Q I h=>Calls.spliced_nil ⟨[],H,I,.nil,h⟩
theorem k4 (ha:PE X e te)(M:PA X es t)(hs:starEach (e::es) X.env=(false,eval e X.env)::starEach es X.env:=by rfl):PA X (e::es) (xq9 te t):=by
 intro pos pins s σ H Q I h
 rw[hs]
 show wpAny _ _ (spliced ((false,eval e X.env)::backTo pos (starEach es X.env))) _ _ s
 refine Calls.spliced_cons (thn (ha pins s σ H _ I h) fun u s1 i=>?_)
 obtain⟨x,H1,O,z,L⟩:=i
 exact thn (M pos pins s1 σ H1 _ O L) fun us s2 ⟨xs,H2,N,j,G⟩=>⟨x::xs,H2,N,.cons z j,G⟩
def tTup (t:TA):TE:=fun σ H Q=>t σ H fun xs H1=>xs.length<=sizeLine/\∀ p,H1 p=none->Q (.ref p) (upd H1 p (.tup xs))
def tLst (t:TA):TE:=fun σ H Q=>t σ H fun xs H1=>xs.length<=sizeLine/\∀ p,H1 p=none->Q (.ref p) (upd H1 p (.lst xs))
theorem ye0 {j}(h:PA X es t):PE X (.Tuple es j pos) (tTup t):=by
 intro pins s σ H Q I hq
 refine wpAny_Tuple_spliced (thn (h pos pins s σ H _ I hq) fun us s1 ⟨xs,H1,i,r,z,q⟩=>⟨by rw[<-r.length];exact z,?_⟩)
 have G:H1 s1.heap.objs.size=none:=i.hok.fresh (Nat.le_refl _)
 refine⟨.ref s1.heap.objs.size,upd H1 s1.heap.objs.size (.tup xs),i.laid (t':=s1.toks) (fun b u e=>Heap.get?_push_of_some _ e) (Nat.le_refl _) ?_,rfl,q _ G⟩
 exact⟨z,us,r,⟨_,Heap.get?_push_size _ rfl,rfl,_,rfl⟩⟩
theorem xn6 (h:PA X es t):PE X (.List es pos) (tLst t):=by
 intro pins s σ H Q I hq
 refine wpAny_List_spliced (thn (h pos pins s σ H _ I hq) fun us s1 ⟨xs,H1,i,r,z,q⟩=>⟨by rw[<-r.length];exact z,?_⟩)
 have j:H1 s1.heap.objs.size=none:=i.hok.fresh (Nat.le_refl _)
 refine⟨.ref s1.heap.objs.size,upd H1 s1.heap.objs.size (.lst xs),i.laid (t':=s1.toks) (fun b u e=>Heap.get?_push_of_some _ e) (Nat.le_refl _) ?_,rfl,q _ j⟩
 exact⟨z,us,0,r,Heap.get?_push_size _ rfl⟩
end
noncomputable abbrev Sp:=List V->Hp->VK->XK->Prop
noncomputable abbrev CXT:=List Env->Hp->Shared->XK->Value->Shared->Prop
structure Env0 (P:Program)(w:World)(K:W.Frag)(mg:Str->Option Value)(base:Heap)(A:Around)(outer:List Env)(s:Shared)(H:Hp):Prop where
 frames:A.frames=some outer
 mod:Mod K mg base
 bs:∀ b o,base.get? b=some o->s.heap.get? b=some o/\H b=none
 bsz:base.objs.size<=s.heap.objs.size
 funs:s.heap.FunFrames base outer
 frf:∀ b∈frs outer,H b=none
 hok:HOk P w H s.heap
 bare:AllBare s.gens
def CE (outer:List Env)(P:Program)(w:World)(H:Hp)(s:Shared)(Q:VK)(u:Value)(s':Shared):Prop:=
 ∃ v H',s'.os=s.os/\AllBare s'.gens/\Un (frs outer) [] H H' s.heap s'.heap/\HOk P w H' s'.heap/\RelV v u/\Q v H'
def CR (CX:CXT)(outer:List Env)(P:Program)(w:World)(H:Hp)(s:Shared)(Q:VK)(E:XK)(r:Result)(s':Shared):Prop:=
 match r with
 | .ok (.ret u)=>CE outer P w H s Q u s'
 | .ok _=>False
 | .error e=>CX outer H s E e s'
structure FnOk (P:Program)(w:World)(K:W.Frag)(mg:Str->Option Value)(base:Heap)(CX:CXT)(k:Nat)(f:Addr)(fd:FuncData)(ps:List Str)(sp:Sp):Prop where
 len:∀ vs H Q E,sp vs H Q E->vs.length=ps.length
 run:∀(A:Around)(outer:List Env)(s:Shared)(H:Hp)(args:Args)(us:List Value)(vs:List V)(Q:VK)(E:XK),Room k A->Env0 P w K mg base A outer s H->BindsTo s fd args (ps.zip us)->Vals vs us->sp vs H Q E->
  codeAny (model P w) A (.call (.ref f) args) (CR CX outer P w H s Q E) s
theorem FnOk.mono {P:Program}{w:World}{K:W.Frag}{mg:Str->Option Value}{base:Heap}{CX:CXT}{j k:Nat}{f:Addr}{fd:FuncData}{ps:List Str}{sp:Sp}(F:FnOk P w K mg base CX j f fd ps sp)(h:j<=k):
  FnOk P w K mg base CX k f fd ps sp:=⟨F.len,fun A outer s H args us vs Q E i=>F.run A outer s H args us vs Q E (i.mono h)⟩
theorem FnOk.imp {P:Program}{w:World}{K:W.Frag}{mg:Str->Option Value}{base:Heap}{CX:CXT}{k:Nat}{f:Addr}{fd:FuncData}{ps:List Str}{sp i:Sp}(F:FnOk P w K mg base CX k f fd ps sp)
  (h:∀ vs H Q E,i vs H Q E->sp vs H Q E):FnOk P w K mg base CX k f fd ps i:=
 ⟨fun vs H Q E q=>F.len vs H Q E (h _ _ _ _ q),fun A outer s H args us vs Q E z G I j hs=>F.run A outer s H args us vs Q E z G I j (h _ _ _ _ hs)⟩
section
variable {X:Cx}{pins:List (Addr×Obj)}{σ:St}{H:Hp}{s s':Shared}
theorem Inv.env0 (I:Inv X pins σ H s):Env0 X.prog X.w X.K X.mg X.base X.A X.stack s H:=
 ⟨I.ok.frames,I.ok.mod,I.bs,Nat.le_trans I.ok.bsz I.sz,I.stack,I.stkFree,I.hok,I.bare⟩
theorem Inv.after {Q:VK}{u:Value}(I:Inv X pins σ H s)(h:CE X.stack X.prog X.w H s Q u s'):EP X pins σ Q u s':=by
 obtain⟨v,H',os,bare,un,hok,r,q⟩:=h
 obtain⟨hh,g,d,t,i⟩:=s'
 obtain rfl:i=s.os:=os
 exact⟨v,H',I.call (h':=hh) (g':=g) (d':=d) (t':=t) (ch:=[]) un hok bare (fun b z=>absurd z (by simp)),r,q⟩
end
def zb4 (sp:Sp)(dvs:List V)(E:XK)(t:TA):TE:=fun σ H Q=>t σ H fun vs H1=>sp (vs++dvs) H1 Q E
def Binds (K:W.Frag)(fd:FuncData)(ps:List Str)(ds:List Value):Prop:=
 ∀(s:Shared)(us:List Value),K.In s.heap->(us++ds).length=ps.length->BindsTo s fd ⟨us,[]⟩ (ps.zip (us++ds))
theorem Binds.all {K:W.Frag}{fd:FuncData}{ps:List Str}(h:∀ us:List Value,us.length=ps.length->bindArgs fd ⟨us,[]⟩=pure (ps.zip us)):Binds K fd ps []:=fun s us _ i=>by
 rw[append_nil]at i ⊢
 exact .of_eq (h us i)
def yp8 (CX:CXT)(X:Cx)(E:XK):Prop:=∀(pins:List (Addr×Obj))(σ:St)(H:Hp)(s:Shared)(e:Value)(s':Shared),Inv X pins σ H s->CX X.stack H s E e s'->X.xe e s'
section
variable {X:Cx}{CX:CXT}{k:Nat}{f C:Addr}{fd:FuncData}{ps:List Str}{sp:Sp}{dvs:List V}{ds:List Value}{E:XK}{x m:Str}{p pos apos:Pos}{e o:Expr}{es:List Expr}{ta:TE}{t:TA}
theorem xp5 {pins:List (Addr×Obj)}{σ:St}{H:Hp}{s:Shared}{Q:VK}{us:List Value}{vs:List V}(F:FnOk X.prog X.w X.K X.mg X.base CX k f fd ps sp)(z:Room k X.A)(L:Binds X.K fd ps ds)(hd:Vals dvs ds)(j:yp8 CX X E)
  (I:Inv X pins σ H s) (r:Vals vs us) (h:sp (vs++dvs) H Q E):wpAny (model X.prog X.w) X.A (call (.ref f) us) (EP X pins σ Q) X.xe s:=by
 have i:Vals (vs++dvs) (us++ds):=r.append hd
 have G:(us++ds).length=ps.length:=by rw[<-i.length];exact F.len _ _ _ _ h
 refine wpAny_call (codeAny_mono (F.run X.A X.stack s H ⟨us,[]⟩ (us++ds) (vs++dvs) Q E z I.env0 (L s us I.kIn G) i h) fun r s' hq=>?_)
 cases r with
 |error e=>exact j pins σ H s e s' I hq
 |ok fl=>
  cases fl with
  |ret u=>exact I.after hq
  |next=>exact False.elim hq
  |brk=>exact False.elim hq
  |cont=>exact False.elim hq
theorem xy8 (F:FnOk X.prog X.w X.K X.mg X.base CX k f fd ps sp)(L:Room k X.A)(N:Gl X x)(hm:X.mg x=some (.ref f))(M:W.keepIn X.K (.ref f)=true)(S:Binds X.K fd ps ds)(hd:Vals dvs ds)(G:yp8 CX X E)
  (ha:PA X (e::es) t) (j:(x==("__debug__":Str))=false:=by decide) (O:starEach (e::es) X.env=(false,eval e X.env)::starEach es X.env:=by rfl) (i:(backTo pos (starEach es X.env)).any (·.1)=false:=by rfl):
  PE X (.Call (.Name x p) (e::es) [] pos) (zb4 sp dvs E t):=by
 intro pins s σ H Q I h
 refine wpAny_Call_Name_kw (yu8 I N hm ?_ j)
 refine W.callWith_K (h₀:=X.base) I.ok.mod.kin M (thn (ha pos pins s σ H _ I h) fun us s1 ⟨vs,H1,z,r,q⟩=>⟨z.kIn,?_⟩) O i
 exact xp5 F L S hd G z r q
structure Mk (K:W.Frag)(C f:Addr):Prop where
 makes:W.makesIn K C=true
 init:W.findIn K (.ref C) "__init__"=some (some (.ref f))
 fn:W.isFn K (.ref f)=true
 kp:W.keepIn K (.ref C)=true
end
def PK (X:Cx)(kws:List Keyword)(t:TA):Prop:=
 ∀(pos:Pos)(pins:List (Addr×Obj))(s:Shared)(σ:St)(H:Hp)(Q:List V->Hp->Prop),Inv X pins σ H s->t σ H Q->wpAny (model X.prog X.w) X.A (evalAll ((backToKw pos (keywordEach kws X.env)).map (·.2))) (AP X pins σ Q) X.xe s
section
variable {X:Cx}{CX:CXT}{k:Nat}{f C:Addr}{fd:FuncData}{ps ks:List Str}{sp:Sp}{E:XK}{x m:Str}{p pos apos kpos:Pos}{e o:Expr}{es:List Expr}{kws:List Keyword}{te ta:TE}{t tk:TA}{nm:Option Str}
theorem yz8:PK X [] tNil:=fun _ _ _ _ H Q I h=>wpAny_evalAll_nil ⟨[],H,I,.nil,h⟩
theorem zz3 (ha:PE X e te)(L:PK X kws t):PK X (⟨nm,e,kpos⟩::kws) (xq9 te t):=by
 intro pos pins s σ H Q I h
 show wpAny _ _ (evalAll ((do let v ← eval e X.env;standAt pos;pure v)::(backToKw pos (keywordEach kws X.env)).map (·.2))) _ _ s
 refine wpAny_evalAll_cons (wpAny_bind (thn (ha pins s σ H _ I h) fun u s1 ⟨x,H1,N,j,G⟩=>wpAny_bind (wpAny_standAt (wpAny_pure ?_))))
 exact thn (L pos pins s1 σ H1 _ N G) fun us s2 ⟨xs,H2,M,i,z⟩=>⟨x::xs,H2,M,.cons j i,z⟩
structure KBinds (K:W.Frag)(fd:FuncData)(ps ks:List Str)(g:List Value->List Value->List Value)(gV:List V->List V->List V):Prop where
 to:∀(s:Shared)(us ws:List Value),K.In s.heap->(g us ws).length=ps.length->BindsTo s fd ⟨us,ks.zip ws⟩ (ps.zip (g us ws))
 rel:∀{vs:List V}{us:List Value}{zs:List V}{ws:List Value},Vals vs us->Vals zs ws->Vals (gV vs zs) (g us ws)
variable {g:List Value->List Value->List Value}{gV:List V->List V->List V}
end
structure FnScope (N P:List Str)(sc:Scope):Prop where
 kind:sc.kind= .function
 co:sc.isCoroutine=false
 gen:sc.isGenerator=false
 nd:N.Nodup
 pre:N.take P.length=P
 par:∀ x∈P,sc.names.lookup x=some .local\/sc.names.lookup x=some .cell
 nofree:∀ y∈sc.names,y.2≠ .free
theorem zr9 {kindOf:Str->Option NameKind}{x:Str}:∀{binds:List (Str×Value)}{m:Str->Option Value},(∀ v,(x,v)∉binds)->bindL kindOf binds m x=m x
 |[],_,_=>rfl
 | (n,v)::r,m,h=>by
  unfold bindL
  rw[zr9 fun w hw=>h w (mem_cons_of_mem _ hw)]
  split
  .have:x≠n:=by rintro rfl;exact h v mem_cons_self
   simp[this]
  .rfl
theorem zq1 {kindOf:Str->Option NameKind}{x:Str}:∀{binds:List (Str×Value)}{m:Str->Option Value},(∀ v,(x,v)∉binds)->bindC kindOf binds m x=m x
 |[],_,_=>rfl
 | (n,v)::r,m,h=>by
  unfold bindC
  rw[zq1 fun w hw=>h w (mem_cons_of_mem _ hw)]
  split
  .rfl
  .have:x≠n:=by rintro rfl;exact h v mem_cons_self
   simp[this]
theorem zq0 {kindOf:Str->Option NameKind}{x:Str}{v:Value}:∀{P:List Str}{vs:List Value}{i:Nat}{m:Str->Option Value},P.Nodup->P[i]? =some x->vs[i]? =some v->kindOf x=some .local->
  bindL kindOf (P.zip vs) m x=some v
 |[],_,_,_,_,h,_,_=>by simp at h
 |_::_,[],_,_,_,_,h,_=>by simp at h
 |p::P,w::vs,0,m,nd,h1,h2,hk=>by
  simp at h1 h2;subst h1;subst h2
  show bindL kindOf ((p,w)::P.zip vs) m p=_
  unfold bindL
  rw[zr9 fun v j=>(List.nodup_cons.mp nd).1 (of_mem_zip j).1,if_pos hk]
  simp
 |p::P,w::vs,i+1,m,nd,h1,h2,hk=>by
  show bindL kindOf ((p,w)::P.zip vs) m x=_
  unfold bindL
  exact zq0 (i:=i) (List.nodup_cons.mp nd).2 (by simpa using h1) (by simpa using h2) hk
theorem zq2 {kindOf:Str->Option NameKind}{x:Str}{v:Value}:∀{P:List Str}{vs:List Value}{i:Nat}{m:Str->Option Value},P.Nodup->P[i]? =some x->vs[i]? =some v->kindOf x≠some .local->
  bindC kindOf (P.zip vs) m x=some v
 |[],_,_,_,_,h,_,_=>by simp at h
 |_::_,[],_,_,_,_,h,_=>by simp at h
 |p::P,w::vs,0,m,nd,h1,h2,hk=>by
  simp at h1 h2;subst h1;subst h2
  show bindC kindOf ((p,w)::P.zip vs) m p=_
  unfold bindC
  rw[zq1 fun v j=>(List.nodup_cons.mp nd).1 (of_mem_zip j).1,if_neg hk]
  simp
 |p::P,w::vs,i+1,m,nd,h1,h2,hk=>by
  show bindC kindOf ((p,w)::P.zip vs) m x=_
  unfold bindC
  exact zq2 (i:=i) (List.nodup_cons.mp nd).2 (by simpa using h1) (by simpa using h2) hk
noncomputable def start (N:List Str)(vs:List V):St:=vs.map some++List.replicate (N.length-vs.length) none
noncomputable def cxOf (CX:CXT)(P:Program)(w:World)(K:W.Frag)(mg:Str->Option Value)(base:Heap)(N:List Str)(qual:Str)(scope:Scope)(f:Addr)(cd:Value)(A:Around)(outer:List Env)(s:Shared)(H:Hp)(E:XK):Cx where
 prog:=P
 w:=w
 K:=K
 mg:=mg
 base:=base
 A:=A.deeper (envOfC qual scope s.heap.objs.size f cd)
 N:=N
 s₀:=s
 H₀:=H
 env:=envOfC qual scope s.heap.objs.size f cd
 outer:=outer
 stack:=envOfC qual scope s.heap.objs.size f cd::outer
 ex:=[]
 calm:=true
 fn:=fun _=>true
 pn:=[]
 xe:=fun e s'=>wpAny (model P w) (A.deeper (envOfC qual scope s.heap.objs.size f cd)) (leaving (envOfC qual scope s.heap.objs.size f cd) e) (fun _ s''=>CX outer H s E e s'') (fun e' s''=>CX outer H s E e' s'') s'
theorem zg0 {sc:Scope}{n:Nat}{x:Str}(h:sc.names.lookup x=some .cell):∃ c,(cellsFrom n sc.names []).lookup x=some c:=by
 have q:=W.cellsFrom_some sc.names n [] (.inl h)
 exact Option.isSome_iff_exists.mp q
theorem yt4 {CX:CXT}{P:Program}{w:World}{K:W.Frag}{mg:Str->Option Value}{base:Heap}{N ps:List Str}{qual:Str}{scope:Scope}{f:Addr}{M:Value}{A:Around}{outer:List Env}{s s1:Shared}{H:Hp}{E:XK}{us:List Value}{vs:List V}
  (S:FnScope N ps scope) (hd:A.handled=none) (j:Env0 P w K mg base A outer s H) (hl:vs.length=ps.length) (r:Vals vs us)
  (x:InCallC s s.heap.objs.size (bindL (envOfC qual scope s.heap.objs.size f M).kindOf (ps.zip us) fun _=>none) (cellsFrom (s.heap.objs.size+1) scope.names []) (bindC (envOfC qual scope s.heap.objs.size f M).kindOf (ps.zip us) fun _=>none) s1):
  Inv (cxOf CX P w K mg base N qual scope f M A outer s H E) [] (start N vs) H s1:=by
 have Z:ps.length<=N.length:=by have:=congrArg List.length S.pre;rw[length_take]at this;omega
 obtain⟨h1,tk,rfl,U⟩:=x.done
 have G:∀ b:Addr,b∉(cxOf CX P w K mg base N qual scope f M A outer s H E).ex:=fun b z=>absurd (show b∈([]:List Addr)from z) (by simp)
 refine⟨⟨j.mod,S.kind,rfl,rfl,Nat.le_refl _,fun y z c h1 h2=>?_,fun y I=>?_,fun y c _ h=>?_,fun _=>hd,Around.frames_deeper j.frames,.inr ⟨rfl,rfl⟩,fun b z=>absurd z (G b),j.bs,j.bsz,fun b _ _=>G b,fun b z=>absurd z (G b),j.funs,j.frf⟩,
  rfl,j.bare,Un.kept U,⟨_,x.toInCall.ns,fun i y v h1 h2 h3=>?_⟩,fun y c h=>⟨_,x.cell y c h⟩,j.hok.fresh (Nat.le_refl _),fun y c h=>?_,fun p hp=>absurd (show p∈([]:List (Addr×Obj))from hp) (by simp),j.hok.kept U,?_⟩
 .exact name_of_addr x.apart (PySem.mem_of_lookup h1) (PySem.mem_of_lookup h2)
 .have I:scope.names.lookup y=some .cell\/scope.names.lookup y=some .free:=I
  rcases I with I|I
  .exact zg0 I
  .exact absurd rfl (S.nofree _ (PySem.mem_of_lookup I))
 .exact Nat.le_of_lt (x.above y c (PySem.mem_of_lookup h))
 .have hi:i<vs.length:=by
   unfold start at h2
   by_cases hi:i<vs.length
   .exact hi
   .rw[getElem?_append_right (by simpa using hi)]at h2
    rw[getElem?_replicate]at h2
    split at h2 <;> cases h2
  have ha:vs[i]? =some v:=by
   unfold start at h2
   rw[getElem?_append_left (by simpa using hi),getElem?_map]at h2
   cases e:vs[i]? with
   |none=>rw[e]at h2;cases h2
   |some a=>rw[e]at h2;cases h2;rfl
  obtain⟨u,O,Y⟩:=r.get ha
  have hp:ps[i]? =some y:=by
   rw[<-S.pre,getElem?_take_of_lt (by omega)];exact h1
  have L:ps.Nodup:=by rw[<-S.pre];exact S.nd.sublist (take_sublist _ _)
  refine⟨u,Y,?_⟩
  rcases S.par y (mem_of_getElem? hp)with k|k
  .exact .inl ⟨k,zq0 L hp O k⟩
  .obtain⟨c,e⟩:=zg0 (n:=s.heap.objs.size+1) k
   refine .inr ⟨.inl k,c,e,?_⟩
   have q:=x.cell y c e
   rw[zq2 L hp O (by show scope.names.lookup y≠_;rw[k];decide)]at q
   exact q
 .exact j.hok.fresh (Nat.le_of_lt (x.above y c (PySem.mem_of_lookup h)))
 .unfold start
  show _=N.length
  rw[length_append,length_map,length_replicate]
  omega
theorem wy0 {CX:CXT}{P:Program}{w:World}{K:W.Frag}{mg:Str->Option Value}{base:Heap}{k:Nat}{f:Addr}{name qual:Str}{i:Arguments}{body:List Stmt}{scope:Scope}{dV kV doc pm cdv ct oc:Value}{an od:Option Addr}
  {osl:Array (Option Value)} {N ps:List Str} {sp:Sp} (lk:K.lookup f=some ⟨oc,od,.func (W.fnOf name qual i body scope dV kV doc pm an cdv ct),osl⟩) (Z:W.codeIn K cdv qual=true) (S:FnScope N ps scope)
  (len:∀ vs H Q E,sp vs H Q E->vs.length=ps.length)
  (G:∀(A:Around)(outer:List Env)(s:Shared)(H:Hp)(vs:List V)(Q:VK)(E:XK),Room k (A.deeper (envOfC qual scope s.heap.objs.size f cdv))->sp vs H Q E->
   ∃ t,PSs (cxOf CX P w K mg base N qual scope f cdv A outer s H E) body t/\t { nx:=fun _ H'=>Q .non H',rt:=Q } (start N vs) H):
  FnOk P w K mg base CX (k+1) f (W.fnOf name qual i body scope dV kV doc pm an cdv ct) ps sp:=by
 refine⟨len,fun A outer s H args us vs Q E Y M hb r L=>?_⟩
 have hl:=len _ _ _ _ L
 have KX:K.In s.heap:=M.mod.kin.keeps fun b o e=>(M.bs b o e).1
 have U:s.heap.NoLimit:=M.mod.nolimit.keeps fun b o e=>(M.bs b o e).1
 have z:∀ y∈ps.zip us,scope.names.lookup y.1=some .local\/(scope.names.lookup y.1=some .cell/\((cellsFrom (s.heap.objs.size+1) scope.names []).lookup y.1).isSome=true):=fun⟨n,v⟩ hy=>by
  rcases S.par n (of_mem_zip hy).1 with q|q
  .exact .inl q
  .exact .inr ⟨q,W.cellsFrom_some _ _ _ (.inl q)⟩
 refine codeAny_call_function Y.depth (KX _ _ lk) rfl S.co S.gen rfl (W.codeRec_of KX Z) (hb _ _ _ _ ?_)
 refine wpAny_newFunctionEnv_cells S.kind z fun env he s1 x=>?_
 subst he
 refine⟨U.keeps x.toInCall.keep,codeAny_func ?_⟩
 obtain⟨t,ht,hq⟩:=G A outer s H vs Q E (Y.deeper _) L
 have I:Inv (cxOf CX P w K mg base N qual scope f cdv A outer s H E) [] (start N vs) H s1:=yt4 S Y.hd M hl r x
 refine wpAny_mono (ht [] s1 (start N vs) H _ I hq) (fun fl s' hs=>?_) fun e s' hs=>hs
 have fin:∀{j:St}{H':Hp}{v:V}{u:Value},Inv (cxOf CX P w K mg base N qual scope f cdv A outer s H E) [] j H' s'->RelV v u->Q v H'->CE outer P w H s Q u s':=
  fun{j H' v u} J O q=>⟨v,H',J.os,J.bare,J.base,J.hok,O,q⟩
 cases fl with
 |ret u=>
  obtain⟨v,j,H',J,O,q⟩:=hs
  exact fin J O q
 |next=>
  obtain⟨j,H',J,q⟩:=hs
  exact fin (v:=V.non) (u:=Value.none) J rfl q
 |brk=>
  obtain⟨_,_,_,q⟩:=hs
  exact False.elim q
 |cont=>
  obtain⟨_,_,_,q⟩:=hs
  exact False.elim q
end
section
section
variable {X:Cx}{x:Str}{p pos:Pos}{e:Expr}{es:List Expr}{t:TA}{id T:String}{r:List V->Hp->VK->Prop}
def tCB (r:List V->Hp->VK->Prop)(t:TA):TE:=fun σ H Q=>t σ H fun vs H1=>r vs H1 Q
theorem f6 (O:CallR X (.builtin id) r)(M:Gl X x)(hm:X.mg x=none)(L:bootBuiltins x=some (.builtin id))(ha:PA X (e::es) t)(hn:x≠"__name__":=by decide)(j:(x==("__debug__":Str))=false:=by decide)
  (N:starEach (e::es) X.env=(false,eval e X.env)::starEach es X.env:=by rfl) (i:(backTo pos (starEach es X.env)).any (·.1)=false:=by rfl):PE X (.Call (.Name x p) (e::es) [] pos) (tCB r t):=by
 intro pins s σ H Q I h
 refine wpAny_Call_Name_kw (T7 I M hm L ?_ hn j)
 exact PyProof.Rows.callWith_builtin1 (thn (ha pos pins s σ H _ I h) fun us s1 ⟨vs,H1,S,z,G⟩=>O pins s1 σ H1 vs us Q S z G) N i
theorem G1 (O:CallR X (.type T) r)(M:Gl X x)(hm:X.mg x=none)(L:bootBuiltins x=some (.type T))(ha:PA X (e::es) t)(hn:x≠"__name__":=by decide)(j:(x==("__debug__":Str))=false:=by decide)
  (N:starEach (e::es) X.env=(false,eval e X.env)::starEach es X.env:=by rfl) (i:(backTo pos (starEach es X.env)).any (·.1)=false:=by rfl):PE X (.Call (.Name x p) (e::es) [] pos) (tCB r t):=by
 intro pins s σ H Q I h
 refine wpAny_Call_Name_kw (T7 I M hm L ?_ hn j)
 exact PyProof.Rows.callWith_type1 (thn (ha pos pins s σ H _ I h) fun us s1 ⟨vs,H1,S,z,G⟩=>O pins s1 σ H1 vs us Q S z G) N i
end
end
end L2
namespace HT
open PySem PyProof.Rows
theorem rcLt_int (A:Around)(s:Shared)(a:Int)(t:Tok)(c:Int)(u:Tok)(prog:Program)(w:World)(E:Value->Shared->Prop)(Q:Value->Shared->Prop)(h:Q (.bool (decide (a<c))) s):
  wpAny (model prog w) A (richCompare .Lt (.int a t) (.int c u)) Q E s:=
 (PyProof.Rows.lt_int h:wpAny (model prog w) A (compareOp .Lt (.int a t) (.int c u)) Q E s)
section
open PySem.SeqAt
open PySem.AutoSeq1 (wpAny_loadPart')
open PySem.MeetsSeq PySem.MeetsSeq2 PySem.MeetsSeq3
end
section
variable {prog:Program}{w:World}{A:Around}{E:Value->Shared->Prop}{s:Shared}
noncomputable def sIx (n d:Nat):Option Int->Nat
 |none=>d
 |some v=>if v<0 then (v+(n:Int)).toNat else min v.toNat n
theorem sIx_none (n d:Nat):sIx n d none=d:=rfl
theorem sIx_nat (n d k:Nat):sIx n d (some (k:Int))=min k n:=by
 show (if (k:Int)<0 then ((k:Int)+(n:Int)).toNat else min (k:Int).toNat n)=min k n
 rw[if_neg (by omega),Int.toNat_natCast]
end
end HT
namespace L2
open List
open PySem PySem.Spec PyProof.Rows
section
noncomputable abbrev TO:=St->Hp->(Option Int->Hp->Prop)->Prop
def PO (X:Cx)(e:Option Expr)(t:TO):Prop:=
 ∀(pins:List (Addr×Obj))(s:Shared)(σ:St)(H:Hp)(Q:Option Int->Hp->Prop),Inv X pins σ H s->t σ H Q->
  wpAny (model X.prog X.w) X.A (evalPart e X.env) (fun u s'=>∃ o H',Inv X pins σ H' s'/\IsPart u o/\Q o H') X.xe s
noncomputable def yb4:TO:=fun _ H Q=>Q none H
noncomputable def xd4 (t:TE):TO:=fun σ H Q=>t σ H fun x H1=>∃ i,x= .int i/\Q (some i) H1
section
variable {X:Cx}{e:Expr}{te:TE}{lo hi:Option Expr}{tl th:TO}{pos p2:Pos}
theorem xy1:PO X none yb4:=by
 intro pins s σ H Q I h
 rw[evalPart_none]
 exact wpAny_pure ⟨none,H,I,.none,h⟩
theorem xy0 (h:PE X e te):PO X (some e) (xd4 te):=by
 intro pins s σ H Q I hw
 rw[evalPart_some]
 refine thn (h pins s σ H _ I hw) fun u s1 j=>?_
 obtain⟨x,H1,L,z,G⟩:=j
 obtain⟨i,rfl,q⟩:=G
 obtain⟨t,rfl⟩:=z
 exact⟨some i,H1,L,.int i t,q⟩
def SlR (X:Cx)(r:V->Option Int->Option Int->Hp->VK->Prop):Prop:=
 ∀(pins:List (Addr×Obj))(s:Shared)(σ:St)(H:Hp)(x:V)(v vl vu:Value)(lo hi:Option Int)(sl:Addr)(Q:VK),Inv X pins σ H s->RelV x v->s.heap.IsSliceOf sl vl vu .none->IsPart vl lo->IsPart vu hi->r x lo hi H Q->
  ∃ T id,typeLookup (.type T) "__getitem__"=pure (some (.builtin id))/\s.TypeIs v T/\wpAny (model X.prog X.w) X.A (getItem v (.ref sl)) (EP X pins σ Q) X.xe s
def tSl (r:V->Option Int->Option Int->Hp->VK->Prop)(te:TE)(tl th:TO):TE:=fun σ H Q=>te σ H fun x H1=>tl σ H1 fun l H2=>th σ H2 fun u H3=>r x l u H3 Q
theorem yk2 {r:V->Option Int->Option Int->Hp->VK->Prop}(hr:SlR X r)(he:PE X e te)(hl:PO X lo tl)(Y:PO X hi th):PE X (.Subscript e (.Slice lo hi none p2) pos) (tSl r te tl th):=by
 intro pins s σ H Q I h
 refine Subscript_ (thn (he pins s σ H _ I h) fun v s1 i=>?_)
 obtain⟨x,H1,I1,M,S⟩:=i
 refine wpAny_Slice (thn (hl pins s1 σ H1 _ I1 S) fun G s2 ⟨l,H2,I2,pl,O⟩=>thn (Y pins s2 σ H2 _ I2 O) fun z j i=>?_)
 obtain⟨u,L,I3,U,N⟩:=i
 rw[evalPart_none]
 refine wpAny_pure ?_
 have I4:Inv X pins σ L { j with heap:=j.heap.push { cls:=.type "slice",data:=.fields #[G,z,.none] } }:=I3.kept (t':=j.toks) fun b ob q=>Heap.get?_push_of_some _ q
 obtain⟨T,id,hT,Z,hg⟩:=hr pins { j with heap:=j.heap.push { cls:=.type "slice",data:=.fields #[G,z,.none] } } σ L x v G z l u j.heap.objs.size Q I4 M (Heap.IsSliceOf.new ..) pl U N
 show wpAny (model X.prog X.w) X.A (subscriptTail e (.Slice lo hi none p2) v (.ref j.heap.objs.size)) (EP X pins σ Q) X.xe { j with heap:=j.heap.push { cls:=.type "slice",data:=.fields #[G,z,.none] } }
 exact tail_any (ops:=[.ref j.heap.objs.size,v]) Z hT hg (by with_unfolding_all rfl)
noncomputable def cutV (xs:List V)(lo hi:Option Int):List V:=(xs.drop (HT.sIx xs.length 0 lo)).take (HT.sIx xs.length xs.length hi-HT.sIx xs.length 0 lo)
theorem zn2 (xs:List V)(lo hi:Option Int):(cutV xs lo hi).length<=xs.length:=by
 unfold cutV
 rw[length_take,length_drop]
 omega
end
end
section
noncomputable def ixN (n:Nat)(i:Int):Option Nat:=if 0<=i then (if i<n then some i.toNat else none)else if -(n:Int)<=i then some (i+n).toNat else none
noncomputable def atI {α:Type}(xs:List α)(i:Int):Option α:=(ixN xs.length i).bind fun j=>xs[j]?
theorem yt1 {n:Nat}{i:Int}{j:Nat}(h:ixN n i=some j):seqIndex? i n=some j/\j<n/\ -(n:Int)<=i/\i<n:=by
 unfold ixN at h
 by_cases z:0<=i
 .rw[if_pos z]at h
  by_cases h1:i<n
  .rw[if_pos h1]at h
   have e:i.toNat=j:=Option.some.inj h
   exact⟨by rw[seqIndex_of z h1,e],by omega,by omega,h1⟩
  .rw[if_neg h1]at h;cases h
 .rw[if_neg z]at h
  by_cases h1:-(n:Int)<=i
  .rw[if_pos h1]at h
   have e:(i+n).toNat=j:=Option.some.inj h
   exact⟨by rw[seqIndex_neg (by omega) h1,e],by omega,h1,by omega⟩
  .rw[if_neg h1]at h;cases h
theorem zm8 {α:Type}{xs:List α}{i:Int}{v:α}(h:atI xs i=some v):∃ j,seqIndex? i xs.length=some j/\xs[j]? =some v/\j<xs.length/\ -(xs.length:Int)<=i/\i<xs.length:=by
 unfold atI at h
 cases e:ixN xs.length i with
 |none=>rw[e]at h;cases h
 |some j=>
  rw[e]at h
  obtain⟨h1,h2,G,z⟩:=yt1 e
  exact⟨j,h1,h,h2,G,z⟩
theorem atI_last {α:Type}(xs:List α)(v:α):atI (xs++[v]) (-1)=some v:=by
 have i:(xs++[v]).length=xs.length+1:=by simp
 have e:ixN (xs++[v]).length (-1)=some xs.length:=by
  unfold ixN
  rw[i,if_neg (by decide),if_pos (by omega)]
  congr 1
  omega
 unfold atI
 rw[e]
 show (xs++[v])[xs.length]? =some v
 simp
def zk3 (b:Expr):Prop:=∀ o i,subscripted b false o i=operate [o,i] (getItem o i)
def IxR (X:Cx)(r:R2):Prop:=
 ∀(value slice:Expr)(pins:List (Addr×Obj))(s:Shared)(σ:St)(H:Hp)(x y:V)(v u:Value)(Q:VK),Inv X pins σ H s->RelV x v->RelV y u->r x y H Q->
  subscripted slice false v u=operate [v,u] (getItem v u)->wpAny (model X.prog X.w) X.A (subscriptTail value slice v u) (EP X pins σ Q) X.xe s
def MtR (X:Cx)(id:String)(r:V->List V->Hp->VK->Prop):Prop:=
 ∀(pins:List (Addr×Obj))(s:Shared)(σ:St)(H:Hp)(x:V)(xs:List V)(v:Value)(us:List Value)(Q:VK),Inv X pins σ H s->RelV x v->Vals xs us->r x xs H Q->
  wpAny (model X.prog X.w) X.A (call (.builtin id) (v::us)) (EP X pins σ Q) X.xe s
section
variable {X:Cx}{a b:Expr}{ta tb:TE}{pos:Pos}
theorem D5 {r:R2}(z:IxR X r)(ha:PE X a ta)(G:PE X b tb)(hs:zk3 b):PE X (.Subscript a b pos) (tOp r ta tb):=by
 intro pins s σ H Q I h
 exact Subscript_ (binT ha G I h fun v u s2 x y H2 L j i q=>z a b pins s2 σ H2 x y v u Q L j i q (hs _ _))
def rIxL (K:W.Frag):R2:=fun x y H Q=>∃ p xs i v,x= .ref p/\y= .int i/\SqL K H p xs/\atI xs i=some v/\Q v H
def rIxT (K:W.Frag):R2:=fun x y H Q=>∃ p xs i v,x= .ref p/\y= .int i/\SqT K H p xs/\atI xs i=some v/\Q v H
theorem U3:IxR X (rIxL X.K):=by
 intro value G pins s σ H x y v u Q I S O h hs
 obtain⟨p,xs,i,z,rfl,rfl,hq,Y,q⟩:=h
 cases S
 obtain⟨t,rfl⟩:=O
 obtain⟨its,r,pl,hz⟩:=I.list hq
 obtain⟨j,h1,h2,h3,h4,Z⟩:=zm8 Y
 obtain⟨w,N,L⟩:=r.get h2
 have U:=r.length
 have hn:=L0
 have fin:EP X pins σ Q w s:=⟨z,H,I,L,q⟩
 by_cases M:0<=i
 .have hj:i.toNat=j:=by
   rw[seqIndex_of M Z]at h1
   exact Option.some.inj h1
  exact item_listR pl.isList M (by omega) (by rw[hj];simpa using N) fin hs
 .have hj:(i+(its.toArray.size:Int)).toNat=j:=by
   rw[seqIndex_neg (by omega) h4]at h1
   rw[size_toArray,<-U]
   exact Option.some.inj h1
  exact subscriptTail_builtinR (x:=w) pl.isList.typeIs slot_list_getitem.lookup
   (wpAny_getItem_list_neg (Q:=fun r s'=>r=w/\EP X pins σ Q r s') pl.isList (by omega) (by rw[size_toArray] <;> omega) (by omega) (by rw[hj];simpa using N) ⟨rfl,fin⟩) hs
theorem xi9:IxR X (rIxT X.K):=by
 intro value G pins s σ H x y v u Q I N M h hs
 obtain⟨p,xs,i,z,rfl,rfl,hq,S,q⟩:=h
 cases N
 obtain⟨t,rfl⟩:=M
 obtain⟨its,r,pl,Y⟩:=I.tuple hq
 obtain⟨j,h1,h2,h3,h4,Z⟩:=zm8 S
 obtain⟨w,U,L⟩:=r.get h2
 have O:=r.length
 have hn:=L0
 have fin:EP X pins σ Q w s:=⟨z,H,I,L,q⟩
 exact subscriptTail_builtinR (x:=w) pl.typeIs slot_tuple_getitem.lookup
  (getItem_tuple (j:=j) (Q:=fun r s'=>r=w/\EP X pins σ Q r s') pl (by omega) (by omega) (by rw[size_toArray,<-O];exact h1) (by simpa using U) ⟨rfl,fin⟩) hs
theorem ze7 (its:List Value)(n j:Nat)(u:Value):Obj.mapSeq (·.setIfInBounds j u) { cls:=.type "list",data:=.seq its.toArray n }={ cls:=.type "list",data:=.seq (its.set j u).toArray n }:=by
 simp[Obj.mapSeq]
theorem Inv.lst {pins:List (Addr×Obj)}{σ:St}{H:Hp}{s:Shared}{p:Addr}{xs:List V}(I:Inv X pins σ H s)(h:H p=some (.lst xs)):
  ∃(its:List Value)(n:Nat),Vals xs its/\s.heap.get? p=some { cls:=.type "list",data:=.seq its.toArray n }/\xs.length<=sizeLine:=by
 obtain⟨z,its,n,r,e⟩:=I.hok p _ h
 exact⟨its,n,r,e,z⟩
theorem Inv.lstUpd {pins:List (Addr×Obj)}{σ:St}{H:Hp}{s:Shared}{p:Addr}{xs ys:List V}{its its':List Value}{n n':Nat}{f:Obj->Obj}(I:Inv X pins σ H s)(h:H p=some (.lst xs))
  (z:s.heap.get? p=some { cls:=.type "list",data:=.seq its.toArray n }) (i:f { cls:=.type "list",data:=.seq its.toArray n }={ cls:=.type "list",data:=.seq its'.toArray n' }) (r:Vals ys its') (j:ys.length<=sizeLine) (t:Nat):
  Inv X pins σ (upd H p (.lst ys)) { s with heap:=s.heap.update p f,toks:=t }:=by
 have e:(s.heap.update p f).get? p=some { cls:=.type "list",data:=.seq its'.toArray n' }:=by
  rw[Heap.get?_update_self f z (by rw[i] <;> rfl),i]
 refine I.write (x:=p) (e:=p) (by rw[h];trivial) (.inl rfl) (fun b u G q=>(Heap.get?_update_other _ _ (Ne.symm G)).trans q) ⟨_,e⟩ ?_
 exact⟨j,its',n',r,e⟩
def xz1:V->V->V->Hp->(Hp->Prop)->Prop:=fun o i v H Q=>∃ p xs k j,o= .ref p/\i= .int k/\H p=some (.lst xs)/\ixN xs.length k=some j/\Q (upd H p (.lst (xs.set j v)))
theorem Z5:PSet X xz1:=by
 intro pins s σ H o i v ov iv u Q I U Y S h
 obtain⟨p,xs,k,j,rfl,rfl,hp,hj,q⟩:=h
 cases U
 obtain⟨t,rfl⟩:=Y
 obtain⟨its,n,r,z,Z⟩:=I.lst hp
 obtain⟨h1,h2,M,L⟩:=yt1 hj
 have G:=r.length
 have hn:=L0
 have O:Inv X pins σ (upd H p (.lst (xs.set j v))) { s with heap:=s.heap.update p (Obj.mapSeq (·.setIfInBounds j u)) }:=
  I.lstUpd hp z (ze7 its n j u) (r.set S j) (by rw[length_set];exact Z) s.toks
 by_cases N:0<=k
 .have hk:k.toNat=j:=by
   rw[seqIndex_of N L]at h1
   exact Option.some.inj h1
  exact W.ki_setAt z N (by omega) (by rw[size_toArray,<-G];exact L) (by rw[hk];exact⟨_,O,q⟩)
 .have hk:(k+(its.toArray.size:Int)).toNat=j:=by
   rw[seqIndex_neg (by omega) M]at h1
   rw[size_toArray,<-G]
   exact Option.some.inj h1
  exact W.ki_setBack z (by omega) (by rw[size_toArray,<-G];exact M) (by omega) (by rw[hk];exact⟨_,O,q⟩)
theorem zv2 (lo hi:Option Int)(n:Nat):(sliceBounds lo hi none n).1=((HT.sIx n 0 lo:Nat):Int)/\(sliceBounds lo hi none n).2.1=((HT.sIx n n hi:Nat):Int)/\(sliceBounds lo hi none n).2.2=1:=by
 refine⟨?_,?_,rfl⟩
 .cases lo with
  |none=>simp[sliceBounds,HT.sIx]
  |some i=>
   simp only[sliceBounds,HT.sIx,Option.getD_none,show (1:Int)>0 by decide,if_true]
   by_cases h:i<0
   .simp only[h,if_true] <;> omega
   .simp only[h,if_false] <;> omega
 .cases hi with
  |none=>simp[sliceBounds,HT.sIx]
  |some i=>
   simp only[sliceBounds,HT.sIx,Option.getD_none,show (1:Int)>0 by decide,if_true]
   by_cases h:i<0
   .simp only[h,if_true] <;> omega
   .simp only[h,if_false] <;> omega
theorem A7 (its:List Value)(lo hi:Option Int):slicePick its.toArray lo hi none=((its.drop (HT.sIx its.length 0 lo)).take (HT.sIx its.length its.length hi-HT.sIx its.length 0 lo)).toArray:=by
 obtain⟨h1,h2,i⟩:=zv2 lo hi its.toArray.size
 unfold slicePick
 rw[h1,h2,i]
 simp only[sliceRange_one,pick_run,size_toArray] <;> rfl
def rSlL (K:W.Frag):V->Option Int->Option Int->Hp->VK->Prop:=fun x lo hi H Q=>∃ a xs,x= .ref a/\SqL K H a xs/\∀ p,H p=none->Q (.ref p) (upd H p (.lst (cutV xs lo hi)))
theorem yb8:SlR X (rSlL X.K):=by
 intro pins s σ H x v O N lo hi sl Q I z hs pl G h
 obtain⟨a,xs,rfl,M,q⟩:=h
 cases z
 obtain⟨its,r,j,L⟩:=I.list M
 have i:=r.length
 refine⟨"list",_,slot_list_getitem.lookup,j.isList.typeIs,?_⟩
 refine wpAny_getItem_list_slice j.isList hs pl G .none (by simp) ?_ (by rw[size_toArray] <;> omega)
 rw[A7,<-i]
 refine⟨.ref s.heap.objs.size,_,I.laid (t':=s.toks) (o:=.lst (cutV xs lo hi)) (fun b ob q=>Heap.get?_push_of_some _ q) (Nat.le_refl _) ?_,rfl,q _ (I.hok.fresh (Nat.le_refl _))⟩
 exact⟨Nat.le_trans (zn2 xs lo hi) L,_,0,(r.drop (HT.sIx xs.length 0 lo)).take (HT.sIx xs.length xs.length hi-HT.sIx xs.length 0 lo),Heap.get?_push_size _ rfl⟩
noncomputable def C0:V->Bool
 | .non=>true
 | .bl _=>true
 | .int _=>true
 | .str _=>true
 |_=>false
noncomputable def eqV:V->V->Bool
 | .non,.non=>true
 | .bl a,.bl b=>a==b
 | .bl a,.int b=>(if a then 1 else 0)==b
 | .int a,.bl b=>a==(if b then 1 else 0)
 | .int a,.int b=>a==b
 | .str a,.str b=>a==b
 |_,_=>false
theorem xg5 {A:Around}{s:Shared}{y x:V}{u v:Value}(j:RelV y u)(i:RelV x v)(G:C0 y=true)(z:C0 x=true):SeqAt.EqAt A s u v (eqV y x):=by
 cases y with
 |non=>
  cases j
  cases x with
  |non=>cases i;exact SeqAt.EqAt.same _
  |bl b=>cases i;exact SeqAt.EqAt.none_bool b
  |int b=>obtain⟨t,rfl⟩:=i;exact SeqAt.EqAt.none_int b t
  |str b=>obtain⟨t,rfl⟩:=i;exact SeqAt.EqAt.none_str b t
  |_=>exact absurd (show false=true from z) Bool.false_ne_true
 |bl a=>
  cases j
  cases x with
  |non=>cases i;exact SeqAt.EqAt.bool_none a
  |bl b=>cases i;exact SeqAt.EqAt.bool_bool a b
  |int b=>obtain⟨t,rfl⟩:=i;exact SeqAt.EqAt.bool_int a b t
  |str b=>obtain⟨t,rfl⟩:=i;exact SeqAt.EqAt.bool_str a b t
  |_=>exact absurd (show false=true from z) Bool.false_ne_true
 |int a=>
  obtain⟨t',rfl⟩:=j
  cases x with
  |non=>cases i;exact SeqAt.EqAt.int_none a t'
  |bl b=>cases i;exact SeqAt.EqAt.int_bool a t' b
  |int b=>obtain⟨t,rfl⟩:=i;exact SeqAt.EqAt.int_int a t' b t
  |str b=>obtain⟨t,rfl⟩:=i;exact SeqAt.EqAt.int_str a t' b t
  |_=>exact absurd (show false=true from z) Bool.false_ne_true
 |str a=>
  obtain⟨t',rfl⟩:=j
  cases x with
  |non=>cases i;exact SeqAt.EqAt.str_none a t'
  |bl b=>cases i;exact SeqAt.EqAt.str_bool a t' b
  |int b=>obtain⟨t,rfl⟩:=i;exact SeqAt.EqAt.str_int a t' b t
  |str b=>obtain⟨t,rfl⟩:=i;exact SeqAt.EqAt.str_str a t' b t
  |_=>exact absurd (show false=true from z) Bool.false_ne_true
 |_=>exact absurd (show false=true from G) Bool.false_ne_true
noncomputable def eqU (x:V)(u:Value):Bool:=match u with
 | .none=>eqV .non x
 | .bool b=>eqV (.bl b) x
 | .int i _=>eqV (.int i) x
 | .str z _=>eqV (.str z) x
 |_=>false
theorem yd6 {x y:V}{u:Value}(r:RelV y u)(f:C0 y=true):eqU x u=eqV y x:=by
 cases y with
 |non=>cases r;rfl
 |bl b=>cases r;rfl
 |int i=>obtain⟨t,rfl⟩:=r;rfl
 |str z=>obtain⟨t,rfl⟩:=r;rfl
 |_=>exact absurd (show false=true from f) Bool.false_ne_true
theorem zk1 {x:V}:∀{xs:List V}{us:List Value},Vals xs us->xs.all C0=true->us.any (eqU x)=xs.any fun y=>eqV y x
 |_,_,.nil,_=>rfl
 |y::xs,u::us,.cons r t,f=>by
  rw[all_cons,Bool.and_eq_true]at f
  rw[any_cons,any_cons,yd6 r f.1,zk1 t f.2]
theorem zy9 {A:Around}{s:Shared}{x:V}{v:Value}(j:RelV x v)(z:C0 x=true):∀{xs:List V}{us:List Value},Vals xs us->xs.all C0=true->∀ u∈us,SeqAt.EqAt A s u v (eqU x u)
 |_,_,.nil,_=>fun u i=>by cases i
 |y::xs,u::us,.cons r t,f=>fun G i=>by
  rw[all_cons,Bool.and_eq_true]at f
  rcases List.mem_cons.mp i with rfl|i
  .rw[yd6 r f.1];exact xg5 r j f.1 z
  .exact zy9 j z t f.2 G i
noncomputable def inV (x:V)(xs:List V):Bool:=xs.any fun y=>eqV y x
def rIn (K:W.Frag)(neg:Bool):R2:=fun x y H Q=>∃ p xs,y= .ref p/\(SqL K H p xs\/SqT K H p xs)/\C0 x=true/\xs.all C0=true/\Q (.bl (if neg then !inV x xs else inV x xs)) H
theorem zu8:OpR X (compareOp .In) (rIn X.K false):=by
 intro pins s σ H x y v u Q I i z h
 obtain⟨p,xs,rfl,hq,j,fs,q⟩:=h
 cases z
 rcases hq with hq|hq
 .obtain⟨its,r,pl,hz⟩:=I.list hq
  refine SeqAt.in_listAt (eqU x) pl.isList (fun w hw=>zy9 i j r fs w (by simpa using hw)) ⟨.bl _,H,I,rfl,?_⟩
  rw[show its.toArray.any (eqU x)=its.any (eqU x)by simp,zk1 r fs]
  exact q
 .obtain⟨its,r,pl,hz⟩:=I.tuple hq
  refine SeqAt.in_tupleAt (eqU x) pl (fun w hw=>zy9 i j r fs w (by simpa using hw)) ⟨.bl _,H,I,rfl,?_⟩
  rw[show its.toArray.any (eqU x)=its.any (eqU x)by simp,zk1 r fs]
  exact q
theorem L6:CallR X (.builtin "len") (fun xs H Q=>∃ p ys,xs=[.ref p]/\(SqL X.K H p ys\/SqT X.K H p ys)/\Q (.int ys.length) H):=by
 intro pins s σ H xs us Q I r h
 obtain⟨p,ys,rfl,hq,q⟩:=h
 obtain⟨u,rfl,j⟩:=Q8 r
 cases j
 have hn:=L0
 rcases hq with hq|hq
 .obtain⟨its,r',pl,hz⟩:=I.list hq
  have i:=r'.length
  exact Calls.call_len_list pl.isList (by simp only[size_toArray] <;> omega) ⟨.int ys.length,H,I.tok _,⟨s.toks+1,by rw[size_toArray,i]⟩,q⟩
 .obtain⟨its,r',pl,hz⟩:=I.tuple hq
  have i:=r'.length
  exact len_tuple pl (by simp only[size_toArray] <;> omega) ⟨.int ys.length,H,I.tok _,⟨s.toks+1,by rw[size_toArray,i]⟩,q⟩
theorem zr6:CallR X (.builtin "len") (fun xs H Q=>∃ z,xs=[.str z]/\z.length<=sizeLine/\Q (.int z.length) H):=by
 intro pins s σ H xs us Q I r h
 obtain⟨z,rfl,i,q⟩:=h
 obtain⟨u,rfl,t,rfl⟩:=Q8 r
 have hn:=L0
 exact len_str (by omega) ⟨.int z.length,H,I.tok _,⟨_,rfl⟩,q⟩
theorem CallR.or {f:Value}{r j:List V->Hp->VK->Prop}(h:CallR X f r)(h':CallR X f j):CallR X f (fun xs H Q=>r xs H Q\/j xs H Q):=by
 intro pins s σ H xs us Q I i q
 rcases q with q|q
 .exact h pins s σ H xs us Q I i q
 .exact h' pins s σ H xs us Q I i q
theorem zr5:CallR X (.type "list") (fun xs H Q=>∃ p ys,xs=[.ref p]/\(SqL X.K H p ys\/SqT X.K H p ys)/\∀ l,H l=none->Q (.ref l) (upd H l (.lst ys))):=by
 intro pins s σ H xs us Q I r h
 obtain⟨p,ys,rfl,hq,q⟩:=h
 obtain⟨u,rfl,N⟩:=Q8 r
 cases N
 have fin:∀(its:List Value),Vals ys its->ys.length<=sizeLine->∀(h':Heap)(j:Nat),(∀ b o',s.heap.get? b=some o'->h'.get? b=some o')->
   h'.get? s.heap.objs.size=some { cls:=.type "list",dict:=none,data:=.seq its.toArray j,slots:=#[] }->EP X pins σ Q (.ref s.heap.objs.size) { s with heap:=h' }:=fun its i z h' j kp e=>
  ⟨.ref s.heap.objs.size,_,I.laid (t':=s.toks) kp (Nat.le_refl _) (show ObjOk X.prog X.w _ h' _ (.lst ys)from⟨z,its,j,i,e⟩),rfl,q _ (I.hok.fresh (Nat.le_refl _))⟩
 rcases hq with hq|hq
 .obtain⟨its,i,pl,z⟩:=I.list hq
  have G:=i.length
  obtain⟨o,L,M,n,hd⟩:=pl.isList
  exact call_list_seq p (.inl rfl) L M hd (fun h' j kp e=>fin its i z h' j kp e) (by simp only[size_toArray] <;> omega)
 .obtain⟨its,i,pl,z⟩:=I.tuple hq
  have G:=i.length
  obtain⟨o,L,M,n,hd⟩:=pl
  exact call_list_seq p (.inr rfl) L M hd (fun h' j kp e=>fin its i z h' j kp e) (by simp only[size_toArray] <;> omega)
def tyV (K:W.Frag)(T:String)(x:V)(H:Hp):Prop:=match x with
 | .str _=>T="str"
 | .int _=>T="int"
 | .ref p=>(T="list"/\∃ xs,SqL K H p xs)\/(T="tuple"/\∃ o,K.lookup p=some o/\o.cls= .type "tuple"/\o.dict=none)\/
   (T="dict"/\((∃ kvs,H p=some (.dK kvs))\/∃ kvs,H p=some (.dT kvs)))\/(T="set"/\∃ S n,H p=some (.set S n))
 |_=>False
theorem yf3 {pins:List (Addr×Obj)}{σ:St}{H:Hp}{s:Shared}{T:String}{x:V}{v:Value}(I:Inv X pins σ H s)(r:RelV x v)(ty:tyV X.K T x H):
  s.TypeIs v T/\∀ a,v= .ref a->∃ ob,s.heap.get? a=some ob/\ob.dict=none:=by
 cases x with
 |str z=>
  obtain⟨t,rfl⟩:=r
  cases (show T="str" from ty)
  exact⟨typeIs_str s z t,fun _ e=>nomatch e⟩
 |int i=>
  obtain⟨t,rfl⟩:=r
  cases (show T="int" from ty)
  exact⟨typeIs_int s i t,fun _ e=>nomatch e⟩
 |ref p=>
  cases r
  rcases ty with⟨rfl,xs,hq⟩|⟨rfl,o,j,G,hd⟩|⟨rfl,j⟩|⟨rfl,S,n,j⟩
  .obtain⟨its,_,pl,_⟩:=I.list hq
   refine⟨pl.isList.typeIs,fun a e=>?_⟩
   cases e
   obtain⟨o,n,e,c,hd,_⟩:=pl
   exact⟨o,e,hd⟩
  .refine⟨⟨o,I.kIn p o j,G⟩,fun a e=>?_⟩
   cases e
   exact⟨o,I.kIn _ o j,hd⟩
  .have z:∃ o,s.heap.get? p=some o/\o.ExactDict:=by
    rcases j with⟨kvs,j⟩|⟨kvs,j⟩
    .obtain⟨_,_,_,_,o,_,_,e,ex,_⟩:=I.hok p _ j
     exact⟨o,e,ex⟩
    .obtain⟨_,_,_,_,o,_,_,e,ex,_⟩:=I.hok p _ j
     exact⟨o,e,ex⟩
   obtain⟨o,e,ex⟩:=z
   refine⟨⟨o,e,ex.1⟩,fun a e2=>?_⟩
   cases e2
   exact⟨o,e,ex.2.1⟩
  .obtain⟨o,_,_,_,e,ex,_⟩:=I.hok p _ j
   refine⟨⟨o,e,ex.1⟩,fun a e2=>?_⟩
   cases e2
   exact⟨o,e,ex.2.1⟩
 |_=>exact False.elim ty
def tBM0 (K:W.Frag)(T:String)(r:V->List V->Hp->VK->Prop)(to:TE):TE:=fun σ H Q=>to σ H fun x H1=>tyV K T x H1/\r x [] H1 Q
def tBM (K:W.Frag)(T:String)(r:V->List V->Hp->VK->Prop)(to:TE)(t:TA):TE:=fun σ H Q=>to σ H fun x H1=>tyV K T x H1/\t σ H1 fun xs H2=>r x xs H2 Q
variable {o e:Expr}{es:List Expr}{to:TE}{t:TA}{name:Str}{apos cpos:Pos}{T id:String}{r:V->List V->Hp->VK->Prop}
theorem ye2 (O:PlainAttrs T)(slot:Slot T name id)(G:typeOf (.builtin id)=pure (.type "method_descriptor"))(hm:MtR X id r)(S:PE X o to)
  (j:attributeBase o name X.env (eval o X.env)=eval o X.env:=by rfl) (i:(apos.endLine==cpos.line)=true:=by rfl):PE X (.Call (.Attribute o name apos) [] [] cpos) (tBM0 X.K T r to):=by
 intro pins s σ H Q I h
 refine wpAny_Call_method0_late j i (thn (S pins s σ H _ I h) fun v s1 z=>?_)
 obtain⟨x,H1,M,L,ty,N⟩:=z
 obtain⟨h1,h2⟩:=yf3 M L ty
 exact⟨T,id,O,slot,G,h1,h2,Calls.callWith_builtin rfl (PySem.evalArgs_none (hm pins s1 σ H1 x [] v [] Q M L .nil N))⟩
theorem xb1 (Z:PlainAttrs T)(slot:Slot T name id)(M:typeOf (.builtin id)=pure (.type "method_descriptor"))(hm:MtR X id r)(ho:PE X o to)(ha:PA X (e::es) t)
  (z:attributeBase o name X.env (eval o X.env)=eval o X.env:=by rfl)
  (L:((backTo cpos (starEach (e::es) X.env)).all (fun x=>!x.1)&&(backToKw cpos (keywordEach [] X.env)).all (fun x=>x.1.isSome)
   &&decide ((e::es).length+([]:List Keyword).length+(if ([]:List Keyword).isEmpty then 0 else 1)<30))=true:=by rfl)
  (j:(apos.endLine==cpos.line)=true:=by rfl) (hs:starEach (e::es) X.env=(false,eval e X.env)::starEach es X.env:=by rfl) (i:(backTo cpos (starEach es X.env)).any (·.1)=false:=by rfl):
  PE X (.Call (.Attribute o name apos) (e::es) [] cpos) (tBM X.K T r to t):=by
 intro pins s σ H Q I h
 refine wpAny_Call_method_late z L j rfl (thn (ho pins s σ H _ I h) fun v s1 G=>?_)
 obtain⟨x,H1,O,N,ty,Y⟩:=G
 obtain⟨h1,h2⟩:=yf3 O N ty
 refine⟨T,id,Z,slot,M,h1,h2,?_⟩
 have hA:=ha cpos pins s1 σ H1 _ O Y
 rw[hs]at hA ⊢
 refine Calls.callWith_builtin (by show (false || (backTo cpos (starEach es X.env)).any (·.1))=false;rw[i] <;> rfl) (Calls.evalArgs_plain ?_)
 exact thn hA fun us s2 ⟨vs,H2,I2,S,U⟩=>hm pins s2 σ H2 x vs v us Q I2 N S U
end
end
section
def MtM (X:Cx)(id:String)(r:V->List V->Hp->VK->Prop):Prop:=
 ∀(pins:List (Addr×Obj))(s:Shared)(σ:St)(H:Hp)(x:V)(xs:List V)(v:Value)(us:List Value)(Q:VK),Inv X pins σ H s->RelV x v->Vals xs us->r x xs H Q->
  wpAny (model X.prog X.w) X.A (call (.builtin id) (v::us)) (EP X pins σ Q) X.xe s
theorem Vals.one:∀{x:V}{us:List Value},Vals [x] us->∃ u,us=[u]/\RelV x u
 |_,_,.cons r .nil=>⟨_,rfl,r⟩
theorem Vals.zero:∀{us:List Value},Vals [] us->us=[]
 |_,.nil=>rfl
theorem Vals.dropLast {xs:List V}{us:List Value}(h:Vals xs us):Vals xs.dropLast us.dropLast:=by
 induction h with
 |nil=>exact .nil
 |cons r t i=>
  cases t with
  |nil=>exact .nil
  |cons q t'=>exact .cons r i
theorem Vals.rep {xs:List V}{us:List Value}(h:Vals xs us):∀ k:Nat,Vals (List.replicate k xs).flatten (List.replicate k us).flatten
 |0=>.nil
 |k+1=>by
  rw[replicate_succ,replicate_succ,flatten_cons,flatten_cons]
  exact Vals.append h (Vals.rep h k)
theorem zd1 {α:Type}(l:List α):l.eraseIdx (l.length-1)=l.dropLast:=by
 induction l with
 |nil=>rfl
 |cons a r i=>
  cases r with
  |nil=>rfl
  |cons b r=>
   have e:(a::b::r).length-1=((b::r).length-1)+1:=by
    have h1:(a::b::r).length=r.length+2:=rfl
    have h2:(b::r).length=r.length+1:=rfl
    omega
   rw[e,eraseIdx_cons_succ,i]
   all_goals rfl
theorem zs6 (its:List Value):∀(k:Nat)(acc:List Value),
  List.foldl (fun j i=>j++i) acc.toArray (List.replicate k its.toArray)=(acc++(List.replicate k its).flatten).toArray
 |0,acc=>by simp
 |k+1,acc=>by
  have e:acc.toArray++its.toArray=(acc++its).toArray:=by simp
  have e2:(acc++its)++(List.replicate k its).flatten=acc++(List.replicate (k+1) its).flatten:=by
   rw[replicate_succ,flatten_cons,append_assoc]
  rw[<-e2,<-zs6 its k (acc++its),<-e,replicate_succ,foldl_cons]
section
variable {X:Cx}{pins:List (Addr×Obj)}{σ:St}{H:Hp}{s:Shared}{l b:Addr}{xs ys zs:List V}
theorem Inv.lset {its its':List Value}{n:Nat}{f:Array Value->Array Value}{t':Nat}(I:Inv X pins σ H s)(M:H l=some (.lst xs))
  (e:s.heap.get? l=some { cls:=.type "list",data:=.seq its.toArray n }) (G:f its.toArray=its'.toArray) (j:Vals ys its') (i:ys.length<=sizeLine):
  Inv X pins σ (upd H l (.lst ys)) { s with heap:=s.heap.update l (Obj.mapSeq f),toks:=t' }:=by
 have q:=PySem.IsL.update e f
 rw[G]at q
 refine I.write (x:=l) (e:=l) (by rw[M];exact trivial) (.inl rfl) (fun b' u L z=>(Heap.get?_update_other s.heap (Obj.mapSeq f) (Ne.symm L)).trans z) ⟨_,q⟩ ?_
 exact⟨i,its',_,j,q⟩
theorem Inv.lnew {its:List Value}{t':Nat}(I:Inv X pins σ H s)(j:Vals ys its)(i:ys.length<=sizeLine):
  Inv X pins σ (upd H s.heap.objs.size (.lst ys)) { s with heap:=s.heap.push { cls:=.type "list",data:=.seq its.toArray },toks:=t' }:=
 I.laid (fun _ _ q=>Heap.get?_push_of_some _ q) (Nat.le_refl _) ⟨i,its,0,j,Heap.get?_push_size _ rfl⟩
theorem Inv.fresh (I:Inv X pins σ H s):H s.heap.objs.size=none:=I.hok.fresh (Nat.le_refl _)
theorem Inv.lstM (I:Inv X pins σ H s)(i:H l=some (.lst xs)):xs.length<=sizeLine/\∃(its:List Value)(n:Nat),Vals xs its/\xs.length=its.length/\s.heap.get? l=some { cls:=.type "list",data:=.seq its.toArray n }:=by
 obtain⟨z,its,n,r,e⟩:=I.hok l _ i
 exact⟨z,its,n,r,r.length,e⟩
theorem yj0 {n:Nat}(h:n<=sizeLine):Builtin.List.listTooLong n=false:=by
 unfold Builtin.List.listTooLong
 exact decide_eq_false (by omega)
end
section
variable {X:Cx}
def zq6:V->List V->Hp->VK->Prop:=fun x vs H Q=>∃ l xs y,x= .ref l/\vs=[y]/\H l=some (.lst xs)/\xs.length<sizeLine/\Q .non (upd H l (.lst (xs++[y])))
theorem G8:MtM X "list.append" zq6:=by
 intro pins s σ H x vs v us Q I j G h
 obtain⟨l,xs,y,rfl,rfl,i,M,q⟩:=h
 cases j
 obtain⟨u,rfl,L⟩:=G.one
 obtain⟨z,its,n,r,N,e⟩:=I.lstM i
 refine call_meets F.slot_list_append ⟨_,e,rfl⟩ F.entry_list_append (F.args_list_append_2 _ _) (PySem.list_append l its.toArray n u (by rw[size_toArray];omega)) ⟨e,?_⟩
 refine⟨.non,_,I.lset (its':=its++[u]) i e (by simp) (r.append (.cons L .nil)) ?_,rfl,q⟩
 rw[length_append,length_singleton]
 omega
def rPop:V->List V->Hp->VK->Prop:=fun x vs H Q=>∃ l xs y,x= .ref l/\vs=[]/\H l=some (.lst xs)/\xs[xs.length-1]? =some y/\Q y (upd H l (.lst xs.dropLast))
theorem ye9:MtM X "list.pop" rPop:=by
 intro pins s σ H x vs v us Q I L M h
 obtain⟨l,xs,y,rfl,rfl,G,O,q⟩:=h
 cases L
 have j:=M.zero
 subst j
 obtain⟨z,its,n,r,U,e⟩:=I.lstM G
 obtain⟨u,S,N⟩:=r.get O
 have i:its.toArray[its.toArray.size-1]? =some u:=by
  show its.toArray[its.length-1]? =some u
  rw[<-Array.getElem?_toList,<-U]
  exact S
 refine call_meets F.slot_list_pop ⟨_,e,rfl⟩ F.entry_list_pop (F.args_list_pop_1 _) (MeetsSeq.list_pop_last l its.toArray n u i (by rw[size_toArray];omega)) ⟨e,?_⟩
 refine⟨y,_,I.lset (its':=its.dropLast) G e ?_ r.dropLast ?_,N,q⟩
 .show its.toArray.eraseIdxIfInBounds (its.toArray.size-1)=its.dropLast.toArray
  rw[size_toArray,eraseIdxIfInBounds_toArray,zd1]
 .rw[length_dropLast]
  omega
def rRep:R2:=fun x y H Q=>∃ l k xs,x= .ref l/\y= .int k/\H l=some (.lst xs)/\ -(2^63)<=k/\k<2^63/\xs.length*k.toNat<=sizeLine/\
 ∀ p,H p=none->Q (.ref p) (upd H p (.lst (List.replicate k.toNat xs).flatten))
theorem xv4 {α:Type}(xs:List α)(k:Nat):(List.replicate k xs).flatten.length=k*xs.length:=by
 induction k with
 |zero=>simp
 |succ k i=>rw[replicate_succ,flatten_cons,length_append,i,Nat.succ_mul,Nat.add_comm]
theorem xm8:OpR X (binaryOp .Mult) rRep:=by
 intro pins s σ H x y v u Q I Z Y h
 obtain⟨l,k,xs,rfl,rfl,hH,h1,h2,S,q⟩:=h
 cases Z
 obtain⟨t,rfl⟩:=Y
 obtain⟨z,its,n,r,hl,e⟩:=I.lstM hH
 have G:its.toArray.size*k.toNat<=sizeLine:=by rw[size_toArray,<-hl];exact S
 have M:¬ its.toArray.size*k.toNat>(2^63-1) / 8:=by
  have:(sizeLine:Nat)<=(2^63-1) / 8:=by decide
  omega
 have L:¬ (!Builtin.List.listFitsIndex k)=true:=by
  rw[fitsIndex_both h1 h2]
  exact Bool.false_ne_true
 have i:¬ Builtin.List.listTooLong (its.toArray.size*k.toNat)=true:=by
  rw[yj0 G]
  exact Bool.false_ne_true
 have j:List.foldl (fun O N=>O++N) #[] (List.replicate (if its.toArray.isEmpty=true then 0 else k.toNat) its.toArray)=(List.replicate k.toNat its).flatten.toArray:=by
  have f0:∀ m:Nat,List.foldl (fun O N=>O++N) #[] (List.replicate m its.toArray)=(List.replicate m its).flatten.toArray:=fun m=>by
   have:=zs6 its m []
   rw[nil_append]at this
   exact this
  rw[f0]
  cases its with
  |nil=>simp
  |cons a r'=>rw[if_neg (by simp)]
 refine wpAny_binaryOp_repeat_ref (T:="list") (U:="int") (by decide) ⟨_,e,rfl⟩ (fun s'=>typeIs_int s' k t) noFill_list_mul F.fills_int_mul F.slot_int_rmul repeat_list F.slot_int_index.lookup
  (call_meets F.slot_int_rmul (typeIs_int s k t) F.entry_int_rmul (F.args_int_rmul_2 _ _) (int___rmul___int_list k t l its.toArray n)
   ⟨e,rfl,⟨_,e,rfl⟩,call_meets F.slot_list_mul ⟨_,e,rfl⟩ F.entry_list_mul (F.args_list_mul_2 _ _) (AutoListH.list___mul___list_int_3 l its.toArray n k t L M i) ⟨e,?_⟩⟩)
 rw[j]
 exact⟨.ref _,_,I.lnew (t':=s.toks) (r.rep k.toNat) (by rw[xv4,Nat.mul_comm];exact S),rfl,q _ I.fresh⟩
end
section
variable {prog:Program}{w:World}{A:Around}{E:Value->Shared->Prop}{s:Shared}
end
section
variable {X:Cx}
end
end
end L2
namespace Att
open PySem PySem.W PySem.Calls PyProof.Rows
theorem E3 {P:Params}{h:Heap}:∀(ns:List Int)(vs:List Value),WellAll P h vs (ns.map WData.int)->IntsAre vs ns:=by
 intro ns
 induction ns with
 |nil=>
  intro vs w
  rw[List.map_nil]at w
  cases w
  exact .nil
 |cons n ns i=>
  intro vs w
  rw[List.map_cons]at w
  cases w with
  |cons a b=>
   cases a
   exact .cons _ _ (i _ b)
theorem zb8 {l:OpenLaw}{n:Nat}(hn:l.most=some n){P:Params}{h:Heap}{args:List WData}{i:List Value}
  (j:l.row.toRowW.claim.pre args=true) (M:WellAll P h i args):
  ∃ a vs ns,i=[Value.ref a]/\args=[WData.list (ns.map WData.int)]/\h.get? a=some { cls:=.type "list",data:=.seq vs.toArray }/\IntsAre vs ns/\ns.length<=n:=by
 have N:WShape.hasAll [] args [.list .int]=true:=(pre_splitW j).1
 have O:l.pre.holds [] { args:=args }=true:=(pre_splitW j).2
 obtain⟨d,r,rfl,h1,h2⟩:=hasAllW_cons N
 obtain rfl:=hasAllW_nil h2
 obtain⟨xs,rfl,h3⟩:=hasW_list h1
 obtain⟨ns,rfl⟩:=items_int h3
 have z:ns.length<=n:=by
  unfold OpenLaw.pre at O
  have L:(WTm.not (.lt (.lit (.int (n:Int))) (.len (.arg 0)))).holds [] { args:=[.list (ns.map .int)] }=true:=by
   have L:=(holds_andW O).1
   rw[hn]at L
   exact L
  have I:=condW_of L (w_not (w_lt w_lit (w_len_list (w_arg rfl))))
  rw[List.length_map]at I
  refine Nat.le_of_not_lt fun q=>?_
  have Y:(n:Int)<((ns.length:Nat):Int):=by omega
  first
   | (rw[decide_eq_true Y]at I;exact absurd I (by decide))
   | (simp at I;omega)
 cases M with
 |cons U S=>
  cases S
  cases U with
  |list Z G=>exact⟨_,_,ns,rfl,rfl,Z,E3 ns _ G,z⟩
theorem yz6 (l:OpenLaw)(args:List WData):l.row.toRowW.claim.post args (.bool true) args=true:=
 postW_of (r:=l.row.toRowW) (X:=(true==true))
  (show WShape.has [] (.bool true) .bool=true by first|rfl|decide|simp[WShape.has,WShape.arms,WShape.armsAll])
  (show (WTm.eq .res (.lit (.bool true))).value [] { args:=args,res:=some (.bool true),after:=args }=some (.bool (true==true))from w_eq_bool (w_res rfl) w_lit) rfl
theorem attach_call {l:OpenLaw}{n:Nat}{q:Program}{j:List Str}{XP:(Str->Option Value)->Heap->Prop}{YP:World->Heap->Prop}{d:DefRec}
  (hn:l.most=some n) (Z:d.params.defaults=[])
  (call:∀(w:World)(s₀ i:Shared)(mg mb:Str->Option Value)(N:Addr)(o:Obj)(pm O doc:Value)(a:Addr)(vs:List Value)(ns:List Int),
   Ground q j [] XP w s₀ mg mb i.heap->YP w i.heap->
   i.heap.get? N=some o->o.data= .func (docDef d.name d.params d.body d.scope pm O doc)->i.heap.CodeRec O d.name->mg d.name=some (.ref N)->
   i.heap.get? a=some { cls:=.type "list",data:=.seq vs.toArray }->IntsAre vs ns->ns.length<=n->i.gens=#[]->
   codeAny (model l.prog w) callerA (.call (.ref N) ⟨[.ref a],[]⟩) (fun r s'=>r= .ok (.ret (.bool true))/\OldK i.heap s'.heap/\s'.os=i.os/\AllBare s'.gens) i):
  WalkO q j XP YP l.row.toRowW d [] (fun f vs=>PySem.call f vs):=by
 intro w s₀ i mg mb G Y N o pm O doc dV kV ho hd a0 hD U hg args a1 as I a2 a3 S a4
 obtain rfl:dV= .none:=Dflts.none hD Z
 obtain rfl:kV= .none:=Dflts.noKw hD
 obtain⟨a,vs,ns,rfl,rfl,L,z,M⟩:=zb8 hn I S
 refine enter_call (codeAny_mono (call w s₀ i mg mb N o pm O doc a vs ns G Y ho (fd_plain hd) a0 U L z M hg) fun r s' hq=>?_)
 obtain⟨rfl,h2,h3,h4⟩:=hq
 exact⟨.inl ⟨.bool true,.bool true,[],rfl,fun _=>rfl,.bool true,yz6 l _,fun _=>⟨List.Pairwise.nil,fun _ hm=>(nomatch hm)⟩⟩,h2,h3,h4⟩
section
variable {prog:Program}{w:World}{A:Around}{E:Value->Shared->Prop}{s:Shared}{K:Frag}
end
end Att
namespace L2
open List
open PySem PySem.Spec PyProof.Rows
section
theorem zw9:∀{vs:List Value}{ns:List Int},IntsAre vs ns->Vals (ns.map V.int) vs
 |_,_,.nil=>.nil
 |_,_,.cons n t h=>.cons ⟨t,rfl⟩ (zw9 h)
def Only (H:Hp):Prop:=∀ b,H b=none\/∃ o xs,H b=some (.frz o (.lst xs))
theorem yi4 {P:Program}{w:World}{K:W.Frag}{mg mb:Str->Option Value}{CX:CXT}{k:Nat}{fa a:Addr}{fd:FuncData}{x:Str}{sp:Sp}{i:Shared}{vs:List Value}{ns:List Int}
  (KX:K.In i.heap) (U:i.heap.Ns mainGlobals mg) (G:i.heap.Ns builtinsNs mb) (a2:∀ x:Str,x≠"__name__"->mb x=bootBuiltins x) (Y:i.heap.NoLimit) (hg:i.gens=#[])
  (ha:i.heap.get? a=some { cls:=.type "list",data:=.seq vs.toArray }) (hi:IntsAre vs ns) (hl:ns.length<=sizeLine) (hr:Room k callerA)
  (F:∀ base:Heap,K.In base->base.Ns mainGlobals mg->FnOk P w K mg base CX k fa fd [x] sp) (M:∀(s:Shared)(u:Value),BindsTo s fd ⟨[u],[]⟩ [(x,u)])
  (a1:∀ H:Hp,Only H->SqL K H a (ns.map V.int)->sp [.ref a] H (fun v _=>v= .bl true) fun _ _ _=>False)
  (a3:∀ H e s',CX [] H i (fun _ _ _=>False) e s'->False):
  codeAny (model P w) callerA (.call (.ref fa) ⟨[.ref a],[]⟩) (fun r s'=>r= .ok (.ret (.bool true))/\OldK i.heap s'.heap/\s'.os=i.os/\AllBare s'.gens) i:=by
 have rv:=zw9 hi
 have O:=hi.length
 have L:∀ H:Hp,Only H->SqL K H a (ns.map V.int)->HOk P w H i.heap->(∀ b,H b≠none->b=a)->(H a≠none->K.lookup a=none)->
   codeAny (model P w) callerA (.call (.ref fa) ⟨[.ref a],[]⟩) (fun r s'=>r= .ok (.ret (.bool true))/\OldK i.heap s'.heap/\s'.os=i.os/\AllBare s'.gens) i:=by
  intro H hO hS hok hA hK
  have j:∀{b:Addr}{o:Obj},i.heap.get? b=some o->H b=none->(hidT i.heap H).get? b=some o:=fun e n=>yh2 e n
  have a0:∀{b:Addr}{o:Obj}{es:Array DictEntry}{ep:Nat},i.heap.get? b=some o->o.data= .dict es ep->H b=none:=fun{b o es ep} e d=>by
   cases q:H b with
   |none=>rfl
   |some u=>
    have e':b=a:=hA b (by rw[q];simp)
    subst e'
    rw[ha]at e;cases e
    have d':Data.seq vs.toArray _=Data.dict es ep:=d
    cases d'
  have I:∀{b:Addr}{m:Str->Option Value},i.heap.Ns b m->(hidT i.heap H).Ns b m:=fun{b m} ⟨o,es,ep,e,d,r⟩=>⟨o,es,ep,j e (a0 e d),d,r⟩
  have Z:K.In (hidT i.heap H):=fun b o e=>j (KX b o e) (by
   cases q:H b with
   |none=>rfl
   |some u=>
    have e':b=a:=hA b (by rw[q];simp)
    subst e'
    rw[hK (by rw[q];simp)]at e;cases e)
  have hM:Mod K mg (hidT i.heap H):=⟨Z,I U,⟨mb,I G,a2⟩,let ⟨mc,h1,h2⟩:=Y;⟨mc,I h1,h2⟩⟩
  have e0:Env0 P w K mg (hidT i.heap H) callerA [] i H:=⟨rfl,hM,fun b o e=>xw0 e,Nat.le_of_eq (yt6 _ _),trivial,fun b G=>absurd (show b∈([]:List Addr)from G) (by simp),hok,.of_eq hg⟩
  refine codeAny_mono ((F _ Z (I U)).run callerA [] i H ⟨[.ref a],[]⟩ [.ref a] [.ref a] _ _ hr e0 (M i (.ref a)) (.cons rfl .nil) (a1 H hO hS)) fun r s' h=>?_
  cases r with
  |error e=>exact(a3 H e s' h).elim
  |ok fl=>
   cases fl with
   |next=>exact False.elim h
   |brk=>exact False.elim h
   |cont=>exact False.elim h
   |ret u=>
    obtain⟨v,H',os,bare,un,S,r',q⟩:=h
    have q':v= .bl true:=q
    subst q'
    obtain rfl:u=Value.bool true:=r'
    refine⟨rfl,OldK.of_keep fun b o e=>?_,os,bare⟩
    cases q:H b with
    |none=>exact un.keep b o e q (by intro z;exact absurd (show b∈([]:List Addr)from z) (by simp)) (by simp)
    |some u=>
     rcases hO b with z|⟨ob,xs,z⟩
     .rw[q]at z;cases z
     .have z2:=un.frzs b ob _ z
      obtain⟨e1,_⟩:=hok b _ z
      obtain⟨e2,_⟩:=S b _ z2
      rw[e]at e1;cases e1
      exact e2
 cases hk:K.lookup a with
 |some o=>
  have e:=KX a o hk
  rw[ha]at e
  cases e
  refine L (fun _=>none) (fun _=>.inl rfl) (.inr ⟨_,vs.toArray,_,hk,rfl,rfl,rfl,by rw[size_toArray,O];exact hl,by simpa using rv⟩) (fun b u z=>by have N:(none:Option HO)=some u:=z;cases N) (fun b z=>absurd rfl z) fun z=>absurd rfl z
 |none=>
  refine L (fun b=>if b=a then some (.frz { cls:=.type "list",data:=.seq vs.toArray } (.lst (ns.map V.int)))else none) (fun b=>?_) (.inl (.inr ⟨{ cls:=.type "list",data:=.seq vs.toArray },if_pos rfl⟩)) (fun b u z=>?_) (fun b z=>?_) fun _=>hk
  .by_cases G:b=a
   .exact .inr ⟨_,_,if_pos G⟩
   .exact .inl (if_neg G)
  .by_cases G:b=a
   .have N:=(if_pos G).symm.trans z
    cases N
    subst G
    exact⟨ha,by rw[length_map];exact hl,vs,_,rv,ha⟩
   .have N:=(if_neg G).symm.trans z
    cases N
  .by_cases G:b=a
   .exact G
   .exact absurd (if_neg G) z
end
section
theorem walk_of {l:W.OpenLaw}{n k:Nat}{q:Program}{j:List Str}{XP:(Str->Option Value)->Heap->Prop}{YP:World->Heap->Prop}{d:DefRec}{K:Params->W.Frag}{CX:World->CXT}{sp:World->Sp}{x:Str}
  (hn:l.most=some n) (O:n<=sizeLine) (U:d.params.defaults=[]) (hr:Room k callerA)
  (hY:∀(w:World)(h:Heap),YP w h->(K w.params).In h)
  (F:∀(w:World)(mg:Str->Option Value)(M:Addr)(h:Heap),(K w.params).In h->h.Ns mainGlobals mg->mg d.name=some (.ref M)->
   ∃ fd:FuncData,(∀(s:Shared)(u:Value),BindsTo s fd ⟨[u],[]⟩ [(x,u)])/\
    ∀ base:Heap,(K w.params).In base->base.Ns mainGlobals mg->FnOk l.prog w (K w.params) mg base (CX w) k M fd [x] (sp w))
  (N:∀(w:World)(H:Hp)(a:Addr)(ns:List Int),ns.length<=n->Only H->SqL (K w.params) H a (ns.map V.int)->sp w [.ref a] H (fun v _=>v= .bl true) fun _ _ _=>False)
  (Z:∀(w:World)(H:Hp)(s:Shared)(e:Value)(s':Shared),CX w [] H s (fun _ _ _=>False) e s'->False):
  W.WalkO q j XP YP l.row.toRowW d [] (fun f vs=>PySem.call f vs):=by
 refine Att.attach_call hn U fun w s₀ I mg mb M o pm cd doc a vs ns G Y ho hd a0 S L z i hg=>?_
 have KX:=hY w _ Y
 obtain⟨fd,hb,hF⟩:=F w mg M _ KX G.T.g S
 exact yi4 KX G.T.g G.T.b G.T.builtins G.T.nolimit hg L z (Nat.le_trans i O) hr hF hb (fun H hO hS=>N w H a ns i hO hS) fun H e s'=>Z w H I e s'
end
section
noncomputable def U4 (s:Stmt):Arguments:=match s with
 | .FunctionDef _ a _ _ _ _ _ _ _ _=>a
 |_=>{ posonlyargs:=[],args:=[],vararg:=none,kwonlyargs:=[],kw_defaults:=[],kwarg:=none,defaults:=[] }
noncomputable def c5 (s:Stmt):List Stmt:=match s with
 | .FunctionDef _ _ b _ _ _ _ _ _ _=>b
 |_=>[]
noncomputable def y0 (s:Stmt):Scope:=match s with
 | .FunctionDef _ _ _ _ _ _ sc _ _ _=>sc
 |_=>{ kind:=.function,names:=[],isGenerator:=false,isCoroutine:=false }
abbrev CX0:CXT:=fun _ _ _ _ _ _=>False
abbrev E0:XK:=fun _ _ _=>False
theorem xb2 {X:Cx}:yp8 CX0 X E0:=fun _ _ _ _ _ _ _ h=>h.elim
structure Fun (K:W.Frag)(x qual:Str)(st:Stmt)(f:Addr)(fd:FuncData):Prop where
 ex:∃(oc:Value)(od:Option Addr)(kV doc pm:Value)(an:Option Addr)(cdv ct:Value)(osl:Array (Option Value)),
  fd=W.fnOf x qual (U4 st) (c5 st) (y0 st) .none kV doc pm an cdv ct/\K.lookup f=some ⟨oc,od,.func fd,osl⟩/\W.codeIn K cdv qual=true
 kp:W.keepIn K (.ref f)=true
section
variable {P:Program}{w:World}{K:W.Frag}{mg:Str->Option Value}{base:Heap}
theorem Fun.ok {x qual:Str}{st:Stmt}{f:Addr}{fd:FuncData}{N ps:List Str}{k:Nat}{sp:Sp}(F:Fun K x qual st f fd)(S:FnScope N ps (y0 st))(len:∀ vs H Q E,sp vs H Q E->vs.length=ps.length)
  (i:∀(cdv:Value)(A:Around)(outer:List Env)(s:Shared)(H:Hp)(vs:List V)(Q:VK)(E:XK),Room k (A.deeper (envOfC qual (y0 st) s.heap.objs.size f cdv))->sp vs H Q E->
   ∃ t,PSs (cxOf CX0 P w K mg base N qual (y0 st) f cdv A outer s H E).nox (c5 st) t/\t { nx:=fun _ H'=>Q .non H',rt:=Q } (start N vs) H):FnOk P w K mg base CX0 (k+1) f fd ps sp:=by
 obtain⟨oc,od,kV,doc,pm,an,cdv,ct,osl,rfl,G,z⟩:=F.ex
 refine wy0 G z S len fun A outer s H vs Q E I j=>?_
 obtain⟨t,h,q⟩:=i cdv A outer s H vs Q E I j
 exact⟨t,h.nox,q⟩
theorem Fun.binds {x qual:Str}{st:Stmt}{f:Addr}{fd:FuncData}{ps:List Str}(F:Fun K x qual st f fd)
  (h:∀(kV doc pm:Value)(an:Option Addr)(cdv ct:Value)(us:List Value),us.length=ps.length->bindArgs (W.fnOf x qual (U4 st) (c5 st) (y0 st) .none kV doc pm an cdv ct) ⟨us,[]⟩=pure (ps.zip us)):Binds K fd ps []:=by
 obtain⟨oc,od,kV,doc,pm,an,cdv,ct,osl,rfl,j,i⟩:=F.ex
 exact .all (h kV doc pm an cdv ct)
theorem ys2 {x qual:Str}{st:Stmt}{f:Addr}{oc:Value}{od an:Option Addr}{osl:Array (Option Value)}{kV doc pm cdv ct:Value}(l:K.lookup f=some ⟨oc,od,.func (W.fnOf x qual (U4 st) (c5 st) (y0 st) .none kV doc pm an cdv ct),osl⟩)
  (c:W.codeIn K cdv qual=true) (k:W.keepIn K (.ref f)=true):Fun K x qual st f (W.fnOf x qual (U4 st) (c5 st) (y0 st) .none kV doc pm an cdv ct):=⟨⟨oc,od,kV,doc,pm,an,cdv,ct,osl,rfl,l,c⟩,k⟩
end
section
variable {X:Cx}
theorem pv (i:Nat){x:Str}{pos:Pos}(G:X.N[i]? =some x:=by rfl)(z:Vis X.env.scope x:=by first|exact Or.inl rfl|exact Or.inr (Or.inl rfl)|exact Or.inr (Or.inr rfl))(hd:(x==("__debug__":Str))=false:=by decide)
  (j:(x==("__classdict__":Str))=false:=by decide):PE X (.Name x pos) (tVar i):=xn3 G z hd j
end
theorem iteF {A B:Prop}(h:B):if false=true then A else B:=by
 rw[if_neg Bool.false_ne_true]
 exact h
theorem iteT {A B:Prop}(h:A):if true=true then A else B:=by
 rw[if_pos rfl]
 exact h
def Same (H H':Hp):Prop:=∀ b o,H b=some o->H' b=some o
theorem Same.refl (H:Hp):Same H H:=fun _ _ h=>h
theorem Same.trans {H H1 H2:Hp}(a:Same H H1)(b:Same H1 H2):Same H H2:=fun c o h=>b c o (a c o h)
theorem Same.free {H H':Hp}(e:Same H H'){l:Addr}(h:H' l=Option.none):H l=Option.none:=by
 cases q:H l with
 |none=>rfl
 |some o=>
  rw[e l o q]at h
  cases h
theorem Same.seq {K:W.Frag}{H H':Hp}{a:Addr}{xs:List V}(e:Same H H')(h:SqL K H a xs):SqL K H' a xs:=by
 rcases h with (h|⟨o,h⟩)|h
 .exact .inl (.inl (e _ _ h))
 .exact .inl (.inr ⟨o,e _ _ h⟩)
 .exact .inr h
end
section
noncomputable def clOf (cells:List (Str×Addr)):List (Str×NameKind)->List (Str×Addr)->List (Str×Addr)
 |[],cs=>cs
 | (n,k)::r,cs=>if k= .free then (match cells.lookup n with |some c=>clOf cells r ((n,c)::cs)|none=>clOf cells r cs)else clOf cells r cs
theorem Q6 {env:Env}:∀(names:List (Str×NameKind))(j:List (Str×Addr)),(∀ x∈names,x.2= .free->∃ c,env.cells.lookup x.1=some c)->
  (forIn names j fun x r=>if (x.2==NameKind.free)=true then do let c ← cellOf env x.1;pure (ForInStep.yield ((x.1,c)::r))else pure (ForInStep.yield r):Sem (List (Str×Addr)))=pure (clOf env.cells names j)
 |[],j,_=>rfl
 | (n,k)::r,j,h=>by
  have G:∀ x∈r,x.2= .free->∃ c,env.cells.lookup x.1=some c:=fun x I=>h x (mem_cons_of_mem _ I)
  rw[forIn_cons]
  by_cases z:k= .free
  .subst z
   obtain⟨c,L⟩:=h (n,.free) mem_cons_self rfl
   have i:env.cells.lookup n=some c:=L
   have e:cellOf env n=pure c:=by unfold cellOf;rw[i]
   simp only[beq_self_eq_true,if_true,e,pure_bind]
   rw[Q6 r _ G]
   simp only[clOf,if_true,i]
  .have hb:(k==NameKind.free)=false:=by simpa using z
   simp only[hb,Bool.false_eq_true,if_false,pure_bind]
   rw[Q6 r j G]
   simp only[clOf,z,if_false]
theorem D0 {env:Env}{scope:Scope}(h:∀ x∈scope.names,x.2= .free->∃ c,env.cells.lookup x.1=some c):closureFor scope env=pure (clOf env.cells scope.names []):=by
 have q:=Q6 (env:=env) scope.names [] h
 simp only[closureFor]
 refine Eq.trans ?_ q
 have e:∀(m:Sem (List (Str×Addr))),(m >>= fun i=>pure i)=m:=fun m=>by simp
 first| (rw[e];rfl)|rfl|simp
theorem K9 {cells:List (Str×Addr)}{x:Str}{c:Addr}:∀(names:List (Str×NameKind))(i:List (Str×Addr)),(∀ y d,i.lookup y=some d->cells.lookup y=some d)->(clOf cells names i).lookup x=some c->cells.lookup x=some c
 |[],i,h,e=>h x c e
 | (n,k)::r,i,h,e=>by
  unfold clOf at e
  split at e
  .split at e
   .rename_i d hd
    refine K9 r _ (fun y d' q=>?_) e
    rw[lookup_cons]at q
    split at q
    .rename_i hy
     have:y=n:=by simpa using hy
     subst this
     cases q;exact hd
    .exact h y d' q
   .exact K9 r i h e
  .exact K9 r i h e
theorem O3 {cells:List (Str×Addr)}{x:Str}:∀(names:List (Str×NameKind))(i:List (Str×Addr)),(i.lookup x).isSome=true->((clOf cells names i).lookup x).isSome=true
 |[],i,h=>h
 | (n,k)::r,i,h=>by
  unfold clOf
  split
  .split
   .refine O3 r _ ?_
    rw[lookup_cons];split
    .rfl
    .exact h
   .exact O3 r i h
  .exact O3 r i h
theorem O4 {cells:List (Str×Addr)}{x:Str}{c:Addr}(j:cells.lookup x=some c):∀(names:List (Str×NameKind))(i:List (Str×Addr)),(x,NameKind.free)∈names->((clOf cells names i).lookup x).isSome=true
 |[],i,h=>absurd h (by simp)
 | (n,k)::r,i,h=>by
  unfold clOf
  rcases List.mem_cons.mp h with e|h
  .cases e
   rw[if_pos rfl,j]
   refine O3 r _ ?_
   simp[lookup_cons]
  .split
   .split
    .exact O4 j r _ h
    .exact O4 j r i h
   .exact O4 j r i h
theorem X0 {env:Env}:∀{names:List (Str×NameKind)}{x:Str},names.lookup x=some .free->
  (names.map fun(n,k)=>if (k==NameKind.free&&env.scope.kind== .function&&env.kindOf n==some .cell)then (n,NameKind.cell)else (n,k)).lookup x=some .cell\/
  (names.map fun(n,k)=>if (k==NameKind.free&&env.scope.kind== .function&&env.kindOf n==some .cell)then (n,NameKind.cell)else (n,k)).lookup x=some .free
 |[],_,h=>by simp at h
 | (n,k)::r,x,h=>by
  have i:=@X0 env r x
  show List.lookup x ((if (k==NameKind.free&&env.scope.kind== .function&&env.kindOf n==some .cell)=true then (n,NameKind.cell)else (n,k))::_)=_\/List.lookup x ((if (k==NameKind.free&&env.scope.kind== .function&&env.kindOf n==some .cell)=true then (n,NameKind.cell)else (n,k))::_)=_
  by_cases j:(k==NameKind.free&&env.scope.kind== .function&&env.kindOf n==some .cell)=true
  .rw[if_pos j]
   cases hx:x==n with
   |true=>left;simp only[lookup_cons,hx]
   |false=>simp only[lookup_cons,hx]at h ⊢;exact i h
  .rw[if_neg j]
   cases hx:x==n with
   |true=>right;simp only[lookup_cons,hx]at h ⊢;exact h
   |false=>simp only[lookup_cons,hx]at h ⊢;exact i h
theorem U8 {env:Env}:∀{names:List (Str×NameKind)}{x:Str}{k:NameKind},(∀ y∈names,y.2≠ .cell)->
  (names.map fun(n,k)=>if (k==NameKind.free&&env.scope.kind== .function&&env.kindOf n==some .cell)then (n,NameKind.cell)else (n,k)).lookup x=some k->(k= .cell\/k= .free)->(x,NameKind.free)∈names
 |[],_,_,_,h,_=>by simp at h
 | (n,z)::r,x,k,hc0,h,j=>by
  have I:=@U8 env r x k (fun y L=>hc0 y (mem_cons_of_mem _ L))
  have h:List.lookup x ((if (z==NameKind.free&&env.scope.kind== .function&&env.kindOf n==some .cell)=true then (n,NameKind.cell)else (n,z))::_)=_:=h
  by_cases G:(z==NameKind.free&&env.scope.kind== .function&&env.kindOf n==some .cell)=true
  .rw[if_pos G]at h
   have M:z= .free:=by
    have:=G;simp only[Bool.and_eq_true]at this;simpa using this.1.1
   cases hx:x==n with
   |true=>
    have i:x=n:=by simpa using hx
    subst i;subst M;exact mem_cons_self
   |false=>simp only[lookup_cons,hx]at h;exact mem_cons_of_mem _ (I h j)
  .rw[if_neg G]at h
   cases hx:x==n with
   |true=>
    have i:x=n:=by simpa using hx
    subst i
    simp only[lookup_cons,hx]at h
    have e:z=k:=Option.some.inj h
    subst e
    rcases j with j|j
    .exact absurd j (hc0 _ mem_cons_self)
    .subst j;exact mem_cons_self
   |false=>simp only[lookup_cons,hx]at h;exact mem_cons_of_mem _ (I h j)
end
section
structure Blk (X:Cx)(sc:Scope)(N:List Str)(src:List (Option Nat)):Prop where
 kind:sc.kind= .function
 nocell:∀ y∈sc.names,y.2≠ .cell
 names:∀ y∈sc.names,y.2= .local->sc.names.lookup y.1=some .local
 free:∀ y∈sc.names,y.2= .free->X.env.kindOf y.1=some .cell\/X.env.kindOf y.1=some .free
 fv:∀(j i:Nat),src[j]? =some (some i)->∃ x,N[j]? =some x/\X.N[i]? =some x/\sc.names.lookup x=some .free
 len:src.length=N.length
noncomputable def blk0 (src:List (Option Nat))(σ:St):St:=src.map fun o=>o.bind fun i=>(σ[i]?).join
noncomputable def l9 (X:Cx)(sc:Scope)(C:Addr)(N:List Str)(fp:List Addr)(s:Shared)(H:Hp):Cx where
 prog:=X.prog
 w:=X.w
 K:=X.K
 mg:=X.mg
 base:=X.base
 A:=X.A
 N:=N
 s₀:=s
 H₀:=H
 env:=compEnvC sc (clOf X.env.cells sc.names []) C X.env
 outer:=X.stack
 stack:=X.stack
 ex:=fp
 fn:=fun _=>false
 calm:=true
 pn:=[]
 xe:=fun _ _=>False
section
variable {X:Cx}{pins:List (Addr×Obj)}{σ:St}{H:Hp}{s:Shared}
theorem Blk.cl {sc:Scope}{N:List Str}{src:List (Option Nat)}(B:Blk X sc N src)(ok:X.Ok):closureFor sc X.env=pure (clOf X.env.cells sc.names []):=
 D0 fun x i j=>ok.has x.1 (B.free x i j)
theorem O2 {sc:Scope}{x:Str}{c:Addr}(h:(clOf X.env.cells sc.names []).lookup x=some c):X.env.cells.lookup x=some c:=
 K9 sc.names [] (fun y d e=>by simp at e) h
theorem zr7 {sc:Scope}{N:List Str}{src:List (Option Nat)}{fp:List Addr}{D C:Addr}{M:Heap}{t:Nat}{m:Str->Option Value}
  (B:Blk X sc N src) (I:Inv X pins σ H s) (hc:X.calm=true) (S:∀ b∈fp,FpOk X pins H b) (a2:∀ b∈fp,∃ o,s.heap.get? b=some o)
  (O:∀ b o,s.heap.get? b=some o->M.get? b=some o) (U:s.heap.objs.size<=D) (a6:M.get? D=some { cls:=.type "list",data:=.seq #[] 0 })
  (hn:M.Ns C m) (Y:s.heap.objs.size<=C) (a7:D≠C):
  Inv (l9 X sc C N fp s H) [] (blk0 src σ) (upd H D (.lst [])) { s with heap:=M,toks:=t }:=by
 have a4:H D=none:=I.hok.fresh U
 have a5:H C=none:=I.hok.fresh Y
 have new:ObjOk X.prog X.w (upd H D (.lst [])) M D (.lst []):=⟨Nat.zero_le _,[],0,.nil,a6⟩
 have cC:∀ x c,X.env.cells.lookup x=some c->c≠C:=fun x c e z=>by
  obtain⟨v,q⟩:=I.cell x c e
  exact absurd (Nat.lt_of_lt_of_le q.lt (by rw[z];exact Y)) (Nat.lt_irrefl _)
 have cD:∀ x c,X.env.cells.lookup x=some c->c≠D:=fun x c e z=>by
  obtain⟨v,q⟩:=I.cell x c e
  exact absurd (Nat.lt_of_lt_of_le q.lt (by rw[z];exact U)) (Nat.lt_irrefl _)
 refine⟨⟨I.ok.mod,?_,I.ok.glob,I.ok.blt,Y,fun x y c h1 h2=>?_,fun x G=>?_,fun x c h _=>(by cases h),fun _=>I.ok.hd hc,I.ok.frames,.inl rfl,fun b j=>⟨?_,fun x c e=>?_⟩,I.bs,Nat.le_trans I.ok.bsz I.sz,fun b o e j=>?_,fun b j z=>?_,I.stack,I.stkFree⟩,
  rfl,I.bare,Un.laid O U a4,⟨m,hn,fun i x v e1 e2 e3=>?_⟩,fun x c e=>?_,?_,fun x c e=>?_,fun p hp=>?_,I.hok.laid O U new,?_⟩
 .show (relabel sc X.env).kind=_
  exact B.kind
 .exact I.ok.inj x y c (O2 h1) (O2 h2)
 .have hx':(∃ k,(relabel sc X.env).names.lookup x=some k/\(k= .cell\/k= .free)):=by
   rcases G with G|G
   .exact⟨_,G,.inl rfl⟩
   .exact⟨_,G,.inr rfl⟩
  obtain⟨k,e,a1⟩:=hx'
  have hm:=U8 B.nocell e a1
  obtain⟨c,a3⟩:=I.ok.has x (B.free _ hm rfl)
  exact Option.isSome_iff_exists.mp (O4 a3 sc.names [] hm)
 .obtain⟨o,e⟩:=a2 b j
  exact Nat.ne_of_lt (Nat.lt_of_lt_of_le (Heap.lt_size e) Y)
 .exact(S b j).2.2.2.2.1 x c (O2 e)
 .rcases (S b j).2.2.2.1 with z|z
  .exact I.ok.noex b o e z
  .exact absurd (Nat.lt_of_lt_of_le (Heap.lt_size e) (Nat.le_trans I.ok.bsz z)) (Nat.lt_irrefl _)
 .rcases List.mem_cons.mp (I.stkSub b z)with z|z
  .exact(S b j).2.1 z
  .exact(S b j).2.2.1 z
 .have e2':∃ k,src[i]? =some (some k)/\σ[k]? =some (some v):=by
   unfold blk0 at e2
   rw[getElem?_map]at e2
   cases q:src[i]? with
   |none=>rw[q]at e2;cases e2
   |some o=>
    rw[q]at e2
    cases o with
    |none=>cases e2
    |some k=>
     refine⟨k,rfl,?_⟩
     have e2:(σ[k]?).join=some v:=Option.some.inj e2
     cases qq:σ[k]? with
     |none=>rw[qq]at e2;cases e2
     |some z=>rw[qq]at e2;exact congrArg some e2
  obtain⟨k,ek,ev⟩:=e2'
  obtain⟨Z,n1,n2,n3⟩:=B.fv i k ek
  have:Z=x:=by
   have e1:N[i]? =some x:=e1
   rw[n1]at e1;exact Option.some.inj e1
  subst this
  obtain⟨m0,a8,a0⟩:=I.loc
  have L:=B.free (Z,.free) (PySem.mem_of_lookup n3) rfl
  obtain⟨u,r,l⟩:=a0 k Z v n2 ev (by rcases L with z|z;exact .inr (.inl z);exact .inr (.inr z))
  refine⟨u,r,.inr ⟨?_,?_⟩⟩
  .exact X0 n3
  .rcases l with⟨l,_⟩|⟨_,c,ec,z⟩
   .rcases L with q|q <;> (rw[q]at l;cases l)
   .obtain⟨c',ec'⟩:=Option.isSome_iff_exists.mp (O4 ec sc.names [] (PySem.mem_of_lookup n3))
    have:=O2 ec'
    rw[ec]at this;cases this
    obtain⟨o,ho,hd⟩:=z
    exact⟨c,ec',o,O c o ho,hd⟩
 .obtain⟨v,o,ho,hd⟩:=I.cell x c (O2 e)
  exact⟨v,o,O c o ho,hd⟩
 .show upd H D _ C=none
  rw[y3 (Ne.symm a7)];exact a5
 .rw[y3 (cD x c (O2 e))];exact I.freeC x c (O2 e)
 .exact absurd (show p∈([]:List (Addr×Obj))++[]from hp) (by simp)
 .show (blk0 src σ).length=N.length
  unfold blk0;rw[length_map];exact B.len
end
end
section
abbrev noE:Value->Shared->Prop:=fun _ _=>False
theorem toE {α:Type}{t:Sem α}{Q i:α->Shared->Prop}{M:Model}{A:Around}{E:Value->Shared->Prop}{s:Shared}(h:wpAny M A t Q noE s)(j:∀ a s,Q a s->i a s):wpAny M A t i E s:=
 wpAny_mono h j fun _ _ x=>x.elim
noncomputable abbrev zr1 (ifs:List Expr)(env:Env):Sem Bool:=forIn ifs true fun c r=>if r=true then do let ok ← isTrue c env (eval c env);pure (ForInStep.yield ok)else pure (ForInStep.yield r)
theorem zr3 {prog:Program}{w:World}{A:Around}{R:Result->Shared->Prop}{s:Shared}{elt i iter:Expr}{U:List Expr}{scope:Scope}{pos:Pos}{it acc:Value}{env:Env}(I:Nat->Shared->Prop)
  (turn:∀ n s,I n s->wpAny (model prog w) A (pyNext it) (fun r G=>match r with
   |none=>R (.ok .next) G
   |some v=>wpAny (model prog w) A (letOwnedTupleGo i it v) (fun _ z=>wpAny (model prog w) A (assign i env v) (fun _ N=>
     wpAny (model prog w) A (zr1 U env) (fun ok j=>
      if ok=true then wpAny (model prog w) A (eval elt env) (fun x M=>
       wpAny (model prog w) A (call (.builtin "list.append") [acc,x]) (fun _ L=>∃ m,m<n/\I m L) noE M) noE j
      else ∃ m,m<n/\I m j) noE N) noE z) noE G) noE s)
  (n:Nat) (h:I n s):
  codeAny (model prog w) A (.compLoop (.ListComp elt [⟨i,iter,U,0⟩] scope pos) 0 it acc env) R s:=by
 refine codeAny_loop rfl I (fun n s hI=>?_) n h
 show wpAny _ A ((compTurn (.ListComp elt [⟨i,iter,U,0⟩] scope pos) 0 it acc env).onRaise (fun x=>do noteFrame x env;theTreesLotGoes x)) _ _ s
 refine wpAny_noted ?_
 rw[compTurn_list]
 refine wpAny_bind (wpAny_standAt (wpAny_bind (toE (turn n s hI) (fun r G S=>?_))))
 cases r with
 |none=>exact wpAny_pure S
 |some v=>
  refine wpAny_bind (toE S fun _ z Y=>?_)
  refine wpAny_bind (toE Y (fun _ N a1=>wpAny_bind (toE a1 (fun ok j O=>?_))))
  cases ok with
  |false=>exact wpAny_pure ⟨rfl,O⟩
  |true=>
   exact wpAny_bind (wpAny_bind (toE O (fun x M a0=>wpAny_bind (toE a0 (fun _ L Z=>wpAny_pure (wpAny_pure ⟨rfl,Z⟩))))))
def PTs (X:Cx)(ifs:List Expr)(t:TT):Prop:=
 ∀(pins:List (Addr×Obj))(s:Shared)(σ:St)(H:Hp)(Q:Bool->Hp->Prop),Inv X pins σ H s->t σ H Q->wpAny (model X.prog X.w) X.A (zr1 ifs X.env) (TP X pins σ Q) X.xe s
def tYes:TT:=fun _ H Q=>Q true H
theorem xz4 {X:Cx}:PTs X [] tYes:=fun pins s σ H Q I h=>wpAny_pure ⟨H,I,h⟩
theorem xz3 {X:Cx}{c:Expr}{t:TT}(h:PT X c t):PTs X [c] t:=fun pins s σ H Q I q=>wpAny_tests_one (h pins s σ H Q I q)
def zq4 (src:List (Option Nat))(wi:TI)(g:TG)(tc:TT)(te:TE):TE:=fun σ H Q=>wi σ H fun J H1=>∀ D,H1 D=none->∃ W:Nat->Nat->St->Hp->Prop,(∃ m,W 0 m (blk0 src σ) (upd H1 D (.lst [])))/\∀ i m σ' H',W i m σ' H'->
 (J.stop i H'/\Q (.ref D) H')\/(J.go i H'/\∃ N:St->Hp->Prop,(∀ σ2 H2,N σ2 H2->∃ m',m'<m/\W (i+1) m' σ2 H2)/\∀ x H2,J.yld i H' x H2->g x σ' H2 fun σ3 H3=>tc σ3 H3 fun b H4=>
  if b=true then te σ3 H4 fun y H5=>∃ xs,H5 D=some (.lst xs)/\xs.length<sizeLine/\N σ3 (upd H5 D (.lst (xs++[y])))else N σ3 H4)
section
variable {X:Cx}
theorem B5 {sc:Scope}{N:List Str}{src:List (Option Nat)}{tg elt iter:Expr}{a6:List Expr}{pos:Pos}{g:TG}{tc:TT}{te:TE}(B:Blk X sc N src)(hc:X.calm=true)
  (hg:∀ C fp s H,PG (l9 X sc C N fp s H) tg g) (ht:∀ C fp s H,PTs (l9 X sc C N fp s H) a6 tc) (he:∀ C fp s H,PE (l9 X sc C N fp s H) elt te)
  {pins:List (Addr×Obj)} {σ:St} {H:Hp} {s:Shared} {it:Addr} {fp:List Addr} {tn:Nat->Heap->Prop} {J:It} {Q:VK} {E:Value->Shared->Prop}
  (I:Inv X pins σ H s) (T:Turn X.prog X.w X.K tg J fp it tn) (st:tn 0 s.heap) (hf:∀ b∈fp,FpOk X pins H b)
  (hW:∀ D,H D=none->∃ W:Nat->Nat->St->Hp->Prop,(∃ m,W 0 m (blk0 src σ) (upd H D (.lst [])))/\∀ i m U H',W i m U H'->
   (J.stop i H'/\Q (.ref D) H')\/(J.go i H'/\∃ N:St->Hp->Prop,(∀ a8 H2,N a8 H2->∃ m',m'<m/\W (i+1) m' a8 H2)/\∀ x H2,J.yld i H' x H2->g x U H2 fun O H3=>tc O H3 fun b H4=>
    if b=true then te O H4 fun y H5=>∃ xs,H5 D=some (.lst xs)/\xs.length<sizeLine/\N O (upd H5 D (.lst (xs++[y])))else N O H4))
  {RR:Value->Addr->Result->Shared->Prop}
  (aj:∀ D C H' s' m',Inv X pins σ H' s'->s'.heap.Ns C m'->H' C=none->s.heap.objs.size<=C->Q (.ref D) H'->RR (.ref D) C (.ok .next) s'):
  wpAny (model X.prog X.w) X.A (newList []) (fun acc Y=>wpAny (model X.prog X.w) X.A (newFunctionEnv sc X.env.globals (clOf X.env.cells sc.names []) [] X.env.qual none .none (some X.env)) (fun a3 a9=>
   codeAny (model X.prog X.w) X.A (.compStart (.ListComp elt [⟨tg,iter,a6,0⟩] sc pos) 0 (.ref it) acc { a3 with scope:=relabel sc X.env }) (RR acc a3.locals) a9) E Y) E s:=by
 refine wpAny_newObj_type (wpAny_newFunctionEnv B.nocell (by intro y hy;simp at hy) (fun M S G=>?_) B.kind)
 dsimp only at S G ⊢
 generalize a7:s.heap.push { cls:=.type "list",dict:=none,data:=.seq ([]:List Value).toArray }=H2 at S G ⊢
 have hC:H2.objs.size=s.heap.objs.size+1:=by rw[<-a7,Heap.size_push]
 have ae:s.heap.objs.size≠H2.objs.size:=by rw[hC];exact Nat.ne_of_lt (Nat.lt_succ_self _)
 have a2:s.heap.objs.size<=H2.objs.size:=by rw[hC];exact Nat.le_succ _
 have below:∀ b,b<s.heap.objs.size->b≠H2.objs.size:=fun b L=>by rw[hC];exact Nat.ne_of_lt (Nat.lt_succ_of_lt L)
 have old:∀ b o,s.heap.get? b=some o->M.get? b=some o:=fun b o e=>G.extBut b o (below b (Heap.lt_size e)) (Heap.get?_push_of_some _ (a7 ▸ Heap.get?_push_of_some _ e))
 have ad:M.get? s.heap.objs.size=some { cls:=.type "list",data:=.seq #[] 0 }:=G.extBut _ _ ae (Heap.get?_push_of_some _ (a7 ▸ Heap.get?_push_size _ rfl))
 have ac:∀ b∈fp,∃ o,s.heap.get? b=some o:=fun b L=>by obtain⟨o,e,_⟩:=T.obj _ _ st b L;exact⟨o,e⟩
 have ab:tn 0 M:=T.keep _ _ _ st fun b _ o e=>old b o e
 obtain⟨W,⟨m0,w0⟩,turn⟩:=hW s.heap.objs.size I.fresh
 have I1:=zr7 (t:=s.toks+([]:List (Str×Value)).length) B I hc hf ac old (Nat.le_refl _) ad S a2 ae
 have a0:∀{H':Hp},(∀ b∈fp,H' b=none)->∀ b∈fp,FpOk (l9 X sc H2.objs.size N fp s H) [] H' b:=fun{H'} hn b L=>by
  obtain⟨f0,f1,f2,f3,f4,f5⟩:=hf b L
  refine⟨hn b L,I1.ok.exf b L |>.1,I1.ok.exfs b L,.inl L,fun x c e=>f4 x c (O2 e),fun p hp=>absurd (show p∈([]:List (Addr×Obj))++[]from hp) (by simp)⟩
 have ai:∀ b∈fp,b≠s.heap.objs.size:=fun b L z=>by
  obtain⟨o,e⟩:=ac b L
  exact absurd (Heap.lt_size e) (by rw[z];exact Nat.lt_irrefl _)
 have a1:∀ Y:Shared,Y={ s with heap:=M,toks:=s.toks+([]:List (Str×Value)).length }->
   codeAny (model X.prog X.w) X.A (.compLoop (.ListComp elt [⟨tg,iter,a6,0⟩] sc pos) 0 (.ref it) (.ref s.heap.objs.size) (compEnvC sc (clOf X.env.cells sc.names []) H2.objs.size X.env))
    (RR (.ref s.heap.objs.size) H2.objs.size) Y:=by
  rintro Y rfl
  refine zr3 (fun n s'=>∃ i U H',Inv (l9 X sc H2.objs.size N fp s H) [] U H' s'/\tn i s'.heap/\(∀ b∈fp,H' b=none)/\W i n U H') ?_ m0
   ⟨0,_,_,I1,ab,fun b L=>by rw[y3 (ai b L)];exact(hf b L).1,w0⟩
  rintro n s3 ⟨i,O,H3,I3,aa,af,w3⟩
  rcases turn i n O H3 w3 with⟨stop,qn⟩|⟨go,N',ak,step⟩
  .refine thn (T.done (l9 X sc H2.objs.size N fp s H) rfl rfl rfl rfl i [] s3 O H3 noE I3 (a0 af) aa stop) fun r s4 ⟨hr,I4⟩=>?_
   subst hr
   obtain⟨m4,ah,_⟩:=id I4.loc
   refine aj _ _ H3 s4 m4 ?_ ah I4.free a2 qn
   exact I.call' (ch:=fp) I4.os I4.base I4.hok I4.bare fun b L=>⟨(hf b L).2.2.2.1,(hf b L).2.1,(hf b L).2.2.2.2.1,(hf b L).2.2.2.2.2⟩
  .refine thn (T.item (l9 X sc H2.objs.size N fp s H) rfl rfl rfl rfl i [] s3 O H3 noE I3 (a0 af) aa go) fun r s4 ⟨u,hr,h4⟩=>?_
   subst hr
   refine thn h4 fun _ s5 j=>?_
   obtain⟨x,H5,I5,r5,y5,a5,am⟩:=j
   have an:=I5.pinned (a0 am) (T.obj _ _ a5)
   have again:∀{s7:Shared}{Z:St}{H7:Hp},Inv (l9 X sc H2.objs.size N fp s H) ([]++G0 fp s5.heap) Z H7 s7->N' Z H7->∃ m,m<n/\∃ i U H',Inv (l9 X sc H2.objs.size N fp s H) [] U H' s7/\tn i s7.heap/\(∀ b∈fp,H' b=none)/\W i m U H':=fun{s7 Z H7} I7 n7=>by
    obtain⟨m',hm,w7⟩:=ak Z H7 n7
    refine⟨m',hm,i+1,Z,H7,I7.unpinned,T.keep _ _ _ a5 fun b L o e=>(I7.pin (b,o) (mem_append_right _ (mem_append_right _ (g7 L e)))).1,fun b L=>?_,w7⟩
    obtain⟨o,e,d⟩:=T.obj _ _ a5 b L
    exact(I7.pin (b,o) (mem_append_right _ (mem_append_right _ (g7 L e)))).2.1
   refine thn (hg _ _ _ _ _ s5 O H5 x u _ an r5 (step x H5 y5)) fun _ s6 j=>?_
   obtain⟨a4,H6,I6,q6⟩:=j
   refine thn (ht _ _ _ _ _ s6 a4 H6 _ I6 q6) fun ok s7 j=>?_
   obtain⟨H7,I7,q7⟩:=j
   cases ok with
   |false=>
    rw[if_neg Bool.false_ne_true]at q7 ⊢
    exact again I7 q7
   |true=>
    rw[if_pos rfl]at q7 ⊢
    refine thn (he _ _ _ _ _ s7 a4 H7 _ I7 q7) fun y s8 j=>?_
    obtain⟨v8,H8,I8,r8,q8⟩:=j
    obtain⟨xs,al,ag,n8⟩:=q8
    refine thn (G8 _ s8 a4 H8 (.ref s.heap.objs.size) [v8] (.ref s.heap.objs.size) [y] (fun _ H9=>H9=upd H8 s.heap.objs.size (.lst (xs++[v8]))) I8 rfl (.cons r8 .nil) ⟨_,xs,v8,rfl,rfl,al,ag,rfl⟩) fun _ s9 j=>?_
    obtain⟨v9,H9,I9,r9,q9⟩:=j
    subst q9
    exact again I9 n8
 refine codeAny_compStart_list (a1 _ rfl) (toE (T.self X.A 0 { s with heap:=M,toks:=s.toks+([]:List (Str×Value)).length } (fun v s'=>v= .ref it/\s'={ s with heap:=M,toks:=s.toks+([]:List (Str×Value)).length }) noE ab ⟨rfl,rfl⟩) fun v s' j=>?_)
 obtain⟨e1,e2⟩:=j
 subst e1;subst e2
 exact a1 _ rfl
theorem Inv.letGo {pins:List (Addr×Obj)}{σ:St}{H:Hp}{s L:Shared}{C:Addr}{h':Heap}(I:Inv X pins σ H s)(i:∃ j H0,Inv X pins j H0 L)(G:L.heap.objs.size<=C)(hn:H C=none)(hs:Heap.SameBut C s.heap h'):Inv X pins σ H { s with heap:=h' }:=by
 obtain⟨j,H0,i⟩:=i
 refine I.turned (t':=s.toks) (it:=C) (fun b o M e=>(hs.2 b M).trans e) hn (Nat.ne_of_gt (Nat.lt_of_lt_of_le i.lt G)) (.inr (Nat.le_trans i.sz G)) (fun x c e z=>?_) fun p hp z=>?_
 .obtain⟨v,q⟩:=i.cell x c e
  exact absurd (Nat.lt_of_lt_of_le q.lt (by rw[z];exact G)) (Nat.lt_irrefl _)
 .exact absurd (Nat.lt_of_lt_of_le (Heap.lt_size (i.pin p hp).1) (by rw[z];exact G)) (Nat.lt_irrefl _)
theorem yy4 {sc:Scope}{N:List Str}{src:List (Option Nat)}{tg elt iter:Expr}{i:List Expr}{pos:Pos}{O:TI}{g:TG}{tc:TT}{te:TE}(B:Blk X sc N src)(hc:X.calm=true)
  (hi:PI X tg iter O) (hg:∀ C fp s H,PG (l9 X sc C N fp s H) tg g) (ht:∀ C fp s H,PTs (l9 X sc C N fp s H) i tc) (he:∀ C fp s H,PE (l9 X sc C N fp s H) elt te)
  (hs:∀ x,foldedSetIterable iter X.env x=pure x:=by intro _;rfl):
  PE X (.ListComp elt [⟨tg,iter,i,0⟩] sc pos) (zq4 src O g tc te):=by
 intro pins s σ H Q I h
 rw[eval_ListComp]
 refine wpAny_comprehension_free (use:=none) rfl hs (B.cl I.ok) B.kind B.names (wpAny_mono (hi pins s σ H _ I h) (fun xv U z=>wpAny_mono z (fun a0 S j=>?_) fun _ _ e=>e) fun _ _ e=>e)
 obtain⟨it,fp,tn,J,H2,rfl,Y,T,L,f2,hW⟩:=j
 refine B5 (RR:=fun acc C=>compPost (model X.prog X.w) X.A X.xe none (EP X pins σ Q) acc C) (Q:=Q) B hc hg ht he Y T L f2 hW ?_
 intro D C H' s' Z I' hn hC M q
 exact⟨Z,hn,fun a1 G=>⟨.ref D,H',I'.letGo ⟨_,_,Y⟩ M hC G,rfl,q⟩⟩
theorem yz4 {i:Nat}{y:Str}{M:Pos}{sc:Scope}{N:List Str}{src:List (Option Nat)}{tg elt iter:Expr}{j:List Expr}{pos G:Pos}{wi:TI}{g:TG}{tc:TT}{te:TE}(hN:X.N.Nodup)(a3:X.N[i]? =some y)(hx:Loc X.env.scope y)
  (B:Blk X sc N src) (hc:X.calm=true)
  (hi:PI X tg iter wi) (hg:∀ C fp s H,PG (l9 X sc C N fp s H) tg g) (ht:∀ C fp s H,PTs (l9 X sc C N fp s H) j tc) (he:∀ C fp s H,PE (l9 X sc C N fp s H) elt te)
  (a1:swapsWith (.ListComp elt [⟨tg,iter,j,0⟩] sc pos) (some (.Name y M)) G.line X.env=pure true:=by rfl)
  (hs:∀ x,foldedSetIterable iter X.env x=pure x:=by intro _;rfl) (hf:X.fn y=true\/X.env.scope.names.lookup y=some .local:=by first|exact .inl rfl|exact .inr rfl|assumption):
  PS X (.Assign [.Name y M] (.ListComp elt [⟨tg,iter,j,0⟩] sc pos) G) (tAsg (zq4 src wi g tc te) (K2 i)):=by
 intro pins s σ H Dn I h
 rw[exec_Assign_Name_used _ _ _ _ a1]
 refine wpAny_bind (wpAny_standAt (wpAny_bind ?_))
 show wpAny _ _ (do let _ ← comprehension (.ListComp elt [⟨tg,iter,j,0⟩] sc pos) sc X.env _ (newList []) false (eval iter X.env) (some (assign (.Name y M) X.env))) _ _ s
 refine wpAny_bind (wpAny_mono (wpAny_comprehension_free (use:=some (assign (.Name y M) X.env)) (Q:=fun _ s'=>SP X pins Dn .next s') rfl hs (B.cl I.ok) B.kind B.names
  (wpAny_mono (hi pins s σ H _ I h) (fun xv a7 S=>wpAny_mono S (fun a9 a6 O=>?_) fun _ _ e=>e) fun _ _ e=>e)) (fun _ s' hq=>wpAny_pure (wpAny_pure hq)) fun _ _ e=>e)
 obtain⟨it,fp,tn,J,H2,rfl,Z,T,a0,f2,hW⟩:=O
 refine B5 (RR:=fun acc C=>compPost (model X.prog X.w) X.A X.xe (some (assign (.Name y M) X.env)) (fun _ s'=>SP X pins Dn .next s') acc C) (Q:=fun x H1=>K2 i x σ H1 Dn.nx) B hc hg ht he Z T a0 f2 hW ?_
 intro D C H' s' m' I' hn hC L q
 show wpAny _ _ (assign (.Name y M) X.env (.ref D)) _ _ _
 refine wpAny_assign_Name (J7 I' hN a3 hx (v:=.ref D) rfl (fun a8 a5 Y=>?_) hf)
 obtain⟨a,a2,ha⟩:=Y
 have a4:C≠a:=fun z=>by
  rcases ha with ha|ha
  .have:=Z.lt;rw[<-ha,<-z]at this
   exact absurd (Nat.lt_of_lt_of_le this L) (Nat.lt_irrefl _)
  .obtain⟨v,qv⟩:=Z.cell y a ha
   exact absurd (Nat.lt_of_lt_of_le qv.lt (by rw[<-z];exact L)) (Nat.lt_irrefl _)
 exact⟨m',hn.sameBut a2 a4,fun aa U=>⟨_,H',a5.letGo ⟨_,_,Z⟩ L hC U,q⟩⟩
end
end
section
section
variable {X:Cx}{pins:List (Addr×Obj)}{σ:St}{H:Hp}{s:Shared}{h':Heap}
theorem Inv.turnedL {t':Nat}{fp:List Addr}(I:Inv X pins σ H s)(k:∀ b o,b∉fp->s.heap.get? b=some o->h'.get? b=some o)(j:∀ b∈fp,FpOk X pins H b):Inv X pins σ H { s with heap:=h',toks:=t' }:=by
 have G:∀ b u,H b=some u->b∉fp:=fun b u e z=>by rw[(j b z).1]at e;cases e
 refine I.step (g':=s.gens) (d':=s.drawn) (ch:=fp) (fun b L=>⟨(j b L).2.2.2.1,(j b L).2.1,(j b L).2.2.2.2.1,(j b L).2.2.2.2.2⟩) (fun b o _ _ i e _=>k b o i e) (fun b o _ _ i e _=>⟨o.slots,k b o i e⟩) (fun _ _ _ _ n=>n)
  (fun b o i e=>⟨o,k b o i e⟩) (fun _ _ e=>e) (fun _ _ _ e=>e) (fun b ps e=>⟨#[],by rw[e];simp⟩) (fun m hm=>?_) (fun b u e=>?_) I.bare
 .obtain⟨o,es,ep,ho,r⟩:=hm
  exact⟨o,es,ep,k _ o (fun z=>(j _ z).2.1 rfl) ho,r⟩
 .refine(I.hok b u e).stay (fun c v i q=>k c v ?_ q) (fun _ q=>q) fun _ _ q=>q
  rcases i with z|z
  .rw[z];exact G b u e
  .exact G c _ z
theorem Inv.turnedN {t':Nat}{fp:List Addr}{T:Addr}{o:HO}(I:Inv X pins σ H s)(k:∀ b o,b∉fp->s.heap.get? b=some o->h'.get? b=some o)(G:∀ b∈fp,FpOk X pins H b)(M:s.heap.objs.size<=T)
  (new:ObjOk X.prog X.w (upd H T o) h' T o):Inv X pins σ (upd H T o) { s with heap:=h',toks:=t' }:=by
 have hn:H T=none:=I.hok.fresh M
 have ne:∀ b u,s.heap.get? b=some u->b≠T:=fun b u e z=>absurd (Nat.lt_of_lt_of_le (Heap.lt_size e) (by rw[z];exact M)) (Nat.lt_irrefl _)
 have L:∀ b u,H b=some u->b∉fp:=fun b u e z=>by rw[(G b z).1]at e;cases e
 refine I.step (g':=s.gens) (d':=s.drawn) (ch:=fp) (fun b j=>⟨(G b j).2.2.2.1,(G b j).2.1,(G b j).2.2.2.2.1,(G b j).2.2.2.2.2⟩) (fun b o _ _ i e _=>k b o i e) (fun b o _ _ i e _=>⟨o.slots,k b o i e⟩) (fun b o _ e n=>by rw[y3 (ne b o e)];exact n)
  (fun b o i e=>⟨o,k b o i e⟩) (fun b xs e=>by rw[y3 (l8 e hn)];exact e) (fun b _ _ e=>by rw[y3 (l8 e hn)];exact e) (fun b ps e=>⟨#[],by rw[y3 (l8 e hn),e];simp⟩) (fun m hm=>?_) (fun b u e=>?_) I.bare
 .obtain⟨o,es,ep,ho,r⟩:=hm
  exact⟨o,es,ep,k _ o (fun z=>(G _ z).2.1 rfl) ho,r⟩
 .by_cases j:b=T
  .subst j;rw[z9]at e;cases e;exact new
  .rw[y3 j]at e
   refine(I.hok b u e).stay (fun c v i q=>k c v ?_ q) (fun c q=>by rw[y3 (l8 q hn)];exact q) fun c xs q=>by rw[y3 (l8 q hn)];exact q
   rcases i with z|z
   .rw[z];exact L b u e
   .exact L c _ z
end
noncomputable def Itz2 (K:W.Frag)(l1 l2:Addr):It:=
 ⟨fun i H=>∃ xs ys x y,SqL K H l1 xs/\SqL K H l2 ys/\xs[i]? =some x/\ys[i]? =some y,
  fun i H v H'=>∃ t x y,v= .ref t/\H t=none/\H'=upd H t (.tup [x,y])/\(∀ xs,SqL K H l1 xs->xs[i]? =some x)/\(∀ ys,SqL K H l2 ys->ys[i]? =some y),
  fun i H=>∃ xs ys,SqL K H l1 xs/\SqL K H l2 ys/\(xs.length<=i\/ys.length<=i)⟩
structure Zip2 (z TI TO i1 i2:Addr):Prop where
 TIz:TI≠z
 TOz:TO≠z
 i1z:i1≠z
 i2z:i2≠z
 TITO:TI≠TO
 TIi1:TI≠i1
 TIi2:TI≠i2
 TOi1:TO≠i1
 TOi2:TO≠i2
 i12:i1≠i2
theorem M8 {h:Heap}{a b:Addr}{o u:Obj}(e:h.get? a=some o)(i:h.get? b=some u)(d:o.cls≠u.cls):a≠b:=by
 intro z;subst z;rw[e]at i;exact d (congrArg Obj.cls (Option.some.inj i))
theorem R1 {n:String}(h:("list"==n)=false):Value.type "list"≠Value.type n:=fun e=>by cases e;revert h;decide
theorem yo2 (n:Nat):Zip2 (n+4) (n+2) (n+3) n (n+1):=by
 constructor <;> (show ((_:Nat)≠_);omega)
theorem C6 {h:Heap}{z TI TO i1 i2 l1 l2:Addr}{M L:Array Value}{a b Y:Value}{k1 k2:Nat}(D:Zip2 z TI TO i1 i2)(O:IsZip h z TI TO Y)(N:IsPair h TO a b)(h1:h.IsListIter i1 l1 k1)(h2:h.IsListIter i2 l2 k2)
  (p1:h.IsList l1 M) (p2:h.IsList l2 L):ZipApart z TI TO i1 i2 l1 l2:=by
 obtain⟨o1,e1,c1,_⟩:=h1
 obtain⟨Z,e2,c2,_⟩:=h2
 obtain⟨U,j,I,_⟩:=p1
 obtain⟨S,i,G,_⟩:=p2
 exact⟨D.TIz,D.TOz,D.i1z,D.i2z,D.TITO,D.TIi1,D.TIi2,D.TOi1,D.TOi2,D.i12,
  M8 j O (by rw[I];exact R1 (by decide)),M8 j N (by rw[I];exact R1 (by decide)),M8 j e1 (by rw[I,c1];decide),M8 j e2 (by rw[I,c2];decide),
  M8 i O (by rw[G];exact R1 (by decide)),M8 i N (by rw[G];exact R1 (by decide)),M8 i e1 (by rw[G,c1];decide),M8 i e2 (by rw[G,c2];decide)⟩
theorem zc7 {P:Program}{w:World}{K:W.Frag}{es:List Expr}{tk:Nat}{tp:Pos}(z TI TO i1 i2 l1 l2:Addr)(D:Zip2 z TI TO i1 i2):
  Turn P w K (.Tuple es tk tp) (Itz2 K l1 l2) [z,TI,TO,i1,i2] z
   (fun i h=>IsZip h z TI TO .none/\IsPair h TI (.ref i1) (.ref i2)/\(∃ a b,IsPair h TO a b)/\h.IsListIter i1 l1 i/\h.IsListIter i2 l2 i) where
 mem:=by simp
 obj:=fun i h st b hb=>by
  obtain⟨O,L,⟨a,c,j⟩,⟨o1,e1,_,d1⟩,⟨o2,e2,_,d2⟩⟩:=st
  simp only[mem_cons,not_mem_nil,or_false]at hb
  rcases hb with rfl|rfl|rfl|rfl|rfl
  .exact⟨_,O,fun v q=>by cases q⟩
  .exact⟨_,L,fun v q=>by cases q⟩
  .exact⟨_,j,fun v q=>by cases q⟩
  .exact⟨_,e1,fun v q=>by rw[d1]at q;cases q⟩
  .exact⟨_,e2,fun v q=>by rw[d2]at q;cases q⟩
 keep:=fun i h h' st k=>by
  obtain⟨O,L,⟨a,c,j⟩,h1,h2⟩:=st
  exact⟨k z (by simp) _ O,k TI (by simp) _ L,⟨a,c,k TO (by simp) _ j⟩,h1.at fun o e=>k i1 (by simp) o e,h2.at fun o e=>k i2 (by simp) o e⟩
 item:=by
  intro X hP hw hK M i pins s σ H E I hf st hg
  subst hP hw hK
  obtain⟨xs,ys,x,y,U,S,hx,hy⟩:=hg
  obtain⟨aa,a0,p1,_⟩:=I.list U
  obtain⟨a9,Y,p2,_⟩:=I.list S
  obtain⟨u,hu,ru⟩:=a0.get hx
  obtain⟨v,hv,ad⟩:=Y.get hy
  obtain⟨O,L,⟨a,b,j⟩,h1,h2⟩:=st
  have Z:=C6 D O j h1 h2 p1.isList p2.isList
  refine wpAny_pyNext_zip_item Z O L j h1 h2 p1.isList p2.isList (x:=u) (y:=v) (by simpa using hu) (by simpa using hv) fun h' a1 a2 a3 a4 a5 a6 hk=>?_
  refine⟨_,rfl,?_⟩
  refine wpAny_letOwnedTupleGo_zip a1 fun a8 ac G=>?_
  have ab:z<s.heap.objs.size:=Heap.lt_size O
  have kk:∀ c o,c∉[z,TI,TO,i1,i2]->s.heap.get? c=some o->a8.get? c=some o:=fun c o M e=>by
   simp only[mem_cons,not_mem_nil,or_false,not_or]at M
   exact G.extBut _ _ M.1 (hk c o M.1 M.2.2.1 M.2.2.2.1 M.2.2.2.2 e)
  have hT:a8.get? s.heap.objs.size=some { cls:=.type "tuple",data:=.seq #[u,v] }:=G.extBut _ _ (Nat.ne_of_gt ab) a5
  have I2:Inv X pins σ (upd H s.heap.objs.size (.tup [x,y])) { s with heap:=a8,toks:=s.toks }:=
   I.turnedN (T:=s.heap.objs.size) (o:=.tup [x,y]) kk hf (Nat.le_refl _) ⟨by show 2<=sizeLine;decide,[u,v],.cons ru (.cons ad .nil),⟨_,hT,rfl,_,rfl⟩⟩
  refine⟨.ref s.heap.objs.size,_,I2,rfl,⟨_,x,y,rfl,I.fresh,rfl,fun zs N=>by rw[I.list_inj N U];exact hx,fun zs N=>by rw[I.list_inj N S];exact hy⟩,
   ⟨ac,G.extBut _ _ D.TIz (hk _ _ D.TIz D.TITO D.TIi1 D.TIi2 L),⟨_,_,G.extBut _ _ D.TOz a2⟩,a3.extBut G.extBut D.i1z,a4.extBut G.extBut D.i2z⟩,fun c a7=>?_⟩
  have ae:c<s.heap.objs.size:=by
   obtain⟨o1,e1,_⟩:=h1
   obtain⟨o2,e2,_⟩:=h2
   simp only[mem_cons,not_mem_nil,or_false]at a7
   rcases a7 with rfl|rfl|rfl|rfl|rfl
   .exact ab
   .exact Heap.lt_size L
   .exact Heap.lt_size j
   .exact Heap.lt_size e1
   .exact Heap.lt_size e2
  rw[y3 (Nat.ne_of_lt ae)]
  exact(hf c a7).1
 done:=by
  intro X hP hw hK M i pins s σ H E I hf st hg
  subst hP hw hK
  obtain⟨xs,ys,U,S,hl⟩:=hg
  obtain⟨aa,a0,p1,_⟩:=I.list U
  obtain⟨a9,Y,p2,_⟩:=I.list S
  obtain⟨O,L,⟨a,b,j⟩,h1,h2⟩:=st
  have Z:=C6 D O j h1 h2 p1.isList p2.isList
  have ag:=a0.length
  have af:=Y.length
  refine wpAny_pyNext_zip_end (I.ok.hd M) Z O L j h1 h2 p1.isList p2.isList (hl.elim (fun q=>.inl (by simp;omega)) fun q=>.inr (by simp;omega)) fun h' hk=>⟨rfl,?_⟩
  exact I.turnedL (t':=s.toks) (fun c o M e=>by
   simp only[mem_cons,not_mem_nil,or_false,not_or]at M
   exact hk c o M.1 M.2.2.1 M.2.2.2.1 M.2.2.2.2 e) hf
 self:=fun _ _ _ _ _ st h=>wpAny_pyIter_zip st.1 h
section
variable {X:Cx}
def wz1 (K:W.Frag)(ta:TA):TI:=fun σ H R=>ta σ H fun vs H1=>∃ a b xs ys,vs=[.ref a,.ref b]/\SqL K H1 a xs/\SqL K H1 b ys/\R (Itz2 K a b) H1
theorem xy3 {a b:Expr}{ta:TA}{p pos:Pos}{es:List Expr}{tk:Nat}{tp:Pos}(hg:Gl X "zip")(hm:X.mg "zip"=none)(ha:PA X [a,b] ta)(hs:starEach [a,b] X.env=[(false,eval a X.env),(false,eval b X.env)]:=by rfl)(i:starEach [b] X.env=[(false,eval b X.env)]:=by rfl):
  PI X (.Tuple es tk tp) (.Call (.Name "zip" p) [a,b] [] pos) (wz1 X.K ta):=by
 intro pins s σ H R I h
 refine Call_ (T7 I hg hm boot_zip (PyProof.Rows.callWith_type1 (thn (ha pos pins s σ H _ I h) fun us s1 j=>?_) (by rw[hs,i]) (by rw[i];rfl)))
 obtain⟨vs,H1,G,r1,M⟩:=j
 obtain⟨l1,l2,xs,ys,e,M,q2,q⟩:=M
 subst e
 cases r1 with
 |cons r L=>
  cases L with
  |cons r' L=>
   cases L
   cases r
   cases r'
   obtain⟨Z,a1,p1,_⟩:=G.list M
   obtain⟨Y,a0,p2,_⟩:=G.list q2
   refine call_zip_2 p1.isList p2.isList fun h' hz U S O N a2 hk=>?_
   have I2:Inv X pins σ H1 { s1 with heap:=h',toks:=s1.toks }:=G.kept hk
   refine wpAny_pyIter_zip (s:={ s1 with heap:=h' }) hz ?_
   refine⟨_,[s1.heap.objs.size+4,s1.heap.objs.size+2,s1.heap.objs.size+3,s1.heap.objs.size,s1.heap.objs.size+1],_,_,H1,rfl,I2,zc7 _ _ _ _ _ l1 l2 (yo2 _),
    ⟨hz,U,⟨_,_,S⟩,O,N⟩,fun b hb=>?_,q⟩
   have z:s1.heap.objs.size<=b:=by
    simp only[mem_cons,not_mem_nil,or_false]at hb
    rcases hb with rfl|rfl|rfl|rfl|rfl
    .exact Nat.le_add_right _ 4
    .exact Nat.le_add_right _ 2
    .exact Nat.le_add_right _ 3
    .exact Nat.le_refl _
    .exact Nat.le_add_right _ 1
   exact G.fpOk z (G.hok.fresh z)
end
end
section
structure Zip3 (z TI TO i1 i2 i3:Addr):Prop where
 TIz:TI≠z
 TOz:TO≠z
 i1z:i1≠z
 i2z:i2≠z
 i3z:i3≠z
 TITO:TI≠TO
 TIi1:TI≠i1
 TIi2:TI≠i2
 TIi3:TI≠i3
 TOi1:TO≠i1
 TOi2:TO≠i2
 TOi3:TO≠i3
 i12:i1≠i2
 i13:i1≠i3
 i23:i2≠i3
structure Apart3 (z TO i1 i2 i3 l:Addr):Prop where
 lz:l≠z
 lTO:l≠TO
 l1:l≠i1
 l2:l≠i2
 l3:l≠i3
section
variable {prog:Program}{w:World}{A:Around}{E:Value->Shared->Prop}{s:Shared}
end
section
variable {X:Cx}
end
noncomputable def Ite (K:W.Frag)(l:Addr):It:=
 ⟨fun i H=>∃ xs x,SqL K H l xs/\xs[i]? =some x,
  fun i H v H'=>∃ t x,v= .ref t/\H t=none/\H'=upd H t (.tup [.int i,x])/\(∀ xs,SqL K H l xs->xs[i]? =some x),
  fun i H=>∃ xs,SqL K H l xs/\xs.length<=i⟩
theorem zv1 {P:Program}{w:World}{K:W.Frag}{es:List Expr}{tk:Nat}{tp:Pos}(e it l:Addr)(Z:e≠it):
  Turn P w K (.Tuple es tk tp) (Ite K l) [e,it] e (fun i h=>(∃ old,IsEnum h e it (i:Nat) old)/\h.IsListIter it l i) where
 mem:=by simp
 obj:=fun i h st b hb=>by
  obtain⟨⟨old,z⟩,⟨o1,e1,_,d1⟩⟩:=st
  simp only[mem_cons,not_mem_nil,or_false]at hb
  rcases hb with rfl|rfl
  .exact⟨_,z,fun v q=>by cases q⟩
  .exact⟨_,e1,fun v q=>by rw[d1]at q;cases q⟩
 keep:=fun i h h' st k=>by
  obtain⟨⟨old,z⟩,h1⟩:=st
  exact⟨⟨old,k e (by simp) _ z⟩,h1.at fun o q=>k it (by simp) o q⟩
 item:=by
  intro X hP hw hK G i pins s σ H E I hf st hg
  subst hP hw hK
  obtain⟨xs,x,L,hx⟩:=hg
  obtain⟨S,M,p1,_⟩:=I.list L
  obtain⟨u1,a6,a5⟩:=M.get hx
  obtain⟨⟨old,z⟩,h1⟩:=st
  refine wpAny_pyNext_enum_item z h1 p1.isList (x:=u1) (by simpa using a6) Z fun h' a1 a2 a3 a4 hk=>?_
  refine⟨_,rfl,?_⟩
  refine wpAny_letOwnedTupleGo_enum a1 fun O a0 j=>?_
  have Y:e<s.heap.objs.size:=Heap.lt_size z
  have kk:∀ c o,c∉[e,it]->s.heap.get? c=some o->O.get? c=some o:=fun c o G q=>by
   simp only[mem_cons,not_mem_nil,or_false,not_or]at G
   exact j.extBut _ _ G.1 (hk c o G.1 G.2 q)
  have hT:O.get? s.heap.objs.size=some { cls:=.type "tuple",data:=.seq #[.int i s.toks,u1] }:=j.extBut _ _ (Nat.ne_of_gt Y) a3
  have I2:Inv X pins σ (upd H s.heap.objs.size (.tup [.int i,x])) { s with heap:=O,toks:=s.toks+1 }:=
   I.turnedN (T:=s.heap.objs.size) (o:=.tup [.int i,x]) kk hf (Nat.le_refl _) ⟨by show 2<=sizeLine;decide,[.int i s.toks,u1],.cons ⟨_,rfl⟩ (.cons a5 .nil),⟨_,hT,rfl,_,rfl⟩⟩
  refine⟨.ref s.heap.objs.size,_,I2,rfl,⟨_,x,rfl,I.fresh,rfl,fun zs U=>by rw[I.list_inj U L];exact hx⟩,
   ⟨⟨_,a0⟩,a2.extBut j.extBut Z.symm⟩,fun c N=>?_⟩
  have a7:c<s.heap.objs.size:=by
   obtain⟨o1,e1,_⟩:=h1
   simp only[mem_cons,not_mem_nil,or_false]at N
   rcases N with rfl|rfl
   .exact Y
   .exact Heap.lt_size e1
  rw[y3 (Nat.ne_of_lt a7)]
  exact(hf c N).1
 done:=by
  intro X hP hw hK G i pins s σ H E I hf st hg
  subst hP hw hK
  obtain⟨xs,L,hl⟩:=hg
  obtain⟨S,M,p1,_⟩:=I.list L
  obtain⟨⟨old,z⟩,h1⟩:=st
  have a8:=M.length
  refine wpAny_pyNext_enum_end (I.ok.hd G) z h1 p1.isList (by simp;omega) fun h' hk=>⟨rfl,?_⟩
  exact I.turnedL (t':=s.toks) (fun c o G q=>by
   simp only[mem_cons,not_mem_nil,or_false,not_or]at G
   exact hk c o G.2 q) hf
 self:=fun A i s Q E st h=>by
  obtain⟨⟨old,z⟩,h1⟩:=st
  have hT:s.TypeIs (.ref e) "enumerate":=⟨_,z,rfl⟩
  refine wpAny_pyIter_slot hT F.slot_enumerate_iter (wpAny_call_entry F.slot_enumerate_iter hT F.entry_enumerate_iter ?_ (F.args_enumerate_iter_1 _))
  show wpAny _ _ (ret (.ref e)) _ _ s
  exact wpAny_pure ⟨_,rfl,"enumerate",_,hT,F.slot_enumerate_next.lookup,h⟩
section
variable {X:Cx}
def wz5 (K:W.Frag)(ta:TA):TI:=fun σ H R=>ta σ H fun vs H1=>∃ a xs,vs=[.ref a]/\SqL K H1 a xs/\R (Ite K a) H1
theorem yy3 {a:Expr}{ta:TA}{p pos:Pos}{es:List Expr}{tk:Nat}{tp:Pos}(hg:Gl X "enumerate")(hm:X.mg "enumerate"=none)(ha:PA X [a] ta)(hs:starEach [a] X.env=[(false,eval a X.env)]:=by rfl):
  PI X (.Tuple es tk tp) (.Call (.Name "enumerate" p) [a] [] pos) (wz5 X.K ta):=by
 intro pins s σ H R I h
 refine Call_ (T7 I hg hm boot_enumerate (PyProof.Rows.callWith_type1 (thn (ha pos pins s σ H _ I h) fun us s1 i=>?_) hs rfl))
 obtain⟨vs,H1,G,Y,L⟩:=i
 obtain⟨l,xs,e,L,q⟩:=L
 subst e
 cases Y with
 |cons r U=>
  cases U
  cases r
  obtain⟨N,S,p1,_⟩:=G.list L
  refine call_enumerate_list p1.isList fun h' M j Z hk=>?_
  have I2:Inv X pins σ H1 { s1 with heap:=h',toks:=s1.toks }:=G.kept hk
  have hT:({ s1 with heap:=h' }:Shared).TypeIs (.ref (s1.heap.objs.size+1)) "enumerate":=⟨_,M,rfl⟩
  refine(zv1 (P:=X.prog) (w:=X.w) (K:=X.K) (es:=es) (tk:=tk) (tp:=tp) (s1.heap.objs.size+1) s1.heap.objs.size l (Nat.ne_of_gt (Nat.lt_succ_self _))).self X.A 0 { s1 with heap:=h' } _ _ ⟨⟨_,M⟩,j⟩ ?_
  refine⟨_,[s1.heap.objs.size+1,s1.heap.objs.size],_,_,H1,rfl,I2,zv1 _ _ l (Nat.ne_of_gt (Nat.lt_succ_self _)),⟨⟨_,M⟩,j⟩,fun b O=>?_,q⟩
  have z:s1.heap.objs.size<=b:=by
   simp only[mem_cons,not_mem_nil,or_false]at O
   rcases O with rfl|rfl
   .exact Nat.le_succ _
   .exact Nat.le_refl _
  exact G.fpOk z (G.hok.fresh z)
end
end
section
def XAt (a C:Addr)(h:Heap):Prop:=∃ o vs,h.get? a=some o/\o.cls= .ref C/\o.data= .fields vs
noncomputable def xd2 (K:W.Frag)(C:Addr):Option Str:=match K.lookup C with
 |some ⟨_,_,.cls cd,_⟩=>some cd.name
 |_=>none
inductive D where
 |non|bl (b:Bool)|int (i:Int)|str (x:Str)|lst (ds:List D)|tup (ds:List D)|exc (c:Str)
 |ptr (a:Addr)|obj (c:Str) (ns:List Str) (ds:List D)
mutual
inductive Rep (K:W.Frag)(F:Hp):V->D->Prop
 |non:Rep K F .non .non
 |bl (b:Bool):Rep K F (.bl b) (.bl b)
 |int (i:Int):Rep K F (.int i) (.int i)
 |str (x:Str):Rep K F (.str x) (.str x)
 |lst {a:Addr} {xs:List V} {ds:List D}:SqL K F a xs->Reps K F xs ds->Rep K F (.ref a) (.lst ds)
 |tup {a:Addr} {xs:List V} {ds:List D}:SqT K F a xs->Reps K F xs ds->Rep K F (.ref a) (.tup ds)
 |exc {a C:Addr} {c:Str}:(W.nsIn K mainGlobals c=some (some (.ref C))/\xd2 K C=some c)->F a=some (.ext (XAt a C))->Rep K F (.ref a) (.exc c)
 |ptr (a:Addr):Rep K F (.ref a) (.ptr a)
 |obj {a dx C:Addr} {c:Str} {ns:List Str} {xs:List V} {ds:List D}:W.nsIn K mainGlobals c=some (some (.ref C))->ns.length=xs.length->F a=some (.ins C dx (ns.zip xs))->F dx=some (.own a)->Reps K F xs ds->Rep K F (.ref a) (.obj c ns ds)
inductive Reps (K:W.Frag)(F:Hp):List V->List D->Prop
 |nil:Reps K F [] []
 |cons {v:V} {d:D} {vs:List V} {ds:List D}:Rep K F v d->Reps K F vs ds->Reps K F (v::vs) (d::ds)
end
theorem Same.seqT {K:W.Frag}{H H':Hp}{a:Addr}{xs:List V}(e:Same H H')(h:SqT K H a xs):SqT K H' a xs:=by
 rcases h with (h|⟨o,h⟩)|h
 .exact .inl (.inl (e _ _ h))
 .exact .inl (.inr ⟨o,e _ _ h⟩)
 .exact .inr h
section
variable {K:W.Frag}{F F':Hp}
mutual
theorem Rep.mono (e:Same F F'):∀{v:V}{d:D},Rep K F v d->Rep K F' v d
 |_,_,.non=>.non
 |_,_,.bl b=>.bl b
 |_,_,.int i=>.int i
 |_,_,.str x=>.str x
 |_,_,.lst h r=>.lst (e.seq h) (Reps.mono e r)
 |_,_,.tup h r=>.tup (e.seqT h) (Reps.mono e r)
 |_,_,.exc h r=>.exc h (e _ _ r)
 |_,_,.ptr a=>.ptr a
 |_,_,.obj c l h h2 r=>.obj c l (e _ _ h) (e _ _ h2) (Reps.mono e r)
theorem Reps.mono (e:Same F F'):∀{vs:List V}{ds:List D},Reps K F vs ds->Reps K F' vs ds
 |_,_,.nil=>.nil
 |_,_,.cons h r=>.cons (Rep.mono e h) (Reps.mono e r)
end
theorem Reps.length:∀{vs:List V}{ds:List D},Reps K F vs ds->vs.length=ds.length
 |_,_,.nil=>rfl
 |_,_,.cons _ r=>congrArg (·+1) (Reps.length r)
theorem Reps.get:∀{vs:List V}{ds:List D}{i:Nat}{d:D},Reps K F vs ds->ds[i]? =some d->∃ v,vs[i]? =some v/\Rep K F v d
 |_,_,_,_,.nil,e=>by simp at e
 |_,_,0,_,.cons h _,e=>by simp at e;subst e;exact⟨_,rfl,h⟩
 |_,_,i+1,d,.cons _ r,e=>by
  obtain⟨v,h1,h2⟩:=Reps.get (i:=i) (d:=d) r (by simpa using e)
  exact⟨v,by simpa using h1,h2⟩
theorem Reps.get':∀{vs:List V}{ds:List D}{i:Nat}{v:V},Reps K F vs ds->vs[i]? =some v->∃ d,ds[i]? =some d/\Rep K F v d
 |_,_,_,_,.nil,e=>by simp at e
 |_,_,0,_,.cons h _,e=>by simp at e;subst e;exact⟨_,rfl,h⟩
 |_,_,i+1,d,.cons _ r,e=>by
  obtain⟨v,h1,h2⟩:=Reps.get' (i:=i) (v:=d) r (by simpa using e)
  exact⟨v,by simpa using h1,h2⟩
theorem Reps.append:∀{vs ws:List V}{ds es:List D},Reps K F vs ds->Reps K F ws es->Reps K F (vs++ws) (ds++es)
 |_,_,_,_,.nil,s=>s
 |_,_,_,_,.cons h r,s=>.cons h (Reps.append r s)
theorem Reps.take:∀{vs:List V}{ds:List D}(n:Nat),Reps K F vs ds->Reps K F (vs.take n) (ds.take n)
 |_,_,0,_=>.nil
 |_,_,_+1,.nil=>.nil
 |_,_,n+1,.cons h r=>.cons h (Reps.take n r)
theorem Reps.drop:∀{vs:List V}{ds:List D}(n:Nat),Reps K F vs ds->Reps K F (vs.drop n) (ds.drop n)
 |_,_,0,r=>r
 |_,_,_+1,.nil=>.nil
 |_,_,n+1,.cons _ r=>Reps.drop n r
theorem Reps.set {v:V}{d:D}(h:Rep K F v d):∀{vs:List V}{ds:List D}(i:Nat),Reps K F vs ds->Reps K F (vs.set i v) (ds.set i d)
 |_,_,_,.nil=>.nil
 |_,_,0,.cons _ r=>.cons h r
 |_,_,i+1,.cons q r=>.cons q (Reps.set h i r)
end
structure Ext (F H F' H':Hp):Prop where
 ff:Same F F'
 hh:Same H H'
 fh:Same F' H'
 new:∀ b,F b=none->F' b≠none->H b=none
 nf:∀ b o u,F' b=some (.frz o u)->F b=some (.frz o u)
theorem Ext.refl {F H:Hp}(h:Same F H):Ext F H F H:=⟨Same.refl _,Same.refl _,h,fun b e n=>absurd e n,fun _ _ _ z=>z⟩
theorem Ext.trans {F H F1 H1 F2 H2:Hp}(a:Ext F H F1 H1)(b:Ext F1 H1 F2 H2):Ext F H F2 H2:=
 ⟨a.ff.trans b.ff,a.hh.trans b.hh,b.fh,fun c e n=>by
  by_cases h:F1 c=none
  .exact a.hh.free (b.new c h n)
  .exact a.new c e h,fun c o u z=>a.nf c o u (b.nf c o u z)⟩
theorem Same.put {F H:Hp}{p:Addr}{o:HO}(h:Same F H)(hp:F p=none):Same F (upd H p o):=fun b u e=>by
 rw[y3 (l8 e hp)];exact h b u e
theorem Same.put2 {F H:Hp}{p:Addr}{o:HO}(h:Same F H):Same (upd F p o) (upd H p o):=fun b u e=>by
 by_cases i:b=p
 .subst i;rw[z9]at e ⊢;exact e
 .rw[y3 i]at e ⊢;exact h b u e
theorem Ext.laid {F H:Hp}{p:Addr}{o:HO}(h:Same F H)(hp:H p=none)(j:∀ a u,o≠ .frz a u:=by intro _ _ z;cases z):Ext F H (upd F p o) (upd H p o):=
 ⟨(Same.refl F).put (h.free hp),(Same.refl H).put hp,h.put2,fun b e n=>by
  by_cases i:b=p
  .subst i;exact hp
  .rw[y3 i]at n;exact absurd e n,fun b a u z=>by
  by_cases i:b=p
  .subst i;rw[z9]at z;exact absurd (Option.some.inj z) (j a u)
  .rw[y3 i]at z;exact z⟩
theorem Ext.own {F H:Hp}{p:Addr}{o:HO}(h:Same F H)(hp:H p=none):Ext F H F (upd H p o):=
 ⟨Same.refl F,(Same.refl H).put hp,h.put (h.free hp),fun b e n=>absurd e n,fun _ _ _ z=>z⟩
theorem Ext.freeze {F H F' H':Hp}{p:Addr}{o:HO}(a:Ext F H F' H')(j:F' p=none)(hp:H p=none)(I:H' p=some o)(G:∀ a u,o≠ .frz a u:=by intro _ _ z;cases z):Ext F H (upd F' p o) H':=
 ⟨a.ff.put (a.ff.free j),a.hh,fun b u e=>by
   by_cases i:b=p
   .subst i;rw[z9]at e;cases e;exact I
   .rw[y3 i]at e;exact a.fh b u e,fun b e n=>by
   by_cases i:b=p
   .subst i;exact hp
   .rw[y3 i]at n;exact a.new b e n,fun b c u z=>by
   by_cases i:b=p
   .subst i;rw[z9]at z;exact absurd (Option.some.inj z) (G c u)
   .rw[y3 i]at z;exact a.nf b c u z⟩
inductive S where
 |sh (d:D)|own (ds:List D)|ob (p:Addr) (ds:List D)
 |rd (p:Addr) (ds:List D)
noncomputable abbrev Ro:=List (Option S)
def RdF (F0 H0:Hp)(q:Addr)(ds:List D):Prop:=F0 q=none/\∃ ns:List Int,ds=ns.map D.int/\Rd H0 q (.lst (ns.map V.int))
structure Rl (K:W.Frag)(F0 H0 F H:Hp)(σ:St)(ρ:Ro):Prop where
 ext:Ext F0 H0 F H
 len:σ.length=ρ.length
 sh:∀(i:Nat) d,ρ[i]? =some (some (.sh d))->∃ v,σ[i]? =some (some v)/\Rep K F v d
 own:∀(i:Nat) ds,ρ[i]? =some (some (.own ds))->∃ p xs,σ[i]? =some (some (.ref p))/\F p=none/\H p=some (.lst xs)/\Reps K F xs ds/\H0 p=none
 inj:∀(i j:Nat) p ds es,i≠j->ρ[i]? =some (some (.own ds))->ρ[j]? =some (some (.own es))->σ[i]? =some (some (.ref p))->σ[j]? =some (some (.ref p))->False
 ob:∀(i:Nat) p ds,ρ[i]? =some (some (.ob p ds))->σ[i]? =some (some (.ref p))/\F p=none/\H0 p=none/\∃ xs,H p=some (.lst xs)/\Reps K F xs ds
 obn:∀(i j:Nat) p ds es,ρ[i]? =some (some (.ob p ds))->ρ[j]? =some (some (.own es))->σ[j]? =some (some (.ref p))->False
 ob1:∀(i j:Nat) p q ds es,ρ[i]? =some (some (.ob p ds))->ρ[j]? =some (some (.ob q es))->i=j
 rd:∀(i:Nat) q ds,ρ[i]? =some (some (.rd q ds))->σ[i]? =some (some (.ref q))/\RdF F0 H0 q ds
noncomputable def nrd:Option S->Prop
 |some (.rd _ _)=>False
 |_=>True
theorem R8 {ρ:Ro}{i j:Nat}{x:Option S}{p:Addr}{ds:List D}(e:(ρ.set i x)[j]? =some (some (.rd p ds)))(I:nrd x:=by exact True.intro):i≠j/\ρ[j]? =some (some (.rd p ds)):=by
 by_cases G:i=j
 .subst G
  rcases Nat.lt_or_ge i ρ.length with z|z
  .rw[getElem?_set_self z]at e;cases e;exact I.elim
  .rw[getElem?_eq_none (by simpa using z)]at e;cases e
 .rw[getElem?_set_ne G]at e;exact⟨G,e⟩
noncomputable def nob:Option S->Prop
 |some (.ob _ _)=>False
 |_=>True
theorem j3 {ρ:Ro}{i j:Nat}{x:Option S}{p:Addr}{ds:List D}(e:(ρ.set i x)[j]? =some (some (.ob p ds)))(I:nob x:=by exact True.intro):i≠j/\ρ[j]? =some (some (.ob p ds)):=by
 by_cases G:i=j
 .subst G
  rcases Nat.lt_or_ge i ρ.length with z|z
  .rw[getElem?_set_self z]at e;cases e;exact I.elim
  .rw[getElem?_eq_none (by simpa using z)]at e;cases e
 .rw[getElem?_set_ne G]at e;exact⟨G,e⟩
section
variable {K:W.Frag}{F0 H0 F H F' H':Hp}{σ:St}{ρ:Ro}
theorem Rl.fh (r:Rl K F0 H0 F H σ ρ):Same F H:=r.ext.fh
theorem Rl.go (r:Rl K F0 H0 F H σ ρ)(e:Ext F H F' H'):Rl K F0 H0 F' H' σ ρ where
 ext:=r.ext.trans e
 len:=r.len
 sh:=fun i d h=>let ⟨v,a,b⟩:=r.sh i d h;⟨v,a,b.mono e.ff⟩
 own:=fun i ds h=>by
  obtain⟨p,xs,a,b,c,d,z⟩:=r.own i ds h
  refine⟨p,xs,a,?_,e.hh _ _ c,d.mono e.ff,z⟩
  cases q:F' p with
  |none=>rfl
  |some o=>have:=e.new p b (by rw[q];simp);rw[this]at c;cases c
 inj:=r.inj
 ob:=fun i p ds h=>by
  obtain⟨a,b,c,xs,d,z⟩:=r.ob i p ds h
  refine⟨a,?_,c,xs,e.hh _ _ d,z.mono e.ff⟩
  cases q:F' p with
  |none=>rfl
  |some o=>have:=e.new p b (by rw[q];simp);rw[this]at d;cases d
 obn:=r.obn
 ob1:=r.ob1
 rd:=r.rd
theorem Rl.set (r:Rl K F0 H0 F H σ ρ){i:Nat}{v:V}{d:D}(h:Rep K F v d):Rl K F0 H0 F H (σ.set i (some v)) (ρ.set i (some (.sh d))) where
 ext:=r.ext
 len:=by simp[r.len]
 sh:=fun j d' e=>by
  by_cases I:i=j
  .subst I
   have G:i<ρ.length:=by
    rcases Nat.lt_or_ge i ρ.length with z|z
    .exact z
    .rw[getElem?_eq_none (by simpa using z)]at e;cases e
   rw[getElem?_set_self G]at e
   cases e
   exact⟨v,by rw[getElem?_set_self (by rw[r.len];exact G)],h⟩
  .rw[getElem?_set_ne I]at e ⊢
   exact r.sh j d' e
 own:=fun j ds e=>by
  by_cases I:i=j
  .subst I
   have G:i<ρ.length:=by
    rcases Nat.lt_or_ge i ρ.length with z|z
    .exact z
    .rw[getElem?_eq_none (by simpa using z)]at e;cases e
   rw[getElem?_set_self G]at e
   cases e
  .rw[getElem?_set_ne I]at e ⊢
   exact r.own j ds e
 inj:=fun j k p ds es M e1 e2 e3 N=>by
  have O:i≠j:=fun z=>by
   subst z
   have G:i<ρ.length:=by
    rcases Nat.lt_or_ge i ρ.length with z|z
    .exact z
    .rw[getElem?_eq_none (by simpa using z)]at e1;cases e1
   rw[getElem?_set_self G]at e1;cases e1
  have L:i≠k:=fun z=>by
   subst z
   have G:i<ρ.length:=by
    rcases Nat.lt_or_ge i ρ.length with z|z
    .exact z
    .rw[getElem?_eq_none (by simpa using z)]at e2;cases e2
   rw[getElem?_set_self G]at e2;cases e2
  rw[getElem?_set_ne O]at e1 e3
  rw[getElem?_set_ne L]at e2 N
  exact r.inj j k p ds es M e1 e2 e3 N
 ob:=fun j p ds e=>by
  obtain⟨n,e⟩:=j3 e
  rw[getElem?_set_ne n];exact r.ob j p ds e
 obn:=fun j k p ds es e1 e2 e3=>by
  obtain⟨n,e1⟩:=j3 e1
  have L:i≠k:=fun z=>by
   subst z
   have G:i<ρ.length:=by
    rcases Nat.lt_or_ge i ρ.length with z|z
    .exact z
    .rw[getElem?_eq_none (by simpa using z)]at e2;cases e2
   rw[getElem?_set_self G]at e2;cases e2
  rw[getElem?_set_ne L]at e2 e3
  exact r.obn j k p ds es e1 e2 e3
 ob1:=fun j k p q ds es e1 e2=>r.ob1 j k p q ds es (j3 e1).2 (j3 e2).2
 rd:=fun j q ds e=>by
  obtain⟨n,e⟩:=R8 e
  rw[getElem?_set_ne n];exact r.rd j q ds e
theorem Rl.setOwn (r:Rl K F0 H0 F H σ ρ){i:Nat}{p:Addr}{xs:List V}{ds:List D}(Y:F p=none)(U:H p=some (.lst xs))(h:Reps K F xs ds)(Z:H0 p=none)
  (fr:∀(j:Nat) es,i≠j->ρ[j]? =some (some (.own es))->σ[j]? =some (some (.ref p))->False) (fo:∀(j:Nat) q es,ρ[j]? =some (some (.ob q es))->q≠p):Rl K F0 H0 F H (σ.set i (some (.ref p))) (ρ.set i (some (.own ds))) where
 ext:=r.ext
 len:=by simp[r.len]
 sh:=fun j d' e=>by
  by_cases O:i=j
  .subst O
   have G:i<ρ.length:=by
    rcases Nat.lt_or_ge i ρ.length with z|z
    .exact z
    .rw[getElem?_eq_none (by simpa using z)]at e;cases e
   rw[getElem?_set_self G]at e
   cases e
  .rw[getElem?_set_ne O]at e ⊢
   exact r.sh j d' e
 own:=fun j es e=>by
  by_cases O:i=j
  .subst O
   have G:i<ρ.length:=by
    rcases Nat.lt_or_ge i ρ.length with z|z
    .exact z
    .rw[getElem?_eq_none (by simpa using z)]at e;cases e
   rw[getElem?_set_self G]at e
   cases e
   exact⟨p,xs,by rw[getElem?_set_self (by rw[r.len];exact G)],Y,U,h,Z⟩
  .rw[getElem?_set_ne O]at e ⊢
   exact r.own j es e
 inj:=fun j k q es I M e1 e2 e3 L=>by
  by_cases S:i=j
  .subst S
   rw[getElem?_set_ne M]at e2 L
   have G:i<σ.length:=by
    rcases Nat.lt_or_ge i σ.length with z|z
    .exact z
    .rw[getElem?_eq_none (by simpa using z)]at e3;cases e3
   rw[getElem?_set_self G]at e3
   cases e3
   exact fr k I M e2 L
  .rw[getElem?_set_ne S]at e1 e3
   by_cases N:i=k
   .subst N
    have G:i<σ.length:=by
     rcases Nat.lt_or_ge i σ.length with z|z
     .exact z
     .rw[getElem?_eq_none (by simpa using z)]at L;cases L
    rw[getElem?_set_self G]at L
    cases L
    exact fr j es S e1 e3
   .rw[getElem?_set_ne N]at e2 L
    exact r.inj j k q es I M e1 e2 e3 L
 ob:=fun j q es e=>by
  obtain⟨n,e⟩:=j3 e
  rw[getElem?_set_ne n];exact r.ob j q es e
 obn:=fun j k q es I e1 e2 e3=>by
  obtain⟨n,e1⟩:=j3 e1
  by_cases N:i=k
  .subst N
   have G:i<σ.length:=by
    rcases Nat.lt_or_ge i σ.length with z|z
    .exact z
    .rw[getElem?_eq_none (by simpa using z)]at e3;cases e3
   rw[getElem?_set_self G]at e3
   cases e3
   exact fo j p es e1 rfl
  .rw[getElem?_set_ne N]at e2 e3
   exact r.obn j k q es I e1 e2 e3
 ob1:=fun j k p q ds es e1 e2=>r.ob1 j k p q ds es (j3 e1).2 (j3 e2).2
 rd:=fun j q ds e=>by
  obtain⟨n,e⟩:=R8 e
  rw[getElem?_set_ne n];exact r.rd j q ds e
theorem Rl.freeze (r:Rl K F0 H0 F H σ ρ){i:Nat}{ds:List D}(h:ρ[i]? =some (some (.own ds))):∃ F',Rl K F0 H0 F' H σ (ρ.set i (some (.sh (.lst ds))))/\Same F F':=by
 obtain⟨p,xs,a,b,c,d,z⟩:=r.own i ds h
 have I:i<ρ.length:=(List.getElem?_eq_some_iff.mp h).1
 have e:Ext F0 H0 (upd F p (.lst xs)) H:=r.ext.freeze b z c
 have ff:Same F (upd F p (.lst xs)):=(Same.refl F).put b
 refine⟨upd F p (.lst xs),⟨e,by simp[r.len],fun j d' q=>?_,fun j es q=>?_,fun j k q es G N e1 e2 e3 e4=>?_,fun j q es e1=>?_,fun j k q es G e1 e2 e3=>?_,fun j k q Z es G e1 e2=>r.ob1 j k q Z es G (j3 e1).2 (j3 e2).2,fun j q es e1=>r.rd j q es (R8 e1).2⟩,ff⟩
 .by_cases hj:i=j
  .subst hj
   rw[getElem?_set_self I]at q
   cases q
   exact⟨_,a,.lst (SqL.of z9) (d.mono ff)⟩
  .rw[getElem?_set_ne hj]at q
   obtain⟨v,Y,U⟩:=r.sh j d' q
   exact⟨v,Y,U.mono ff⟩
 .by_cases hj:i=j
  .subst hj
   rw[getElem?_set_self I]at q
   cases q
  .rw[getElem?_set_ne hj]at q
   obtain⟨p',L,O,b',c',d',S⟩:=r.own j es q
   have hp:p'≠p:=fun w=>r.inj i j p ds es hj h q a (by rw[<-w];exact O)
   exact⟨p',L,O,by rw[y3 hp];exact b',c',d'.mono ff,S⟩
 .have n1:i≠j:=fun w=>by subst w;rw[getElem?_set_self I]at e1;cases e1
  have M:i≠k:=fun w=>by subst w;rw[getElem?_set_self I]at e2;cases e2
  rw[getElem?_set_ne n1]at e1
  rw[getElem?_set_ne M]at e2
  exact r.inj j k q es G N e1 e2 e3 e4
 .obtain⟨n,e1⟩:=j3 e1
  obtain⟨o1,o2,o3,zs,o4,o5⟩:=r.ob j q es e1
  have hp:q≠p:=fun w=>r.obn j i q es ds e1 h (by rw[w];exact a)
  exact⟨o1,by rw[y3 hp];exact o2,o3,zs,o4,o5.mono ff⟩
 .obtain⟨n,e1⟩:=j3 e1
  have M:i≠k:=fun w=>by subst w;rw[getElem?_set_self I]at e2;cases e2
  rw[getElem?_set_ne M]at e2
  exact r.obn j k q es G e1 e2 e3
theorem Rl.write (r:Rl K F0 H0 F H σ ρ){i:Nat}{p:Addr}{ys:List V}{ds es:List D}(h:ρ[i]? =some (some (.own ds)))(hp:σ[i]? =some (some (.ref p)))(hy:Reps K F ys es):
  Rl K F0 H0 F (upd H p (.lst ys)) σ (ρ.set i (some (.own es))):=by
 obtain⟨p',a0,a,b,c,d,z⟩:=r.own i ds h
 rw[hp]at a;cases a
 have Y:i<ρ.length:=(List.getElem?_eq_some_iff.mp h).1
 refine⟨⟨r.ext.ff,r.ext.hh.put z,r.ext.fh.put b,r.ext.new,r.ext.nf⟩,by simp[r.len],fun j d' q=>?_,fun j fs q=>?_,fun j k q fs fs' L e1 e2 e3 e4=>?_,fun j q fs e1=>?_,fun j k q fs fs' e1 e2 e3=>?_,fun j k q q' es O e1 e2=>r.ob1 j k q q' es O (j3 e1).2 (j3 e2).2,fun j q es e1=>r.rd j q es (R8 e1).2⟩
 .by_cases hj:i=j
  .subst hj
   rw[getElem?_set_self Y]at q
   cases q
  .rw[getElem?_set_ne hj]at q
   exact r.sh j d' q
 .by_cases hj:i=j
  .subst hj
   rw[getElem?_set_self Y]at q
   cases q
   exact⟨p,ys,hp,b,z9,hy,z⟩
  .rw[getElem?_set_ne hj]at q
   obtain⟨p2,I,Z,b2,c2,d2,z2⟩:=r.own j fs q
   have G:p2≠p:=fun w=>r.inj i j p ds fs hj h q hp (by rw[<-w];exact Z)
   exact⟨p2,I,Z,b2,by rw[y3 G];exact c2,d2,z2⟩
 .have back:∀(m:Nat) N,(ρ.set i (some (S.own es)))[m]? =some (some (.own N))->∃ M,ρ[m]? =some (some (.own M)):=fun m N e=>by
   by_cases hm:i=m
   .subst hm;exact⟨ds,h⟩
   .rw[getElem?_set_ne hm]at e;exact⟨N,e⟩
  obtain⟨g1,e1⟩:=back j fs e1
  obtain⟨g2,e2⟩:=back k fs' e2
  exact r.inj j k q g1 g2 L e1 e2 e3 e4
 .obtain⟨n,e1⟩:=j3 e1
  obtain⟨o1,o2,o3,zs,o4,o5⟩:=r.ob j q fs e1
  have G:q≠p:=fun w=>r.obn j i q fs ds e1 h (by rw[w];exact hp)
  exact⟨o1,o2,o3,zs,by rw[y3 G];exact o4,o5⟩
 .obtain⟨n,e1⟩:=j3 e1
  by_cases U:i=k
  .subst U;exact r.obn j i q fs ds e1 h e3
  .rw[getElem?_set_ne U]at e2
   exact r.obn j k q fs fs' e1 e2 e3
theorem Rl.writeB (r:Rl K F0 H0 F H σ ρ){i:Nat}{p:Addr}{ys:List V}{ds es:List D}(h:ρ[i]? =some (some (.ob p ds)))(hy:Reps K F ys es):
  Rl K F0 H0 F (upd H p (.lst ys)) σ (ρ.set i (some (.ob p es))):=by
 obtain⟨a,b,z,a0,c,d⟩:=r.ob i p ds h
 have O:i<ρ.length:=(List.getElem?_eq_some_iff.mp h).1
 have G:∀(j:Nat) q fs,(ρ.set i (some (S.ob p es)))[j]? =some (some (.ob q fs))->j=i/\q=p/\fs=es:=fun j q fs e=>by
  by_cases I:i=j
  .subst I;rw[getElem?_set_self O]at e;cases e;exact⟨rfl,rfl,rfl⟩
  .rw[getElem?_set_ne I]at e;exact absurd (r.ob1 i j p q ds fs h e) I
 have other:∀(j:Nat) fs,(ρ.set i (some (S.ob p es)))[j]? =some (some (.own fs))->i≠j/\ρ[j]? =some (some (.own fs)):=fun j fs e=>by
  by_cases I:i=j
  .subst I;rw[getElem?_set_self O]at e;cases e
  .rw[getElem?_set_ne I]at e;exact⟨I,e⟩
 refine⟨⟨r.ext.ff,r.ext.hh.put z,r.ext.fh.put b,r.ext.new,r.ext.nf⟩,by simp[r.len],fun j d' q=>?_,fun j fs q=>?_,fun j k q fs fs' U e1 e2 e3 L=>r.inj j k q fs fs' U (other j fs e1).2 (other k fs' e2).2 e3 L,fun j q fs e1=>?_,fun j k q fs fs' e1 e2 e3=>?_,fun j k q q' fs fs' e1 e2=>?_,fun j q es e1=>r.rd j q es (R8 e1).2⟩
 .by_cases I:i=j
  .subst I;rw[getElem?_set_self O]at q;cases q
  .rw[getElem?_set_ne I]at q;exact r.sh j d' q
 .obtain⟨n,e⟩:=other j fs q
  obtain⟨p2,M,Y,b2,c2,d2,Z⟩:=r.own j fs e
  have N:p2≠p:=fun w=>r.obn i j p ds fs h e (by rw[<-w];exact Y)
  exact⟨p2,M,Y,b2,by rw[y3 N];exact c2,d2,Z⟩
 .obtain⟨e2,e3,L⟩:=G j q fs e1
  subst e2 e3 L
  exact⟨a,b,z,ys,z9,hy⟩
 .obtain⟨L,e5,_⟩:=G j q fs e1
  subst L e5
  exact r.obn j k q ds fs' h (other k fs' e2).2 e3
 .rw[(G j q fs e1).1,(G k q' fs' e2).1]
end
theorem Rep.n' {K:W.Frag}{F:Hp}{x:V}(r:Rep K F x .non):x= .non:=by cases r;rfl
theorem Rep.b' {K:W.Frag}{F:Hp}{x:V}{i:Bool}(r:Rep K F x (.bl i)):x= .bl i:=by cases r;rfl
theorem Rep.i' {K:W.Frag}{F:Hp}{x:V}{i:Int}(r:Rep K F x (.int i)):x= .int i:=by cases r;rfl
theorem Rep.s' {K:W.Frag}{F:Hp}{x:V}{i:Str}(r:Rep K F x (.str i)):x= .str i:=by cases r;rfl
theorem Rl.rdF {K:W.Frag}{F0 H0 F H:Hp}{σ:St}{ρ:Ro}(r:Rl K F0 H0 F H σ ρ){i:Nat}{q:Addr}{ds:List D}(h:ρ[i]? =some (some (.rd q ds))):σ[i]? =some (some (.ref q))/\F q=none/\∃ ns:List Int,ds=ns.map D.int/\Rd H q (.lst (ns.map V.int))/\H0 q≠none:=by
 obtain⟨a,b,ns,e,z⟩:=r.rd i q ds h
 have j:H0 q≠none:=by rcases z with z|⟨o,z⟩ <;> rw[z] <;> simp
 refine⟨a,?_,ns,e,?_,j⟩
 .cases hF:F q with
  |none=>rfl
  |some u=>exact absurd (r.ext.new q b (by rw[hF];simp)) j
 .rcases z with z|⟨o,z⟩
  .exact .inl (r.ext.hh _ _ z)
  .exact .inr ⟨o,r.ext.hh _ _ z⟩
theorem zz1 {K:W.Frag}{F:Hp}:∀ ns:List Int,Reps K F (ns.map V.int) (ns.map D.int)
 |[]=>.nil
 |n::ns=>.cons (.int n) (zz1 ns)
theorem Rep.l' {K:W.Frag}{F:Hp}{x:V}{ds:List D}(r:Rep K F x (.lst ds)):∃ a xs,x= .ref a/\SqL K F a xs/\Reps K F xs ds:=by cases r with |lst s r=>exact⟨_,_,rfl,s,r⟩
theorem Rep.t' {K:W.Frag}{F:Hp}{x:V}{ds:List D}(r:Rep K F x (.tup ds)):∃ a xs,x= .ref a/\SqT K F a xs/\Reps K F xs ds:=by cases r with |tup s r=>exact⟨_,_,rfl,s,r⟩
end
section
noncomputable abbrev ME:=Ro->Option D
noncomputable abbrev ML:=Ro->Option (List D)
noncomputable abbrev MB:=Ro->Option Bool
def TD (K:W.Frag)(m:ME):TE:=fun σ H Q=>∃ F0 H0 F ρ d,Rl K F0 H0 F H σ ρ/\m ρ=some d/\∀ v F' H',Ext F H F' H'->Rep K F' v d->Q v H'
def TF (K:W.Frag)(m:ML):TE:=fun σ H Q=>∃ F0 H0 F ρ ds,Rl K F0 H0 F H σ ρ/\m ρ=some ds/\∀ p xs F' H',Ext F H F' H'->H p=none->F' p=none->H' p=some (.lst xs)->Reps K F' xs ds->Q (.ref p) H'
def TB (K:W.Frag)(m:ML):TE:=fun σ H Q=>∃ F0 H0 F ρ ds,Rl K F0 H0 F H σ ρ/\m ρ=some ds/\∀ p xs F' H',Ext F H F' H'->SqL K H' p xs->Reps K F' xs ds->Q (.ref p) H'
def TC (K:W.Frag)(c:MB):TT:=fun σ H Q=>∃ F0 H0 F ρ b,Rl K F0 H0 F H σ ρ/\c ρ=some b/\∀ F' H',Ext F H F' H'->Q b H'
def TAs (K:W.Frag)(m:ML):TA:=fun σ H Q=>∃ F0 H0 F ρ ds,Rl K F0 H0 F H σ ρ/\m ρ=some ds/\∀ vs F' H',Ext F H F' H'->Reps K F' vs ds->Q vs H'
def PD (X:Cx)(e:Expr)(m:ME):Prop:=PE X e (TD X.K m)
def PF (X:Cx)(e:Expr)(m:ML):Prop:=PE X e (TF X.K m)
def PB (X:Cx)(e:Expr)(m:ML):Prop:=PE X e (TB X.K m)
def PC' (X:Cx)(e:Expr)(c:MB):Prop:=PT X e (TC X.K c)
def PCw (X:Cx)(e:Expr)(c:MB):Prop:=PW X e (TC X.K c)
def PAs (X:Cx)(es:List Expr)(m:ML):Prop:=PA X es (TAs X.K m)
section
variable {X:Cx}{a b c e:Expr}{ma mb:ME}{pos:Pos}
theorem PE.imp {t t':TE}(h:PE X e t)(i:∀ σ H Q,t' σ H Q->t σ H Q):PE X e t':=fun pins s σ H Q I q=>h pins s σ H Q I (i σ H Q q)
theorem PT.imp {t t':TT}(h:PT X e t)(i:∀ σ H Q,t' σ H Q->t σ H Q):PT X e t':=fun pins s σ H Q I q=>h pins s σ H Q I (i σ H Q q)
theorem PW.imp {t t':TT}(h:PW X e t)(i:∀ σ H Q,t' σ H Q->t σ H Q):PW X e t':=fun w pins s σ H Q I q=>h w pins s σ H Q I (i σ H Q q)
theorem PA.imp {es:List Expr}{t t':TA}(h:PA X es t)(i:∀ σ H Q,t' σ H Q->t σ H Q):PA X es t':=fun pos pins s σ H Q I q=>h pos pins s σ H Q I (i σ H Q q)
noncomputable def mvar (i:Nat):ME:=fun ρ=>match ρ[i]? with |some (some (.sh d))=>some d|_=>none
noncomputable def bvar (i:Nat):ML:=fun ρ=>match ρ[i]? with |some (some (.sh (.lst ds)))=>some ds|some (some (.own ds))=>some ds|some (some (.ob _ ds))=>some ds|some (some (.rd _ ds))=>some ds|_=>none
noncomputable def mc (d:D):ME:=fun _=>some d
theorem z3 (i:Nat){x:Str}{pos:Pos}(h:PE X (.Name x pos) (tVar i)):PD X (.Name x pos) (mvar i):=h.imp fun σ H Q j=>by
 obtain⟨F0,H0,F,ρ,d,r,e,q⟩:=j
 unfold mvar at e
 split at e
 .rename_i h'
  cases e
  obtain⟨v,e1,e2⟩:=r.sh i _ h'
  exact⟨v,e1,q v F H (.refl r.fh) e2⟩
 .cases e
theorem y8 (i:Nat){x:Str}{pos:Pos}(h:PE X (.Name x pos) (tVar i)):PB X (.Name x pos) (bvar i):=h.imp fun σ H Q j=>by
 obtain⟨F0,H0,F,ρ,d,r,e,q⟩:=j
 unfold bvar at e
 split at e
 .rename_i ds h'
  cases e
  obtain⟨v,e1,e2⟩:=r.sh i _ h'
  cases e2 with
  |lst s G=>exact⟨_,e1,q _ _ F H (.refl r.fh) (r.fh.seq s) G⟩
 .rename_i ds h'
  cases e
  obtain⟨p,xs,e1,e2,e3,z,_⟩:=r.own i _ h'
  exact⟨_,e1,q _ _ F H (.refl r.fh) (SqL.of e3) z⟩
 .rename_i p ds h'
  cases e
  obtain⟨e1,e2,_,xs,e3,z⟩:=r.ob i p _ h'
  exact⟨_,e1,q _ _ F H (.refl r.fh) (SqL.of e3) z⟩
 .rename_i p ds h'
  cases e
  obtain⟨e1,e2,ns,rfl,e3,_⟩:=r.rdF h'
  exact⟨_,e1,q _ _ F H (.refl r.fh) (.inl e3) (zz1 ns)⟩
 .cases e
theorem z8 {i:Int}{j pos}:PD X (.Constant (.int i) j pos) (mc (.int i)):=pe_int.imp fun σ H Q z=>by
 obtain⟨F0,H0,F,ρ,d,r,e,q⟩:=z
 cases e;exact q _ F H (.refl r.fh) (.int i)
theorem zf5 {b:Bool}{j pos}:PD X (.Constant (.bool b) j pos) (mc (.bl b)):=pe_bl.imp fun σ H Q i=>by
 obtain⟨F0,H0,F,ρ,d,r,e,q⟩:=i
 cases e;exact q _ F H (.refl r.fh) (.bl b)
theorem ye4 {j pos}:PD X (.Constant .none j pos) (mc .non):=pe_non.imp fun σ H Q i=>by
 obtain⟨F0,H0,F,ρ,d,r,e,q⟩:=i
 cases e;exact q _ F H (.refl r.fh) .non
noncomputable def mlst (m:ML):ME:=fun ρ=>(m ρ).map .lst
noncomputable def k0 (m:ME):ML:=fun ρ=>match m ρ with |some (.lst ds)=>some ds|_=>none
theorem b9 {m:ML}(h:PF X e m):PD X e (mlst m):=h.imp fun σ H Q i=>by
 obtain⟨F0,H0,F,ρ,d,r,e,q⟩:=i
 unfold mlst at e
 cases hm:m ρ with
 |none=>rw[hm]at e;cases e
 |some ds=>
  rw[hm]at e;cases e
  refine⟨F0,H0,F,ρ,ds,r,hm,fun p xs F' H' x hp j G z=>?_⟩
  exact q _ (upd F' p (.lst xs)) H' (x.freeze j hp G) (.lst (SqL.of z9) (z.mono ((Same.refl F').put j)))
theorem zu3 (h:PD X e ma):PB X e (k0 ma):=h.imp fun σ H Q i=>by
 obtain⟨F0,H0,F,ρ,d,r,e,q⟩:=i
 unfold k0 at e
 split at e
 .rename_i ds hm
  cases e
  refine⟨F0,H0,F,ρ,_,r,hm,fun v F' H' x j=>?_⟩
  cases j with
  |lst s z=>exact q _ _ F' H' x (x.fh.seq s) z
 .cases e
theorem i6 {m:ML}(h:PF X e m):PB X e m:=h.imp fun σ H Q ⟨F0,H0,F,ρ,d,r,e,q⟩=>
 ⟨F0,H0,F,ρ,d,r,e,fun p xs F' H' x hp z j i=>q p xs F' H' x (SqL.of j) i⟩
@[irreducible] noncomputable def m2 (f:D->D->Option D)(x y:ME):ME:=fun ρ=>(x ρ).bind fun d=>(y ρ).bind fun e=>f d e
def OpD (K:W.Frag)(r:R2)(f:D->D->Option D):Prop:=∀(F H:Hp)(x y:V)(d e g:D)(Q:VK),Same F H->Rep K F x d->Rep K F y e->f d e=some g->(∀ v F' H',Ext F H F' H'->Rep K F' v g->Q v H')->r x y H Q
theorem xv2 {f:D->D->Option D}{ρ:Ro}{g:D}(h:m2 f ma mb ρ=some g):∃ d e,ma ρ=some d/\mb ρ=some e/\f d e=some g:=by
 unfold m2 at h
 cases h1:ma ρ with
 |none=>rw[h1]at h;cases h
 |some d=>
  cases h2:mb ρ with
  |none=>rw[h1,h2]at h;cases h
  |some e=>rw[h1,h2]at h;exact⟨d,e,rfl,rfl,h⟩
theorem op_d {r:R2}{f:D->D->Option D}(M:OpD X.K r f){σ:St}{H:Hp}{Q:VK}(h:TD X.K (m2 f ma mb) σ H Q):tOp r (TD X.K ma) (TD X.K mb) σ H Q:=by
 obtain⟨F0,H0,F,ρ,g,rl,e,q⟩:=h
 obtain⟨d,z,h1,h2,N⟩:=xv2 e
 refine⟨F0,H0,F,ρ,d,rl,h1,fun x F1 H1 j L=>⟨F0,H0,F1,ρ,z,rl.go j,h2,fun y F2 H2 i I=>?_⟩⟩
 exact M F2 H2 x y d z g Q i.fh (L.mono i.ff) I N fun v F' H' G=>q v F' H' ((j.trans i).trans G)
theorem zp1 {op:Operator}{r:R2}{f:D->D->Option D}(i:OpR X (binaryOp op) r)(j:OpD X.K r f)(ha:PD X a ma)(z:PD X b mb):PD X (.BinOp a op b pos) (m2 f ma mb):=(xy6 i ha z).imp fun _ _ _ h=>op_d j h
theorem G3 {op:CmpOp}{r:R2}{f:D->D->Option D}(i:OpR X (compareOp op) r)(j:OpD X.K r f)(ha:PD X a ma)(z:PD X b mb)(hm:behindInMarks op b=false):PD X (.Compare a [op] [b] pos) (m2 f ma mb):=(yy5 i ha z hm).imp fun _ _ _ h=>op_d j h
noncomputable def l0 (m:ME):MB:=fun ρ=>match m ρ with |some (.bl b)=>some b|_=>none
theorem Z3 {op:CmpOp}{r:R2}{f:D->D->Option D}(j:OpR X (compareOp op) r)(z:OpD X.K r f)(ha:PD X a ma)(G:PD X b mb)(hm:behindInMarks op b=false):PC' X (.Compare a [op] [b] pos) (l0 (m2 f ma mb)):=(yz0 j ha G hm).imp fun σ H Q i=>by
 obtain⟨F0,H0,F,ρ,g,rl,e,q⟩:=i
 unfold l0 at e
 split at e
 .rename_i k hk
  cases e
  refine op_d z ⟨F0,H0,F,ρ,.bl g,rl,hk,fun v F' H' x r=>?_⟩
  cases r
  exact⟨_,rfl,q F' H' x⟩
 .cases e
noncomputable def int2 (g:Int->Int->Option D):D->D->Option D
 | .int i,.int j=>g i j
 |_,_=>none
theorem zh2 {g:Int->Int->Option D}{d e w:D}(h:int2 g d e=some w):∃ i j,d= .int i/\e= .int j/\g i j=some w:=by
 cases d with
 |int i=>
  cases e with
  |int j=>exact⟨i,j,rfl,rfl,h⟩
  |_=>cases h
 |_=>cases h
theorem zz8 {K:W.Frag}{g:Int->Int->V}{g':Int->Int->D}(I:∀ F i j,Rep K F (g i j) (g' i j)):OpD K (rI0 g) (int2 fun i j=>some (g' i j)):=by
 intro F H x y d e w Q s G z h q
 obtain⟨i,j,rfl,rfl,h'⟩:=zh2 h
 clear h
 cases h'
 exact⟨i,j,G.i',z.i',q _ F H (.refl s) (I F i j)⟩
theorem zu7 {K:W.Frag}{C:Int->Int->Prop}{ok:Int->Int->Bool}{g:Int->Int->V}{g':Int->Int->D}(M:∀ i j,ok i j=true->C i j)(L:∀ F i j,Rep K F (g i j) (g' i j)):
  OpD K (rI C g) (int2 fun i j=>if ok i j=true then some (g' i j)else none):=by
 intro F H x y d e w Q s I G h q
 obtain⟨i,j,rfl,rfl,h'⟩:=zh2 h
 clear h
 by_cases z:ok i j=true
 .rw[if_pos z]at h'
  cases h'
  exact⟨i,j,I.i',G.i',M i j z,q _ F H (.refl s) (L F i j)⟩
 .rw[if_neg z]at h'
  cases h'
noncomputable def subD:D->D->Option D:=int2 fun i j=>some (.int (i-j))
noncomputable def P6 (i j:Int):Bool:=(decide (-(2^64)<i)&&decide (i<2^64)) || (decide (-(2^64)<j)&&decide (j<2^64))
noncomputable def mulD:D->D->Option D:=int2 fun i j=>if P6 i j=true then some (.int (i*j))else none
noncomputable def L4 (_ j:Int):Bool:=decide (0<j)&&decide (j<1073741824)
noncomputable def M1:D->D->Option D:=int2 fun i j=>if L4 i j=true then some (.int (i / j))else none
noncomputable def zy6 (_ j:Int):Bool:=decide (0<j)
noncomputable def modD:D->D->Option D:=int2 fun i j=>if zy6 i j=true then some (.int (i % j))else none
noncomputable def zu1 (i j:Int):Bool:=decide (0<=j)&&decide (j<=1000000)&&decide (i.natAbs<2^64)
noncomputable def powD:D->D->Option D:=int2 fun i j=>if zu1 i j=true then some (.int (i^j.toNat))else none
noncomputable def yb9 (_ j:Int):Bool:=decide (0<=j)
noncomputable def shrD:D->D->Option D:=int2 fun i j=>if yb9 i j=true then some (.int (i / 2^j.toNat))else none
noncomputable def ltD:D->D->Option D:=int2 fun i j=>some (.bl (decide (i<j)))
noncomputable def leD:D->D->Option D:=int2 fun i j=>some (.bl (decide (i<=j)))
noncomputable def gtD:D->D->Option D:=int2 fun i j=>some (.bl (decide (j<i)))
noncomputable def geD:D->D->Option D:=int2 fun i j=>some (.bl (decide (j<=i)))
theorem xx2 {K:W.Frag}:OpD K (rI0 fun i j=>.int (i-j)) subD:=zz8 fun F i j=>.int _
theorem xx5 {K:W.Frag}:OpD K (rI CMul fun i j=>.int (i*j)) mulD:=zu7 (fun i j h=>by
 unfold P6 at h
 simp only[Bool.or_eq_true,Bool.and_eq_true,decide_eq_true_eq]at h
 exact h) fun F i j=>.int _
theorem yk7 {K:W.Frag}:OpD K (rI CDiv fun i j=>.int (i / j)) M1:=zu7 (fun i j h=>by
 unfold L4 at h
 simp only[Bool.and_eq_true,decide_eq_true_eq]at h
 exact h) fun F i j=>.int _
theorem xx6 {K:W.Frag}:OpD K (rI (fun _ j=>0<j) fun i j=>.int (i % j)) modD:=zu7 (fun i j h=>of_decide_eq_true h) fun F i j=>.int _
theorem xx4 {K:W.Frag}:OpD K (rI CPow fun i j=>.int (i^j.toNat)) powD:=zu7 (fun i j h=>by
 unfold zu1 at h
 simp only[Bool.and_eq_true,decide_eq_true_eq]at h
 exact⟨h.1.1,h.1.2,h.2⟩) fun F i j=>.int _
theorem xx3 {K:W.Frag}:OpD K (rI (fun _ j=>0<=j) fun i j=>.int (i / 2^j.toNat)) shrD:=zu7 (fun i j h=>of_decide_eq_true h) fun F i j=>.int _
theorem xm4 {K:W.Frag}:OpD K (rI0 fun i j=>.bl (decide (i<j))) ltD:=zz8 fun F i j=>.bl _
theorem xm5 {K:W.Frag}:OpD K (rI0 fun i j=>.bl (decide (j<i))) gtD:=zz8 fun F i j=>.bl _
theorem G5 {K:W.Frag}:OpD K (rI0 fun i j=>.bl (decide (j<=i))) geD:=zz8 fun F i j=>.bl _
noncomputable def eqS:D->D->Option Bool
 | .non,.non=>some true| .non,.int _=>some false| .int _,.non=>some false| .non,.bl _=>some false| .bl _,.non=>some false| .non,.str _=>some false| .str _,.non=>some false
 | .int i,.int j=>some (i==j)| .bl i,.bl j=>some (i==j)| .str i,.str j=>some (i==j)
 | .int _,.str _=>some false| .str _,.int _=>some false| .bl _,.str _=>some false| .str _,.bl _=>some false
 |_,_=>none
noncomputable def eqSD (d e:D):Option D:=(eqS d e).map .bl
noncomputable def neSD (d e:D):Option D:=(eqS d e).map fun b=>.bl (!b)
noncomputable def scV:D->V
 | .bl b=>.bl b| .int i=>.int i| .str x=>.str x|_=>.non
theorem ys6 {d e:D}{k:Bool}(h:eqS d e=some k):scal (scV d) (scV e)=true/\decide (scV d=scV e)=k:=by
 cases d with
 |non=>cases e <;> cases h <;> exact⟨rfl,rfl⟩
 |bl i=>
  cases e <;> cases h
  .exact⟨rfl,rfl⟩
  .exact⟨rfl,yr0⟩
  .exact⟨rfl,rfl⟩
 |int i=>
  cases e <;> cases h
  .exact⟨rfl,rfl⟩
  .exact⟨rfl,zn1⟩
  .exact⟨rfl,rfl⟩
 |str i=>
  cases e <;> cases h
  .exact⟨rfl,rfl⟩
  .exact⟨rfl,rfl⟩
  .exact⟨rfl,rfl⟩
  .exact⟨rfl,zn0⟩
 |_=>cases h
theorem zd2 {d e:D}{k:Bool}(h:eqS d e=some k){K:W.Frag}{F:Hp}{x:V}(r:Rep K F x d):x=scV d:=by
 cases d with
 |non=>exact r.n'
 |bl i=>exact r.b'
 |int i=>exact r.i'
 |str i=>exact r.s'
 |_=>cases h
theorem zo9 (d e:D)(k:Bool)(h:eqS d e=some k):∃ j,eqS e d=some j:=by
 cases d with
 |non=>cases e <;> cases h <;> exact⟨_,rfl⟩
 |bl i=>cases e <;> cases h <;> exact⟨_,rfl⟩
 |int i=>cases e <;> cases h <;> exact⟨_,rfl⟩
 |str i=>cases e <;> cases h <;> exact⟨_,rfl⟩
 |_=>cases h
theorem S2 {K:W.Frag}:OpD K rEq eqSD:=by
 intro F H x y d e w Q s z j h q
 unfold eqSD at h
 cases hk:eqS d e with
 |none=>rw[hk]at h;cases h
 |some k=>
  rw[hk]at h
  cases h
  obtain⟨G,i⟩:=zo9 d e k hk
  obtain⟨h1,h2⟩:=ys6 hk
  rw[zd2 hk z,zd2 i j]
  refine⟨h1,?_⟩
  rw[h2]
  exact q _ F H (.refl s) (.bl _)
theorem zz9 {K:W.Frag}:OpD K rNe neSD:=by
 intro F H x y d e w Q s z j h q
 unfold neSD at h
 cases hk:eqS d e with
 |none=>rw[hk]at h;cases h
 |some k=>
  rw[hk]at h
  cases h
  obtain⟨G,i⟩:=zo9 d e k hk
  obtain⟨h1,h2⟩:=ys6 hk
  rw[zd2 hk z,zd2 i j]
  refine⟨h1,?_⟩
  rw[h2]
  exact q _ F H (.refl s) (.bl _)
noncomputable def m1 (f:D->Option D)(x:ME):ME:=fun ρ=>(x ρ).bind f
noncomputable def negD:D->Option D
 | .int i=>some (.int (-i))
 |_=>none
theorem yv9 {f:D->Option D}{ρ:Ro}{g:D}(h:m1 f ma ρ=some g):∃ d,ma ρ=some d/\f d=some g:=by
 unfold m1 at h
 cases h1:ma ρ with
 |none=>rw[h1]at h;cases h
 |some d=>rw[h1]at h;exact⟨d,rfl,h⟩
theorem zi2 (ha:PD X a ma):PD X (.UnaryOp .USub a pos) (m1 negD ma):=(xb0 xq2 ha).imp fun σ H Q i=>by
 obtain⟨F0,H0,F,ρ,g,rl,e,q⟩:=i
 obtain⟨d,h1,h2⟩:=yv9 e
 refine⟨F0,H0,F,ρ,d,rl,h1,fun x F1 H1 j z=>?_⟩
 cases z <;> first| (cases h2;done)|skip
 cases h2
 exact⟨_,rfl,q _ F1 H1 j (.int _)⟩
noncomputable def notD:D->Option D
 | .bl b=>some (.bl (!b))
 |_=>none
theorem ye3 (ha:PD X a ma):PD X (.UnaryOp .Not a pos) (m1 notD ma):=(xn5 ha).imp fun σ H Q i=>by
 obtain⟨F0,H0,F,ρ,g,rl,e,q⟩:=i
 obtain⟨d,h1,h2⟩:=yv9 e
 refine⟨F0,H0,F,ρ,d,rl,h1,fun x F1 H1 j z=>?_⟩
 cases z <;> first| (cases h2;done)|skip
 cases h2
 exact⟨_,rfl,q _ F1 H1 j (.bl _)⟩
noncomputable def mand (x y:ME):ME:=fun ρ=>match x ρ with |some (.bl true)=>y ρ|some (.bl false)=>some (.bl false)|_=>none
theorem zu4 {op}(h:PD X a ma):PD X (.BoolOp op [a] pos) ma:=ye1 h
theorem G4 {rest:List Expr}(ha:PD X a ma)(L:PD X (.BoolOp .And (b::rest) pos) mb):PD X (.BoolOp .And (a::b::rest) pos) (mand ma mb):=(xn7 ha L).imp fun σ H Q i=>by
 obtain⟨F0,H0,F,ρ,g,rl,e,q⟩:=i
 unfold mand at e
 split at e
 .rename_i h1
  refine⟨F0,H0,F,ρ,_,rl,h1,fun x F1 H1 j z=>?_⟩
  cases z
  refine⟨true,rfl,?_⟩
  refine iteT ?_
  exact⟨F0,H0,F1,ρ,g,rl.go j,e,fun y F2 H2 G I=>q y F2 H2 (j.trans G) I⟩
 .rename_i h1
  cases e
  refine⟨F0,H0,F,ρ,_,rl,h1,fun x F1 H1 j z=>?_⟩
  cases z
  refine⟨false,rfl,?_⟩
  refine iteF ?_
  exact q _ F1 H1 j (.bl _)
 .cases e
noncomputable def truD:D->Option Bool
 | .non=>some false
 | .bl b=>some b
 | .int i=>some (i != 0)
 | .str y=>if y.length<=sizeLine then some ((y.length:Int) != 0)else none
 | .lst ds=>some (!ds.isEmpty)
 | .tup ds=>some (!ds.isEmpty)
 | .exc _=>none
 | .ptr _=>none
 | .obj _ _ _=>none
noncomputable def mtru (m:ME):MB:=fun ρ=>(m ρ).bind truD
theorem W0 {K:W.Frag}{F:Hp}{vs:List V}{ds:List D}(h:Reps K F vs ds):(!ds.isEmpty)= !vs.isEmpty:=by cases h <;> rfl
theorem V0 (ha:PD X a ma)(L:∀ i,isTrue a X.env i=(do let v ← i;standAt a.pos;holding [v] (truthy v)):=by intro _;rfl):PC' X a (mtru ma):=(ym1 ha L).imp fun σ H Q j=>by
 obtain⟨F0,H0,F,ρ,b,rl,e,q⟩:=j
 unfold mtru at e
 cases h1:ma ρ with
 |none=>rw[h1]at e;cases e
 |some d=>
  rw[h1]at e
  refine⟨F0,H0,F,ρ,d,rl,h1,fun x F1 H1 z I=>⟨b,?_,q F1 H1 z⟩⟩
  cases I with
  |non=>cases e;rfl
  |bl=>cases e;rfl
  |int=>cases e;rfl
  |str x=>
   have e:(if x.length<=sizeLine then some ((x.length:Int) != 0)else none)=some b:=e
   split at e
   .rename_i hz
    cases e
    exact⟨hz,rfl⟩
   .cases e
  |lst s G=>cases e;exact .inl ⟨_,z.fh.seq s,W0 G⟩
  |tup s G=>cases e;exact .inr (.inl ⟨_,z.fh.seqT s,W0 G⟩)
  |exc=>cases e
  |ptr=>cases e
  |obj=>cases e
variable {ca cb:MB}
noncomputable def cand (x y:MB):MB:=fun ρ=>match x ρ with |some true=>y ρ|some false=>some false|none=>none
noncomputable def cor (x y:MB):MB:=fun ρ=>match x ρ with |some true=>some true|some false=>y ρ|none=>none
noncomputable def cnot (x:MB):MB:=fun ρ=>(x ρ).map (!·)
theorem pc_w (h:PCw X a ca):PC' X a ca:=h.pt
theorem za8 (h:PC' X a ca):PCw X (.BoolOp .And [a] pos) ca:=xz2 h
theorem zj4 (h:PC' X a ca):PCw X (.BoolOp .Or [a] pos) ca:=xo2 h
theorem yx4 {rest:List Expr}(ha:PC' X a ca)(G:PCw X (.BoolOp .And (b::rest) pos) cb):PCw X (.BoolOp .And (a::b::rest) pos) (cand ca cb):=(xo3 ha G).imp fun σ H Q i=>by
 obtain⟨F0,H0,F,ρ,g,rl,e,q⟩:=i
 unfold cand at e
 split at e
 .rename_i h1
  refine⟨F0,H0,F,ρ,_,rl,h1,fun F1 H1 j=>?_⟩
  refine iteT ?_
  exact⟨F0,H0,F1,ρ,g,rl.go j,e,fun F2 H2 z=>q F2 H2 (j.trans z)⟩
 .rename_i h1
  cases e
  refine⟨F0,H0,F,ρ,_,rl,h1,fun F1 H1 j=>?_⟩
  refine iteF ?_
  exact q F1 H1 j
 .cases e
theorem zu5 {rest:List Expr}(ha:PC' X a ca)(G:PCw X (.BoolOp .Or (b::rest) pos) cb):PCw X (.BoolOp .Or (a::b::rest) pos) (cor ca cb):=(xc9 ha G).imp fun σ H Q i=>by
 obtain⟨F0,H0,F,ρ,g,rl,e,q⟩:=i
 unfold cor at e
 split at e
 .rename_i h1
  cases e
  refine⟨F0,H0,F,ρ,_,rl,h1,fun F1 H1 j=>?_⟩
  refine iteT ?_
  exact q F1 H1 j
 .rename_i h1
  refine⟨F0,H0,F,ρ,_,rl,h1,fun F1 H1 j=>?_⟩
  refine iteF ?_
  exact⟨F0,H0,F1,ρ,g,rl.go j,e,fun F2 H2 z=>q F2 H2 (j.trans z)⟩
 .cases e
theorem zu6 (ha:PC' X a ca):PC' X (.UnaryOp .Not a pos) (cnot ca):=(xo5 ha).imp fun σ H Q i=>by
 obtain⟨F0,H0,F,ρ,g,rl,e,q⟩:=i
 unfold cnot at e
 cases h1:ca ρ with
 |none=>rw[h1]at e;cases e
 |some k=>
  rw[h1]at e;cases e
  exact⟨F0,H0,F,ρ,k,rl,h1,fun F1 H1 j=>q F1 H1 j⟩
noncomputable def mite (c:MB)(x y:ME):ME:=fun ρ=>match c ρ with |some true=>x ρ|some false=>y ρ|none=>none
theorem ye5 (G:PC' X c ca)(ha:PD X a ma)(I:PD X b mb):PD X (.IfExp c a b pos) (mite ca ma mb):=(yk3 G ha I).imp fun σ H Q j=>by
 obtain⟨F0,H0,F,ρ,g,rl,e,q⟩:=j
 unfold mite at e
 split at e
 .rename_i h1
  refine⟨F0,H0,F,ρ,_,rl,h1,fun F1 H1 i=>?_⟩
  refine iteT ?_
  exact⟨F0,H0,F1,ρ,g,rl.go i,e,fun v F2 H2 z=>q v F2 H2 (i.trans z)⟩
 .rename_i h1
  refine⟨F0,H0,F,ρ,_,rl,h1,fun F1 H1 i=>?_⟩
  refine iteF ?_
  exact⟨F0,H0,F1,ρ,g,rl.go i,e,fun v F2 H2 z=>q v F2 H2 (i.trans z)⟩
 .cases e
noncomputable def anil:ML:=fun _=>some []
@[irreducible] noncomputable def z4 (x:ME)(r:ML):ML:=fun ρ=>(x ρ).bind fun d=>(r ρ).bind fun ds=>some (d::ds)
theorem A2 {r:ML}{ρ:Ro}{i:List D}(h:z4 ma r ρ=some i):∃ d ds,ma ρ=some d/\r ρ=some ds/\i=d::ds:=by
 unfold z4 at h
 cases h1:ma ρ with
 |none=>rw[h1]at h;cases h
 |some d=>
  cases h2:r ρ with
  |none=>rw[h1,h2]at h;cases h
  |some ds=>rw[h1,h2]at h;cases h;exact⟨d,ds,rfl,rfl,rfl⟩
theorem z5:PAs X [] anil:=pa_nil.imp fun σ H Q i=>by
 obtain⟨F0,H0,F,ρ,g,rl,e,q⟩:=i
 cases e;exact q [] F H (.refl rl.fh) .nil
theorem z0 {es:List Expr}{m:ML}(ha:PD X a ma)(L:PAs X es m)(hs:starEach (a::es) X.env=(false,eval a X.env)::starEach es X.env:=by rfl):PAs X (a::es) (z4 ma m):=(k4 ha L hs).imp fun σ H Q i=>by
 obtain⟨F0,H0,F,ρ,g,rl,e,q⟩:=i
 obtain⟨d,ds,h1,h2,rfl⟩:=A2 e
 refine⟨F0,H0,F,ρ,d,rl,h1,fun x F1 H1 z I=>⟨F0,H0,F1,ρ,ds,rl.go z,h2,fun xs F2 H2 j G=>?_⟩⟩
 exact q _ F2 H2 (z.trans j) (.cons (I.mono j.ff) G)
@[irreducible] noncomputable def w5 (m:ML):ML:=fun ρ=>match m ρ with |some ds=>if ds.length<=sizeLine then some ds else none|none=>none
theorem C7 {m:ML}{ρ:Ro}{i:List D}(h:w5 m ρ=some i):m ρ=some i/\i.length<=sizeLine:=by
 unfold w5 at h
 cases h1:m ρ with
 |none=>rw[h1]at h;cases h
 |some ds=>
  rw[h1]at h
  have h:(if ds.length<=sizeLine then some ds else none)=some i:=h
  split at h
  .rename_i hz;cases h;exact⟨rfl,hz⟩
  .cases h
theorem w8 {es:List Expr}{m:ML}(h:PAs X es m):PF X (.List es pos) (w5 m):=(xn6 h).imp fun σ H Q i=>by
 obtain⟨F0,H0,F,ρ,g,rl,e,q⟩:=i
 obtain⟨h1,h2⟩:=C7 e
 refine⟨F0,H0,F,ρ,g,rl,h1,fun vs F1 H1 j z=>⟨by rw[z.length];exact h2,fun p hp=>?_⟩⟩
 exact q p vs F1 _ (j.trans (Ext.own j.fh hp)) (j.hh.free hp) (j.fh.free hp) z9 z
noncomputable def mtup (m:ML):ME:=fun ρ=>(w5 m ρ).map .tup
theorem S1 {es:List Expr}{m:ML}{k:Nat}(h:PAs X es m):PD X (.Tuple es k pos) (mtup m):=(ye0 h).imp fun σ H Q i=>by
 obtain⟨F0,H0,F,ρ,g,rl,e,q⟩:=i
 unfold mtup at e
 cases h1:w5 m ρ with
 |none=>rw[h1]at e;cases e
 |some ds=>
  rw[h1]at e;cases e
  obtain⟨h1,h2⟩:=C7 h1
  refine⟨F0,H0,F,ρ,ds,rl,h1,fun vs F1 H1 j z=>⟨by rw[z.length];exact h2,fun p hp=>?_⟩⟩
  exact q _ _ _ (j.trans (Ext.laid j.fh hp)) (.tup (SqT.of z9) (z.mono ((Same.refl F1).put (j.fh.free hp))))
noncomputable def mlen (m:ML):ME:=fun ρ=>(m ρ).map fun ds=>.int ds.length
@[irreducible] noncomputable def mix (m:ML)(i:ME):ME:=fun ρ=>(m ρ).bind fun ds=>(i ρ).bind fun| .int k=>atI ds k|_=>none
theorem zg5 {K:W.Frag}{F:Hp}{vs:List V}{ds:List D}{k:Int}{d:D}(r:Reps K F vs ds)(h:atI ds k=some d):∃ v,atI vs k=some v/\Rep K F v d:=by
 unfold atI at h ⊢
 rw[r.length]
 cases q:ixN ds.length k with
 |none=>rw[q]at h;cases h
 |some j=>
  rw[q]at h
  exact r.get h
theorem l7 {G:ML}(ha:PB X a G)(N:PD X b mb)(hs:zk3 b:=by exact fun _ _=>rfl):PD X (.Subscript a b pos) (mix G mb):=(D5 U3 ha N hs).imp fun σ H Q j=>by
 obtain⟨F0,H0,F,ρ,g,rl,e,q⟩:=j
 unfold mix at e
 cases h1:G ρ with
 |none=>rw[h1]at e;cases e
 |some ds=>
  cases h2:mb ρ with
  |none=>rw[h1,h2]at e;cases e
  |some i=>
   rw[h1,h2]at e
   refine⟨F0,H0,F,ρ,ds,rl,h1,fun p xs F1 H1 I s1 M=>⟨F0,H0,F1,ρ,i,rl.go I,h2,fun y F2 H2 z L=>?_⟩⟩
   cases L <;> first| (cases e;done)|skip
   rename_i k
   obtain⟨v,S,O⟩:=zg5 (M.mono z.ff) (show atI ds k=some g from e)
   exact⟨p,xs,k,v,rfl,rfl,z.hh.seq s1,S,q v F2 H2 (I.trans z) O⟩
theorem yh8 {K:W.Frag}{F:Hp}{vs:List V}{ds:List D}(r:Reps K F vs ds)(lo hi:Option Int):Reps K F (cutV vs lo hi) ((ds.drop (HT.sIx ds.length 0 lo)).take (HT.sIx ds.length ds.length hi-HT.sIx ds.length 0 lo)):=by
 unfold cutV
 rw[r.length]
 exact(r.drop _).take _
noncomputable def cutL (ds:List D)(lo hi:Option Int):List D:=(ds.drop (HT.sIx ds.length 0 lo)).take (HT.sIx ds.length ds.length hi-HT.sIx ds.length 0 lo)
noncomputable abbrev MO:=Ro->Option (Option Int)
noncomputable def yk9:MO:=fun _=>some none
noncomputable def yx7 (m:ME):MO:=fun ρ=>(m ρ).bind fun| .int i=>some (some i)|_=>none
noncomputable def TOs (K:W.Frag)(m:MO):TO:=fun σ H Q=>∃ F0 H0 F ρ i,Rl K F0 H0 F H σ ρ/\m ρ=some i/\∀ F' H',Ext F H F' H'->Q i H'
def POs (X:Cx)(e:Option Expr)(m:MO):Prop:=PO X e (TOs X.K m)
theorem PO.imp {e:Option Expr}{t t':TO}(h:PO X e t)(i:∀ σ H Q,t' σ H Q->t σ H Q):PO X e t':=fun pins s σ H Q I q=>h pins s σ H Q I (i σ H Q q)
theorem zi0:POs X none yk9:=PO.imp xy1 fun σ H Q j=>by obtain⟨F0,H0,F,ρ,i,rl,e,q⟩:=j;cases e;exact q F H (.refl rl.fh)
theorem zj9 (h:PD X a ma):POs X (some a) (yx7 ma):=PO.imp (xy0 h) fun σ H Q j=>by
 obtain⟨F0,H0,F,ρ,i,rl,e,q⟩:=j
 unfold yx7 at e
 cases h1:ma ρ with
 |none=>rw[h1]at e;cases e
 |some d=>
  rw[h1]at e
  refine⟨F0,H0,F,ρ,d,rl,h1,fun v F1 H1 z G=>?_⟩
  cases G <;> first| (cases e;done)|skip
  cases e
  exact⟨_,rfl,q F1 H1 z⟩
@[irreducible] noncomputable def mcut (m:ML)(lo hi:MO):ML:=fun ρ=>(m ρ).bind fun ds=>(lo ρ).bind fun l=>(hi ρ).bind fun h=>some (cutL ds l h)
theorem xn2 {L:ML}{lo hi:Option Expr}{l h:MO}(ha:PB X a L)(Y:POs X lo l)(hh:POs X hi h)(S:PE X e (tSl (rSlL X.K) (TB X.K L) (TOs X.K l) (TOs X.K h))):PF X e (mcut L l h):=S.imp fun σ H Q G=>by
 obtain⟨F0,H0,F,ρ,g,rl,e,q⟩:=G
 unfold mcut at e
 cases h1:L ρ with
 |none=>rw[h1]at e;cases e
 |some ds=>
  cases h2:l ρ with
  |none=>rw[h1,h2]at e;cases e
  |some i=>
   cases h3:h ρ with
   |none=>rw[h1,h2,h3]at e;cases e
   |some j=>
    rw[h1,h2,h3]at e;cases e
    refine⟨F0,H0,F,ρ,ds,rl,h1,fun p xs F1 H1 M s1 O=>⟨F0,H0,F1,ρ,i,rl.go M,h2,fun F2 H2 I=>⟨F0,H0,F2,ρ,j,(rl.go M).go I,h3,fun U Z z=>?_⟩⟩⟩
    refine⟨p,xs,rfl,z.hh.seq (I.hh.seq s1),fun w hw=>?_⟩
    have N:=(M.trans I).trans z
    exact q w _ U _ (N.trans (Ext.own z.fh hw)) (N.hh.free hw) (z.fh.free hw) z9 (yh8 (O.mono (I.ff.trans z.ff)) i j)
end
end
section
theorem zt8 (l:Addr)(j:Array Value)(n:Nat)(b:Addr)(i:Array Value)(I:Nat)(O G:Option Addr)(sl z:Array (Option Value))(M:j.size+i.size<=sizeLine):
  Meets (Builtin.«list.__add__» ⟨[.ref l,.ref b],[]⟩) (fun _ R s=>s.heap.get? l=some { cls:=.type "list",dict:=O,data:=.seq j n,slots:=sl }/\s.heap.get? b=some { cls:=.type "list",dict:=G,data:=.seq i I,slots:=z }/\R (.ok (.ret (Value.ref s.heap.objs.size))) { s with heap:=s.heap.push { cls:=Value.type "list",data:=Data.seq (j++i) },toks:=s.toks }):=
 .of_wp fun prog w A R s h=>by obtain⟨hp,g,d,tk,os⟩:=s;obtain⟨L,N,h⟩:=h;have f1:=AutoSeq1.idx_int;have Z:=AutoSeq1.sub_tuple_tuple;have Y:=AutoSeq1.sub_list_list;have U:=AutoSeq1.sub_tuple_list;have S:=AutoSeq1.sub_list_tuple;wp_walk using AutoSeq1.wpAny_loadPart' L,AutoSeq1.wpAny_loadPart' N;exact⟨_,rfl,h⟩
section
variable {X:Cx}{a b c e:Expr}{ma mb:ME}{pos:Pos}
def xo1 (K:W.Frag):R2:=fun x y H Q=>∃ l b xs zs,x= .ref l/\y= .ref b/\SqL K H l xs/\SqL K H b zs/\xs.length+zs.length<=sizeLine/\∀ p,H p=none->Q (.ref p) (upd H p (.lst (xs++zs)))
theorem yx9:OpR X (binaryOp .Add) (xo1 X.K):=by
 intro pins s σ H x y v u Q I U S h
 obtain⟨l,b,xs,zs,rfl,rfl,Z,hB,hz,q⟩:=h
 cases U
 cases S
 obtain⟨its,r,⟨⟨cl,dd,dt,sl⟩,n,e,O,hd,hs⟩,z⟩:=I.list Z
 obtain⟨i,N,⟨⟨a2,a1,a0,M⟩,Y,e2,L,G,j⟩,z2⟩:=I.list hB
 simp only at O hd hs L G j
 subst O hd hs L G j
 have l1:=r.length
 have l2:=N.length
 refine concat_meets (T:="list") ⟨_,e,rfl⟩ ⟨_,e2,rfl⟩ PySem.noFill_list_add PySem.seq_list_add F.slot_list_add F.entry_list_add (F.args_list_add_2 _ _) (zt8 l its.toArray n b i.toArray Y none none sl M (by rw[size_toArray,size_toArray];omega)) ⟨e,e2,?_⟩
 have ea:its.toArray++i.toArray=(its++i).toArray:=by simp
 rw[ea]
 exact⟨.ref _,_,I.lnew (t':=s.toks) (r.append N) (by rw[length_append];omega),rfl,q _ I.fresh⟩
@[irreducible] noncomputable def mcat (x y:ML):ML:=fun ρ=>(x ρ).bind fun ds=>(y ρ).bind fun es=>if ds.length+es.length<=sizeLine then some (ds++es)else none
theorem yv1 {x y:ML}{ρ:Ro}{i:List D}(h:mcat x y ρ=some i):∃ ds es,x ρ=some ds/\y ρ=some es/\ds.length+es.length<=sizeLine/\i=ds++es:=by
 unfold mcat at h
 cases h1:x ρ with
 |none=>rw[h1]at h;cases h
 |some ds=>
  cases h2:y ρ with
  |none=>rw[h1,h2]at h;cases h
  |some es=>
   rw[h1,h2]at h
   have h:(if ds.length+es.length<=sizeLine then some (ds++es)else none)=some i:=h
   split at h
   .rename_i hz;cases h;exact⟨ds,es,rfl,rfl,hz,rfl⟩
   .cases h
theorem T1 {x y:ML}(ha:PB X a x)(N:PB X b y):PF X (.BinOp a .Add b pos) (mcat x y):=(xy6 yx9 ha N).imp fun σ H Q j=>by
 obtain⟨F0,H0,F,ρ,g,rl,e,q⟩:=j
 obtain⟨ds,es,h1,h2,M,rfl⟩:=yv1 e
 refine⟨F0,H0,F,ρ,ds,rl,h1,fun p xs F1 H1 G s1 L=>⟨F0,H0,F1,ρ,es,rl.go G,h2,fun p2 ys F2 H2 i s2 I=>?_⟩⟩
 refine⟨p,p2,xs,ys,rfl,rfl,i.hh.seq s1,s2,by rw[L.length,I.length];exact M,fun w hw=>?_⟩
 have z:=G.trans i
 exact q w _ F2 _ (z.trans (Ext.own i.fh hw)) (z.hh.free hw) (i.fh.free hw) z9 ((L.mono i.ff).append I)
noncomputable def addD:D->D->Option D
 | .int i,.int j=>some (.int (i+j))
 | .lst ds,.lst es=>if ds.length+es.length<=sizeLine then some (.lst (ds++es))else none
 |_,_=>none
theorem xx8 {K:W.Frag}:OpD K (fun x y H Q=>(rI0 fun i j=>V.int (i+j)) x y H Q\/xo1 K x y H Q) addD:=by
 intro F H x y d e w Q s O N h q
 cases d with
 |int i=>
  cases e with
  |int j=>
   cases h
   exact .inl ⟨_,_,O.i',N.i',q _ F H (.refl s) (.int _)⟩
  |_=>cases h
 |lst G=>
  cases e with
  |lst z=>
   obtain⟨p1,U,e1,s1,M⟩:=O.l'
   obtain⟨p2,S,e2,s2,L⟩:=N.l'
   have h:(if G.length+z.length<=sizeLine then some (D.lst (G++z))else none)=some w:=h
   by_cases I:G.length+z.length<=sizeLine
   .rw[if_pos I]at h
    cases h
    refine .inr ⟨_,_,_,_,e1,e2,s.seq s1,s.seq s2,by rw[M.length,L.length];exact I,fun p hp=>?_⟩
    exact q _ _ _ (Ext.laid s hp) (.lst (SqL.of z9) ((M.append L).mono ((Same.refl F).put (s.free hp))))
   .rw[if_neg I]at h;cases h
  |_=>cases h
 |_=>cases h
theorem j4 (ha:PD X a ma)(i:PD X b mb):PD X (.BinOp a .Add b pos) (m2 addD ma mb):=zp1 (OpR.or xk3 yx9) xx8 ha i
theorem f7 (ha:PD X a ma)(i:PD X b mb):PD X (.BinOp a .Sub b pos) (m2 subD ma mb):=zp1 xm6 xx2 ha i
theorem M7 (ha:PD X a ma)(i:PD X b mb):PD X (.BinOp a .Mult b pos) (m2 mulD ma mb):=zp1 xk0 xx5 ha i
theorem U1 (ha:PD X a ma)(i:PD X b mb):PD X (.BinOp a .FloorDiv b pos) (m2 M1 ma mb):=zp1 xx9 yk7 ha i
theorem d9 (ha:PD X a ma)(i:PD X b mb):PD X (.BinOp a .Mod b pos) (m2 modD ma mb):=zp1 xk1 xx6 ha i
theorem G2 (ha:PD X a ma)(i:PD X b mb):PD X (.BinOp a .Pow b pos) (m2 powD ma mb):=zp1 xm9 xx4 ha i
theorem xn9 (ha:PD X a ma)(i:PD X b mb):PD X (.BinOp a .RShift b pos) (m2 shrD ma mb):=zp1 xm7 xx3 ha i
@[irreducible] noncomputable def c6 (f:List D->Option D)(m:ML):ME:=fun ρ=>(m ρ).bind f
def zc2 (K:W.Frag)(r:List V->Hp->VK->Prop)(f:List D->Option D):Prop:=∀(F H:Hp)(vs:List V)(ds:List D)(g:D)(Q:VK),Same F H->Reps K F vs ds->f ds=some g->(∀ v F' H',Ext F H F' H'->Rep K F' v g->Q v H')->r vs H Q
theorem A1 {r:List V->Hp->VK->Prop}{f:List D->Option D}{m:ML}(G:zc2 X.K r f){σ:St}{H:Hp}{Q:VK}(h:TD X.K (c6 f m) σ H Q):tCB r (TAs X.K m) σ H Q:=by
 obtain⟨F0,H0,F,ρ,g,rl,e,q⟩:=h
 unfold c6 at e
 cases h1:m ρ with
 |none=>rw[h1]at e;cases e
 |some ds=>
  rw[h1]at e
  exact⟨F0,H0,F,ρ,ds,rl,h1,fun vs F1 H1 i z=>G F1 H1 vs ds g Q i.fh z e fun v F' H' j=>q v F' H' (i.trans j)⟩
noncomputable def lenF:List D->Option D
 |[.lst ds]=>some (.int ds.length)
 |[.tup ds]=>some (.int ds.length)
 |[.str x]=>if x.length<=sizeLine then some (.int x.length)else none
 |_=>none
theorem yq1 {K:W.Frag}:zc2 K (fun xs H Q=>(∃ p ys,xs=[.ref p]/\(SqL K H p ys\/SqT K H p ys)/\Q (.int ys.length) H)\/(∃ z,xs=[.str z]/\z.length<=sizeLine/\Q (.int z.length) H)) lenF:=by
 intro F H vs ds g Q s r h q
 cases r with
 |nil=>cases h
 |cons r j=>
  cases j with
  |cons _ _=>revert h;unfold lenF;intro h;split at h <;> simp_all
  |nil=>
   cases r with
   |lst s1 i=>cases h;exact .inl ⟨_,_,rfl,.inl (s.seq s1),by rw[i.length];exact q _ F H (.refl s) (.int _)⟩
   |tup s1 i=>cases h;exact .inl ⟨_,_,rfl,.inr (s.seqT s1),by rw[i.length];exact q _ F H (.refl s) (.int _)⟩
   |str x=>
    have h:(if x.length<=sizeLine then some (D.int x.length)else none)=some g:=h
    split at h
    .rename_i hz;cases h;exact .inr ⟨_,rfl,hz,q _ F H (.refl s) (.int _)⟩
    .cases h
   |_=>cases h
theorem zi3 {e:Expr}{p:Pos}{m:ML}(j:Gl X "len")(hm:X.mg "len"=none)(ha:PAs X [e] m)(z:starEach [e] X.env=(false,eval e X.env)::starEach [] X.env:=by rfl)(i:(backTo pos (starEach [] X.env)).any (·.1)=false:=by rfl):PD X (.Call (.Name "len" p) [e] [] pos) (c6 lenF m):=
 (f6 (CallR.or L6 zr6) j hm PySem.boot_len ha (by decide) (by decide) z i).imp fun _ _ _ h=>A1 yq1 h
theorem k3 {e:Expr}{p:Pos}{m:ML}(I:Gl X "len")(hm:X.mg "len"=none)(ha:PB X e m)(hs:starEach (e::[]) X.env=(false,eval e X.env)::starEach [] X.env:=by rfl)(L:starEach [e] X.env=(false,eval e X.env)::starEach [] X.env:=by rfl)(j:(backTo pos (starEach [] X.env)).any (·.1)=false:=by rfl):PD X (.Call (.Name "len" p) [e] [] pos) (mlen m):=
 (f6 L6 I hm PySem.boot_len (k4 ha pa_nil hs) (by decide) (by decide) L j).imp fun σ H Q i=>by
  obtain⟨F0,H0,F,ρ,g,rl,e,q⟩:=i
  unfold mlen at e
  cases h1:m ρ with
  |none=>rw[h1]at e;cases e
  |some ds=>
   rw[h1]at e;cases e
   refine⟨F0,H0,F,ρ,ds,rl,h1,fun p xs F1 H1 z s1 G=>⟨p,xs,rfl,.inl s1,?_⟩⟩
   rw[G.length]
   exact q _ F1 H1 z (.int _)
noncomputable def absF:List D->Option D
 |[.int i]=>some (.int (if i<0 then -i else i))
 |_=>none
theorem yq3 {K:W.Frag}:zc2 K (fun xs H Q=>∃ i,xs=[.int i]/\Q (.int (if i<0 then -i else i)) H) absF:=by
 intro F H vs ds g Q s r h q
 cases r with
 |nil=>cases h
 |cons r j=>
  cases j with
  |cons _ _=>revert h;unfold absF;intro h;split at h <;> simp_all
  |nil=>
   cases r with
   |int i=>cases h;exact⟨_,rfl,q _ F H (.refl s) (.int _)⟩
   |_=>cases h
theorem xm3 {e:Expr}{p:Pos}{m:ML}(j:Gl X "abs")(hm:X.mg "abs"=none)(ha:PAs X [e] m)(z:starEach [e] X.env=(false,eval e X.env)::starEach [] X.env:=by rfl)(i:(backTo pos (starEach [] X.env)).any (·.1)=false:=by rfl):PD X (.Call (.Name "abs" p) [e] [] pos) (c6 absF m):=
 (f6 yg6 j hm PyProof.Rows.boot_abs ha (by decide) (by decide) z i).imp fun _ _ _ h=>A1 yq3 h
noncomputable def two2 (k:Int->Int->Int):List D->Option D
 |[.int i,.int j]=>some (.int (k i j))
 |_=>none
theorem yo6 {k:Int->Int->Int}{ds:List D}{g:D}(h:two2 k ds=some g):∃ i j,ds=[.int i,.int j]/\g= .int (k i j):=by
 cases ds with
 |nil=>cases h
 |cons d ds=>
  cases ds with
  |nil=>cases d <;> cases h
  |cons e ds=>
   cases ds with
   |cons f ds=>cases d <;> first| (cases h;done)| (cases e <;> cases h)
   |nil=>
    cases d with
    |int i=>
     cases e with
     |int j=>cases h;exact⟨i,j,rfl,rfl⟩
     |_=>cases h
    |_=>cases h
theorem zr4 {K:W.Frag}{k:Int->Int->Int}:zc2 K (fun xs H Q=>∃ i j,xs=[.int i,.int j]/\Q (.int (k i j)) H) (two2 k):=by
 intro F H vs ds g Q s r h q
 obtain⟨i,j,rfl,rfl⟩:=yo6 h
 cases r with
 |cons r z=>
  cases z with
  |cons G z=>
   cases z
   rw[r.i',G.i']
   exact⟨_,_,rfl,q _ F H (.refl s) (.int _)⟩
noncomputable def xw9:List D->Option D:=two2 fun i j=>if j>i then j else i
noncomputable def yj6:List D->Option D:=two2 fun i j=>if j<i then j else i
theorem xx1 {x y:Expr}{p:Pos}{m:ML}(L:X.calm=true)(G:Gl X "max")(hm:X.mg "max"=none)(ha:PAs X [x,y] m)(I:starEach [x,y] X.env=(false,eval x X.env)::starEach [y] X.env:=by rfl)(z:(backTo pos (starEach [y] X.env)).any (·.1)=false:=by rfl):PD X (.Call (.Name "max" p) [x,y] [] pos) (c6 xw9 m):=
 (f6 (yq6 L) G hm PyProof.Rows.boot_max ha (by decide) (by decide) I z).imp fun _ _ _ h=>A1 (zr4 (k:=fun i j=>if j>i then j else i)) h
theorem yy9 {x y:Expr}{p:Pos}{m:ML}(L:X.calm=true)(G:Gl X "min")(hm:X.mg "min"=none)(ha:PAs X [x,y] m)(I:starEach [x,y] X.env=(false,eval x X.env)::starEach [y] X.env:=by rfl)(z:(backTo pos (starEach [y] X.env)).any (·.1)=false:=by rfl):PD X (.Call (.Name "min" p) [x,y] [] pos) (c6 yj6 m):=
 (f6 (yq5 L) G hm PyProof.Rows.boot_min ha (by decide) (by decide) I z).imp fun _ _ _ h=>A1 (zr4 (k:=fun i j=>if j<i then j else i)) h
noncomputable def intF:List D->Option D
 |[.int i]=>some (.int i)
 |[.bl k]=>some (.int (if k then 1 else 0))
 |_=>none
theorem yq2 {K:W.Frag}:zc2 K (fun xs H Q=>(∃ i,xs=[.int i]/\Q (.int i) H)\/∃ k,xs=[.bl k]/\Q (.int (if k then 1 else 0)) H) intF:=by
 intro F H vs ds g Q s r h q
 cases r with
 |nil=>cases h
 |cons r j=>
  cases j with
  |cons _ _=>revert h;unfold intF;intro h;split at h <;> simp_all
  |nil=>
   cases r with
   |int i=>cases h;exact .inl ⟨_,rfl,q _ F H (.refl s) (.int _)⟩
   |bl i=>cases h;exact .inr ⟨_,rfl,q _ F H (.refl s) (.int _)⟩
   |_=>cases h
theorem yx1 {e:Expr}{p:Pos}{m:ML}(z:Gl X "int")(hm:X.mg "int"=none)(ha:PAs X [e] m)(j:bootBuiltins "int"=some (.type "int"))(G:starEach [e] X.env=(false,eval e X.env)::starEach [] X.env:=by rfl)(i:(backTo pos (starEach [] X.env)).any (·.1)=false:=by rfl):PD X (.Call (.Name "int" p) [e] [] pos) (c6 intF m):=
 (G1 yq8 z hm j ha (by decide) (by decide) G i).imp fun _ _ _ h=>A1 yq2 h
theorem xy5 {e:Expr}{p:Pos}{m:ML}(L:Gl X "list")(hm:X.mg "list"=none)(ha:PB X e m)(I:bootBuiltins "list"=some (.type "list"))(hs:starEach (e::[]) X.env=(false,eval e X.env)::starEach [] X.env:=by rfl)(z:(backTo pos (starEach [] X.env)).any (·.1)=false:=by rfl):PF X (.Call (.Name "list" p) [e] [] pos) m:=
 (G1 zr5 L hm I (k4 ha pa_nil hs) (by decide) (by decide) hs z).imp fun σ H Q i=>by
  obtain⟨F0,H0,F,ρ,ds,rl,e,q⟩:=i
  refine⟨F0,H0,F,ρ,ds,rl,e,fun p xs F1 H1 j s1 G=>⟨p,xs,rfl,.inl s1,fun w hw=>?_⟩⟩
  exact q w _ F1 _ (j.trans (Ext.own j.fh hw)) (j.hh.free hw) (j.fh.free hw) z9 G
end
end
section
inductive Out where
 |nx (ρ:Ro)|bk (ρ:Ro)|ct (ρ:Ro)|rt (d:D)|rf (ds:List D)|rp (d:D) (ds:List D)|rg (d:D) (p:Addr) (r:List D)|rgf (ds:List D) (p:Addr) (r:List D)
noncomputable abbrev MS:=Ro->Option Out
noncomputable def okO (K:W.Frag)(F0 H0 Fb:Hp)(Dn:Ends):Out->Prop
 | .nx ρ=>∀ F H σ,Rl K F0 H0 F H σ ρ->Same Fb F->Dn.nx σ H
 | .bk ρ=>∀ F H σ,Rl K F0 H0 F H σ ρ->Same Fb F->Dn.bk σ H
 | .ct ρ=>∀ F H σ,Rl K F0 H0 F H σ ρ->Same Fb F->Dn.ct σ H
 | .rt d=>∀ v F H,Ext F0 H0 F H->Rep K F v d->Dn.rt v H
 | .rf ds=>∀ p xs F H,Ext F0 H0 F H->H0 p=none->F p=none->H p=some (.lst xs)->Reps K F xs ds->Dn.rt (.ref p) H
 | .rp d ds=>∀ t v p xs F H,Ext F0 H0 F H->H0 t=none->H0 p=none->t≠p->F t=none->F p=none->H t=some (.tup [v,.ref p])->H p=some (.lst xs)->Rep K F v d->Reps K F xs ds->Dn.rt (.ref t) H
 | .rg d p r=>∀ v F H xs,Ext F0 H0 F H->Rep K F v d->F p=none->H p=some (.lst xs)->Reps K F xs r->Dn.rt v H
 | .rgf ds p r=>∀ q ys F H xs,Ext F0 H0 F H->H0 q=none->F q=none->q≠p->H q=some (.lst ys)->Reps K F ys ds->F p=none->H p=some (.lst xs)->Reps K F xs r->Dn.rt (.ref q) H
def TSd (K:W.Frag)(m:MS):TS:=fun Dn σ H=>∃ F0 H0 F ρ o,Rl K F0 H0 F H σ ρ/\m ρ=some o/\okO K F0 H0 F Dn o
theorem okO.mono {K:W.Frag}{F0 H0 j i:Hp}{Dn:Ends}(s:Same j i):∀{o:Out},okO K F0 H0 j Dn o->okO K F0 H0 i Dn o
 | .nx _,h=>fun F H σ rl q=>h F H σ rl (s.trans q)
 | .bk _,h=>fun F H σ rl q=>h F H σ rl (s.trans q)
 | .ct _,h=>fun F H σ rl q=>h F H σ rl (s.trans q)
 | .rt _,h=>h
 | .rf _,h=>h
 | .rp _ _,h=>h
 | .rg _ _ _,h=>h
 | .rgf _ _ _,h=>h
def PSd (X:Cx)(st:Stmt)(m:MS):Prop:=PS X st (TSd X.K m)
def PSsd (X:Cx)(st:List Stmt)(m:MS):Prop:=PSs X st (TSd X.K m)
section
variable {X:Cx}{a b c e:Expr}{ma mb:ME}{pos:Pos}{st:Stmt}{rest:List Stmt}{m1 m2':MS}
theorem PS.imp {t t':TS}(h:PS X st t)(i:∀ D σ H,t' D σ H->t D σ H):PS X st t':=fun pins s σ H D I q=>h pins s σ H D I (i D σ H q)
theorem PSs.imp {j:List Stmt}{t t':TS}(h:PSs X j t)(i:∀ D σ H,t' D σ H->t D σ H):PSs X j t':=fun pins s σ H D I q=>h pins s σ H D I (i D σ H q)
noncomputable def U2:MS:=fun ρ=>some (.nx ρ)
noncomputable def mseq (x y:MS):MS:=fun ρ=>match x ρ with |some (.nx ρ')=>y ρ'|o=>o
theorem j7:PSsd X [] U2:=pss_nil.imp fun D σ H i=>by obtain⟨F0,H0,F,ρ,o,rl,e,ok⟩:=i;cases e;exact ok F H σ rl (Same.refl _)
theorem z7 (h1:PSd X st m1)(h2:PSsd X rest m2'):PSsd X (st::rest) (mseq m1 m2'):=(zz2 h1 h2).imp fun D σ H i=>by
 obtain⟨F0,H0,F,ρ,o,rl,e,ok⟩:=i
 unfold mseq at e
 cases h:m1 ρ with
 |none=>rw[h]at e;cases e
 |some I=>
  rw[h]at e
  cases I with
  |nx ρ1=>exact⟨F0,H0,F,ρ,_,rl,h,fun F' H' z j G=>⟨F0,H0,F',ρ1,o,j,e,ok.mono G⟩⟩
  |bk ρ1=>cases e;exact⟨F0,H0,F,ρ,_,rl,h,ok⟩
  |ct ρ1=>cases e;exact⟨F0,H0,F,ρ,_,rl,h,ok⟩
  |rt d=>cases e;exact⟨F0,H0,F,ρ,_,rl,h,ok⟩
  |rf d=>cases e;exact⟨F0,H0,F,ρ,_,rl,h,ok⟩
  |rp d ds=>cases e;exact⟨F0,H0,F,ρ,_,rl,h,ok⟩
  |rg d p r=>cases e;exact⟨F0,H0,F,ρ,_,rl,h,ok⟩
  |rgf d p r=>cases e;exact⟨F0,H0,F,ρ,_,rl,h,ok⟩
theorem y6 (h1:PSd X st m1):PSsd X [st] m1:=yz2 h1
noncomputable def mif (c:MB)(x y:MS):MS:=fun ρ=>match c ρ with |some true=>x ρ|some false=>y ρ|none=>none
theorem X9 {ca:MB}{x y:List Stmt}{mx z:MS}(L:PC' X c ca)(I:PSsd X x mx)(G:PSsd X y z):PSd X (.If c x y pos) (mif ca mx z):=(xo8 L I G).imp fun D σ H j=>by
 obtain⟨F0,H0,F,ρ,o,rl,e,ok⟩:=j
 unfold mif at e
 split at e
 .rename_i h1
  refine⟨F0,H0,F,ρ,_,rl,h1,fun F1 H1 i=>iteT ⟨F0,H0,F1,ρ,o,rl.go i,e,ok.mono i.ff⟩⟩
 .rename_i h1
  refine⟨F0,H0,F,ρ,_,rl,h1,fun F1 H1 i=>iteF ⟨F0,H0,F1,ρ,o,rl.go i,e,ok.mono i.ff⟩⟩
 .cases e
noncomputable def zi6:MS:=fun _=>none
theorem zu0:PSd X st zi6:=ps_never.imp fun D σ H i=>by obtain⟨F0,H0,F,ρ,o,rl,e,ok⟩:=i;cases e
noncomputable def mset (i:Nat)(x:ME):MS:=fun ρ=>(x ρ).map fun d=>.nx (ρ.set i (some (.sh d)))
noncomputable def X6 (i:Nat)(x:ML):MS:=fun ρ=>(x ρ).map fun ds=>.nx (ρ.set i (some (.own ds)))
theorem xf0 {t:TE}{i:Nat}(h:PS X st (tAsg t (K2 i)))(I:∀ σ H Q,TD X.K ma σ H Q->t σ H Q):PSd X st (mset i ma):=h.imp fun D σ H j=>by
 obtain⟨F0,H0,F,ρ,o,rl,e,ok⟩:=j
 unfold mset at e
 cases h1:ma ρ with
 |none=>rw[h1]at e;cases e
 |some d=>
  rw[h1]at e;cases e
  exact I _ _ _ ⟨F0,H0,F,ρ,d,rl,h1,fun v F1 H1 z G=>ok F1 H1 _ ((rl.go z).set G) z.ff⟩
theorem wy3 {t:TE}{i:Nat}{mf:ML}(h:PS X st (tAsg t (K2 i)))(M:∀ σ H Q,TF X.K mf σ H Q->t σ H Q):PSd X st (X6 i mf):=h.imp fun D σ H G=>by
 obtain⟨F0,H0,F,ρ,o,rl,e,ok⟩:=G
 unfold X6 at e
 cases h1:mf ρ with
 |none=>rw[h1]at e;cases e
 |some ds=>
  rw[h1]at e;cases e
  refine M _ _ _ ⟨F0,H0,F,ρ,ds,rl,h1,fun p xs F1 H1 I hp O N L=>ok F1 H1 _ ?_ I.ff⟩
  refine(rl.go I).setOwn O N L (rl.ext.hh.free hp) (fun j es S e1 e2=>?_) fun j q es e1 z=>?_
  .obtain⟨q,ys,a1,a2,a3,_⟩:=rl.own j es e1
   rw[a1]at e2;cases e2
   rw[hp]at a3;cases a3
  .obtain⟨_,_,_,ys,a3,_⟩:=rl.ob j q es e1
   rw[z,hp]at a3;cases a3
theorem t5 {i:Nat}{x:Str}{pos':Pos}(I:X.N.Nodup)(hi:X.N[i]? =some x)(j:Loc X.env.scope x)(G:PD X e ma)(hs:swapsWith e (some (.Name x pos')) pos.line X.env=pure false:=by rfl)(z:X.fn x=true\/X.env.scope.names.lookup x=some .local:=by first|exact .inl rfl|exact .inr rfl|assumption):
  PSd X (.Assign [.Name x pos'] e pos) (mset i ma):=xf0 (yf9 I hi j G hs z) fun _ _ _ h=>h
theorem g9 {i:Nat}{x:Str}{pos':Pos}{mf:ML}(I:X.N.Nodup)(hi:X.N[i]? =some x)(j:Loc X.env.scope x)(G:PF X e mf)(hs:swapsWith e (some (.Name x pos')) pos.line X.env=pure false:=by rfl)(z:X.fn x=true\/X.env.scope.names.lookup x=some .local:=by first|exact .inl rfl|exact .inr rfl|assumption):
  PSd X (.Assign [.Name x pos'] e pos) (X6 i mf):=wy3 (yf9 I hi j G hs z) fun _ _ _ h=>h
noncomputable def zp7 (x:ME):MS:=fun ρ=>(x ρ).map fun _=>.nx ρ
theorem zj7 (z:PD X e ma)(hs:swapsWith e none pos.line X.env=pure false:=by rfl):PSd X (.Expr e pos) (zp7 ma):=(zq8 z hs).imp fun D σ H i=>by
 obtain⟨F0,H0,F,ρ,o,rl,e,ok⟩:=i
 unfold zp7 at e
 cases h1:ma ρ with
 |none=>rw[h1]at e;cases e
 |some d=>
  rw[h1]at e;cases e
  exact⟨F0,H0,F,ρ,d,rl,h1,fun v F1 H1 j G=>ok F1 H1 _ (rl.go j) j.ff⟩
noncomputable def mret (x:ME):MS:=fun ρ=>(x ρ).map .rt
noncomputable def zf8 (x:ML):MS:=fun ρ=>(x ρ).map .rf
noncomputable def D7 (i:Nat):MS:=fun ρ=>match ρ[i]? with |some (some (.own ds))=>some (.rf ds)|some (some (.sh d))=>some (.rt d)|_=>none
theorem l6 (G:PD X e ma):PSd X (.Return (some e) pos) (mret ma):=(zj8 G).imp fun D σ H i=>by
 obtain⟨F0,H0,F,ρ,o,rl,e,ok⟩:=i
 unfold mret at e
 cases h1:ma ρ with
 |none=>rw[h1]at e;cases e
 |some d=>
  rw[h1]at e;cases e
  exact⟨F0,H0,F,ρ,d,rl,h1,fun v F1 H1 j z=>ok v F1 H1 (rl.ext.trans j) z⟩
theorem zj5 {mf:ML}(G:PF X e mf):PSd X (.Return (some e) pos) (zf8 mf):=(zj8 G).imp fun D σ H i=>by
 obtain⟨F0,H0,F,ρ,o,rl,e,ok⟩:=i
 unfold zf8 at e
 cases h1:mf ρ with
 |none=>rw[h1]at e;cases e
 |some ds=>
  rw[h1]at e;cases e
  exact⟨F0,H0,F,ρ,ds,rl,h1,fun p xs F1 H1 j hp L I z=>ok p xs F1 H1 (rl.ext.trans j) (rl.ext.hh.free hp) L I z⟩
theorem K5 (i:Nat){x:Str}{pos':Pos}(h:PE X (.Name x pos') (tVar i)):PSd X (.Return (some (.Name x pos')) pos) (D7 i):=(zj8 h).imp fun D σ H j=>by
 obtain⟨F0,H0,F,ρ,o,rl,e,ok⟩:=j
 unfold D7 at e
 split at e
 .rename_i ds h1
  cases e
  obtain⟨p,xs,e1,e2,e3,G,z⟩:=rl.own i _ h1
  exact⟨_,e1,ok p xs F H rl.ext z e2 e3 G⟩
 .rename_i d h1
  cases e
  obtain⟨v,e1,e2⟩:=rl.sh i _ h1
  exact⟨_,e1,ok v F H rl.ext e2⟩
 .cases e
noncomputable def mapp (i:Nat)(x:ME):MS:=fun ρ=>match ρ[i]? with |some (some (.own ds))=>(x ρ).bind fun d=>if ds.length<sizeLine then some (.nx (ρ.set i (some (.own (ds++[d])))))else none|_=>none
theorem Y2 {i:Nat}{x:Str}{e:Expr}{G apos cpos:Pos}(O:PE X (.Name x G) (tVar i))(S:PD X e ma)
  (N:∀ t,PA X [e] t->PE X (.Call (.Attribute (.Name x G) "append" apos) [e] [] cpos) (tBM X.K "list" zq6 (tVar i) t)) (hA:PAs X [e] (z4 ma anil)) (hs:swapsWith (.Call (.Attribute (.Name x G) "append" apos) [e] [] cpos) none pos.line X.env=pure false:=by rfl):
  PSd X (.Expr (.Call (.Attribute (.Name x G) "append" apos) [e] [] cpos) pos) (mapp i ma):=(zq8 (N _ hA) hs).imp fun D σ H j=>by
 obtain⟨F0,H0,F,ρ,o,rl,e,ok⟩:=j
 unfold mapp at e
 split at e
 .rename_i ds h1
  obtain⟨p,xs,e1,e2,e3,I,U⟩:=rl.own i _ h1
  cases h2:ma ρ with
  |none=>rw[h2]at e;cases e
  |some d=>
   rw[h2]at e
   have e:(if ds.length<sizeLine then some (Out.nx (ρ.set i (some (.own (ds++[d])))))else none)=some o:=e
   split at e
   .rename_i hz
    cases e
    refine⟨_,e1,.inl ⟨rfl,_,SqL.of e3⟩,F0,H0,F,ρ,[d],rl,by unfold z4 anil;rw[h2];rfl,fun vs F1 H1 z M=>?_⟩
    cases M with
    |cons r L=>
     cases L
     have hp:H1 p=some (.lst xs):=z.hh _ _ e3
     exact⟨p,xs,_,rfl,rfl,hp,by rw[I.length];exact hz,ok F1 _ σ ((rl.go z).write h1 e1 ((I.mono z.ff).append (.cons r .nil))) z.ff⟩
   .cases e
 .cases e
noncomputable def S3 (i:Nat)(ix v:ME):MS:=fun ρ=>(v ρ).bind fun d=>match ρ[i]? with
 |some (some (.own ds))=>(ix ρ).bind (fun x=>match x with | .int k=>(ixN ds.length k).map fun j=>.nx (ρ.set i (some (.own (ds.set j d))))|_=>none)
 |some (some (.ob p ds))=>(ix ρ).bind (fun x=>match x with | .int k=>(ixN ds.length k).map fun j=>.nx (ρ.set i (some (.ob p (ds.set j d))))|_=>none)
 |_=>none
theorem P5 {i:Nat}(Y:PS X st (tAsg (TD X.K mb) (gSub (tVar i) (TD X.K ma) xz1))):PSd X st (S3 i ma mb):=Y.imp fun D σ H M=>by
 obtain⟨F0,H0,F,ρ,o,rl,e,ok⟩:=M
 unfold S3 at e
 cases h1:mb ρ with
 |none=>rw[h1]at e;cases e
 |some d=>
  rw[h1]at e
  refine⟨F0,H0,F,ρ,d,rl,h1,fun y F1 H1 I U=>?_⟩
  dsimp only[Option.bind]at e
  split at e
  .rename_i ds h2
   obtain⟨p,xs,e1,e2,e3,N,Z⟩:=(rl.go I).own i _ h2
   cases h3:ma ρ with
   |none=>rw[h3]at e;cases e
   |some S=>
    rw[h3]at e
    refine⟨_,e1,F0,H0,F1,ρ,S,rl.go I,h3,fun z F2 H2 G O=>?_⟩
    cases O <;> first| (cases e;done)|skip
    rename_i k
    have e:(ixN ds.length k).map (fun j=>Out.nx (ρ.set i (some (.own (ds.set j d)))))=some o:=e
    cases h4:ixN ds.length k with
    |none=>rw[h4]at e;cases e
    |some j=>
     rw[h4]at e;cases e
     have L:=(rl.go I).go G
     refine⟨p,xs,k,j,rfl,rfl,G.hh _ _ e3,by rw[N.length];exact h4,ok F2 _ σ (L.write h2 e1 (Reps.set (U.mono G.ff) j (N.mono G.ff))) (I.ff.trans G.ff)⟩
  .rename_i p ds h2
   obtain⟨e1,e2,Z,xs,e3,N⟩:=(rl.go I).ob i p _ h2
   cases h3:ma ρ with
   |none=>rw[h3]at e;cases e
   |some S=>
    rw[h3]at e
    refine⟨_,e1,F0,H0,F1,ρ,S,rl.go I,h3,fun z F2 H2 G O=>?_⟩
    cases O <;> first| (cases e;done)|skip
    rename_i k
    have e:(ixN ds.length k).map (fun j=>Out.nx (ρ.set i (some (.ob p (ds.set j d)))))=some o:=e
    cases h4:ixN ds.length k with
    |none=>rw[h4]at e;cases e
    |some j=>
     rw[h4]at e;cases e
     have L:=(rl.go I).go G
     refine⟨p,xs,k,j,rfl,rfl,G.hh _ _ e3,by rw[N.length];exact h4,ok F2 _ σ (L.writeB h2 (Reps.set (U.mono G.ff) j (N.mono G.ff))) (I.ff.trans G.ff)⟩
  .cases e
noncomputable def W5 (i:Nat)(m:MS):MS:=fun ρ=>match ρ[i]? with |some (some (.own ds))=>m (ρ.set i (some (.sh (.lst ds))))|_=>m ρ
theorem V9 (i:Nat){j:List Stmt}{m:MS}(h:PSsd X j m):PSsd X j (W5 i m):=h.imp fun D σ H z=>by
 obtain⟨F0,H0,F,ρ,o,rl,e,ok⟩:=z
 unfold W5 at e
 split at e
 .rename_i ds h1
  obtain⟨F',G,I⟩:=rl.freeze h1
  exact⟨F0,H0,F',_,o,G,e,ok.mono I⟩
 .exact⟨F0,H0,F,ρ,o,rl,e,ok⟩
inductive Tg where
 |nm (i:Nat)|tp (is:List Nat)|nt (i:Nat) (is:List Nat)
noncomputable def P0:List Nat->List D->Ro->Option Ro
 |[],[],ρ=>some ρ
 |i::is,d::ds,ρ=>P0 is ds (ρ.set i (some (.sh d)))
 |_,_,_=>none
noncomputable def tgD:Tg->D->Ro->Option Ro
 | .nm i,d,ρ=>some (ρ.set i (some (.sh d)))
 | .tp is,.tup ds,ρ=>P0 is ds ρ
 | .nt i is,.tup [d,.tup ds],ρ=>P0 is ds (ρ.set i (some (.sh d)))
 |_,_,_=>none
def TGd (K:W.Frag)(g:Tg):TG:=fun v σ H Q=>∃ F0 H0 F ρ d ρ',Rl K F0 H0 F H σ ρ/\Rep K F v d/\tgD g d ρ=some ρ'/\∀ F' H' σ',Rl K F0 H0 F' H' σ' ρ'->Ext F H F' H'->Q σ' H'
def PGd (X:Cx)(tg:Expr)(g:Tg):Prop:=PG X tg (TGd X.K g)
theorem PG.imp {tg:Expr}{t t':TG}(h:PG X tg t)(i:∀ v σ H Q,t' v σ H Q->t v σ H Q):PG X tg t':=fun pins s σ H v u Q I r q=>h pins s σ H v u Q I r (i v σ H Q q)
theorem u0 {i:Nat}{x:Str}{pos:Pos}(h:PG X (.Name x pos) (K2 i)):PGd X (.Name x pos) (.nm i):=PG.imp h fun v σ H Q j=>by
 obtain⟨F0,H0,F,ρ,d,ρ',rl,r,e,q⟩:=j
 cases e;exact q F H _ (rl.set r) (.refl rl.fh)
noncomputable def gAll:List Nat->TGs
 |[]=>gNil
 |i::is=>xh3 (K2 i) (gAll is)
theorem ys1 {K:W.Frag}{F0 H0 F H:Hp}{Q:St->Hp->Prop}:∀(is:List Nat)(vs:List V)(ds:List D)(σ:St)(ρ ρ':Ro),Rl K F0 H0 F H σ ρ->Reps K F vs ds->P0 is ds ρ=some ρ'->(∀ j,Rl K F0 H0 F H j ρ'->Q j H)->gAll is vs σ H Q
 |[],_,[],σ,ρ,ρ',rl,r,e,q=>by cases r;cases e;exact⟨rfl,q σ rl⟩
 |[],_,_::_,_,_,_,_,_,e,_=>by cases e
 |_::_,_,[],_,_,_,_,_,e,_=>by cases e
 |i::is,_,d::ds,σ,ρ,ρ',rl,r,e,q=>by
  cases r with
  |cons r z=>exact⟨_,_,rfl,ys1 is _ ds _ _ ρ' (rl.set r) z e q⟩
theorem C8:∀(is:List Nat)(ds:List D)(ρ ρ':Ro),P0 is ds ρ=some ρ'->ds.length=is.length
 |[],[],_,_,_=>rfl
 |[],_::_,_,_,e=>by cases e
 |_::_,[],_,_,e=>by cases e
 |_::is,_::ds,ρ,ρ',e=>congrArg (·+1) (C8 is ds _ ρ' e)
theorem a9 {es:List Expr}{k n:Nat}{is:List Nat}{pos:Pos}(h:PG X (.Tuple es k pos) (gTup X.K n (gAll is)))(hn:is.length=n:=by rfl):PGd X (.Tuple es k pos) (.tp is):=PG.imp h fun v σ H Q i=>by
 obtain⟨F0,H0,F,ρ,d,ρ',rl,r,e,q⟩:=i
 cases r with
 |tup s t=>exact⟨_,_,rfl,rl.fh.seqT s,by rw[t.length,C8 _ _ _ _ e,hn],ys1 is _ _ σ ρ ρ' rl t e fun j z=>q F H j z (.refl rl.fh)⟩
 |_=>cases e
noncomputable def masg (g:Tg)(x:ME):MS:=fun ρ=>(x ρ).bind fun d=>(tgD g d ρ).map .nx
theorem zq7 {g:Tg}(h:PS X st (tAsg (TD X.K ma) (TGd X.K g))):PSd X st (masg g ma):=h.imp fun D σ H i=>by
 obtain⟨F0,H0,F,ρ,o,rl,e,ok⟩:=i
 unfold masg at e
 cases h1:ma ρ with
 |none=>rw[h1]at e;cases e
 |some d=>
  rw[h1]at e
  have e:(tgD g d ρ).map Out.nx=some o:=e
  cases h2:tgD g d ρ with
  |none=>rw[h2]at e;cases e
  |some ρ'=>
   rw[h2]at e;cases e
   exact⟨F0,H0,F,ρ,d,rl,h1,fun v F1 H1 G L=>⟨F0,H0,F1,ρ,d,ρ',rl.go G,L,h2,fun F' H' j z I=>ok F' H' j z (G.ff.trans I.ff)⟩⟩
structure ItD (K:W.Frag)(F:Hp)(J:It)(its:List D):Prop where
 go:∀(i:Nat) F1 H1,Same F F1->Same F1 H1->i<its.length->J.go i H1
 yld:∀(i:Nat) F1 H1 x H2 d,Same F F1->Same F1 H1->its[i]? =some d->J.yld i H1 x H2->∃ F2,Ext F1 H1 F2 H2/\Rep K F2 x d
 stop:∀ F1 H1,Same F F1->Same F1 H1->J.stop its.length H1
def TId (K:W.Frag)(mi:ML):TI:=fun σ H R=>∃ F0 H0 F ρ its,Rl K F0 H0 F H σ ρ/\mi ρ=some its/\∀ J F' H',Ext F H F' H'->ItD K F' J its->R J H'
def PId (X:Cx)(tg iter:Expr)(mi:ML):Prop:=PI X tg iter (TId X.K mi)
theorem PI.imp {tg it:Expr}{t t':TI}(h:PI X tg it t)(i:∀ σ H R,t' σ H R->t σ H R):PI X tg it t':=fun pins s σ H R I q=>h pins s σ H R I (i σ H R q)
theorem yi9 {K:W.Frag}{F:Hp}{p:Addr}{xs:List V}{ds:List D}(s:SqL K F p xs)(r:Reps K F xs ds):ItD K F (Itl K p) ds where
 go:=fun i F1 H1 a b hi=>by
  obtain⟨v,e,_⟩:=r.get (getElem?_eq_getElem hi)
  exact⟨xs,v,b.seq (a.seq s),e⟩
 yld:=fun i F1 H1 x H2 d a b e y=>by
  obtain⟨rfl,y⟩:=y
  obtain⟨v,e1,e2⟩:=r.get e
  have:=y xs (b.seq (a.seq s))
  rw[e1]at this;cases this
  exact⟨F1,.refl b,e2.mono a⟩
 stop:=fun F1 H1 a b=>⟨xs,b.seq (a.seq s),by rw[r.length];exact Nat.le_refl _⟩
theorem U0 {tg:Expr}(hd:PD X e ma):PId X tg e (k0 ma):=PI.imp (xy4 hd) fun σ H R i=>by
 obtain⟨F0,H0,F,ρ,its,rl,e,q⟩:=i
 unfold k0 at e
 split at e
 .rename_i ds h1
  cases e
  refine⟨F0,H0,F,ρ,_,rl,h1,fun v F1 H1 j z=>?_⟩
  cases z with
  |lst s t=>exact⟨_,rfl,⟨_,j.fh.seq s⟩,q _ F1 H1 j (yi9 s t)⟩
 .cases e
noncomputable def T9 (lo:Int)(n:Nat):List D:=(List.range n).map fun(i:Nat)=>D.int (lo+(i:Int))
theorem P3 (lo:Int)(n:Nat):(T9 lo n).length=n:=by unfold T9;simp
theorem zs2 {K:W.Frag}{F:Hp}{lo:Int}{n:Nat}:ItD K F (Itr lo n) (T9 lo n) where
 go:=fun i F1 H1 a b hi=>by rw[P3]at hi;exact hi
 yld:=fun i F1 H1 x H2 d a b e y=>by
  obtain⟨rfl,rfl⟩:=y
  unfold T9 at e
  rw[getElem?_map]at e
  have hi:i<n:=by
   rcases Nat.lt_or_ge i n with h|h
   .exact h
   .rw[getElem?_eq_none (by simpa using h)]at e;cases e
  rw[getElem?_range hi]at e
  cases e
  exact⟨F1,.refl b,.int _⟩
 stop:=fun F1 H1 a b=>by rw[P3];exact Nat.le_refl n
noncomputable def okR (j:Int):Bool:=decide (-(2^62)<=j)&&decide (j<2^62)
noncomputable def rng1:List D->Option (List D)
 |[.int j]=>if okR j=true then some (T9 0 j.toNat)else none
 |_=>none
noncomputable def rng2:List D->Option (List D)
 |[.int i,.int j]=>if (okR i&&okR j)=true then some (T9 i (j-i).toNat)else none
 |_=>none
@[irreducible] noncomputable def t4 (f:List D->Option (List D))(m:ML):ML:=fun ρ=>(m ρ).bind f
theorem Y4 {f:List D->Option (List D)}{m:ML}{ρ:Ro}{i:List D}(h:t4 f m ρ=some i):∃ ds,m ρ=some ds/\f ds=some i:=by
 unfold t4 at h
 cases h1:m ρ with
 |none=>rw[h1]at h;cases h
 |some ds=>rw[h1]at h;exact⟨ds,rfl,h⟩
theorem Y3 {tg a:Expr}{m:ML}{p pos:Pos}(L:Gl X "range")(hm:X.mg "range"=none)(ha:PAs X [a] m)(hs:starEach [a] X.env=[(false,eval a X.env)]:=by rfl):PId X tg (.Call (.Name "range" p) [a] [] pos) (t4 rng1 m):=PI.imp (yy2 L hm ha hs) fun σ H R i=>by
 obtain⟨F0,H0,F,ρ,its,rl,e,q⟩:=i
 obtain⟨ds,h1,h2⟩:=Y4 e
 refine⟨F0,H0,F,ρ,ds,rl,h1,fun vs F1 H1 z I=>?_⟩
 unfold rng1 at h2
 split at h2
 .rename_i j
  split at h2
  .rename_i hk
   cases h2
   unfold okR at hk
   simp only[Bool.and_eq_true,decide_eq_true_eq]at hk
   cases I with
   |cons r G=>
    cases G;cases r
    exact⟨j,rfl,hk.1,hk.2,q _ F1 H1 z zs2⟩
  .cases h2
 .cases h2
theorem c4 {tg a b:Expr}{m:ML}{p pos:Pos}(O:Gl X "range")(hm:X.mg "range"=none)(ha:PAs X [a,b] m)(hs:starEach [a,b] X.env=[(false,eval a X.env),(false,eval b X.env)]:=by rfl)(I:starEach [b] X.env=[(false,eval b X.env)]:=by rfl):PId X tg (.Call (.Name "range" p) [a,b] [] pos) (t4 rng2 m):=PI.imp (yy1 O hm ha hs I) fun σ H R z=>by
 obtain⟨F0,H0,F,ρ,its,rl,e,q⟩:=z
 obtain⟨ds,h1,h2⟩:=Y4 e
 refine⟨F0,H0,F,ρ,ds,rl,h1,fun vs F1 H1 L N=>?_⟩
 unfold rng2 at h2
 split at h2
 .rename_i i j
  split at h2
  .rename_i hk
   cases h2
   unfold okR at hk
   simp only[Bool.and_eq_true,decide_eq_true_eq]at hk
   cases N with
   |cons r G=>
    cases G with
    |cons M G=>
     cases G;cases r;cases M
     exact⟨i,j,rfl,⟨hk.1.1,hk.1.2,hk.2.1,hk.2.2⟩,q _ F1 H1 L zs2⟩
  .cases h2
 .cases h2
noncomputable def zip2:List D->Option (List D)
 |[.lst ds,.lst es]=>some (List.zipWith (fun d e=>.tup [d,e]) ds es)
 |_=>none
theorem yi8 {K:W.Frag}{F:Hp}{p q:Addr}{xs ys:List V}{ds es:List D}(s:SqL K F p xs)(r:Reps K F xs ds)(s':SqL K F q ys)(G:Reps K F ys es):ItD K F (Itz2 K p q) (List.zipWith (fun d e=>D.tup [d,e]) ds es) where
 go:=fun i F1 H1 a b hi=>by
  rw[length_zipWith]at hi
  obtain⟨v,e,_⟩:=r.get (getElem?_eq_getElem (show i<ds.length by omega))
  obtain⟨w,O,_⟩:=G.get (getElem?_eq_getElem (show i<es.length by omega))
  exact⟨xs,ys,v,w,b.seq (a.seq s),b.seq (a.seq s'),e,O⟩
 yld:=fun i F1 H1 x H2 d a b e y=>by
  obtain⟨t,u,v,rfl,L,rfl,z,j⟩:=y
  have z:=z xs (b.seq (a.seq s))
  have j:=j ys (b.seq (a.seq s'))
  obtain⟨U,e1,N⟩:=r.get' z
  obtain⟨S,e2,M⟩:=G.get' j
  rw[getElem?_zipWith,e1,e2]at e
  cases e
  refine⟨upd F1 t (.tup [u,v]),Ext.laid b L,.tup (SqT.of z9) ?_⟩
  have I:Same F (upd F1 t (.tup [u,v])):=a.trans ((Same.refl F1).put (b.free L))
  exact .cons (N.mono I) (.cons (M.mono I) .nil)
 stop:=fun F1 H1 a b=>⟨xs,ys,b.seq (a.seq s),b.seq (a.seq s'),by rw[r.length,G.length,length_zipWith];omega⟩
theorem yk0 {es:List Expr}{tk:Nat}{tp:Pos}{a b:Expr}{m:ML}{p pos:Pos}(N:Gl X "zip")(hm:X.mg "zip"=none)(ha:PAs X [a,b] m)(hs:starEach [a,b] X.env=[(false,eval a X.env),(false,eval b X.env)]:=by rfl)(G:starEach [b] X.env=[(false,eval b X.env)]:=by rfl):PId X (.Tuple es tk tp) (.Call (.Name "zip" p) [a,b] [] pos) (t4 zip2 m):=PI.imp (xy3 N hm ha hs G) fun σ H R i=>by
 obtain⟨F0,H0,F,ρ,its,rl,e,q⟩:=i
 obtain⟨ds,h1,h2⟩:=Y4 e
 refine⟨F0,H0,F,ρ,ds,rl,h1,fun vs F1 H1 j M=>?_⟩
 unfold zip2 at h2
 split at h2
 .cases h2
  cases M with
  |cons r z=>
   cases z with
   |cons L z=>
    cases z
    cases r with
    |lst s t=>
     cases L with
     |lst s2 I=>exact⟨_,_,_,_,rfl,j.fh.seq s,j.fh.seq s2,q _ F1 H1 j (yi8 s t s2 I)⟩
 .cases h2
noncomputable def V4:Nat->List D->List D
 |_,[]=>[]
 |i,d::ds=>.tup [.int i,d]::V4 (i+1) ds
theorem l4:∀ i ds,(V4 i ds).length=ds.length
 |_,[]=>rfl
 |i,_::ds=>by simp[V4,l4 (i+1) ds]
theorem S6:∀(k:Nat) ds (i:Nat) d,ds[i]? =some d->(V4 k ds)[i]? =some (.tup [.int ((k+i:Nat):Int),d])
 |_,[],_,_,h=>by simp at h
 |k,_::ds,0,d,h=>by simp at h;subst h;rfl
 |k,_::ds,i+1,d,h=>by
  have:=S6 (k+1) ds i d (by simpa using h)
  have e:k+1+i=k+(i+1):=by omega
  rw[e]at this
  simpa[V4]using this
noncomputable def C3:List D->Option (List D)
 |[.lst ds]=>some (V4 0 ds)
 |_=>none
theorem yh0 {K:W.Frag}{F:Hp}{p:Addr}{xs:List V}{ds:List D}(s:SqL K F p xs)(r:Reps K F xs ds):ItD K F (Ite K p) (V4 0 ds) where
 go:=fun i F1 H1 a b hi=>by
  rw[l4]at hi
  obtain⟨v,e,_⟩:=r.get (getElem?_eq_getElem hi)
  exact⟨xs,v,b.seq (a.seq s),e⟩
 yld:=fun i F1 H1 x H2 d a b e y=>by
  obtain⟨t,u,rfl,z,rfl,j⟩:=y
  have j:=j xs (b.seq (a.seq s))
  obtain⟨L,e1,G⟩:=r.get' j
  rw[S6 0 ds i L e1,Nat.zero_add]at e
  cases e
  refine⟨upd F1 t (.tup [.int i,u]),Ext.laid b z,.tup (SqT.of z9) ?_⟩
  have I:Same F (upd F1 t (.tup [.int i,u])):=a.trans ((Same.refl F1).put (b.free z))
  exact .cons (.int _) (.cons (G.mono I) .nil)
 stop:=fun F1 H1 a b=>⟨xs,b.seq (a.seq s),by rw[r.length,l4];exact Nat.le_refl _⟩
theorem zz4 {es:List Expr}{tk:Nat}{tp:Pos}{a:Expr}{m:ML}{p pos:Pos}(I:Gl X "enumerate")(hm:X.mg "enumerate"=none)(ha:PAs X [a] m)(hs:starEach [a] X.env=[(false,eval a X.env)]:=by rfl):PId X (.Tuple es tk tp) (.Call (.Name "enumerate" p) [a] [] pos) (t4 C3 m):=PI.imp (yy3 I hm ha hs) fun σ H R i=>by
 obtain⟨F0,H0,F,ρ,its,rl,e,q⟩:=i
 obtain⟨ds,h1,h2⟩:=Y4 e
 refine⟨F0,H0,F,ρ,ds,rl,h1,fun vs F1 H1 j G=>?_⟩
 unfold C3 at h2
 split at h2
 .cases h2
  cases G with
  |cons r z=>
   cases z
   cases r with
   |lst s t=>exact⟨_,_,rfl,j.fh.seq s,q _ F1 H1 j (yh0 s t)⟩
 .cases h2
end
end
section
noncomputable def forD (g:Tg)(body:MS):List D->MS
 |[],ρ=>some (.nx ρ)
 |d::ds,ρ=>match tgD g d ρ with
  |some ρ1=>match body ρ1 with
   |some (.nx ρ2)=>forD g body ds ρ2
   |some (.ct ρ2)=>forD g body ds ρ2
   |some (.bk ρ2)=>some (.nx ρ2)
   |o=>o
  |none=>none
noncomputable def mfor (mi:ML)(g:Tg)(body:MS):MS:=fun ρ=>(mi ρ).bind fun its=>forD g body its ρ
theorem d5 {α:Type}{xs:List α}{i:Nat}{d:α}(h:xs[i]? =some d):xs.drop i=d::xs.drop (i+1):=by
 obtain⟨j,e⟩:=List.getElem?_eq_some_iff.mp h
 rw[drop_eq_getElem_cons j,e]
section
variable {X:Cx}{a b c e:Expr}{ma mb:ME}{pos:Pos}{st:Stmt}{rest:List Stmt}
theorem a0 {tg iter:Expr}{body:List Stmt}{mi:ML}{g:Tg}{mb:MS}(hp:PassesOwn (model X.prog X.w) X.A X.env X.xe)(hc:X.calm=true)(hi:PId X tg iter mi)(hg:PGd X tg g)(hb:PSsd X body mb)
  (hs:∀ x,foldedSetIterable iter X.env x=pure x:=by intro _;rfl):PSd X (.For tg iter body [] pos) (mfor mi g mb):=(yz5 hp hc hi hg hb hs).imp fun Dn σ H Z=>by
 obtain⟨F0,H0,F,ρ,o,rl,e,ok⟩:=Z
 unfold mfor at e
 cases h1:mi ρ with
 |none=>rw[h1]at e;cases e
 |some its=>
  rw[h1]at e
  have e:forD g mb its ρ=some o:=e
  refine⟨F0,H0,F,ρ,its,rl,h1,fun J F1 H1 x1 I=>?_⟩
  refine⟨fun i m N H'=>∃ F' ρ',Rl X.K F0 H0 F' H' N ρ'/\Same F1 F'/\i<=its.length/\m=its.length-i/\forD g mb (its.drop i) ρ'=some o,⟨_,F1,ρ,rl.go x1,Same.refl _,Nat.zero_le _,rfl,e⟩,?_⟩
  rintro i m N H' ⟨F',ρ',L,U,a4,rfl,j⟩
  by_cases O:i<its.length
  .right
   have hd:=getElem?_eq_getElem O
   refine⟨I.go i F' H' U L.fh O,fun S H2=>∃ F2 z,Rl X.K F0 H0 F2 H2 S z/\Same F1 F2/\forD g mb (its.drop (i+1)) z=some o,?_,fun x H2 y=>?_⟩
   .rintro S H2 ⟨F2,z,rl2,sf2,e2⟩
    exact⟨its.length-(i+1),by omega,F2,z,rl2,sf2,O,rfl,e2⟩
   .obtain⟨F2,x2,r2⟩:=I.yld i F' H' x H2 _ U L.fh hd y
    rw[d5 hd]at j
    unfold forD at j
    cases h2:tgD g its[i] ρ' with
    |none=>simp only[h2]at j;cases j
    |some ρ1=>
     simp only[h2]at j
     refine⟨F0,H0,F2,ρ',_,ρ1,L.go x2,r2,h2,fun F3 H3 a3 a2 x3=>?_⟩
     have s3:Same F1 F3:=(U.trans x2.ff).trans x3.ff
     cases h3:mb ρ1 with
     |none=>simp only[h3]at j;cases j
     |some o1=>
      simp only[h3]at j
      refine⟨F0,H0,F3,ρ1,o1,a2,h3,?_⟩
      cases o1 with
      |nx z=>exact fun F4 H4 M G Y=>⟨F4,z,G,s3.trans Y,j⟩
      |ct z=>exact fun F4 H4 M G Y=>⟨F4,z,G,s3.trans Y,j⟩
      |bk z=>
       cases j
       exact fun F4 H4 M G Y=>ok F4 H4 M G ((x1.ff.trans s3).trans Y)
      |rt d=>cases j;exact ok
      |rf d=>cases j;exact ok
      |rp d ds=>cases j;exact ok
      |rg d p r=>cases j;exact ok
      |rgf d p r=>cases j;exact ok
  .left
   have a1:i=its.length:=by omega
   subst a1
   rw[drop_length]at j
   have j:some (Out.nx ρ')=some o:=j
   cases j
   exact⟨I.stop F' H' U L.fh,ok F' H' N L (x1.ff.trans U)⟩
end
end
section
noncomputable def D1 (src:List (Option Nat))(ρ:Ro):Ro:=src.map fun o=>o.bind fun i=>match ρ[i]? with |some (some (.sh d))=>some (.sh d)|_=>none
noncomputable def X3 (g:Tg)(c:MB)(elt:ME):List D->Ro->List D->Option (List D)
 |[],_,acc=>some acc
 |d::ds,ρ,acc=>match tgD g d ρ with
  |some ρ1=>match c ρ1 with
   |some true=>match elt ρ1 with
    |some x=>if acc.length<sizeLine then X3 g c elt ds ρ1 (acc++[x])else none
    |none=>none
   |some false=>X3 g c elt ds ρ1 acc
   |none=>none
  |none=>none
@[irreducible] noncomputable def Z1 (src:List (Option Nat))(mi:ML)(g:Tg)(c:MB)(elt:ME):ML:=fun ρ=>(mi ρ).bind fun its=>X3 g c elt its (D1 src ρ) []
def NoOwn (ρ:Ro):Prop:=∀(i:Nat) ds,ρ[i]? ≠some (some (.own ds))/\(∀ p,ρ[i]? ≠some (some (.ob p ds)))/\∀ p,ρ[i]? ≠some (some (.rd p ds))
theorem NoOwn.set {ρ:Ro}(h:NoOwn ρ)(i:Nat)(d:D):NoOwn (ρ.set i (some (.sh d))):=fun j ds=>⟨fun e=>by
 by_cases G:i=j
 .subst G
  have I:i<ρ.length:=by
   rcases Nat.lt_or_ge i ρ.length with z|z
   .exact z
   .rw[getElem?_eq_none (by simpa using z)]at e;cases e
  rw[getElem?_set_self I]at e;cases e
 .rw[getElem?_set_ne G]at e;exact(h j ds).1 e,fun p e=>(h j ds).2.1 p (j3 e).2,fun p e=>(h j ds).2.2 p (R8 e).2⟩
theorem NoOwn.all:∀(is:List Nat)(ds:List D){ρ ρ':Ro},NoOwn ρ->P0 is ds ρ=some ρ'->NoOwn ρ'
 |[],[],ρ,ρ',h,e=>by cases e;exact h
 |[],_::_,_,_,_,e=>by cases e
 |_::_,[],_,_,_,e=>by cases e
 |i::is,d::ds,ρ,ρ',h,e=>NoOwn.all is ds (h.set i d) e
theorem NoOwn.tg {g:Tg}{d:D}{ρ ρ':Ro}(h:NoOwn ρ)(e:tgD g d ρ=some ρ'):NoOwn ρ':=by
 cases g with
 |nm i=>cases e;exact h.set i d
 |tp is=>cases d <;> first| (cases e;done)|exact NoOwn.all is _ h e
 |nt i is=>
  cases d with
  |tup ds=>
   match ds,e with
   |[d,.tup ds],e=>exact NoOwn.all is _ (h.set i d) e
  |_=>cases e
theorem Rl.blk {K:W.Frag}{F0 H0 F H:Hp}{σ:St}{ρ:Ro}(r:Rl K F0 H0 F H σ ρ)(src:List (Option Nat)):Rl K F H F H (blk0 src σ) (D1 src ρ)/\NoOwn (D1 src ρ):=by
 have G:∀(i:Nat) x,(D1 src ρ)[i]? =some (some x)->∃ d,x=S.sh d:=fun i x e=>by
  unfold D1 at e
  rw[getElem?_map]at e
  cases h:src[i]? with
  |none=>rw[h]at e;cases e
  |some o=>
   rw[h]at e
   cases o with
   |none=>cases e
   |some k=>
    simp only[Option.map_some,Option.bind_some]at e
    split at e
    .cases e;exact⟨_,rfl⟩
    .cases e
 have I:NoOwn (D1 src ρ):=fun i ds=>⟨fun e=>(by obtain⟨d,z⟩:=G i _ e;cases z),fun p e=>(by obtain⟨d,z⟩:=G i _ e;cases z),fun p e=>(by obtain⟨d,z⟩:=G i _ e;cases z)⟩
 refine⟨⟨.refl r.fh,by unfold blk0 D1;simp,fun i d e=>?_,fun i ds e=>absurd e (I i ds).1,fun i j p ds es _ e=>absurd e (I i ds).1,fun i p ds e=>absurd e ((I i ds).2.1 p),fun i j p ds es e=>absurd e ((I i ds).2.1 p),fun i j p q ds es e=>absurd e ((I i ds).2.1 p),fun i q ds e=>absurd e ((I i ds).2.2 q)⟩,I⟩
 unfold D1 at e
 unfold blk0
 rw[getElem?_map]at e ⊢
 cases h:src[i]? with
 |none=>rw[h]at e;cases e
 |some o=>
  rw[h]at e
  cases o with
  |none=>cases e
  |some k=>
   simp only[Option.map_some,Option.bind_some]at e ⊢
   split at e
   .rename_i d' h'
    cases e
    obtain⟨v,e1,e2⟩:=r.sh k _ h'
    exact⟨v,by rw[e1];rfl,e2⟩
   .cases e
theorem Rl.other {K:W.Frag}{F0 H0 F H:Hp}{σ:St}{ρ:Ro}(r:Rl K F0 H0 F H σ ρ)(j:NoOwn ρ){p:Addr}{o:HO}(G:H0 p=none)(z:F p=none):Rl K F0 H0 F (upd H p o) σ ρ:=
 ⟨⟨r.ext.ff,r.ext.hh.put G,r.ext.fh.put z,r.ext.new,r.ext.nf⟩,r.len,r.sh,fun i ds e=>absurd e (j i ds).1,r.inj,fun i p ds e=>absurd e ((j i ds).2.1 p),r.obn,r.ob1,r.rd⟩
def NoRd (ρ:Ro):Prop:=∀(i:Nat) q ds,ρ[i]? ≠some (some (.rd q ds))
theorem NoRd.set {ρ:Ro}(h:NoRd ρ)(i:Nat)(d:D):NoRd (ρ.set i (some (.sh d))):=fun j q ds e=>h j q ds (R8 e).2
theorem NoRd.all:∀(is:List Nat)(ds:List D){ρ ρ':Ro},NoRd ρ->P0 is ds ρ=some ρ'->NoRd ρ'
 |[],[],ρ,ρ',h,e=>by cases e;exact h
 |[],_::_,_,_,_,e=>by cases e
 |_::_,[],_,_,_,e=>by cases e
 |i::is,d::ds,ρ,ρ',h,e=>NoRd.all is ds (h.set i d) e
theorem NoRd.tg {g:Tg}{d:D}{ρ ρ':Ro}(h:NoRd ρ)(e:tgD g d ρ=some ρ'):NoRd ρ':=by
 cases g with
 |nm i=>cases e;exact h.set i d
 |tp is=>cases d <;> first| (cases e;done)|exact NoRd.all is _ h e
 |nt i is=>
  cases d with
  |tup ds=>
   match ds,e with
   |[d,.tup ds],e=>exact NoRd.all is _ (h.set i d) e
  |_=>cases e
theorem Rl.rebase {K:W.Frag}{F1 F H:Hp}{σ:St}{ρ:Ro}{p:Addr}{xs ys:List V}(r:Rl K F1 (upd F1 p (.lst xs)) F H σ ρ)(j:F p=none)(I:F1 p=none)(G:NoRd ρ):Rl K F1 (upd F1 p (.lst ys)) F (upd H p (.lst ys)) σ ρ:=by
 have ne:∀ q,upd F1 p (.lst xs) q=none->q≠p:=fun q z w=>by rw[w,z9]at z;cases z
 refine⟨⟨r.ext.ff,fun b u e=>?_,r.fh.put j,fun b e n=>?_,r.ext.nf⟩,r.len,r.sh,fun i ds e=>?_,r.inj,fun i q ds e=>?_,r.obn,r.ob1,fun i q ds e=>absurd e (G i q ds)⟩
 .by_cases hb:b=p
  .subst hb;rw[z9]at e ⊢;exact e
  .rw[y3 hb]at e ⊢
   exact r.ext.hh b u (by rw[y3 hb];exact e)
 .have hb:b≠p:=fun w=>by rw[w,j]at n;exact n rfl
  rw[y3 hb];exact e
 .obtain⟨q,zs,a,b,c,d,z⟩:=r.own i ds e
  have hq:=ne q z
  rw[y3 hq]at z
  exact⟨q,zs,a,b,by rw[y3 hq];exact c,d,by rw[y3 hq];exact z⟩
 .obtain⟨a,b,z,zs,c,d⟩:=r.ob i q ds e
  have hq:=ne q z
  rw[y3 hq]at z
  exact⟨a,b,by rw[y3 hq];exact z,zs,by rw[y3 hq];exact c,d⟩
theorem Ext.acc {F H F' H':Hp}{p:Addr}{o:HO}(x:Ext F H F' H')(hp:H p=none)(i:F' p=none):Ext F H F' (upd H' p o):=⟨x.ff,x.hh.put hp,x.fh.put i,x.new,x.nf⟩
theorem Ext.stay {F' H' z I:Hp}{p:Addr}{o:HO}(G:Ext F' H' z I)(j:F' p=none)(i:H' p=some o):z p=none:=by
 cases qq:z p with
 |none=>rfl
 |some u=>have:=G.new p j (by rw[qq];simp);rw[this]at i;cases i
theorem Rl.noB {K:W.Frag}{F H:Hp}{σ:St}{ρ:Ro}{p:Addr}(r:Rl K F H F H σ ρ)(j:NoOwn ρ)(hp:H p=none):Rl K F (upd F p (.lst [])) F (upd H p (.lst [])) σ ρ:=
 ⟨⟨Same.refl F,r.fh.put2,r.fh.put (r.fh.free hp),fun b e n=>absurd e n,fun _ _ _ z=>z⟩,r.len,r.sh,fun i ds e=>absurd e (j i ds).1,r.inj,fun i p ds e=>absurd e ((j i ds).2.1 p),r.obn,r.ob1,fun i q ds e=>absurd e ((j i ds).2.2 q)⟩
theorem B6 {g:Tg}{c:MB}{elt:ME}{d:D}{ds acc out:List D}{ρ:Ro}(h:X3 g c elt (d::ds) ρ acc=some out):∃ ρ1,tgD g d ρ=some ρ1/\((c ρ1=some false/\X3 g c elt ds ρ1 acc=some out)\/∃ x,c ρ1=some true/\elt ρ1=some x/\acc.length<sizeLine/\X3 g c elt ds ρ1 (acc++[x])=some out):=by
 rw[X3]at h
 cases h2:tgD g d ρ with
 |none=>rw[h2]at h;cases h
 |some ρ1=>
  rw[h2]at h
  simp only at h
  refine⟨ρ1,rfl,?_⟩
  cases h3:c ρ1 with
  |none=>rw[h3]at h;cases h
  |some k=>
   rw[h3]at h
   cases k with
   |false=>exact .inl ⟨rfl,h⟩
   |true=>
    simp only at h
    cases h4:elt ρ1 with
    |none=>rw[h4]at h;cases h
    |some x=>
     rw[h4]at h
     simp only at h
     by_cases i:acc.length<sizeLine
     .rw[if_pos i]at h;exact .inr ⟨x,rfl,rfl,i,h⟩
     .rw[if_neg i]at h;cases h
theorem yr4 {K:PySem.W.Frag}{src:List (Option Nat)}{g:Tg}{c:MB}{elt:ME}{its out:List D}{F1 H1:Hp}{σ:St}{Z:Ro}{p:Addr}{J:It}{Q:VK}(f1:Same F1 H1)(hp:H1 p=none)(rb:Rl K F1 (upd F1 p (.lst [])) F1 (upd H1 p (.lst [])) (blk0 src σ) Z)(nr:NoRd Z)(I:ItD K F1 J its)(e:X3 g c elt its Z []=some out)
  (q:∀ xs F' H',Ext F1 H1 F' H'->F' p=none->H' p=some (.lst xs)->Reps K F' xs out->Q (.ref p) H'):
  ∃ W:Nat->Nat->St->Hp->Prop,(∃ m,W 0 m (blk0 src σ) (upd H1 p (.lst [])))/\∀ i m L H',W i m L H'->
   (J.stop i H'/\Q (.ref p) H')\/(J.go i H'/\∃ N:St->Hp->Prop,(∀ G H2,N G H2->∃ m',m'<m/\W (i+1) m' G H2)/\∀ x H2,J.yld i H' x H2->TGd K g x L H2 fun z H3=>TC K c z H3 fun b H4=>
    if b=true then TD K elt z H4 fun y H5=>∃ xs,H5 p=some (.lst xs)/\xs.length<sizeLine/\N z (upd H5 p (.lst (xs++[y])))else N z H4):=by
 have a4:F1 p=none:=f1.free hp
 refine⟨fun i m L H'=>∃ F' ρ' acc xs,Rl K F1 (upd F1 p (.lst xs)) F' H' L ρ'/\Ext F1 H1 F' H'/\H' p=some (.lst xs)/\F' p=none/\Reps K F' xs acc/\i<=its.length/\m=its.length-i/\X3 g c elt (its.drop i) ρ' acc=some out/\NoRd ρ',
  ⟨_,F1,Z,[],[],rb,(Ext.refl f1).acc hp a4,z9,a4,.nil,Nat.zero_le _,rfl,e,nr⟩,?_⟩
 clear rb e nr
 rintro i m L H' ⟨F',ρ',acc,xs,a2,xe,Y,a5,ra,a9,rfl,e',a8⟩
 by_cases U:i<its.length
 .right
  have hd:=getElem?_eq_getElem U
  refine⟨I.go i F' H' xe.ff a2.fh U,fun G H2=>∃ F2 M j O,Rl K F1 (upd F1 p (.lst O)) F2 H2 G M/\Ext F1 H1 F2 H2/\H2 p=some (.lst O)/\F2 p=none/\Reps K F2 O j/\X3 g c elt (its.drop (i+1)) M j=some out/\NoRd M,?_,fun x H2 y=>?_⟩
  .rintro G H2 ⟨F2,M,j,O,b1,b2,b3,b4,b5,b6,b7⟩
   exact⟨its.length-(i+1),Nat.sub_lt_sub_left U (Nat.lt_succ_self i),F2,M,j,O,b1,b2,b3,b4,b5,U,rfl,b6,b7⟩
  .obtain⟨F2,x2,r2⟩:=I.yld i F' H' x H2 _ xe.ff a2.fh hd y
   rw[d5 hd]at e'
   obtain⟨ρ1,h2,e3⟩:=B6 e'
   have a3:=a8.tg h2
   clear e' I q y hd
   refine⟨F1,_,F2,ρ',_,ρ1,a2.go x2,r2,h2,fun F3 H3 z S x3=>?_⟩
   have a6:=x2.trans x3
   rcases e3 with⟨h3,e4⟩|⟨d,h3,h4,hz,e4⟩
   .refine⟨F1,_,F3,ρ1,false,S,h3,fun F4 H4 x4=>?_⟩
    have a1:=a6.trans x4
    exact iteF ⟨F4,ρ1,acc,xs,S.go x4,xe.trans a1,a1.hh _ _ Y,a1.stay a5 Y,ra.mono a1.ff,e4,a3⟩
   .refine⟨F1,_,F3,ρ1,true,S,h3,fun F4 H4 x4=>iteT ⟨F1,_,F4,ρ1,d,S.go x4,h4,fun v F5 H5 x5 r5=>?_⟩⟩
    have a0:=(a6.trans x4).trans x5
    have pn:=a0.stay a5 Y
    exact⟨xs,a0.hh _ _ Y,by rw[ra.length];exact hz,F5,ρ1,acc++[d],xs++[v],((S.go x4).go x5).rebase pn a4 a3,(xe.trans a0).acc hp pn,z9,pn,(ra.mono a0.ff).append (.cons r5 .nil),e4,a3⟩
 .left
  have a7:i=its.length:=Nat.le_antisymm a9 (Nat.le_of_not_lt U)
  subst a7
  rw[drop_length]at e'
  have e':some acc=some out:=e'
  cases e'
  exact⟨I.stop F' H' xe.ff a2.fh,q xs F' H' xe a5 Y ra⟩
section
variable {X:Cx}{a b c e:Expr}{ma mb:ME}{pos:Pos}{st:Stmt}{rest:List Stmt}
def PTsd (X:Cx)(ifs:List Expr)(c:MB):Prop:=PTs X ifs (TC X.K c)
noncomputable def cyes:MB:=fun _=>some true
theorem Z7:PTsd X [] cyes:=fun pins s σ H Q I i=>by
 obtain⟨F0,H0,F,ρ,b,rl,e,q⟩:=i
 cases e
 exact xz4 pins s σ H Q I (q F H (.refl rl.fh))
theorem P4 {ca:MB}(h:PC' X c ca):PTsd X [c] ca:=xz3 h
theorem xt4 {K:W.Frag}{src:List (Option Nat)}{mi:ML}{g:Tg}{c:MB}{elt:ME}{σ:St}{H:Hp}{Q:VK}(h:TF K (Z1 src mi g c elt) σ H Q):zq4 src (TId K mi) (TGd K g) (TC K c) (TD K elt) σ H Q:=by
 obtain⟨F0,H0,F,ρ,out,rl,e,q⟩:=h
 unfold Z1 at e
 cases h1:mi ρ with
 |none=>rw[h1]at e;cases e
 |some its=>
  rw[h1]at e
  refine⟨F0,H0,F,ρ,its,rl,h1,fun J F1 H1 j I p hp=>?_⟩
  obtain⟨rb,L⟩:=(rl.go j).blk src
  exact yr4 j.fh hp (rb.noB L hp) (fun i q ds=>(L i ds).2.2 q) I e fun xs F' H' xe G z M=>q p xs F' H' (j.trans xe) (j.hh.free hp) G z M
theorem S0 {sc:Scope}{N:List Str}{src:List (Option Nat)}{tg elt iter:Expr}{i:List Expr}{mi:ML}{g:Tg}{cc:MB}{j:ME}(B:Blk X sc N src)(L:X.calm=true)
  (hi:PId X tg iter mi) (G:∀ C fp s H,PGd (l9 X sc C N fp s H) tg g) (z:∀ C fp s H,PTsd (l9 X sc C N fp s H) i cc) (I:∀ C fp s H,PD (l9 X sc C N fp s H) elt j)
  (hs:∀ x,foldedSetIterable iter X.env x=pure x:=by intro _;rfl):
  PF X (.ListComp elt [⟨tg,iter,i,0⟩] sc pos) (Z1 src mi g cc j):=(yy4 (g:=TGd X.K g) (tc:=TC X.K cc) (te:=TD X.K j) B L hi (fun C fp s H=>G C fp s H) (fun C fp s H=>z C fp s H) (fun C fp s H=>I C fp s H) hs).imp fun _ _ _ h=>xt4 h
theorem xn1 {mf:ML}{σ:St}{H:Hp}{Q:VK}(h:TD X.K (mlst mf) σ H Q):TF X.K mf σ H Q:=by
 obtain⟨F0,H0,F,ρ,d,r,e,q⟩:=h
 unfold mlst at e
 cases hm:mf ρ with
 |none=>rw[hm]at e;cases e
 |some ds=>
  rw[hm]at e;cases e
  refine⟨F0,H0,F,ρ,ds,r,hm,fun p xs F' H' x hp i z j=>?_⟩
  exact q _ (upd F' p (.lst xs)) H' (x.freeze i hp z) (.lst (SqL.of z9) (j.mono ((Same.refl F').put i)))
noncomputable def Y6 (c:MB)(body:MS):Nat->MS
 |0,_=>none
 |n+1,ρ=>match c ρ with
  |some true=>match body ρ with
   |some (.nx ρ2)=>Y6 c body n ρ2
   |some (.ct ρ2)=>Y6 c body n ρ2
   |some (.bk ρ2)=>some (.nx ρ2)
   |o=>o
  |some false=>some (.nx ρ)
  |none=>none
theorem J9 {body:List Stmt}{ca:MB}{mb:MS}(n:Nat)(hp:PassesOwn (model X.prog X.w) X.A X.env X.xe)(hc:PC' X c ca)(hb:PSsd X body mb):PSd X (.While c body [] pos) (Y6 ca mb n):=(ym7 hp hc hb).imp fun Dn σ H O=>by
 obtain⟨F0,H0,F,ρ,o,rl,e,ok⟩:=O
 refine⟨fun m I H'=>∃ F' ρ',Rl X.K F0 H0 F' H' I ρ'/\Same F F'/\Y6 ca mb m ρ'=some o,⟨n,F,ρ,rl,Same.refl _,e⟩,?_⟩
 rintro m I H' ⟨F',ρ',L,Z,j⟩
 cases m with
 |zero=>cases j
 |succ m=>
  unfold Y6 at j
  cases h1:ca ρ' with
  |none=>simp only[h1]at j;cases j
  |some k=>
   refine⟨F0,H0,F',ρ',k,L,h1,fun F1 H1 U=>?_⟩
   cases k with
   |false=>
    simp only[h1]at j
    cases j
    exact iteF (ok F1 H1 I (L.go U) (Z.trans U.ff))
   |true=>
    simp only[h1]at j
    refine iteT ⟨fun M H2=>∃ F2 i,Rl X.K F0 H0 F2 H2 M i/\Same F F2/\Y6 ca mb m i=some o,fun M H2 ⟨F2,i,a1,a2,a3⟩=>⟨m,Nat.lt_succ_self m,F2,i,a1,a2,a3⟩,?_⟩
    cases h2:mb ρ' with
    |none=>simp only[h2]at j;cases j
    |some o1=>
     simp only[h2]at j
     refine⟨F0,H0,F1,ρ',o1,L.go U,h2,?_⟩
     have s1:=Z.trans U.ff
     cases o1 with
     |nx i=>exact fun S Y G z N=>⟨S,i,z,s1.trans N,j⟩
     |ct i=>exact fun S Y G z N=>⟨S,i,z,s1.trans N,j⟩
     |bk i=>cases j;exact fun S Y G z N=>ok S Y G z (s1.trans N)
     |rt d=>cases j;exact ok
     |rf d=>cases j;exact ok
     |rp d ds=>cases j;exact ok
     |rg d p r=>cases j;exact ok
     |rgf d p r=>cases j;exact ok
inductive Rt where
 |sh (d:D)|fr (ds:List D)|pr (d:D) (ds:List D)
noncomputable abbrev MF:=List D->Option Rt
noncomputable def okT (K:W.Frag)(F H:Hp)(Q:VK):Rt->Prop
 | .sh d=>∀ v F' H',Ext F H F' H'->Rep K F' v d->Q v H'
 | .fr ds=>∀ p xs F' H',Ext F H F' H'->H p=none->F' p=none->H' p=some (.lst xs)->Reps K F' xs ds->Q (.ref p) H'
 | .pr d ds=>∀ t v p xs F' H',Ext F H F' H'->H t=none->H p=none->t≠p->F' t=none->F' p=none->H' t=some (.tup [v,.ref p])->H' p=some (.lst xs)->Rep K F' v d->Reps K F' xs ds->Q (.ref t) H'
def spR (K:W.Frag)(n:Nat)(m:MF):Sp:=fun vs H Q _=>vs.length=n/\∃ F ds r,Same F H/\Reps K F vs ds/\m ds=some r/\okT K F H Q r
noncomputable def j1 (n:Nat)(ds:List D):Ro:=ds.map (fun d=>some (.sh d))++List.replicate (n-ds.length) none
noncomputable def runB (n:Nat)(m:MS):MF:=fun ds=>match m (j1 n ds)with
 |some (.nx _)=>some (.sh .non)
 |some (.rt d)=>some (.sh d)
 |some (.rf es)=>some (.fr es)
 |some (.rp d es)=>some (.pr d es)
 |_=>none
theorem zj2 {K:W.Frag}{F H:Hp}{N:List Str}{vs:List V}{ds:List D}(s:Same F H)(r:Reps K F vs ds):Rl K F H F H (start N vs) (j1 N.length ds):=by
 have get:∀(i:Nat) x,(j1 N.length ds)[i]? =some (some x)->∃ d,x=S.sh d/\ds[i]? =some d:=fun i x e=>by
  unfold j1 at e
  by_cases hi:i<ds.length
  .rw[getElem?_append_left (by simpa using hi),getElem?_map]at e
   cases q:ds[i]? with
   |none=>rw[q]at e;cases e
   |some d=>rw[q]at e;cases e;exact⟨d,rfl,rfl⟩
  .rw[getElem?_append_right (by simpa using hi),getElem?_replicate]at e
   split at e <;> cases e
 refine⟨.refl s,?_,fun i d e=>?_,fun i ds e=>?_,fun i j p ds es _ e=>?_,fun i p ds e=>?_,fun i j p ds es e=>?_,fun i j p q ds es e=>?_,fun i q ds e=>(by obtain⟨d',e1,_⟩:=get i _ e;cases e1)⟩
 .unfold start j1;simp[r.length]
 .obtain⟨d',e1,e2⟩:=get i _ e
  cases e1
  obtain⟨v,e3,G⟩:=r.get e2
  have z:i<vs.length:=(List.getElem?_eq_some_iff.mp e3).1
  refine⟨v,?_,G⟩
  unfold start
  rw[getElem?_append_left (by simpa using z),getElem?_map,e3];rfl
 .obtain⟨d',e1,_⟩:=get i _ e
  cases e1
 .obtain⟨d',e1,_⟩:=get i _ e
  cases e1
 .obtain⟨d',e1,_⟩:=get i _ e
  cases e1
 .obtain⟨d',e1,_⟩:=get i _ e
  cases e1
 .obtain⟨d',e1,_⟩:=get i _ e
  cases e1
theorem Fun.okD {P:Program}{w:World}{K:W.Frag}{mg:Str->Option Value}{base:Heap}{x qual:Str}{st:Stmt}{f:Addr}{fd:FuncData}{N ps:List Str}{k:Nat}{m:MS}(M:Fun K x qual st f fd)(L:FnScope N ps (y0 st))
  (i:∀(cdv:Value)(A:Around)(outer:List Env)(s:Shared)(H:Hp)(E:XK),Room k (A.deeper (envOfC qual (y0 st) s.heap.objs.size f cdv))->PSsd (cxOf CX0 P w K mg base N qual (y0 st) f cdv A outer s H E).nox (c5 st) m):
  FnOk P w K mg base CX0 (k+1) f fd ps (spR K ps.length (runB N.length m)):=by
 refine M.ok L (fun vs H Q E h=>h.1) fun cdv A outer s H vs Q E I h=>?_
 obtain⟨O,F,ds,r,z,G,e,ok⟩:=h
 unfold runB at e
 cases h1:m (j1 N.length ds)with
 |none=>rw[h1]at e;cases e
 |some o=>
  rw[h1]at e
  refine⟨_,i cdv A outer s H E I,F,H,F,j1 N.length ds,o,zj2 z G,h1,?_⟩
  cases o with
  |nx ρ=>cases e;exact fun F' H' j rl _=>ok .non F' H' rl.ext .non
  |rt d=>cases e;exact ok
  |rf es=>cases e;exact ok
  |rp d es=>cases e;exact ok
  |rg d p r=>cases e
  |rgf d p r=>cases e
  |bk ρ=>cases e
  |ct ρ=>cases e
@[irreducible] noncomputable def t8 (f:MF)(m:ML):ME:=fun ρ=>(m ρ).bind fun ds=>match f ds with |some (.sh d)=>some d|some (.fr es)=>some (.lst es)|some (.pr d es)=>some (.tup [d,.lst es])|none=>none
@[irreducible] noncomputable def S5 (f:MF)(m:ML):ML:=fun ρ=>(m ρ).bind fun ds=>match f ds with |some (.fr es)=>some es|_=>none
variable {E:XK}{es:List Expr}{mf:MF}{m:ML}
theorem t3 {n:Nat}(h:∀ t,PA X es t->PE X e (zb4 (spR X.K n mf) [] E t))(hl:es.length=n)(ha:PAs X es m)(hm:∀ ρ ds,m ρ=some ds->ds.length=es.length):PD X e (t8 mf m):=(h _ ha).imp fun σ H Q G=>by
 obtain⟨F0,H0,F,ρ,d,rl,e,q⟩:=G
 unfold t8 at e
 cases h1:m ρ with
 |none=>rw[h1]at e;cases e
 |some ds=>
  rw[h1]at e
  refine⟨F0,H0,F,ρ,ds,rl,h1,fun vs F1 H1 j M=>?_⟩
  dsimp only[Option.bind]at e
  show spR X.K n mf (vs++[]) H1 Q E
  rw[append_nil]
  refine⟨by rw[M.length,hm ρ ds h1,hl],F1,ds,?_⟩
  split at e
  .rename_i d' h2
   cases e
   exact⟨_,j.fh,M,h2,fun v F2 H2 z N=>q v F2 H2 (j.trans z) N⟩
  .rename_i es' h2
   cases e
   exact⟨_,j.fh,M,h2,fun p xs F2 H2 z hp Z hH N=>q _ (upd F2 p (.lst xs)) H2 (j.trans (z.freeze Z hp hH)) (.lst (SqL.of z9) (N.mono ((Same.refl F2).put Z)))⟩
  .rename_i d' es' h2
   cases e
   refine⟨_,j.fh,M,h2,fun t v p xs F2 H2 z ht hp I U L O S rv rs=>?_⟩
   have x3:=z.freeze L hp S
   have i:upd F2 p (.lst xs) t=none:=by rw[y3 I];exact U
   have s2:Same F2 (upd F2 p (.lst xs)):=(Same.refl F2).put L
   have Y:Same (upd F2 p (.lst xs)) (upd (upd F2 p (.lst xs)) t (.tup [v,.ref p])):=(Same.refl _).put i
   exact q _ (upd (upd F2 p (.lst xs)) t (.tup [v,.ref p])) H2 (j.trans (x3.freeze i ht O)) (.tup (SqT.of z9) (.cons (rv.mono (s2.trans Y)) (.cons (.lst (SqL.of (by rw[y3 (Ne.symm I)];exact z9)) (rs.mono (s2.trans Y))) .nil)))
  .cases e
theorem zq9 {n:Nat}(h:∀ t,PA X es t->PE X e (zb4 (spR X.K n mf) [] E t))(L:es.length=n)(ha:PAs X es m)(hm:∀ ρ ds,m ρ=some ds->ds.length=es.length):PF X e (S5 mf m):=(h _ ha).imp fun σ H Q i=>by
 obtain⟨F0,H0,F,ρ,d,rl,e,q⟩:=i
 unfold S5 at e
 cases h1:m ρ with
 |none=>rw[h1]at e;cases e
 |some ds=>
  rw[h1]at e
  refine⟨F0,H0,F,ρ,ds,rl,h1,fun vs F1 H1 j z=>?_⟩
  dsimp only[Option.bind]at e
  show spR X.K n mf (vs++[]) H1 Q E
  rw[append_nil]
  refine⟨by rw[z.length,hm ρ ds h1,L],F1,ds,?_⟩
  split at e
  .rename_i es' h2
   cases e
   exact⟨_,j.fh,z,h2,fun p xs F2 H2 G hp N M I=>q p xs F2 H2 (j.trans G) (j.hh.free hp) N M I⟩
  .cases e
theorem yg9 (ρ:Ro)(ds:List D)(h:anil ρ=some ds):ds.length=0:=by cases h;rfl
theorem D3 {x:ME}{r:ML}{n:Nat}(i:∀ ρ ds,r ρ=some ds->ds.length=n)(ρ:Ro)(ds:List D)(h:z4 x r ρ=some ds):ds.length=n+1:=by
 obtain⟨d,es,_,h2,rfl⟩:=A2 h
 rw[length_cons,i ρ es h2]
end
end
section
section
variable {X:Cx}{a b c e:Expr}{ma mb:ME}{pos:Pos}
noncomputable def bl2 (g:Bool->Bool->Bool):D->D->Option D
 | .bl i,.bl j=>some (.bl (g i j))
 |_,_=>none
def xc7:List V->Hp->VK->Prop:=fun vs H Q=>∃ i j:Int,vs=[.int i,.int j]/\∀ p,H p=none->Q (.ref p) (upd H p (.rng i j))
theorem yq4:CallR X (.type "range") xc7:=by
 intro pins s σ H xs us Q I r h
 obtain⟨i,j,rfl,q⟩:=h
 obtain⟨u,w,rfl,⟨t,rfl⟩,⟨t',rfl⟩⟩:=zv0 r
 refine call_range_2 ⟨.ref s.heap.objs.size,_,I.laid (o:=.rng i j) (fun b o e=>Heap.get?_push_of_some _ e) (Nat.le_refl _) ⟨_,_,_,Heap.get?_push_size _ rfl⟩,rfl,q _ I.fresh⟩
theorem zv6 {K:W.Frag}{F:Hp}:∀ ns:List Int,Reps K F (ns.map V.int) (ns.map D.int)
 |[]=>.nil
 |n::ns=>.cons (.int n) (zv6 ns)
theorem xp0 {K:W.Frag}{m:MF}(h:∀ ns:List Int,ns.length<=63->m [.lst (ns.map .int)]=some (.sh (.bl true)))(H:Hp)(a:Addr)(ns:List Int)(i:ns.length<=63)(j:SqL K H a (ns.map V.int))(E:XK):
  spR K 1 m [.ref a] H (fun v _=>v= .bl true) E:=
 ⟨rfl,H,_,_,Same.refl H,.cons (.lst j (zv6 ns)) .nil,h ns i,fun v F' H' _ r=>by cases r;rfl⟩
end
end
section
noncomputable def xs8 (fsc:Scope)(fN:List Str)(sc:Scope)(N:List Str)(src:List (Option Nat)):Bool:=
 (sc.kind== .function)&&sc.names.all (fun y=>y.2 != .cell)&&sc.names.all (fun y=>y.2 != .local || sc.names.lookup y.1==some .local)
  &&sc.names.all (fun y=>y.2 != .free || (fsc.names.lookup y.1==some .cell || fsc.names.lookup y.1==some .free))&&(src.length==N.length)
  &&(List.range src.length).all fun j=>match src[j]? with
   |some (some i)=>match N[j]? with
    |some x=>fN[i]? ==some x&&sc.names.lookup x==some .free
    |none=>false
   |_=>true
theorem X4 {X:Cx}{sc:Scope}{N:List Str}{src:List (Option Nat)}(G:Scope)(M:List Str)(h1:X.env.scope=G)(h2:X.N=M)(h:xs8 G M sc N src=true):Blk X sc N src:=by
 unfold xs8 at h
 simp only[Bool.and_eq_true,all_eq_true,beq_iff_eq,Bool.or_eq_true,bne_iff_ne,ne_eq]at h
 obtain⟨⟨⟨⟨⟨a1,Z⟩,Y⟩,U⟩,S⟩,O⟩:=h
 refine⟨a1,Z,fun y I L=>?_,fun y I L=>?_,fun j i e=>?_,S⟩
 .rcases Y y I with z|z
  .exact absurd L z
  .exact z
 .have k:∀ x,X.env.kindOf x=G.names.lookup x:=fun x=>by rw[<-h1];rfl
  rw[k]
  rcases U y I with z|z
  .exact absurd L z
  .exact z
 .have hj:j<src.length:=(List.getElem?_eq_some_iff.mp e).1
  have:=O j (List.mem_range.mpr hj)
  rw[e]at this
  simp only at this
  cases hx:N[j]? with
  |none=>rw[hx]at this;cases this
  |some x=>
   rw[hx]at this
   simp only[Bool.and_eq_true,beq_iff_eq]at this
   exact⟨x,rfl,by rw[h2];exact this.1,this.2⟩
end
section
theorem xn0 {X:Cx}{a:Expr}{i:ML}{lo hi:Option Expr}{l h:MO}{p2 pos:Pos}(ha:PB X a i)(j:POs X lo l)(hh:POs X hi h):PF X (.Subscript a (.Slice lo hi none p2) pos) (mcut i l h):=xn2 ha j hh (yk2 yb8 ha j hh)
end
section
noncomputable def zipE (f:D->D->Option Bool):List D->List D->Option Bool
 |d::ds,e::es=>(f d e).bind fun a=>(zipE f ds es).bind fun b=>some (a&&b)
 |_,_=>some true
noncomputable def eqF:Nat->D->D->Option Bool
 |0,_,_=>none
 |n+1,.lst ds,.lst es=>if ds.length=es.length then zipE (eqF n) ds es else some false
 |n+1,.tup ds,.tup es=>(zipE (eqF n) ds es).map fun b=>b&&ds.length==es.length
 |_+1,d,e=>eqS d e
theorem A4 {f:D->D->Option Bool}:∀{ds es:List D}{k:Bool},zipE f ds es=some k->∃ g:Nat->Bool,(∀ j d e,ds[j]? =some d->es[j]? =some e->f d e=some (g j))/\k=(List.range (min ds.length es.length)).all g
 |[],es,k,h=>by
  have h:some true=some k:=by simpa[zipE]using h
  cases h
  exact⟨fun _=>true,by simp,by simp⟩
 |_::_,[],k,h=>by
  have h:some true=some k:=by simpa[zipE]using h
  cases h
  exact⟨fun _=>true,by simp,by simp⟩
 |d::ds,e::es,k,h=>by
  unfold zipE at h
  cases h1:f d e with
  |none=>rw[h1]at h;cases h
  |some a=>
   rw[h1]at h
   cases h2:zipE f ds es with
   |none=>rw[h2]at h;cases h
   |some b=>
    rw[h2]at h
    have h:some (a&&b)=some k:=h
    cases h
    obtain⟨g,z,i⟩:=A4 h2
    refine⟨fun j=>match j with |0=>a|j+1=>g j,?_,?_⟩
    .intro j d' e' hd he
     cases j with
     |zero=>simp at hd he;subst hd he;exact h1
     |succ j=>exact z j d' e' (by simpa using hd) (by simpa using he)
    .rw[i,length_cons,length_cons,Nat.add_min_add_right,range_succ_eq_map,all_cons,all_map]
     rfl
section
variable {X:Cx}{pins:List (Addr×Obj)}{σ:St}{H:Hp}{s:Shared}
theorem J6 {f:D->D->Option Bool}(i:∀{v:V}{d e:D}{k:Bool},Rep X.K H v d->Rep X.K H v e->f d e=some k->k=true):∀{vs:List V}{ds es:List D}{k:Bool},Reps X.K H vs ds->Reps X.K H vs es->zipE f ds es=some k->k=true
 |_,_,_,_,.nil,.nil,h=>by simp[zipE]at h;exact h
 |_::_,d::ds,e::es,k,.cons r1 s1,.cons r2 s2,h=>by
  unfold zipE at h
  cases h1:f d e with
  |none=>rw[h1]at h;cases h
  |some a=>
   rw[h1]at h
   cases h2:zipE f ds es with
   |none=>rw[h2]at h;cases h
   |some b=>
    rw[h2]at h
    have h:some (a&&b)=some k:=h
    cases h
    rw[i r1 r2 h1,J6 i s1 s2 h2];rfl
theorem Rep.eqT (I:Inv X pins σ H s):∀(n:Nat){v:V}{d e:D}{k:Bool},Rep X.K H v d->Rep X.K H v e->eqF n d e=some k->k=true
 |0,_,_,_,_,_,_,h=>by simp[eqF]at h
 |n+1,v,d,e,k,r1,r2,h=>by
  cases r1 with
  |non=>cases r2;exact(Option.some.inj (show some true=some k from h)).symm
  |bl b=>cases r2;exact(Option.some.inj (show some (b==b)=some k from h)).symm.trans (beq_self_eq_true b)
  |int b=>cases r2;exact(Option.some.inj (show some (b==b)=some k from h)).symm.trans (beq_self_eq_true b)
  |str b=>cases r2;exact(Option.some.inj (show some (b==b)=some k from h)).symm.trans (beq_self_eq_true b)
  |lst G z=>
   cases r2 with
   |lst j i=>
    have e:=I.list_inj G j
    subst e
    simp only[eqF]at h
    split at h
    .exact J6 (fun a b c=>Rep.eqT I n a b c) z i h
    .rename_i hl;exact absurd (z.length.symm.trans i.length) hl
   |_=>cases h
  |tup G z=>
   cases r2 with
   |tup j i=>
    have e:=I.tuple_inj G j
    subst e
    simp only[eqF]at h
    cases hz:zipE (eqF n) _ _ with
    |none=>rw[hz]at h;cases h
    |some L=>
     rw[hz]at h
     have h:=Option.some.inj h
     rw[<-h,J6 (fun a b c=>Rep.eqT I n a b c) z i hz,z.length.symm.trans i.length]
     simp
   |_=>cases h
  |_=>cases h
open PySem.SeqAt in
theorem xg2 {K:W.Frag}{H:Hp}{A:Around}{s:Shared}{x y:V}{v u:Value}{d e:D}{k:Bool}(L:Rep K H x d)(I:Rep K H y e)(z:RelV x v)(j:RelV y u)(h:eqS d e=some k):EqAt A s v u k/\RcAt A s v u k/\RcNeAt A s v u (!k):=by
 obtain⟨N,G⟩:=zo9 d e k h
 rw[zd2 h L]at z
 rw[zd2 G I]at j
 clear L I G
 cases d with
 |non=>
  cases z
  cases e with
  |non=>cases j;cases h;exact⟨EqAt.same _,.none_none,.none_none⟩
  |bl b=>cases j;cases h;exact⟨.none_bool _,.none_bool _,.none_bool _⟩
  |int b=>obtain⟨t,rfl⟩:=j;cases h;exact⟨.none_int _ _,.none_int _ _,.none_int _ _⟩
  |str b=>obtain⟨t,rfl⟩:=j;cases h;exact⟨.none_str _ _,.none_str _ _,.none_str _ _⟩
  |_=>cases h
 |bl i=>
  cases z
  cases e with
  |non=>cases j;cases h;exact⟨.bool_none _,.bool_none _,.bool_none _⟩
  |bl b=>cases j;cases h;exact⟨.bool_bool _ _,.bool_bool _ _,.bool_bool _ _⟩
  |str b=>obtain⟨t,rfl⟩:=j;cases h;exact⟨.bool_str _ _ _,.bool_str _ _ _,.bool_str _ _ _⟩
  |_=>cases h
 |int i=>
  obtain⟨M,rfl⟩:=z
  cases e with
  |non=>cases j;cases h;exact⟨.int_none _ _,.int_none _ _,.int_none _ _⟩
  |int b=>obtain⟨t,rfl⟩:=j;cases h;exact⟨.int_int _ _ _ _,.int_int _ _ _ _,.int_int _ _ _ _⟩
  |str b=>obtain⟨t,rfl⟩:=j;cases h;exact⟨.int_str _ _ _ _,.int_str _ _ _ _,.int_str _ _ _ _⟩
  |_=>cases h
 |str i=>
  obtain⟨M,rfl⟩:=z
  cases e with
  |non=>cases j;cases h;exact⟨.str_none _ _,.str_none _ _,.str_none _ _⟩
  |bl b=>cases j;cases h;exact⟨.str_bool _ _ _,.str_bool _ _ _,.str_bool _ _ _⟩
  |int b=>obtain⟨t,rfl⟩:=j;cases h;exact⟨.str_int _ _ _ _,.str_int _ _ _ _,.str_int _ _ _ _⟩
  |str b=>obtain⟨t,rfl⟩:=j;cases h;exact⟨.str_str _ _ _ _,.str_str _ _ _ _,.str_str _ _ _ _⟩
  |_=>cases h
 |_=>cases h
theorem xu9 {n:Nat}{d e:D}{k:Bool}(h:eqF (n+1) d e=some k):eqS d e=some k\/(∃ ds es,d= .lst ds/\e= .lst es/\(if ds.length=es.length then zipE (eqF n) ds es else some false)=some k)\/∃ ds es i,d= .tup ds/\e= .tup es/\zipE (eqF n) ds es=some i/\(i&&ds.length==es.length)=k:=by
 cases d with
 |lst ds=>
  cases e with
  |lst es=>exact .inr (.inl ⟨ds,es,rfl,rfl,h⟩)
  |_=>exact .inl h
 |tup ds=>
  cases e with
  |tup es=>
   have h:((zipE (eqF n) ds es).map fun b=>b&&ds.length==es.length)=some k:=h
   cases hz:zipE (eqF n) ds es with
   |none=>rw[hz]at h;cases h
   |some i=>rw[hz]at h;exact .inr (.inr ⟨ds,es,i,rfl,rfl,hz,Option.some.inj h⟩)
  |_=>exact .inl h
 |_=>exact .inl h
theorem zh1 {K:W.Frag}{H:Hp}{A:Around}{s:Shared}{n:Nat}{xs ys:List V}{ds es:List D}{its i:List Value}{g:Nat->Bool}(ih:∀{x y:V}{v u:Value}{d e:D}{k:Bool},Rep K H x d->Rep K H y e->RelV x v->RelV y u->eqF n d e=some k->PySem.SeqAt.EqAt A s v u k)(rs:Reps K H xs ds)(G:Reps K H ys es)(vr:Vals xs its)(z:Vals ys i)
  (g1:∀(j:Nat) d e,ds[j]? =some d->es[j]? =some e->eqF n d e=some (g j)) (j:Nat) (h1:j<its.toArray.size) (h2:j<i.toArray.size):PySem.SeqAt.EqAt A s its.toArray[j] i.toArray[j] (g j):=by
 have z1:its.length=ds.length:=by rw[<-vr.length,rs.length]
 have z2:i.length=es.length:=by rw[<-z.length,G.length]
 simp only[size_toArray]at h1 h2
 obtain⟨d',M⟩:∃ d',ds[j]? =some d':=⟨_,getElem?_eq_getElem (z1 ▸ h1)⟩
 obtain⟨Z,L⟩:∃ Z,es[j]? =some Z:=⟨_,getElem?_eq_getElem (z2 ▸ h2)⟩
 obtain⟨v',U,N⟩:=rs.get M
 obtain⟨u',Y,O⟩:=G.get L
 obtain⟨p,hp,rp⟩:=vr.get U
 obtain⟨p2,I,S⟩:=z.get Y
 have e1:its.toArray[j]=p:=by
  rw[getElem?_eq_getElem h1]at hp
  simpa using hp
 have e2:i.toArray[j]=p2:=by
  rw[getElem?_eq_getElem h2]at I
  simpa using I
 rw[e1,e2]
 exact ih N O rp S (g1 j d' Z M L)
open PySem.SeqAt in
theorem ys5 (I:Inv X pins σ H s):∀(n:Nat){A:Around}{x y:V}{v u:Value}{d e:D}{k:Bool},A.units+n<cLine->Rep X.K H x d->Rep X.K H y e->RelV x v->RelV y u->eqF n d e=some k->EqAt A s v u k/\RcAt A s v u k/\RcNeAt A s v u (!k)
 |0,A,x,y,v,u,d,e,k,hu,r1,r2,q1,q2,h=>by simp[eqF]at h
 |n+1,A,x,y,v,u,d,e,k,hu,r1,r2,q1,q2,h=>by
  have G:A.units<cLine:=by omega
  have a0:A.in1.units+n<cLine:=by show A.units+1+n<cLine;omega
  rcases xu9 h with h1|⟨ds,es,rfl,rfl,h1⟩|⟨ds,es,kk,rfl,rfl,Y,hk⟩
  .exact xg2 r1 r2 q1 q2 h1
  .obtain⟨a,xs,rfl,sq,rs⟩:=r1.l'
   obtain⟨b,ys,rfl,M,z⟩:=r2.l'
   cases q1;cases q2
   obtain⟨its,vr,⟨o,m,ho,hc,_,hd⟩,_⟩:=I.list sq
   obtain⟨i,L,⟨o2,m2,N,S,_,O⟩,_⟩:=I.list M
   have Z:s.heap.IsList a its.toArray:=⟨o,ho,hc,m,hd⟩
   have L2:s.heap.IsList b i.toArray:=⟨o2,N,S,m2,O⟩
   clear ho hc hd N S O
   have z1:its.length=ds.length:=by rw[<-vr.length,rs.length]
   have z2:i.length=es.length:=by rw[<-L.length,z.length]
   have j:RcAt A s (.ref a) (.ref b) k/\RcNeAt A s (.ref a) (.ref b) (!k):=by
    by_cases hl:ds.length=es.length
    .rw[if_pos hl]at h1
     obtain⟨g,g1,g2⟩:=A4 h1
     have he:=zh1 (fun a b c d e=>(ys5 I n a0 a b c d e).1) rs z vr L g1
     have Y:its.toArray.size=i.toArray.size:=by simp only[size_toArray];rw[z1,z2,hl]
     have hk:k=(List.range its.toArray.size).all g:=by
      rw[g2];simp only[size_toArray];rw[z1,hl,Nat.min_self]
     rw[hk]
     exact⟨.lists Z L2 Y G he,.lists Z L2 Y G he⟩
    .rw[if_neg hl]at h1
     cases h1
     have Y:(its.toArray.size != i.toArray.size)=true:=by simp only[size_toArray];rw[z1,z2];exact bne_iff_ne.mpr hl
     exact⟨.lists_lengths Z L2 Y G,.lists_lengths Z L2 Y G⟩
   refine⟨?_,j⟩
   by_cases U:a=b
   .subst U
    rw[Rep.eqT I (n+1) (.lst sq rs) (.lst M z) h]
    exact EqAt.same _
   .exact .of_refs U j.1
  .obtain⟨a,xs,rfl,sq,rs⟩:=r1.t'
   obtain⟨b,ys,rfl,M,z⟩:=r2.t'
   cases q1;cases q2
   obtain⟨its,vr,⟨o,ho,hc,m,hd⟩,_⟩:=I.tuple sq
   obtain⟨i,L,⟨o2,N,S,m2,O⟩,_⟩:=I.tuple M
   have Z:s.heap.IsTuple a its.toArray:=⟨o,ho,hc,m,hd⟩
   have L2:s.heap.IsTuple b i.toArray:=⟨o2,N,S,m2,O⟩
   clear ho hc hd N S O
   have z1:its.length=ds.length:=by rw[<-vr.length,rs.length]
   have z2:i.length=es.length:=by rw[<-L.length,z.length]
   have j:RcAt A s (.ref a) (.ref b) k/\RcNeAt A s (.ref a) (.ref b) (!k):=by
    obtain⟨g,g1,g2⟩:=A4 Y
    have he:=zh1 (fun a b c d e=>(ys5 I n a0 a b c d e).1) rs z vr L g1
    have hk:k=((List.range (min its.toArray.size i.toArray.size)).all g&&its.toArray.size==i.toArray.size):=by
     rw[<-hk,g2];simp only[size_toArray];rw[z1,z2]
    rw[hk]
    exact⟨.tuples Z L2 G he,.tuples Z L2 G he⟩
   refine⟨?_,j⟩
   by_cases U:a=b
   .subst U
    rw[Rep.eqT I (n+1) (.tup sq rs) (.tup M z) h]
    exact EqAt.same _
   .exact .of_refs U j.1
end
end
section
section
variable {X:Cx}{a b c e:Expr}{ma mb:ME}{la lb:ML}{pos:Pos}
def rEqF (K:W.Frag)(neg:Bool):R2:=fun x y H Q=>∃ d e k,Rep K H x d/\Rep K H y e/\eqF 8 d e=some k/\Q (.bl (if neg then !k else k)) H
theorem xk2 (L:X.A.units+64<cLine):OpR X (compareOp .Eq) (rEqF X.K false):=by
 intro pins s σ H x y v u Q I j i h
 obtain⟨d,e,k,G,z,h,q⟩:=h
 exact(ys5 I 8 (by omega) G z j i h).2.1 X.prog X.w _ _ ⟨.bl k,H,I,rfl,q⟩
theorem yx8 (L:X.A.units+64<cLine):OpR X (compareOp .NotEq) (rEqF X.K true):=by
 intro pins s σ H x y v u Q I j i h
 obtain⟨d,e,k,G,z,h,q⟩:=h
 exact(ys5 I 8 (by omega) G z j i h).2.2 X.prog X.w _ _ ⟨.bl (!k),H,I,rfl,q⟩
noncomputable def eqFD (neg:Bool)(d e:D):Option D:=(eqF 8 d e).map fun k=>.bl (if neg then !k else k)
@[irreducible] noncomputable def meqB (neg:Bool)(x y:ML):ME:=fun ρ=>(x ρ).bind fun ds=>(y ρ).bind fun es=>eqFD neg (.lst ds) (.lst es)
theorem xg4 {i:Bool}{σ:St}{H:Hp}{Q:VK}(h:TD X.K (meqB i la lb) σ H Q):tOp (rEqF X.K i) (TB X.K la) (TB X.K lb) σ H Q:=by
 obtain⟨F0,H0,F,ρ,g,rl,e,q⟩:=h
 unfold meqB at e
 cases h1:la ρ with
 |none=>rw[h1]at e;cases e
 |some ds=>
  cases h2:lb ρ with
  |none=>rw[h1,h2]at e;cases e
  |some es=>
   rw[h1,h2]at e
   have e:eqFD i (.lst ds) (.lst es)=some g:=e
   refine⟨F0,H0,F,ρ,ds,rl,h1,fun p xs F1 H1 z s1 L=>⟨F0,H0,F1,ρ,es,rl.go z,h2,fun p2 G F2 H2 j s2 I=>?_⟩⟩
   unfold eqFD at e
   cases hk:eqF 8 (.lst ds) (.lst es)with
   |none=>rw[hk]at e;cases e
   |some k=>
    rw[hk]at e;cases e
    exact⟨_,_,k,.lst (j.hh.seq s1) (L.mono (j.ff.trans j.fh)),.lst s2 (I.mono j.fh),hk,q _ F2 H2 (z.trans j) (.bl _)⟩
theorem xm1 {op:CmpOp}{i:Bool}(j:OpR X (compareOp op) (rEqF X.K i))(ha:PB X a la)(z:PB X b lb)(hm:behindInMarks op b=false):PD X (.Compare a [op] [b] pos) (meqB i la lb):=(yy5 j ha z hm).imp fun _ _ _ h=>xg4 h
theorem yx5 {op:CmpOp}{i:Bool}(z:OpR X (compareOp op) (rEqF X.K i))(ha:PB X a la)(G:PB X b lb)(hm:behindInMarks op b=false):PC' X (.Compare a [op] [b] pos) (l0 (meqB i la lb)):=(yz0 z ha G hm).imp fun σ H Q j=>by
 obtain⟨F0,H0,F,ρ,g,rl,e,q⟩:=j
 unfold l0 at e
 split at e
 .rename_i k hk
  cases e
  refine xg4 ⟨F0,H0,F,ρ,.bl g,rl,hk,fun v F' H' x r=>?_⟩
  cases r
  exact⟨_,rfl,q F' H' x⟩
 .cases e
noncomputable def tyD:D->String
 | .non=>"NoneType"| .bl _=>"bool"| .int _=>"int"| .str _=>"str"| .lst _=>"list"| .tup _=>"tuple"| .exc _=>"?"| .ptr _=>"?"| .obj _ _ _=>"?"
noncomputable def kitB (t c:String):Option Bool:=if t="?" then none else if (Value.type t==Value.type c)=true then some true else if W.kitMeta c=true then (fastBuiltinMro t).map (·.contains (Value.type c))else none
theorem zt9 {K:W.Frag}{t c:String}{k:Bool}(h:kitB t c=some k):t≠"?"/\W.kitOne K (.type t) (.type c)=some k:=by
 unfold kitB at h
 split at h
 .cases h
 .rename_i z;exact⟨z,h⟩
theorem xv8 {pins:List (Addr×Obj)}{σ:St}{H:Hp}{s:Shared}{A:Around}{E:Value->Shared->Prop}{Q:Value->Shared->Prop}{c:Value}{k:Bool}{x:V}{d:D}{u:Value}(I:Inv X pins σ H s)(j:RelV x u)(r:Rep X.K H x d)
  (e:tyD d≠"?"/\W.kitOne X.K (.type (tyD d)) c=some k) (h:∀ tk,Q (.bool k) { s with toks:=tk }):wpAny (model X.prog X.w) A (call (.builtin "isinstance") [u,c]) Q E s:=by
 obtain⟨L,e⟩:=e
 cases r with
 |exc _ _=>exact absurd rfl L
 |ptr _=>exact absurd rfl L
 |obj _ _ _ _ _=>exact absurd rfl L
 |non=>exact P9 I j .non e h
 |bl y=>exact P9 I j (.bl y) e h
 |int i=>exact P9 I j (.int i) e h
 |str y=>exact P9 I j (.str y) e h
 |lst G S=>
  cases j
  obtain⟨its,O,⟨o,m,M,N,_,hd⟩,_⟩:=I.list G
  exact W.kia_one W.kitx_list I.kIn ⟨_,M,N⟩ e (fun z=>nomatch z) h
 |tup G S=>
  cases j
  obtain⟨its,O,⟨o,M,N,m,hd⟩,_⟩:=I.tuple G
  exact W.kia_one W.kitx_tuple I.kIn ⟨_,M,N⟩ e (fun z=>nomatch z) h
def rIsi (K:W.Frag)(c:String):List V->Hp->VK->Prop:=fun vs H Q=>∃ x d k,vs=[x,.ty c]/\Rep K H x d/\kitB (tyD d) c=some k/\Q (.bl k) H
theorem yg3 {c:String}:CallR X (.builtin "isinstance") (rIsi X.K c):=by
 intro pins s σ H xs us Q I r h
 obtain⟨x,d,k,rfl,rd,e,q⟩:=h
 obtain⟨u,w,rfl,j,i⟩:=zv0 r
 cases i
 exact xv8 I j rd (zt9 e) fun tk=>⟨.bl k,H,I.tok _,rfl,q⟩
@[irreducible] noncomputable def misi (c:String)(m:ME):ME:=fun ρ=>(m ρ).bind fun d=>(kitB (tyD d) c).map .bl
theorem T3 {c:Str}{C:String}{p p2:Pos}(O:Gl X "isinstance")(hm:X.mg "isinstance"=none)(I:Gl X c)(G:X.mg c=none)(N:bootBuiltins c=some (.type C))(ha:PD X a ma)
  (hn:c≠"__name__":=by decide) (hd:(c==("__debug__":Str))=false:=by decide)
  (hs:starEach (a::[.Name c p2]) X.env=(false,eval a X.env)::starEach [.Name c p2] X.env:=by rfl) (j:starEach [.Name c p2] X.env=(false,eval (.Name c p2) X.env)::starEach [] X.env:=by rfl)
  (z:(backTo pos (starEach [.Name c p2] X.env)).any (·.1)=false:=by rfl):PD X (.Call (.Name "isinstance" p) [a,.Name c p2] [] pos) (misi C ma):=
 (f6 (yg3 (c:=C)) O hm PyProof.Rows.boot_isinstance (k4 ha (k4 (zp0 (v:=.ty C) I G N rfl hn hd) pa_nil j) hs) (by decide) (by decide) hs z).imp fun σ H Q i=>by
  obtain⟨F0,H0,F,ρ,g,rl,e,q⟩:=i
  unfold misi at e
  cases h1:ma ρ with
  |none=>rw[h1]at e;cases e
  |some d=>
   rw[h1]at e
   have e:(kitB (tyD d) C).map D.bl=some g:=e
   cases h2:kitB (tyD d) C with
   |none=>rw[h2]at e;cases e
   |some k=>
    rw[h2]at e;cases e
    exact⟨F0,H0,F,ρ,d,rl,h1,fun v F1 H1 L M=>⟨v,d,k,rfl,M.mono L.fh,h2,q _ F1 H1 L (.bl _)⟩⟩
end
end
section
section
variable {X:Cx}{a b c e k:Expr}{te:TE}{ma mb:ME}{la lb:ML}{pos p2:Pos}{st:Stmt}
end
end
section
section
variable {X:Cx}{a b c e:Expr}{ma mb:ME}{la lb:ML}{pos:Pos}{st:Stmt}
noncomputable def zs0 (t c1 c2:String):Option Bool:=match kitB t c1 with |some true=>some true|some false=>(match kitB t c2 with |some true=>some true|some false=>some false|none=>none)|none=>none
theorem xv5 {K:W.Frag}{t c1 c2:String}{k:Bool}(h:zs0 t c1 c2=some k):t≠"?"/\W.kitAny K (.type t) [.type c1,.type c2]=some k:=by
 unfold zs0 at h
 split at h
 .rename_i q1
  obtain⟨z,e⟩:=zt9 (K:=K) q1
  refine⟨z,?_⟩
  unfold W.kitAny;rw[e];exact h
 .rename_i q1
  obtain⟨z,e⟩:=zt9 (K:=K) q1
  refine⟨z,?_⟩
  unfold W.kitAny;rw[e]
  split at h
  .rename_i q2
   unfold W.kitAny;rw[(zt9 (K:=K) q2).2];exact h
  .rename_i q2
   unfold W.kitAny;rw[(zt9 (K:=K) q2).2];exact h
  .cases h
 .cases h
theorem yh1 {pins:List (Addr×Obj)}{σ:St}{H:Hp}{s:Shared}{A:Around}{E:Value->Shared->Prop}{Q:Value->Shared->Prop}{k:Bool}{x:V}{d:D}{u:Value}{tp:Addr}{Y:Option Addr}{its:List Value}{n:Nat}{sl:Array (Option Value)}(I:Inv X pins σ H s)(G:RelV x u)(r:Rep X.K H x d)
  (j:s.heap.get? tp=some ⟨.type "tuple",Y,.seq its.toArray n,sl⟩)
  (e:tyD d≠"?"/\W.kitAny X.K (.type (tyD d)) its=some k) (h:∀ tk,Q (.bool k) { s with toks:=tk }):wpAny (model X.prog X.w) A (call (.builtin "isinstance") [u,.ref tp]) Q E s:=by
 obtain⟨M,e⟩:=e
 cases r with
 |exc _ _=>exact absurd rfl M
 |ptr _=>exact absurd rfl M
 |obj _ _ _ _ _=>exact absurd rfl M
 |non=>cases G;exact W.kia_tup W.kitx_none I.kIn True.intro j e (fun z=>nomatch z) h
 |bl y=>cases G;exact W.kia_tup W.kitx_bool I.kIn True.intro j e (fun z=>nomatch z) h
 |int i=>obtain⟨t,rfl⟩:=G;exact W.kia_tup W.kitx_int I.kIn True.intro j e (fun z=>nomatch z) h
 |str y=>obtain⟨t,rfl⟩:=G;exact W.kia_tup W.kitx_str I.kIn True.intro j e (fun z=>nomatch z) h
 |lst L U=>
  cases G
  obtain⟨its,S,⟨o,m,N,O,_,hd⟩,_⟩:=I.list L
  exact W.kia_tup W.kitx_list I.kIn ⟨_,N,O⟩ j e (fun z=>nomatch z) h
 |tup L U=>
  cases G
  obtain⟨its,S,⟨o,N,O,m,hd⟩,_⟩:=I.tuple L
  exact W.kia_tup W.kitx_tuple I.kIn ⟨_,N,O⟩ j e (fun z=>nomatch z) h
def xc8 (K:W.Frag)(c1 c2:String):List V->Hp->VK->Prop:=fun vs H Q=>∃ x p d k,vs=[x,.ref p]/\H p=some (.tup [.ty c1,.ty c2])/\Rep K H x d/\zs0 (tyD d) c1 c2=some k/\Q (.bl k) H
theorem yq7 {c1 c2:String}:CallR X (.builtin "isinstance") (xc8 X.K c1 c2):=by
 intro pins s σ H xs us Q I r h
 obtain⟨x,p,d,k,rfl,hp,rd,e,q⟩:=h
 obtain⟨u,w,rfl,L,G⟩:=zv0 r
 cases G
 obtain⟨z,its,j,⟨⟨cls,Y,data,sl⟩,O,i,n,hd⟩⟩:=(show ObjOk X.prog X.w H s.heap p (.tup [.ty c1,.ty c2])from I.hok p _ hp)
 obtain⟨U,S,rfl,N,M⟩:=zv0 j
 cases N;cases M
 simp only at i hd
 subst i hd
 exact yh1 I L rd O (xv5 e) fun tk=>⟨.bl k,H,I.tok _,rfl,q⟩
@[irreducible] noncomputable def zy7 (c1 c2:String)(m:ME):ME:=fun ρ=>(m ρ).bind fun d=>(zs0 (tyD d) c1 c2).map .bl
theorem zz5 {c1 c2:Str}{C1 C2:String}{p p1 p2 j:Pos}{i}(hg:Gl X "isinstance")(hm:X.mg "isinstance"=none)(a1:Gl X c1)(Z:X.mg c1=none)(I:bootBuiltins c1=some (.type C1))(a0:Gl X c2)(Y:X.mg c2=none)(G:bootBuiltins c2=some (.type C2))(ha:PD X a ma)
  (U:c1≠"__name__":=by decide) (a3:(c1==("__debug__":Str))=false:=by decide) (S:c2≠"__name__":=by decide) (a2:(c2==("__debug__":Str))=false:=by decide)
  (hs:starEach (a::[.Tuple [.Name c1 p1,.Name c2 p2] i j]) X.env=(false,eval a X.env)::starEach [.Tuple [.Name c1 p1,.Name c2 p2] i j] X.env:=by rfl) (N:starEach [.Tuple [.Name c1 p1,.Name c2 p2] i j] X.env=(false,eval (.Tuple [.Name c1 p1,.Name c2 p2] i j) X.env)::starEach [] X.env:=by rfl)
  (M:starEach [.Name c1 p1,.Name c2 p2] X.env=(false,eval (.Name c1 p1) X.env)::starEach [.Name c2 p2] X.env:=by rfl) (L:starEach [.Name c2 p2] X.env=(false,eval (.Name c2 p2) X.env)::starEach [] X.env:=by rfl)
  (O:(backTo pos (starEach [.Tuple [.Name c1 p1,.Name c2 p2] i j] X.env)).any (·.1)=false:=by rfl):PD X (.Call (.Name "isinstance" p) [a,.Tuple [.Name c1 p1,.Name c2 p2] i j] [] pos) (zy7 C1 C2 ma):=
 (f6 (yq7 (c1:=C1) (c2:=C2)) hg hm PyProof.Rows.boot_isinstance (k4 ha (k4 (ye0 (k4 (zp0 (v:=.ty C1) a1 Z I rfl U a3) (k4 (zp0 (v:=.ty C2) a0 Y G rfl S a2) pa_nil L) M)) pa_nil N) hs) (by decide) (by decide) hs O).imp fun σ H Q z=>by
  obtain⟨F0,H0,F,ρ,g,rl,e,q⟩:=z
  unfold zy7 at e
  cases h1:ma ρ with
  |none=>rw[h1]at e;cases e
  |some d=>
   rw[h1]at e
   have e:(zs0 (tyD d) C1 C2).map D.bl=some g:=e
   cases h2:zs0 (tyD d) C1 C2 with
   |none=>rw[h2]at e;cases e
   |some k=>
    rw[h2]at e;cases e
    refine⟨F0,H0,F,ρ,d,rl,h1,fun v F1 H1 i r1=>⟨by show 2<=sizeLine;rw[sizeLine_eq];decide,fun w hw=>?_⟩⟩
    exact⟨v,w,d,k,rfl,z9,r1.mono (i.fh.put (i.fh.free hw)),h2,q _ F1 _ (i.trans (Ext.own i.fh hw)) (.bl _)⟩
end
end
section
section
variable {K:W.Frag}{F0 H0 F H:Hp}{σ:St}{ρ:Ro}
theorem Rl.freezeP (r:Rl K F0 H0 F H σ ρ){i:Nat}{ds:List D}(h:ρ[i]? =some (some (.own ds))):∃ p xs,F p=none/\Rl K F0 H0 (upd F p (.lst xs)) H σ (ρ.set i (some (.sh (.lst ds)))):=by
 obtain⟨p,xs,a,b,c,d,z⟩:=r.own i ds h
 have I:i<ρ.length:=(List.getElem?_eq_some_iff.mp h).1
 have e:Ext F0 H0 (upd F p (.lst xs)) H:=r.ext.freeze b z c
 have ff:Same F (upd F p (.lst xs)):=(Same.refl F).put b
 refine⟨p,xs,b,⟨e,by simp[r.len],fun j d' q=>?_,fun j es q=>?_,fun j k q es G N e1 e2 e3 e4=>?_,fun j q es e1=>?_,fun j k q es G e1 e2 e3=>?_,fun j k q Z es G e1 e2=>r.ob1 j k q Z es G (j3 e1).2 (j3 e2).2,fun j q es e1=>r.rd j q es (R8 e1).2⟩⟩
 .by_cases hj:i=j
  .subst hj
   rw[getElem?_set_self I]at q
   cases q
   exact⟨_,a,.lst (SqL.of z9) (d.mono ff)⟩
  .rw[getElem?_set_ne hj]at q
   obtain⟨v,Y,U⟩:=r.sh j d' q
   exact⟨v,Y,U.mono ff⟩
 .by_cases hj:i=j
  .subst hj
   rw[getElem?_set_self I]at q
   cases q
  .rw[getElem?_set_ne hj]at q
   obtain⟨p',L,O,b',c',d',S⟩:=r.own j es q
   have hp:p'≠p:=fun w=>r.inj i j p ds es hj h q a (by rw[<-w];exact O)
   exact⟨p',L,O,by rw[y3 hp];exact b',c',d'.mono ff,S⟩
 .have n1:i≠j:=fun w=>by subst w;rw[getElem?_set_self I]at e1;cases e1
  have M:i≠k:=fun w=>by subst w;rw[getElem?_set_self I]at e2;cases e2
  rw[getElem?_set_ne n1]at e1
  rw[getElem?_set_ne M]at e2
  exact r.inj j k q es G N e1 e2 e3 e4
 .obtain⟨n,e1⟩:=j3 e1
  obtain⟨o1,o2,o3,zs,o4,o5⟩:=r.ob j q es e1
  have hp:q≠p:=fun w=>r.obn j i q es ds e1 h (by rw[w];exact a)
  exact⟨o1,by rw[y3 hp];exact o2,o3,zs,o4,o5.mono ff⟩
 .obtain⟨n,e1⟩:=j3 e1
  have M:i≠k:=fun w=>by subst w;rw[getElem?_set_self I]at e2;cases e2
  rw[getElem?_set_ne M]at e2
  exact r.obn j k q es G e1 e2 e3
end
noncomputable def isSc:D->Bool
 | .lst _=>false
 | .tup _=>false
 | .exc _=>false
 | .ptr _=>false
 | .obj _ _ _=>false
 |_=>true
theorem yf7 {K:W.Frag}{F G:Hp}{v:V}{d:D}(h:isSc d=true)(r:Rep K F v d):Rep K G v d:=by
 cases r with
 |non=>exact .non
 |bl b=>exact .bl b
 |int i=>exact .int i
 |str x=>exact .str x
 |lst _ _=>cases h
 |tup _ _=>cases h
 |exc _ _=>cases h
 |ptr _=>cases h
 |obj _ _ _ _ _=>cases h
end
section
section
variable {X:Cx}{a b c e:Expr}{ma mb mz:ME}{la lb:ML}{pos:Pos}
noncomputable def ixTD:D->D->Option D
 | .tup ds,.int k=>atI ds k
 |_,_=>none
theorem xx7 {K:W.Frag}:OpD K (rIxT K) ixTD:=by
 intro F H x y d e w Q s G z h q
 cases d with
 |tup ds=>
  cases e with
  |int k=>
   obtain⟨a,xs,e1,i,j⟩:=G.t'
   obtain⟨v,L,I⟩:=zg5 j (show atI _ k=some w from h)
   exact⟨_,_,k,v,e1,z.i',s.seqT i,L,q v F H (.refl s) I⟩
  |_=>cases h
 |_=>cases h
theorem xm0 (ha:PD X a ma)(i:PD X b mb)(hs:zk3 b:=by exact fun _ _=>rfl):PD X (.Subscript a b pos) (m2 ixTD ma mb):=(D5 xi9 ha i hs).imp fun σ H Q h=>op_d xx7 h
noncomputable def flV:D->Option V
 | .non=>some .non| .bl b=>some (.bl b)| .int i=>some (.int i)| .str x=>some (.str x)
 |_=>none
noncomputable def flVs:List D->Option (List V)
 |[]=>some []
 |d::r=>match flV d with |some v=>(match flVs r with |some vs=>some (v::vs)|none=>none)|none=>none
theorem zo7 {K:W.Frag}{F:Hp}{v u:V}{d:D}(r:Rep K F v d)(h:flV d=some u):v=u/\C0 u=true:=by
 cases r <;> cases h <;> exact⟨rfl,rfl⟩
theorem E5 {K:W.Frag}{F:Hp}:∀{vs us:List V}{ds:List D},Reps K F vs ds->flVs ds=some us->vs=us/\us.all C0=true
 |_,_,_,.nil,h=>by cases h;exact⟨rfl,rfl⟩
 |_,_,_,.cons (d:=d) (ds:=ds) r t,h=>by
  unfold flVs at h
  cases h1:flV d with
  |none=>rw[h1]at h;cases h
  |some u=>
   cases h2:flVs ds with
   |none=>rw[h1,h2]at h;cases h
   |some us=>
    rw[h1,h2]at h;cases h
    obtain⟨G,z⟩:=zo7 r h1
    obtain⟨j,i⟩:=E5 t h2
    subst G j
    exact⟨rfl,by rw[all_cons,z,i];rfl⟩
noncomputable def inDs (neg:Bool)(d:D)(ds:List D):Option D:=match flV d,flVs ds with
 |some v,some vs=>some (.bl (if neg then !inV v vs else inV v vs))
 |_,_=>none
noncomputable def inD (neg:Bool):D->D->Option D
 |d,.lst ds=>inDs neg d ds
 |d,.tup ds=>inDs neg d ds
 |_,_=>none
theorem zs3 {i:Bool}{d w:D}{ds:List D}(h:inDs i d ds=some w):∃ v vs,flV d=some v/\flVs ds=some vs/\w= .bl (if i then !inV v vs else inV v vs):=by
 unfold inDs at h
 split at h
 .rename_i v vs h1 h2;cases h;exact⟨v,vs,h1,h2,rfl⟩
 .cases h
theorem ye6 {K:W.Frag}{i:Bool}:OpD K (rIn K i) (inD i):=by
 intro F H x y d e w Q s N O h q
 cases O with
 |lst j z=>
  obtain⟨v,vs,h1,h2,rfl⟩:=zs3 (show inDs i d _=some w from h)
  obtain⟨M,L⟩:=zo7 N h1
  obtain⟨I,G⟩:=E5 z h2
  subst M I
  exact⟨_,_,rfl,.inl (s.seq j),L,G,q _ F H (.refl s) (.bl _)⟩
 |tup j z=>
  obtain⟨v,vs,h1,h2,rfl⟩:=zs3 (show inDs i d _=some w from h)
  obtain⟨M,L⟩:=zo7 N h1
  obtain⟨I,G⟩:=E5 z h2
  subst M I
  exact⟨_,_,rfl,.inr (s.seqT j),L,G,q _ F H (.refl s) (.bl _)⟩
 |_=>cases d <;> cases h
theorem V7:∀{ns:List Int}{its:List Value},Vals (ns.map V.int) its->∃ xs:List (Int×Tok),its.toArray=intItems xs.toArray/\xs.map (·.1)=ns
 |[],_,.nil=>⟨[],by unfold intItems;simp,rfl⟩
 |n::ns,_,.cons r t=>by
  obtain⟨k,rfl⟩:=r
  obtain⟨xs,h1,h2⟩:=V7 t
  refine⟨(n,k)::xs,?_,by rw[map_cons,h2]⟩
  have:=congrArg Array.toList h1
  unfold intItems at this ⊢
  simp at this ⊢
  exact this
noncomputable def D9:List D->Option (List Int)
 |[]=>some []
 | .int i::r=>match D9 r with |some ns=>some (i::ns)|none=>none
 |_=>none
theorem M0 {K:W.Frag}{F:Hp}:∀{vs:List V}{ds:List D}{ns:List Int},Reps K F vs ds->D9 ds=some ns->vs=ns.map V.int
 |_,_,_,.nil,h=>by cases h;rfl
 |_,_,_,.cons (d:=d) (ds:=ds) r t,h=>by
  cases r with
  |int i=>
   unfold D9 at h
   cases h1:D9 ds with
   |none=>simp only[h1]at h;cases h
   |some ns=>simp only[h1]at h;cases h;rw[M0 t h1];rfl
  |_=>cases h
theorem E4:∀ ns:List Int,D9 (ns.map D.int)=some ns
 |[]=>rfl
 |n::ns=>by show (match D9 (ns.map D.int)with |some ns=>some (n::ns)|none=>none)=_;rw[E4 ns]
noncomputable def xq6:List (Str×Str)->List DictEntry->Prop
 |[],[]=>True
 | (k,v)::r,e::es=>(∃ t,e.key= .str k t)/\(∃ t,e.val= .str v t)/\xq6 r es
 |_,_=>False
structure KTab (w:World)(K:W.Frag)(a:Addr)(tab:List (Str×Str)):Prop where
 ns:(a==sysModules)=false
 nd:(tab.map (·.1)).Nodup
 obj:∃ es ep,K.lookup a=some ⟨.type "dict",none,.dict es ep,#[]⟩/\xq6 tab es.toList/\∀ e∈es.toList,∀ k t,e.key= .str k t->e.hash=hashStr w k
end
end
section
section
variable {prog:Program}{w:World}{A:Around}{E:Value->Shared->Prop}{s:Shared}
structure ApT (z TO i1 i2 l:Addr):Prop where
 lz:l≠z
 lTO:l≠TO
 l1:l≠i1
 l2:l≠i2
end
end
section
section
variable {prog:Program}{w:World}{A:Around}{E:Value->Shared->Prop}{s:Shared}
end
section
variable {X:Cx}
end
end
section
section
variable {X:Cx}{a b c e:Expr}{ma mb:ME}{la lb:ML}{pos:Pos}
end
section
variable {K:W.Frag}{F0 H0 F H H':Hp}{σ:St}{ρ:Ro}
end
section
variable {X:Cx}{a b c e3:Expr}{ma mb:ME}{la lb:ML}{pos:Pos}{E:XK}{es:List Expr}{mf:MF}{m:ML}{rb:List Stmt}{mx:MS}{cc:MB}{y:D}
end
end
section
noncomputable abbrev MEm:=Ro->Option (D×Ro)
noncomputable abbrev MLm:=Ro->Option (List D×Ro)
section
variable {X:Cx}{a b c e:Expr}{ma mb:ME}{na nb:MEm}{pos:Pos}{es:List Expr}
variable {st:Stmt}
end
noncomputable abbrev MG:=Addr->List D->List D->Option (Rt×List D)
end
section
section
variable {K:W.Frag}{F0 H0 F H F' H':Hp}{σ:St}{ρ:Ro}
end
open Classical in
section
variable {X:Cx}{e:Expr}{pos:Pos}{es:List Expr}{E:XK}{mf:MG}{m:MLm}
end
end
section
section
variable {X:Cx}{a b c e:Expr}{ma mb:ME}{pos:Pos}
end
noncomputable def noL:D->Bool
 | .tup ds=>ds.all isSc
 |d=>isSc d
@[irreducible] noncomputable def ze6 (i:Nat)(m:ME):ME:=fun ρ=>match ρ[i]? with
 |some (some (.own ds))=>(match m (ρ.set i (some (.sh (.lst ds))))with |some d=>if noL d=true then some d else none|none=>none)
 |_=>m ρ
theorem zb7 {K:W.Frag}{F G:Hp}:∀{vs:List V}{ds:List D},ds.all isSc=true->Reps K F vs ds->Reps K G vs ds
 |_,_,_,.nil=>.nil
 |_,_,h,.cons r t=>by
  rw[all_cons,Bool.and_eq_true]at h
  exact .cons (yf7 h.1 r) (zb7 h.2 t)
theorem xw3 {K:W.Frag}{F:Hp}{p:Addr}{xs:List V}{v:V}{d:D}(hp:F p=some (.lst xs))(h:noL d=true)(r:Rep K F v d):Rep K (fun b=>if b=p then none else F b) v d:=by
 cases r with
 |non=>exact .non
 |bl b=>exact .bl b
 |int i=>exact .int i
 |str x=>exact .str x
 |lst _ _=>cases h
 |exc _ _=>cases h
 |ptr _=>cases h
 |obj _ _ _ _ _=>cases h
 |tup j G=>
  rename_i a ys ds
  refine .tup ?_ (zb7 h G)
  rcases j with (j|⟨o,j⟩)|j
  .have hne:a≠p:=fun z=>by rw[z,hp]at j;cases j
   exact .inl (.inl (by show (if a=p then none else F a)=_;rw[if_neg hne];exact j))
  .have hne:a≠p:=fun z=>by rw[z,hp]at j;cases j
   exact .inl (.inr ⟨o,by show (if a=p then none else F a)=_;rw[if_neg hne];exact j⟩)
  .exact .inr j
theorem yx2 {X:Cx}{e:Expr}{m:ME}(i:Nat)(h:PD X e m):PD X e (ze6 i m):=h.imp fun σ H Q I=>by
 obtain⟨F0,H0,F,ρ,d,rl,e,q⟩:=I
 unfold ze6 at e
 split at e
 .rename_i ds h1
  obtain⟨p,xs,hp,L⟩:=rl.freezeP h1
  split at e
  .rename_i d' h2
   split at e
   .rename_i hs
    cases e
    refine⟨F0,H0,_,_,d,L,h2,fun v F2 H2 G N=>?_⟩
    have M:F2 p=some (.lst xs):=G.ff _ _ z9
    refine q v (fun b=>if b=p then none else F2 b) H2 ⟨fun b o j=>?_,G.hh,fun b o j=>?_,fun b j hn=>?_,fun b o u z=>by
     have z:(if b=p then none else F2 b)=some (.frz o u):=z
     split at z
     .cases z
     .rename_i hne
      have:=G.nf b o u z
      rwa [y3 hne]at this⟩ (xw3 M hs N)
    .have hne:b≠p:=fun w=>by rw[w,hp]at j;cases j
     show (if b=p then none else F2 b)=some o
     rw[if_neg hne]
     exact G.ff b o (by rw[y3 hne];exact j)
    .have j:(if b=p then none else F2 b)=some o:=j
     split at j
     .cases j
     .exact G.fh b o j
    .have hn:(if b=p then none else F2 b)≠none:=hn
     split at hn
     .exact absurd rfl hn
     .rename_i hne
      exact G.new b (by rw[y3 hne];exact j) hn
   .cases e
  .cases e
 .exact⟨F0,H0,F,ρ,d,rl,e,q⟩
end
section
def LtAt (A:Around)(s:Shared)(v u:Value)(k:Bool):Prop:=∀(prog:Program)(w:World)(E:Value->Shared->Prop)(Q:Value->Shared->Prop),Q (.bool k) s->wpAny (model prog w) A (richCompare .Lt v u) Q E s
noncomputable def zc1 (A:Around)(s:Shared):List Value->List Value->Bool->Prop
 |[],[],k=>k=false
 |[],_::_,k=>k=true
 |_::_,[],k=>k=false
 |y::ys,x::xs,k=>∃ e,SeqAt.EqAt A s y x e/\((e=true/\zc1 A s ys xs k)\/(e=false/\LtAt A s y x k))
section
open PySem.SeqAt
open PySem.AutoSeq1 (wpAny_loadPart')
open PySem.MeetsSeq PySem.MeetsSeq2 PySem.MeetsSeq3
set_option maxHeartbeats 4000000 in
theorem xq3 (l b:Addr)(j i:Array Value)(n Y:Nat)(dd U:Option Addr)(sl N:Array (Option Value))(k:Bool):
  Meets (Builtin.«tuple.__lt__» ⟨[.ref l,.ref b],[]⟩)
   (fun A R s=>s.heap.get? l=some { cls:=.type "tuple",dict:=dd,data:=.seq j n,slots:=sl }/\s.heap.get? b=some { cls:=.type "tuple",dict:=U,data:=.seq i Y,slots:=N }/\
    zc1 A.in1 s j.toList i.toList k/\R (.ok (.ret (.bool k))) s):=
 .of_wp fun prog w A R s h=>by
  obtain⟨hp,g,d,tk,os⟩:=s;obtain⟨hl,hb,hx,h⟩:=h
  have f2:=AutoSeq1.sub_tuple_tuple
  wp_walk using wpAny_loadPart' hl,wpAny_loadPart' hb,wpAny_forIn_list _ (fun rest b s'=>b.1=none/\s'=⟨hp,g,d,tk,os⟩/\∃(vs ws:List Value),rest=vs.zip ws/\
   vs.length+i.size=ws.length+j.size/\zc1 A.in1 ⟨hp,g,d,tk,os⟩ vs ws k) _
  case turn=>
   rintro⟨y,x⟩ rest b s' ⟨M,rfl,vs,ws,I,z,G⟩
   cases vs with
   |nil=>rw[zip_nil_left]at I;cases I
   |cons a vs=>
    cases ws with
    |nil=>rw[zip_nil_right]at I;cases I
    |cons c ws=>
     rw[zip_cons_cons]at I
     injection I with O L
     injection O with Z S
     subst Z S
     simp only[length_cons]at z
     obtain⟨e,he,G⟩:=G
     refine wpAny_bind (he prog w _ _ ?_)
     rcases G with⟨rfl,G⟩|⟨rfl,G⟩
     .wp_walk
      exact⟨rfl,rfl,vs,ws,L,by omega,G⟩
     .have hri:=G prog w
      wp_walk using hri
      exact⟨_,rfl,by simpa using h⟩
  case fin=>
   rintro⟨b1,b2⟩ s' ⟨M,rfl,vs,ws,I,z,G⟩
   simp only at M
   subst M
   have hv:k=decide (j.size<i.size):=by
    cases vs with
    |nil=>
     cases ws with
     |nil=>
      simp only[length_nil]at z
      rw[show k=false from G]
      exact(decide_eq_false (by omega)).symm
     |cons c ws=>
      simp only[length_nil,length_cons]at z
      rw[show k=true from G]
      exact(decide_eq_true (by omega)).symm
    |cons a vs=>
     cases ws with
     |nil=>
      simp only[length_nil,length_cons]at z
      rw[show k=false from G]
      exact(decide_eq_false (by omega)).symm
     |cons c ws=>
      rw[zip_cons_cons]at I
      cases I
   rw[hv]at h
   wp_walk
   exact⟨_,rfl,by simpa[Builtin.Tuple.tupleCompareSizes]using h⟩
  case h=>
   exact⟨rfl,rfl,j.toList,i.toList,rfl,by simp;omega,hx⟩
set_option maxHeartbeats 4000000 in
theorem zo1 (l b:Addr)(G j:Array Value)(n n2:Nat)(dd Z:Option Addr)(sl U:Array (Option Value))(r:Bool)(k:Nat):
  ∀ i:Nat,G.size-i=k->i<=G.size->i<=j.size->Meets (Builtin.«list.__eq__.loop» ⟨[.ref l,.ref b,rawInt i,rawInt 0],[]⟩)
   (fun A R s=>s.heap.get? l=some { cls:=.type "list",dict:=dd,data:=.seq G n,slots:=sl }/\s.heap.get? b=some { cls:=.type "list",dict:=Z,data:=.seq j n2,slots:=U }/\
    zc1 A.in1 s (G.toList.drop i) (j.toList.drop i) r/\R (.ok (.ret (.bool r))) s):=by
 induction k with
 |zero=>
  intro i hk h1 h2 prog w A R s h
  obtain⟨hp,g,d,tk,os⟩:=s;obtain⟨N,O,I,h⟩:=h
  wp_walk using wpAny_loadPart' N,wpAny_loadPart' O
  have L:G[((i:Nat):Int).toNat]? =none:=by simp;omega
  have e1:G.toList.drop i=[]:=drop_eq_nil_of_le (by simp;omega)
  rw[e1]at I
  have Y:r=decide (G.size<j.size):=by
   cases e2:j.toList.drop i with
   |nil=>
    rw[e2]at I
    have:j.size<=i:=by simpa using e2
    rw[show r=false from I]
    exact(decide_eq_false (by omega)).symm
   |cons c ws=>
    rw[e2]at I
    have:i<j.size:=by
     rcases Nat.lt_or_ge i j.size with z|z
     .exact z
     .rw[drop_eq_nil_of_le (by simpa using z)]at e2;cases e2
    rw[show r=true from I]
    exact(decide_eq_true (by omega)).symm
  rw[L]
  wp_walk using wpAny_loadPart' N,wpAny_loadPart' O
  rw[Y]at h
  exact h
 |succ k ih=>
  intro i hk h1 h2 prog w A R s h
  obtain⟨hp,g,d,tk,os⟩:=s;obtain⟨N,O,I,h⟩:=h
  have S:i<G.size:=by omega
  have L:G[((i:Nat):Int).toNat]? =some G[i]:=by simp[S]
  have e1:G.toList.drop i=G[i]::G.toList.drop (i+1):=by rw[drop_eq_getElem_cons (by simpa using S)];simp
  have hc:((i:Int)+1)=((i+1:Nat):Int):=by push_cast;rfl
  rw[e1]at I
  by_cases M:i<j.size
  .have hi2:j[((i:Nat):Int).toNat]? =some j[i]:=by simp[M]
   have e2:j.toList.drop i=j[i]::j.toList.drop (i+1):=by rw[drop_eq_getElem_cons (by simpa using M)];simp
   rw[e2]at I
   obtain⟨e,he,I⟩:=I
   wp_walk using wpAny_loadPart' N,wpAny_loadPart' O
   rw[L,hi2]
   refine wpAny_bind (he prog w _ _ ?_)
   rcases I with⟨rfl,I⟩|⟨rfl,I⟩
   .wp_walk
    rw[hc]
    exact⟨plainId_quiet plain_eq_loop _,codeAny_builtin entry_eq_loop (by
     rw[Around.under_plainId plain_eq_loop _]
     exact ih (i+1) (by omega) (by omega) (by omega) prog w A R _ ⟨N,O,I,h⟩)⟩
   .have hri:=I prog w
    wp_walk using wpAny_loadPart' N,wpAny_loadPart' O
    rw[L,hi2]
    wp_walk using hri
    exact h
  .have hi2:j[((i:Nat):Int).toNat]? =none:=by simp;omega
   have e2:j.toList.drop i=[]:=drop_eq_nil_of_le (by simp;omega)
   rw[e2]at I
   have Y:r=decide (G.size<j.size):=by
    rw[show r=false from I]
    exact(decide_eq_false (by omega)).symm
   wp_walk using wpAny_loadPart' N,wpAny_loadPart' O
   rw[L,hi2]
   wp_walk using wpAny_loadPart' N,wpAny_loadPart' O
   rw[Y]at h
   exact h
set_option maxHeartbeats 4000000 in
theorem xi0 (l b:Addr)(j i:Array Value)(n I:Nat)(N G:Option Addr)(sl z:Array (Option Value))(r:Bool):
  Meets (Builtin.«list.__lt__» ⟨[.ref l,.ref b],[]⟩)
   (fun A R s=>s.heap.get? l=some { cls:=.type "list",dict:=N,data:=.seq j n,slots:=sl }/\s.heap.get? b=some { cls:=.type "list",dict:=G,data:=.seq i I,slots:=z }/\
    zc1 A.in1 s j.toList i.toList r/\R (.ok (.ret (.bool r))) s):=by
 intro prog w A R s h
 obtain⟨hp,g,d,tk,os⟩:=s;obtain⟨L,M,O,h⟩:=h
 have S:=AutoSeq1.sub_list_list
 wp_walk using wpAny_loadPart' L,wpAny_loadPart' M
 exact⟨plainId_quiet plain_eq_loop _,codeAny_builtin entry_eq_loop (by
  rw[Around.under_plainId plain_eq_loop _]
  exact zo1 l b j i n I N G sl z r _ 0 rfl (Nat.zero_le _) (Nat.zero_le _) prog w A R _ ⟨L,M,by simpa using O,h⟩)⟩
end
noncomputable def lexF (eq lt:D->D->Option Bool):List D->List D->Option Bool
 |[],[]=>some false
 |[],_::_=>some true
 |_::_,[]=>some false
 |d::ds,e::es=>match eq d e with
  |some true=>lexF eq lt ds es
  |some false=>lt d e
  |none=>none
noncomputable def ltF:Nat->D->D->Option Bool
 |0,_,_=>none
 |n+1,.lst ds,.lst es=>lexF (eqF n) (ltF n) ds es
 |n+1,.tup ds,.tup es=>lexF (eqF n) (ltF n) ds es
 |_+1,.int i,.int j=>some (decide (i<j))
 |_+1,_,_=>none
section
variable {X:Cx}{pins:List (Addr×Obj)}{σ:St}{H:Hp}{s:Shared}
theorem yu6 (I:Inv X pins σ H s)(n:Nat){A:Around}(j:A.units+n<cLine)(i:∀{x y:V}{v u:Value}{d e:D}{k:Bool},Rep X.K H x d->Rep X.K H y e->RelV x v->RelV y u->ltF n d e=some k->LtAt A s v u k):
  ∀{xs ys:List V}{vs us:List Value}{ds es:List D}{k:Bool},Reps X.K H xs ds->Reps X.K H ys es->Vals xs vs->Vals ys us->lexF (eqF n) (ltF n) ds es=some k->zc1 A s vs us k
 |_,_,_,_,_,_,k,.nil,.nil,.nil,.nil,h=>by cases h;exact rfl
 |_,_,_,_,_,_,k,.nil,.cons _ _,.nil,.cons _ _,h=>by cases h;exact rfl
 |_,_,_,_,_,_,k,.cons _ _,.nil,.cons _ _,.nil,h=>by cases h;exact rfl
 |_,_,_,_,_,_,k,.cons (d:=d) r1 t1,.cons (d:=e) r2 t2,.cons q1 p1,.cons q2 p2,h=>by
  unfold lexF at h
  cases hq:eqF n d e with
  |none=>rw[hq]at h;cases h
  |some b=>
   rw[hq]at h
   refine⟨b,(ys5 I n j r1 r2 q1 q2 hq).1,?_⟩
   cases b with
   |true=>exact .inl ⟨rfl,yu6 I n j i t1 t2 p1 p2 h⟩
   |false=>exact .inr ⟨rfl,i r1 r2 q1 q2 h⟩
theorem yi2 (I:Inv X pins σ H s):∀(n:Nat){A:Around}{x y:V}{v u:Value}{d e:D}{k:Bool},A.units+n<cLine->Rep X.K H x d->Rep X.K H y e->RelV x v->RelV y u->ltF n d e=some k->LtAt A s v u k
 |0,A,x,y,v,u,d,e,k,hu,r1,r2,q1,q2,h=>by simp[ltF]at h
 |n+1,A,x,y,v,u,d,e,k,hu,r1,r2,q1,q2,h=>by
  have a3:A.units<cLine:=by omega
  have O:A.in1.units+n<cLine:=by show A.units+1+n<cLine;omega
  cases d with
  |int i=>
   cases e with
   |int j=>
    obtain rfl:=r1.i'
    obtain rfl:=r2.i'
    obtain⟨t,rfl⟩:=q1
    obtain⟨t',rfl⟩:=q2
    cases h
    exact fun prog w E Q hQ=>HT.rcLt_int A s i t j t' prog w E Q hQ
   |_=>cases h
  |lst a8=>
   cases e with
   |lst a7=>
    obtain⟨a1,a6,rfl,sq,rs⟩:=r1.l'
    obtain⟨a2,a5,rfl,U,Z⟩:=r2.l'
    cases q1;cases q2
    obtain⟨its,vr,⟨⟨cls,dd,data,sl⟩,m,ho,hc,aa,hd⟩,_⟩:=I.list sq
    obtain⟨z,S,⟨⟨a4,a0,data2,Y⟩,m2,G,N,a9,M⟩,_⟩:=I.list U
    simp only at hc hd N M
    subst hc hd N M
    have L:=yu6 I n O (fun a b c d e=>yi2 I n O a b c d e) rs Z vr S (show lexF (eqF n) (ltF n) _ _=some k from h)
    intro prog w E Q hQ
    exact richCompare_meets_room (op:=.Lt) ⟨_,ho,rfl⟩ ⟨_,G,rfl⟩ PySem.F.slot_list_lt PySem.F.entry_list_lt (PySem.F.args_list_lt_2 _ _) (xi0 _ _ its.toArray z.toArray m m2 dd a0 sl Y k)
     ⟨ho,G,by simpa using L,show Value.bool k≠Value.notImplemented/\Q (.bool k) s from⟨(fun x=>nomatch x),hQ⟩⟩ a3
   |_=>cases h
  |tup a8=>
   cases e with
   |tup a7=>
    obtain⟨a1,a6,rfl,sq,rs⟩:=r1.t'
    obtain⟨a2,a5,rfl,U,Z⟩:=r2.t'
    cases q1;cases q2
    obtain⟨its,vr,⟨⟨cls,dd,data,sl⟩,ho,hc,m,hd⟩,_⟩:=I.tuple sq
    obtain⟨z,S,⟨⟨a4,a0,data2,Y⟩,G,N,m2,M⟩,_⟩:=I.tuple U
    simp only at hc hd N M
    subst hc hd N M
    have L:=yu6 I n O (fun a b c d e=>yi2 I n O a b c d e) rs Z vr S (show lexF (eqF n) (ltF n) _ _=some k from h)
    intro prog w E Q hQ
    exact richCompare_meets_room (op:=.Lt) ⟨_,ho,rfl⟩ ⟨_,G,rfl⟩ PySem.F.slot_tuple_lt PySem.F.entry_tuple_lt (PySem.F.args_tuple_lt_2 _ _) (xq3 _ _ its.toArray z.toArray m m2 dd a0 sl Y k)
     ⟨ho,G,by simpa using L,show Value.bool k≠Value.notImplemented/\Q (.bool k) s from⟨(fun x=>nomatch x),hQ⟩⟩ a3
   |_=>cases h
  |_=>cases h
end
end
section
def yf1 (X:Cx)(kv:Value)(mk:D->Option D):Prop:=∀(pins:List (Addr×Obj))(σ:St)(H F:Hp)(s:Shared)(x:V)(u:Value)(d kd:D),Inv X pins σ H s->Same F H->Rep X.K F x d->RelV x u->mk d=some kd->
 wpAny (model X.prog X.w) X.A.in1 (call kv [u]) (fun w s'=>∃ y F' H',Inv X pins σ H' s'/\RelV y w/\Ext F H F' H'/\Rep X.K F' y kd) (fun _ _=>False) s
noncomputable def shOf:Option Rt->Option D
 |some (.sh d)=>some d
 |some (.fr es)=>some (.lst es)
 |_=>none
theorem yi5 {X:Cx}{k:Nat}{f:Addr}{fd:FuncData}{p:Str}{m:MF}(F:FnOk X.prog X.w X.K X.mg X.base CX0 k f fd [p] (spR X.K 1 m))(Y:Room k X.A.in1)(Z:Binds X.K fd [p] []):yf1 X (.ref f) (fun d=>shOf (m [d])):=by
 intro pins σ H G s x u d M I L r S hm
 have hm:shOf (m [d])=some M:=hm
 have sp:spR X.K 1 m [x] H (fun v H'=>∃ F',Ext G H F' H'/\Rep X.K F' v M) E0:=by
  cases h:m [d]with
  |none=>rw[h]at hm;cases hm
  |some t=>
   rw[h]at hm
   cases t with
   |sh g=>cases hm;exact⟨rfl,G,[d],_,L,.cons r .nil,h,fun v F' H' j z=>⟨F',j,z⟩⟩
   |fr gs=>cases hm;exact⟨rfl,G,[d],_,L,.cons r .nil,h,fun q xs F' H' j hp N hH U=>⟨upd F' q (.lst xs),j.freeze N hp hH,.lst (SqL.of z9) (U.mono ((Same.refl F').put N))⟩⟩
   |pr _ _=>cases hm
 have i:=I.env0
 have env:Env0 X.prog X.w X.K X.mg X.base X.A.in1 X.stack s H:=⟨i.frames,i.mod,i.bs,i.bsz,i.funs,i.frf,i.hok,i.bare⟩
 refine wpAny_call (codeAny_mono (F.run X.A.in1 X.stack s H ⟨[u],[]⟩ [u] [x] _ E0 Y env (Z s [u] I.kIn rfl) (.cons S .nil) sp) fun r s' hq=>?_)
 cases r with
 |error e=>exact hq.elim
 |ok fl=>
  cases fl with
  |ret v=>
   obtain⟨y,H',I',O,F',j,z⟩:=I.after hq
   exact⟨y,F',H',I',O,j,z⟩
  |next=>exact hq.elim
  |brk=>exact hq.elim
  |cont=>exact hq.elim
noncomputable def minF (mk:D->Option D):List D->D->D->Option D
 |[],b,_=>some b
 |d::ds,b,kb=>match mk d with
  |some kd=>(match ltF 8 kd kb with |some true=>minF mk ds d kd|some false=>minF mk ds b kb|none=>none)
  |none=>none
section
variable {X:Cx}{pins:List (Addr×Obj)}{σ:St}
theorem FpOk.now {H H':Hp}{b:Addr}(h:FpOk X pins H b)(hn:H' b=none):FpOk X pins H' b:=⟨hn,h.2⟩
theorem Inv.pin2 {H:Hp}{s:Shared}{a b:Addr}{i ob:Obj}(I:Inv X pins σ H s)(ha:FpOk X pins H a)(j:FpOk X pins H b)(G:s.heap.get? a=some i)(z:s.heap.get? b=some ob)(M:∀ v,i.data≠ .cell v)(L:∀ v,ob.data≠ .cell v):Inv X (pins++[(a,i),(b,ob)]) σ H s:=
 I.pins_of fun p hp=>by
  rcases List.mem_append.mp hp with hp|hp
  .exact I.pin p (mem_append_right _ hp)
  .simp only[mem_cons,not_mem_nil,or_false]at hp
   rcases hp with rfl|rfl
   .exact⟨G,ha.1,ha.2.1,ha.2.2.1,M⟩
   .exact⟨z,j.1,j.2.1,j.2.2.1,L⟩
set_option maxHeartbeats 8000000 in
theorem yj5 {q:Addr}{mk:D->Option D}(hk:yf1 X (.ref q) mk)(hc:X.calm=true)(hu:X.A.units+64<cLine){l I S:Addr}{xs:List V}{ds:List D}{kw:List (Str×Value)}{dm:D}(Z:I≠S)(ae:l≠I)(ad:l≠S):
  ∀(r j:Nat)(H F H0 F0:Hp)(s:Shared)(xb yb:V)(N O:Value)(db G:D)(c:Nat)(R:Result->Shared->Prop),
   ds.length-(j+1)=r->j+1<=ds.length->Inv X pins σ H s->Ext F0 H0 F H->SqL X.K H l xs->Reps X.K F xs ds->s.heap.IsListIter I l (j+1)->s.heap.get? S=some (seqObj "list" #[N,O] c)->FpOk X pins H I->FpOk X pins H S->
   RelV xb N->Rep X.K F xb db->RelV yb O->Rep X.K F yb G->minF mk (ds.drop (j+1)) db G=some dm->
   (∀ x v F' H' s',Inv X pins σ H' s'->RelV x v->Ext F0 H0 F' H'->Rep X.K F' x dm->R (.ok (.ret v)) s')->
   codeAny (model X.prog X.w) X.A (.builtin "min.loop" ⟨[.ref I,.ref q,.ref S],kw⟩) R s:=by
 have M:(toString "min"++toString ".loop":String)="min.loop":=by decide
 intro r
 induction r with
 |zero=>
  intro j H F H0 F0 s xb yb N O db G c R hr hj I' ext sq rs Y hS fI fS rb pb ry py hm hR
  have a9:j+1=ds.length:=by omega
  obtain⟨its,vr,pl,_⟩:=I'.list sq
  have zl:its.length=ds.length:=by rw[<-vr.length,rs.length]
  rw[a9,drop_length]at hm
  have hm:some db=some dm:=hm
  cases hm
  refine codeAny_builtin PySem.F.entry_min_loop ?_
  rw[Around.under_plainId PySem.F.plain_min_loop _]
  show wpAny _ X.A.in1 (seqItems? (.ref S) >>= _) _ _ _
  refine wpAny_bind (wpAny_seqItems hS rfl ?_)
  show wpAny _ X.A.in1 (tryCatch (pyNext (.ref I)) _ >>= _) _ _ _
  refine wpAny_bind (wpAny_tryCatch (wpAny_pyNext_list_end (I'.ok.hd hc) Y pl.isList (by simp;omega) fun h' a4=>?_))
  have ac:h'.get? S=some (seqObj "list" #[N,O] c):=a4 S _ (Ne.symm Z) hS
  have s1:=Heap.SameBut.update h' S (Obj.mapSeq fun _=>(#[]:Array Value))
  show wpAny _ X.A.in1 (updateSeq S (fun _=>#[]) >>= _) _ _ _
  refine wpAny_bind ?_
  refine wpAny_updateSeq ac rfl (wpAny_bind (wpAny_letGo (wpAny_pure ?_)))
  have I9:Inv X pins σ H { s with heap:=h'.update S (Obj.mapSeq fun _=>(#[]:Array Value)),toks:=s.toks }:=I'.turnedL (fp:=[I,S]) (t':=s.toks) (fun b o i e=>by
   simp only[mem_cons,not_mem_nil,or_false,not_or]at i
   exact(s1.2 b i.2).trans (a4 b o i.1 e)) (fun b i=>by
   simp only[mem_cons,not_mem_nil,or_false]at i
   rcases i with rfl|rfl <;> assumption)
  exact hR xb N F H _ I9 rb ext pb
 |succ r ih=>
  intro j H F H0 F0 s xb yb N O db G c R hr hj I' ext sq rs Y hS fI fS rb pb ry py hm hR
  have U:j+1<ds.length:=by omega
  obtain⟨its,vr,pl,_⟩:=I'.list sq
  have zl:its.length=ds.length:=by rw[<-vr.length,rs.length]
  obtain⟨d,hd⟩:∃ d,ds[j+1]? =some d:=⟨_,getElem?_eq_getElem U⟩
  obtain⟨x,hx,px⟩:=rs.get hd
  obtain⟨v,hv,rx⟩:=vr.get hx
  rw[d5 hd]at hm
  unfold minF at hm
  cases hkd:mk d with
  |none=>rw[hkd]at hm;cases hm
  |some kd=>
   rw[hkd]at hm
   dsimp only at hm
   refine codeAny_builtin PySem.F.entry_min_loop ?_
   rw[Around.under_plainId PySem.F.plain_min_loop _]
   show wpAny _ X.A.in1 (seqItems? (.ref S) >>= _) _ _ _
   refine wpAny_bind (wpAny_seqItems hS rfl ?_)
   show wpAny _ X.A.in1 (tryCatch (pyNext (.ref I)) _ >>= _) _ _ _
   refine wpAny_bind (wpAny_tryCatch (wpAny_pyNext_list_item Y pl.isList (by simpa using hv) fun h1 a6 s1=>?_))
   have I1:Inv X pins σ H { s with heap:=h1,toks:=s.toks }:=I'.turnedL (fp:=[I]) (fun b o i e=>s1.extBut b o (by simpa using i) e) (fun b i=>by rw[List.mem_singleton.mp i];exact fI)
   have ab:h1.get? S=some (seqObj "list" #[N,O] c):=s1.extBut _ _ (Ne.symm Z) hS
   obtain⟨oI,eI,cI,dI⟩:=id a6
   have Ip:=I1.pin2 fI fS eI ab (fun v z=>by rw[dI]at z;cases z) (fun v z=>by cases z)
   show wpAny _ X.A.in1 (tryCatch (holding [v] (call (.ref q) [v])) _ >>= _) _ _ _
   refine wpAny_bind (wpAny_tryCatch (wpAny_holding (wpAny_mono (hk (pins++[(I,oI),(S,seqObj "list" #[N,O] c)]) σ H F _ x v d kd Ip ext.fh px rx hkd) (fun w s2 hw=>?_) fun _ _ z=>z.elim)))
   obtain⟨y,F2,H2,I2,a2,L,a3⟩:=hw
   have pI:=I2.pin (I,oI) (by simp)
   have pS:=I2.pin (S,seqObj "list" #[N,O] c) (by simp)
   have a1:Inv X pins σ H2 s2:=I2.unpinned
   have a8:FpOk X pins H2 I:=fI.now pI.2.1
   have a0:FpOk X pins H2 S:=fS.now pS.2.1
   have a5:s2.heap.IsListIter I l (j+1+1):=⟨oI,pI.1,cI,dI⟩
   cases hlt8:ltF 8 kd G with
   |none=>rw[hlt8]at hm;cases hm
   |some bt=>
    rw[hlt8]at hm
    have a7:=yi2 a1 8 (A:=X.A.in1) (by show X.A.units+1+8<cLine;omega) (a3.mono L.fh) ((py.mono L.ff).mono L.fh) a2 ry hlt8
    show wpAny _ X.A.in1 (tryCatch (holding [v,w] (richCompare .Lt w O >>= _)) _ >>= _) _ _ _
    refine wpAny_bind (wpAny_tryCatch (wpAny_holding (wpAny_bind (a7 X.prog X.w _ _ ?_))))
    refine wpAny_bind (wpAny_holding (wpAny_truthy_bool ?_))
    refine wpAny_bind (wpAny_letGo (wpAny_pure ?_))
    cases bt with
    |true=>
     have s3:=Heap.SameBut.update s2.heap S (Obj.mapSeq fun _=>#[v,w])
     obtain⟨c2,aa⟩:∃ c2,(s2.heap.update S (Obj.mapSeq fun _=>#[v,w])).get? S=some (seqObj "list" #[v,w] c2):=⟨_,get?_update_seq pS.1 fun _=>#[v,w]⟩
     simp only[if_true]
     refine wpAny_bind ?_
     refine wpAny_updateSeq pS.1 rfl (wpAny_bind (wpAny_letGo ?_))
     rw[M]
     have I3:Inv X pins σ H2 { s2 with heap:=s2.heap.update S (Obj.mapSeq fun _=>#[v,w]),toks:=s2.toks }:=a1.turnedL (fp:=[S]) (fun b o i e=>(s3.2 b (by simpa using i)).trans e) (fun b i=>by rw[List.mem_singleton.mp i];exact a0)
     refine wpAny_pure ⟨plainId_quiet PySem.F.plain_min_loop _,ih (j+1) H2 F2 H0 F0 _ x y v w d kd c2 R (by omega) U I3 (ext.trans L) (L.hh.seq sq) (rs.mono L.ff) ⟨oI,(s3.2 I Z).trans pI.1,cI,dI⟩ aa a8 a0 rx (px.mono L.ff) a2 a3 hm hR⟩
    |false=>
     simp only[Bool.false_eq_true,if_false]
     refine wpAny_bind (wpAny_letGo ?_)
     rw[M]
     refine wpAny_pure ⟨plainId_quiet PySem.F.plain_min_loop _,ih (j+1) H2 F2 H0 F0 _ xb yb N O db G c R (by omega) U a1 (ext.trans L) (L.hh.seq sq) (rs.mono L.ff) a5 pS.1 a8 a0 rb (pb.mono L.ff) ry (py.mono L.ff) hm hR⟩
end
end
section
theorem zm9 (a v u:Value):argsOk "min" ⟨[a],[(Str.ofString "key",v),(Str.ofString "default",u)]⟩:=by unfold argsOk;kernel_rfl
noncomputable def minD (mk:D->Option D)(ds:List D)(d0:D):Option D:=match ds with
 |[]=>some d0
 |d::ds=>(match mk d with |some kd=>minF mk ds d kd|none=>none)
section
variable {X:Cx}{pins:List (Addr×Obj)}{σ:St}
set_option maxHeartbeats 8000000 in
theorem xw6 {q:Addr}{mk:D->Option D}(hk:yf1 X (.ref q) mk)(hc:X.calm=true)(hu:X.A.units+64<cLine){l:Addr}{xs:List V}{ds:List D}{dm d0:D}{H F:Hp}{s:Shared}{x0:V}{N:Value}{E:Value->Shared->Prop}{Q:Value->Shared->Prop}
  (I:Inv X pins σ H s) (sf:Same F H) (sq:SqL X.K H l xs) (rs:Reps X.K F xs ds) (r0:RelV x0 N) (p0:Rep X.K F x0 d0) (hm:minD mk ds d0=some dm)
  (hQ:∀ x v F' H' s',Inv X pins σ H' s'->RelV x v->Ext F H F' H'->Rep X.K F' x dm->Q v s'):
  wpAny (model X.prog X.w) X.A (call (.builtin "min") [.ref l] [(Str.ofString "key",.ref q),(Str.ofString "default",N)]) Q E s:=by
 have G:(toString "min"++toString ".loop":String)="min.loop":=by decide
 obtain⟨its,vr,pl,_⟩:=I.list sq
 have Z:=pl.isList
 obtain⟨ol,a6,_⟩:=id Z
 have a0:l<s.heap.objs.size:=Heap.lt_size a6
 refine kmk_tree PySem.F.kind_min PySem.F.plain_min PySem.F.entry_min (zm9 _ _ _) ?_
 show wpAny _ X.A.in1 (Builtin.Builtins.bindParams "min" ["key","default"] 0 ⟨[],[(Str.ofString "key",.ref q),(Str.ofString "default",N)]⟩ >>= _) _ _ s
 refine wpAny_bind (wpAny_of_eq (show Builtin.Builtins.bindParams "min" ["key","default"] 0 ⟨[],[(Str.ofString "key",.ref q),(Str.ofString "default",N)]⟩=pure [some (.ref q),some N]from rfl) ?_)
 refine wpAny_bind (wpAny_pure ?_)
 refine wpAny_bind (wpAny_pyIter_list Z ?_)
 refine wpAny_bind (wpAny_newList ?_ (Nat.zero_le _))
 rw[G]
 refine wpAny_pure ⟨plainId_quiet PySem.F.plain_min_loop _,?_⟩
 generalize L:({ cls:=.type "list_iterator",data:=.fields #[.ref l,.int 0 0] }:Obj)=oI0
 have hS:(s.heap.push oI0).objs.size=s.heap.objs.size+1:=size_push' ..
 have a8:l≠s.heap.objs.size:=Nat.ne_of_lt a0
 have a7:l≠(s.heap.push oI0).objs.size:=by rw[hS];exact Nat.ne_of_lt (Nat.lt_succ_of_lt a0)
 have M:s.heap.objs.size≠(s.heap.push oI0).objs.size:=by rw[hS];exact Nat.ne_of_lt (Nat.lt_succ_self _)
 have gI:((s.heap.push oI0).push (seqObj "list" #[] 0)).get? s.heap.objs.size=some oI0:=Heap.get?_push_of_some _ (Heap.get?_push_size _ (by rw[<-L];rfl))
 have gS:((s.heap.push oI0).push (seqObj "list" #[] 0)).get? (s.heap.push oI0).objs.size=some (seqObj "list" #[] 0):=Heap.get?_push_size _ rfl
 have fI:FpOk X pins H s.heap.objs.size:=I.fpOk (Nat.le_refl _) (I.hok.fresh (Nat.le_refl _))
 have fS:FpOk X pins H (s.heap.push oI0).objs.size:=I.fpOk (by rw[hS];exact Nat.le_succ _) (I.hok.fresh (by rw[hS];exact Nat.le_succ _))
 have I0:Inv X pins σ H { s with heap:=(s.heap.push oI0).push (seqObj "list" #[] 0),toks:=s.toks }:=I.turnedL (fp:=[]) (fun b o _ e=>Heap.get?_push_of_some _ (Heap.get?_push_of_some _ e)) (fun b j=>by cases j)
 generalize (s.heap.push oI0).objs.size=S at*
 generalize hI:s.heap.objs.size=J at*
 generalize (s.heap.push oI0).push (seqObj "list" #[] 0)=h0 at*
 have a2:h0.IsListIter J l 0:=⟨_,gI,by rw[<-L],by rw[<-L];rfl⟩
 have zl:its.length=ds.length:=by rw[<-vr.length,rs.length]
 obtain⟨its',U,Y,_⟩:=I0.list sq
 have O:its'.length=ds.length:=by rw[<-U.length,rs.length]
 refine codeAny_builtin PySem.F.entry_min_loop ?_
 rw[Around.under_plainId PySem.F.plain_min_loop _]
 show wpAny _ X.A.in1 (seqItems? (.ref S) >>= _) _ _ _
 refine wpAny_bind (wpAny_seqItems gS rfl ?_)
 show wpAny _ X.A.in1 (tryCatch (pyNext (.ref J)) _ >>= _) _ _ _
 cases ds with
 |nil=>
  have hm:some d0=some dm:=hm
  cases hm
  refine wpAny_bind (wpAny_tryCatch (wpAny_pyNext_list_end (I.ok.hd hc) a2 Y.isList (by simp at O ⊢;simp[O]) fun h' a9=>?_))
  refine wpAny_bind (wpAny_rule (wpAny_pure ?_))
  have I9:=I0.turnedL (h':=h') (fp:=[J]) (t':=s.toks) (fun b o j e=>a9 b o (by simpa using j) e) (fun b j=>by rw[List.mem_singleton.mp j];exact fI)
  exact hQ x0 N F H _ I9 r0 (Ext.refl sf) p0
 |cons d ds=>
  obtain⟨x,hx,px⟩:=rs.get (i:=0) (d:=d) rfl
  obtain⟨v,hv,rx⟩:=U.get hx
  unfold minD at hm
  dsimp only at hm
  cases hkd:mk d with
  |none=>rw[hkd]at hm;cases hm
  |some kd=>
   rw[hkd]at hm
   dsimp only at hm
   refine wpAny_bind (wpAny_tryCatch (wpAny_pyNext_list_item a2 Y.isList (by simpa using hv) fun h1 a1 s1=>?_))
   have I1:=I0.turnedL (h':=h1) (t':=s.toks) (fp:=[J]) (fun b o j e=>s1.extBut b o (by simpa using j) e) (fun b j=>by rw[List.mem_singleton.mp j];exact fI)
   have ab:h1.get? S=some (seqObj "list" #[] 0):=s1.extBut _ _ (Ne.symm M) gS
   obtain⟨oI,eI,cI,dI⟩:=id a1
   have Ip:=I1.pin2 fI fS eI ab (fun v z=>by rw[dI]at z;cases z) (fun v z=>by cases z)
   show wpAny _ X.A.in1 (tryCatch (holding [v] (call (.ref q) [v])) _ >>= _) _ _ _
   refine wpAny_bind (wpAny_tryCatch (wpAny_holding (wpAny_mono (hk (pins++[(J,oI),(S,seqObj "list" #[] 0)]) σ H F _ x v d kd Ip sf px rx hkd) (fun w s2 hw=>?_) fun _ _ z=>z.elim)))
   obtain⟨y,F2,H2,I2,a4,x2,a5⟩:=hw
   have pI:=I2.pin (J,oI) (by simp)
   have pS:=I2.pin (S,seqObj "list" #[] 0) (by simp)
   have ad:Inv X pins σ H2 s2:=I2.unpinned
   have ac:FpOk X pins H2 J:=fI.now pI.2.1
   have a3:FpOk X pins H2 S:=fS.now pS.2.1
   have s3:=Heap.SameBut.update s2.heap S (Obj.mapSeq fun _=>#[v,w])
   obtain⟨c2,aa⟩:∃ c2,(s2.heap.update S (Obj.mapSeq fun _=>#[v,w])).get? S=some (seqObj "list" #[v,w] c2):=⟨_,get?_update_seq pS.1 fun _=>#[v,w]⟩
   show wpAny _ X.A.in1 (updateSeq S (fun _=>#[v,w]) >>= _) _ _ _
   refine wpAny_bind (wpAny_updateSeq pS.1 rfl ?_)
   rw[G]
   have I3:Inv X pins σ H2 { s2 with heap:=s2.heap.update S (Obj.mapSeq fun _=>#[v,w]),toks:=s2.toks }:=ad.turnedL (fp:=[S]) (fun b o j e=>(s3.2 b (by simpa using j)).trans e) (fun b j=>by rw[List.mem_singleton.mp j];exact a3)
   refine wpAny_pure ⟨plainId_quiet PySem.F.plain_min_loop _,yj5 hk hc hu (ds:=d::ds) (dm:=dm) M a8 a7 _ 0 H2 F2 H F _ x y v w d kd c2 _ rfl (by simp) I3 x2 (x2.hh.seq sq) (rs.mono x2.ff) ⟨oI,(s3.2 J M).trans pI.1,cI,dI⟩ aa ac a3 rx (px.mono x2.ff) a4 a5 hm fun x v F' H' s' a b c d=>hQ x v F' H' s' a b c d⟩
@[irreducible] noncomputable def ze2 (mk:D->Option D)(m:ML)(md:ME):ME:=fun ρ=>(m ρ).bind fun ds=>(md ρ).bind fun d0=>minD mk ds d0
theorem ze1 {mk:D->Option D}{m:ML}{i:ME}{ρ:Ro}{g:D}(h:ze2 mk m i ρ=some g):∃ ds j,m ρ=some ds/\i ρ=some j/\minD mk ds j=some g:=by
 unfold ze2 at h
 cases h1:m ρ with
 |none=>rw[h1]at h;cases h
 |some d=>
  cases h2:i ρ with
  |none=>rw[h1,h2]at h;cases h
  |some e=>rw[h1,h2]at h;exact⟨d,e,rfl,rfl,h⟩
theorem yj3 {mk:D->Option D}{m:ML}{i:ME}{ρ:Ro}{ds:List D}{j:D}(h1:m ρ=some ds)(h2:i ρ=some j):ze2 mk m i ρ=minD mk ds j:=by
 unfold ze2
 rw[h1,h2];rfl
theorem xx0 {q:Addr}{mk:D->Option D}{x:Str}{p pf kp z pos:Pos}{e ed:Expr}{m:ML}{md:ME}(hk:yf1 X (.ref q) mk)(hc:X.calm=true)(hu:X.A.units+64<cLine)(hg:Gl X "min")(hm:X.mg "min"=none)(U:Gl X x)(S:X.mg x=some (.ref q))(ha:PB X e m)(hd:PD X ed md)
  (Y:(x==("__debug__":Str))=false:=by decide) (hs:starEach (e::[]) X.env=(false,eval e X.env)::starEach [] X.env:=by rfl):
  PD X (.Call (.Name "min" p) [e] [⟨some "key",.Name x pf,kp⟩,⟨some "default",ed,z⟩] pos) (ze2 mk m md):=by
 intro pins s σ H Q I h
 obtain⟨F0,H0,F,ρ,g,rl,em,q0⟩:=h
 obtain⟨ds,d0,h1,h2,h3⟩:=ze1 em
 refine wpAny_Call_Name_kw (T7 I hg hm PyProof.Rows.boot_min ?_ (by decide) (by decide))
 have A:=k4 ha pa_nil hs pos pins s σ H (fun vs H1=>∃ p xs F1,vs=[.ref p]/\Ext F H F1 H1/\SqL X.K H1 p xs/\Reps X.K F1 xs ds) I ⟨F0,H0,F,ρ,ds,rl,h1,fun p xs F1 H1 G s1 O=>⟨p,xs,F1,rfl,G,s1,O⟩⟩
 refine callWith_kw (thn A fun us s1 i=>?_) (by rw[hs];rfl) (by rw[hs];rfl)
 obtain⟨vs,H1,I1,O,p,xs,F1,Z,G,sq,rs⟩:=i
 subst Z
 obtain⟨u,rfl,ru⟩:=Q8 O
 cases ru
 have B:=zz3 (nm:=some "key") (kpos:=kp) (xy7 (v:=.ref q) (pos:=pf) U S rfl Y) (zz3 (nm:=some "default") (kpos:=z) hd yz8) pos pins s1 σ H1 (fun vs H2=>∃ y F2,vs=[.ref q,y]/\Ext F1 H1 F2 H2/\Rep X.K F2 y d0) I1 ⟨F0,H0,F1,ρ,d0,rl.go G,h2,fun y F2 H2 j N=>⟨y,F2,rfl,j,N⟩⟩
 refine thn B fun us s2 i=>?_
 obtain⟨vs,H2,I2,N,y,F2,Z,j,p0⟩:=i
 subst Z
 obtain⟨u1,u2,rfl,M,L⟩:=zv0 N
 cases M
 exact xw6 hk hc hu I2 j.fh (j.hh.seq sq) (rs.mono j.ff) L p0 h3 fun x v F' H' s' I' rx x3 px=>⟨x,H',I',rx,q0 x F' H' ((G.trans j).trans x3) px⟩
end
end
section
section
variable {prog:Program}{w:World}{A:Around}{E:Value->Shared->Prop}{s:Shared}
theorem L9:isSubtype (.type "range_iterator") (.type "reversed")=pure false:=by rw[isSubtype_type];kernel_rfl
noncomputable def zv4 (x left step:Int):Obj:={ cls:=.type "range_iterator",dict:=none,data:=.fields #[rawInt x,rawInt left,rawInt step],slots:=#[] }
end
noncomputable def Itdn (hi:Int)(n:Nat):It:=⟨fun i _=>i<n,fun i H x H'=>H'=H/\x= .int (hi-i),fun i _=>n<=i⟩
theorem zb0 {P:Program}{w:World}{K:PySem.W.Frag}{tg:Expr}(it:Addr)(lo:Int)(n:Nat):Turn P w K tg (Itdn lo n) [it] it (fun i h=>IsRangeIter h it (lo+(i:Nat)*(-1)) ((n:Int)-(i:Nat)) (-1)) where
 mem:=by simp
 obj:=fun i h st b j=>by
  have e:b=it:=by simpa using j
  subst e
  exact⟨_,st,fun v z=>by
   have z':Data.fields _=Data.cell v:=z
   cases z'⟩
 keep:=fun i h h' st k=>k it (by simp) _ st
 item:=by
  intro X O hw S N i pins s σ H E I L st M
  subst O hw S
  obtain⟨f0,f1,f2,Z,Y,U⟩:=L it (by simp)
  have W:=Walks.range (prog:=X.prog) (w:=X.w) (I.ok.hd N) it lo (-1) n
  refine W.item i s _ _ M st fun v h' tk hv G kk=>?_
  obtain⟨t,rfl⟩:=hv
  have I1:Inv X pins σ H { s with heap:=h',toks:=tk }:=I.turned (fun b o j e=>kk b o (by simpa using j) e) f0 f1 Z Y U
  refine⟨_,rfl,yh3 (s:={ s with heap:=h',toks:=tk }) (n:="range_iterator") G rfl rfl (by decide) ⟨.int (lo-i),H,I1,⟨t,?_⟩,⟨rfl,rfl⟩,G,fun b j=>(L b j).1⟩⟩
  rw[show lo+(i:Int)*(-1)=lo-i by omega]
 done:=by
  intro X O hw S N i pins s σ H E I L st M
  subst O hw S
  obtain⟨f0,f1,f2,Z,Y,U⟩:=L it (by simp)
  exact wpAny_pyNext_range_end (I.ok.hd N) st (by have:n<=i:=M;omega) fun h' eb=>⟨rfl,I.turned (t':=s.toks) (fun b o j e=>eb b o j e) f0 f1 Z Y U⟩
 self:=fun _ _ _ _ _ st h=>wpAny_pyIter_rangeiter st h
section
variable {X:Cx}
end
end
section
section
variable {X:Cx}{a b:Expr}{pos:Pos}
end
end
section
section
variable {X:Cx}{e:Expr}{pos:Pos}{es:List Expr}{E:XK}{mf:MG}{st:Stmt}{na:MEm}
end
section
variable {X:Cx}{a b:Expr}{pos:Pos}
noncomputable def J8 (n:Nat)(k:Int):Bool:=decide (-(2^62)<=k)&&decide (k<2^62)&&decide (n*k.toNat<=sizeLine)
@[irreducible] noncomputable def mrep (x:ML)(y:ME):ML:=fun ρ=>(x ρ).bind fun ds=>match y ρ with
 |some (.int k)=>if J8 ds.length k=true then some (List.replicate k.toNat ds).flatten else none
 |_=>none
theorem yw7 {x:ML}{y:ME}{ρ:Ro}{i:List D}(h:mrep x y ρ=some i):∃ ds k,x ρ=some ds/\y ρ=some (.int k)/\J8 ds.length k=true/\i=(List.replicate k.toNat ds).flatten:=by
 unfold mrep at h
 cases h1:x ρ with
 |none=>rw[h1]at h;cases h
 |some ds=>
  rw[h1,Option.bind_some]at h
  split at h
  .rename_i k h2
   split at h
   .rename_i hk
    exact⟨ds,k,rfl,h2,hk,(Option.some.inj h).symm⟩
   .cases h
  .cases h
theorem zy5 {x:ML}{y:ME}{ρ:Ro}{ds:List D}{k:Int}(h1:x ρ=some ds)(h2:y ρ=some (.int k))(i:J8 ds.length k=true):mrep x y ρ=some (List.replicate k.toNat ds).flatten:=by
 unfold mrep
 rw[h1,Option.bind_some,h2]
 simp only[i,if_true]
theorem zv7 {K:W.Frag}{F:Hp}{xs:List V}{ds:List D}(r:Reps K F xs ds):∀ k:Nat,Reps K F (List.replicate k xs).flatten (List.replicate k ds).flatten
 |0=>.nil
 |k+1=>by
  rw[replicate_succ,replicate_succ,flatten_cons,flatten_cons]
  exact r.append (zv7 r k)
theorem zu2 {x:ML}{y:ME}(ha:PF X a x)(N:PD X b y):PF X (.BinOp a .Mult b pos) (mrep x y):=(xy6 xm8 ha N).imp fun σ H Q j=>by
 obtain⟨F0,H0,F,ρ,g,rl,e,q⟩:=j
 obtain⟨ds,k,h1,h2,z,rfl⟩:=yw7 e
 unfold J8 at z
 simp only[Bool.and_eq_true,decide_eq_true_eq]at z
 refine⟨F0,H0,F,ρ,ds,rl,h1,fun p xs F1 H1 I S U O L=>⟨F0,H0,F1,ρ,.int k,rl.go I,h2,fun v F2 H2 i M=>?_⟩⟩
 cases M
 refine⟨p,k,xs,rfl,rfl,i.hh _ _ O,by omega,by omega,by rw[L.length];exact z.2,fun w hw=>?_⟩
 have G:=I.trans i
 exact q w _ F2 _ (G.trans (Ext.own i.fh hw)) (G.hh.free hw) (i.fh.free hw) z9 (zv7 (L.mono i.ff) k.toNat)
end
end
section
section
variable {X:Cx}{pins:List (Addr×Obj)}{σ:St}
end
end
section
theorem zk0 (a v u:Value):argsOk "max" ⟨[a],[(Str.ofString "key",v),(Str.ofString "default",u)]⟩:=by unfold argsOk;kernel_rfl
noncomputable def L3:D->Option D
 | .lst ds=>some (.int ds.length)
 |_=>none
noncomputable def gtI:D->D->Option Bool
 | .int i,.int j=>some (decide (i>j))
 |_,_=>none
noncomputable def maxF:List D->D->D->Option D
 |[],b,_=>some b
 |d::ds,b,kb=>match L3 d with
  |some kd=>(match gtI kd kb with |some true=>maxF ds d kd|some false=>maxF ds b kb|none=>none)
  |none=>none
noncomputable def maxD (ds:List D)(d0:D):Option D:=match ds with
 |[]=>some d0
 |d::ds=>(match L3 d with |some kd=>maxF ds d kd|none=>none)
theorem xu5 {d e:D}{k:Bool}(h:gtI d e=some k):∃ i j,d= .int i/\e= .int j/\k=decide (i>j):=by
 cases d with
 |int i=>
  cases e with
  |int j=>cases h;exact⟨i,j,rfl,rfl,rfl⟩
  |_=>cases h
 |_=>cases h
theorem wz6 {K:W.Frag}{F F':Hp}{A:Around}{s:Shared}{x y:V}{v u:Value}{d e:D}{k:Bool}(G:Rep K F x d)(z:Rep K F' y e)(L:RelV x v)(I:RelV y u)(h:gtI d e=some k)(prog:Program)(w:World)(E:Value->Shared->Prop)(Q:Value->Shared->Prop)(M:Q (.bool k) s):wpAny (model prog w) A (richCompare .Gt v u) Q E s:=by
 obtain⟨i,j,rfl,rfl,rfl⟩:=xu5 h
 obtain rfl:=G.i'
 obtain rfl:=z.i'
 obtain⟨t,rfl⟩:=L
 obtain⟨t',rfl⟩:=I
 exact CmpOf.ints_gt (prog:=prog) (w:=w) (A:=A) (P:=fun n v=>∃ t,v= .int (if n=1 then i else j) t) (fun n=>if n=1 then i else j) (fun i v h=>h) 1 0 _ _ _ _ _ ⟨t,rfl⟩ ⟨t',rfl⟩ M
section
variable {X:Cx}{pins:List (Addr×Obj)}{σ:St}
theorem yt0 (pins:List (Addr×Obj))(σ:St)(H F:Hp)(s:Shared)(x:V)(u:Value)(d z:D)(I:Inv X pins σ H s)(j:Same F H)(r:Rep X.K F x d)(L:RelV x u)(hm:L3 d=some z):
  wpAny (model X.prog X.w) X.A.in1 (call (.builtin "len") [u]) (fun w s'=>∃ y F' H',Inv X pins σ H' s'/\RelV y w/\Ext F H F' H'/\Rep X.K F' y z) (fun _ _=>False) s:=by
 cases r <;> first| (cases hm;done)|skip
 rename_i a xs ds G M
 cases hm
 cases L
 have hn:=L0
 obtain⟨its,N,pl,O⟩:=I.list (j.seq G)
 have i:=N.length
 refine Calls.call_len_list pl.isList (by simp only[size_toArray] <;> omega) ⟨.int ds.length,F,H,I.tok _,⟨s.toks+1,by rw[size_toArray,<-i,M.length]⟩,.refl j,.int _⟩
set_option maxHeartbeats 8000000 in
theorem yj8 (hc:X.calm=true)(hu:X.A.units+64<cLine){l I S:Addr}{xs:List V}{ds:List D}{kw:List (Str×Value)}{dm:D}(Z:I≠S)(ae:l≠I)(ad:l≠S):
  ∀(r j:Nat)(H F H0 F0:Hp)(s:Shared)(xb yb:V)(M N:Value)(db G:D)(c:Nat)(R:Result->Shared->Prop),
   ds.length-(j+1)=r->j+1<=ds.length->Inv X pins σ H s->Ext F0 H0 F H->SqL X.K H l xs->Reps X.K F xs ds->s.heap.IsListIter I l (j+1)->s.heap.get? S=some (seqObj "list" #[M,N] c)->FpOk X pins H I->FpOk X pins H S->
   RelV xb M->Rep X.K F xb db->RelV yb N->Rep X.K F yb G->maxF (ds.drop (j+1)) db G=some dm->
   (∀ x v F' H' s',Inv X pins σ H' s'->RelV x v->Ext F0 H0 F' H'->Rep X.K F' x dm->R (.ok (.ret v)) s')->
   codeAny (model X.prog X.w) X.A (.builtin "max.loop" ⟨[.ref I,.builtin "len",.ref S],kw⟩) R s:=by
 have L:(toString "max"++toString ".loop":String)="max.loop":=by decide
 intro r
 induction r with
 |zero=>
  intro j H F H0 F0 s xb yb M N db G c R hr hj I' ext sq rs Y hS fI fS rb pb ry py hm hR
  have a9:j+1=ds.length:=by omega
  obtain⟨its,vr,pl,_⟩:=I'.list sq
  have zl:its.length=ds.length:=by rw[<-vr.length,rs.length]
  rw[a9,drop_length]at hm
  have hm:some db=some dm:=hm
  cases hm
  refine codeAny_builtin PySem.F.entry_max_loop ?_
  rw[Around.under_plainId PySem.F.plain_max_loop _]
  show wpAny _ X.A.in1 (seqItems? (.ref S) >>= _) _ _ _
  refine wpAny_bind (wpAny_seqItems hS rfl ?_)
  show wpAny _ X.A.in1 (tryCatch (pyNext (.ref I)) _ >>= _) _ _ _
  refine wpAny_bind (wpAny_tryCatch (wpAny_pyNext_list_end (I'.ok.hd hc) Y pl.isList (by simp;omega) fun h' a3=>?_))
  have ac:h'.get? S=some (seqObj "list" #[M,N] c):=a3 S _ (Ne.symm Z) hS
  have s1:=Heap.SameBut.update h' S (Obj.mapSeq fun _=>(#[]:Array Value))
  show wpAny _ X.A.in1 (updateSeq S (fun _=>#[]) >>= _) _ _ _
  refine wpAny_bind ?_
  refine wpAny_updateSeq ac rfl (wpAny_bind (wpAny_letGo (wpAny_pure ?_)))
  have I9:Inv X pins σ H { s with heap:=h'.update S (Obj.mapSeq fun _=>(#[]:Array Value)),toks:=s.toks }:=I'.turnedL (fp:=[I,S]) (t':=s.toks) (fun b o i e=>by
   simp only[mem_cons,not_mem_nil,or_false,not_or]at i
   exact(s1.2 b i.2).trans (a3 b o i.1 e)) (fun b i=>by
   simp only[mem_cons,not_mem_nil,or_false]at i
   rcases i with rfl|rfl <;> assumption)
  exact hR xb M F H _ I9 rb ext pb
 |succ r ih=>
  intro j H F H0 F0 s xb yb M N db G c R hr hj I' ext sq rs Y hS fI fS rb pb ry py hm hR
  have U:j+1<ds.length:=by omega
  obtain⟨its,vr,pl,_⟩:=I'.list sq
  have zl:its.length=ds.length:=by rw[<-vr.length,rs.length]
  obtain⟨d,hd⟩:∃ d,ds[j+1]? =some d:=⟨_,getElem?_eq_getElem U⟩
  obtain⟨x,hx,px⟩:=rs.get hd
  obtain⟨v,hv,rx⟩:=vr.get hx
  rw[d5 hd]at hm
  unfold maxF at hm
  cases hkd:L3 d with
  |none=>rw[hkd]at hm;cases hm
  |some kd=>
   rw[hkd]at hm
   dsimp only at hm
   refine codeAny_builtin PySem.F.entry_max_loop ?_
   rw[Around.under_plainId PySem.F.plain_max_loop _]
   show wpAny _ X.A.in1 (seqItems? (.ref S) >>= _) _ _ _
   refine wpAny_bind (wpAny_seqItems hS rfl ?_)
   show wpAny _ X.A.in1 (tryCatch (pyNext (.ref I)) _ >>= _) _ _ _
   refine wpAny_bind (wpAny_tryCatch (wpAny_pyNext_list_item Y pl.isList (by simpa using hv) fun h1 a5 s1=>?_))
   have I1:Inv X pins σ H { s with heap:=h1,toks:=s.toks }:=I'.turnedL (fp:=[I]) (fun b o i e=>s1.extBut b o (by simpa using i) e) (fun b i=>by rw[List.mem_singleton.mp i];exact fI)
   have ab:h1.get? S=some (seqObj "list" #[M,N] c):=s1.extBut _ _ (Ne.symm Z) hS
   obtain⟨oI,eI,cI,dI⟩:=id a5
   have Ip:=I1.pin2 fI fS eI ab (fun v z=>by rw[dI]at z;cases z) (fun v z=>by cases z)
   show wpAny _ X.A.in1 (tryCatch (holding [v] (call (.builtin "len") [v])) _ >>= _) _ _ _
   refine wpAny_bind (wpAny_tryCatch (wpAny_holding (wpAny_mono (yt0 (pins++[(I,oI),(S,seqObj "list" #[M,N] c)]) σ H F _ x v d kd Ip ext.fh px rx hkd) (fun w s2 hw=>?_) fun _ _ z=>z.elim)))
   obtain⟨y,F2,H2,I2,a1,O,a2⟩:=hw
   have pI:=I2.pin (I,oI) (by simp)
   have pS:=I2.pin (S,seqObj "list" #[M,N] c) (by simp)
   have a8:Inv X pins σ H2 s2:=I2.unpinned
   have a7:FpOk X pins H2 I:=fI.now pI.2.1
   have a0:FpOk X pins H2 S:=fS.now pS.2.1
   have a4:s2.heap.IsListIter I l (j+1+1):=⟨oI,pI.1,cI,dI⟩
   cases hlt8:gtI kd G with
   |none=>rw[hlt8]at hm;cases hm
   |some bt=>
    rw[hlt8]at hm
    have a6:=wz6 (A:=X.A.in1) (s:=s2) a2 py a1 ry hlt8
    show wpAny _ X.A.in1 (tryCatch (holding [v,w] (richCompare .Gt w N >>= _)) _ >>= _) _ _ _
    refine wpAny_bind (wpAny_tryCatch (wpAny_holding (wpAny_bind (a6 X.prog X.w _ _ ?_))))
    refine wpAny_bind (wpAny_holding (wpAny_truthy_bool ?_))
    refine wpAny_bind (wpAny_letGo (wpAny_pure ?_))
    cases bt with
    |true=>
     have s3:=Heap.SameBut.update s2.heap S (Obj.mapSeq fun _=>#[v,w])
     obtain⟨c2,aa⟩:∃ c2,(s2.heap.update S (Obj.mapSeq fun _=>#[v,w])).get? S=some (seqObj "list" #[v,w] c2):=⟨_,get?_update_seq pS.1 fun _=>#[v,w]⟩
     simp only[if_true]
     refine wpAny_bind ?_
     refine wpAny_updateSeq pS.1 rfl (wpAny_bind (wpAny_letGo ?_))
     rw[L]
     have I3:Inv X pins σ H2 { s2 with heap:=s2.heap.update S (Obj.mapSeq fun _=>#[v,w]),toks:=s2.toks }:=a8.turnedL (fp:=[S]) (fun b o i e=>(s3.2 b (by simpa using i)).trans e) (fun b i=>by rw[List.mem_singleton.mp i];exact a0)
     refine wpAny_pure ⟨plainId_quiet PySem.F.plain_max_loop _,ih (j+1) H2 F2 H0 F0 _ x y v w d kd c2 R (by omega) U I3 (ext.trans O) (O.hh.seq sq) (rs.mono O.ff) ⟨oI,(s3.2 I Z).trans pI.1,cI,dI⟩ aa a7 a0 rx (px.mono O.ff) a1 a2 hm hR⟩
    |false=>
     simp only[Bool.false_eq_true,if_false]
     refine wpAny_bind (wpAny_letGo ?_)
     rw[L]
     refine wpAny_pure ⟨plainId_quiet PySem.F.plain_max_loop _,ih (j+1) H2 F2 H0 F0 _ xb yb M N db G c R (by omega) U a8 (ext.trans O) (O.hh.seq sq) (rs.mono O.ff) a4 pS.1 a7 a0 rb (pb.mono O.ff) ry (py.mono O.ff) hm hR⟩
set_option maxHeartbeats 8000000 in
theorem xw7 (hc:X.calm=true)(hu:X.A.units+64<cLine){l:Addr}{xs:List V}{ds:List D}{dm d0:D}{H F:Hp}{s:Shared}{x0:V}{N:Value}{E:Value->Shared->Prop}{Q:Value->Shared->Prop}
  (I:Inv X pins σ H s) (sf:Same F H) (sq:SqL X.K H l xs) (rs:Reps X.K F xs ds) (r0:RelV x0 N) (p0:Rep X.K F x0 d0) (hm:maxD ds d0=some dm)
  (hQ:∀ x v F' H' s',Inv X pins σ H' s'->RelV x v->Ext F H F' H'->Rep X.K F' x dm->Q v s'):
  wpAny (model X.prog X.w) X.A (call (.builtin "max") [.ref l] [(Str.ofString "key",.builtin "len"),(Str.ofString "default",N)]) Q E s:=by
 have G:(toString "max"++toString ".loop":String)="max.loop":=by decide
 obtain⟨its,vr,pl,_⟩:=I.list sq
 have Z:=pl.isList
 obtain⟨ol,a6,_⟩:=id Z
 have a0:l<s.heap.objs.size:=Heap.lt_size a6
 refine kmk_tree PySem.F.kind_max PySem.F.plain_max PySem.F.entry_max (zk0 _ _ _) ?_
 show wpAny _ X.A.in1 (Builtin.Builtins.bindParams "max" ["key","default"] 0 ⟨[],[(Str.ofString "key",.builtin "len"),(Str.ofString "default",N)]⟩ >>= _) _ _ s
 refine wpAny_bind (wpAny_of_eq (show Builtin.Builtins.bindParams "max" ["key","default"] 0 ⟨[],[(Str.ofString "key",.builtin "len"),(Str.ofString "default",N)]⟩=pure [some (.builtin "len"),some N]from rfl) ?_)
 refine wpAny_bind (wpAny_pure ?_)
 refine wpAny_bind (wpAny_pyIter_list Z ?_)
 refine wpAny_bind (wpAny_newList ?_ (Nat.zero_le _))
 rw[G]
 refine wpAny_pure ⟨plainId_quiet PySem.F.plain_max_loop _,?_⟩
 generalize L:({ cls:=.type "list_iterator",data:=.fields #[.ref l,.int 0 0] }:Obj)=oI0
 have hS:(s.heap.push oI0).objs.size=s.heap.objs.size+1:=size_push' ..
 have a8:l≠s.heap.objs.size:=Nat.ne_of_lt a0
 have a7:l≠(s.heap.push oI0).objs.size:=by rw[hS];exact Nat.ne_of_lt (Nat.lt_succ_of_lt a0)
 have M:s.heap.objs.size≠(s.heap.push oI0).objs.size:=by rw[hS];exact Nat.ne_of_lt (Nat.lt_succ_self _)
 have gI:((s.heap.push oI0).push (seqObj "list" #[] 0)).get? s.heap.objs.size=some oI0:=Heap.get?_push_of_some _ (Heap.get?_push_size _ (by rw[<-L];rfl))
 have gS:((s.heap.push oI0).push (seqObj "list" #[] 0)).get? (s.heap.push oI0).objs.size=some (seqObj "list" #[] 0):=Heap.get?_push_size _ rfl
 have fI:FpOk X pins H s.heap.objs.size:=I.fpOk (Nat.le_refl _) (I.hok.fresh (Nat.le_refl _))
 have fS:FpOk X pins H (s.heap.push oI0).objs.size:=I.fpOk (by rw[hS];exact Nat.le_succ _) (I.hok.fresh (by rw[hS];exact Nat.le_succ _))
 have I0:Inv X pins σ H { s with heap:=(s.heap.push oI0).push (seqObj "list" #[] 0),toks:=s.toks }:=I.turnedL (fp:=[]) (fun b o _ e=>Heap.get?_push_of_some _ (Heap.get?_push_of_some _ e)) (fun b j=>by cases j)
 generalize (s.heap.push oI0).objs.size=S at*
 generalize hI:s.heap.objs.size=J at*
 generalize (s.heap.push oI0).push (seqObj "list" #[] 0)=h0 at*
 have a2:h0.IsListIter J l 0:=⟨_,gI,by rw[<-L],by rw[<-L];rfl⟩
 have zl:its.length=ds.length:=by rw[<-vr.length,rs.length]
 obtain⟨its',U,Y,_⟩:=I0.list sq
 have O:its'.length=ds.length:=by rw[<-U.length,rs.length]
 refine codeAny_builtin PySem.F.entry_max_loop ?_
 rw[Around.under_plainId PySem.F.plain_max_loop _]
 show wpAny _ X.A.in1 (seqItems? (.ref S) >>= _) _ _ _
 refine wpAny_bind (wpAny_seqItems gS rfl ?_)
 show wpAny _ X.A.in1 (tryCatch (pyNext (.ref J)) _ >>= _) _ _ _
 cases ds with
 |nil=>
  have hm:some d0=some dm:=hm
  cases hm
  refine wpAny_bind (wpAny_tryCatch (wpAny_pyNext_list_end (I.ok.hd hc) a2 Y.isList (by simp at O ⊢;simp[O]) fun h' a9=>?_))
  refine wpAny_bind (wpAny_rule (wpAny_pure ?_))
  have I9:=I0.turnedL (h':=h') (fp:=[J]) (t':=s.toks) (fun b o j e=>a9 b o (by simpa using j) e) (fun b j=>by rw[List.mem_singleton.mp j];exact fI)
  exact hQ x0 N F H _ I9 r0 (Ext.refl sf) p0
 |cons d ds=>
  obtain⟨x,hx,px⟩:=rs.get (i:=0) (d:=d) rfl
  obtain⟨v,hv,rx⟩:=U.get hx
  unfold maxD at hm
  dsimp only at hm
  cases hkd:L3 d with
  |none=>rw[hkd]at hm;cases hm
  |some kd=>
   rw[hkd]at hm
   dsimp only at hm
   refine wpAny_bind (wpAny_tryCatch (wpAny_pyNext_list_item a2 Y.isList (by simpa using hv) fun h1 a1 s1=>?_))
   have I1:=I0.turnedL (h':=h1) (t':=s.toks) (fp:=[J]) (fun b o j e=>s1.extBut b o (by simpa using j) e) (fun b j=>by rw[List.mem_singleton.mp j];exact fI)
   have ab:h1.get? S=some (seqObj "list" #[] 0):=s1.extBut _ _ (Ne.symm M) gS
   obtain⟨oI,eI,cI,dI⟩:=id a1
   have Ip:=I1.pin2 fI fS eI ab (fun v z=>by rw[dI]at z;cases z) (fun v z=>by cases z)
   show wpAny _ X.A.in1 (tryCatch (holding [v] (call (.builtin "len") [v])) _ >>= _) _ _ _
   refine wpAny_bind (wpAny_tryCatch (wpAny_holding (wpAny_mono (yt0 (pins++[(J,oI),(S,seqObj "list" #[] 0)]) σ H F _ x v d kd Ip sf px rx hkd) (fun w s2 hw=>?_) fun _ _ z=>z.elim)))
   obtain⟨y,F2,H2,I2,a4,x2,a5⟩:=hw
   have pI:=I2.pin (J,oI) (by simp)
   have pS:=I2.pin (S,seqObj "list" #[] 0) (by simp)
   have ad:Inv X pins σ H2 s2:=I2.unpinned
   have ac:FpOk X pins H2 J:=fI.now pI.2.1
   have a3:FpOk X pins H2 S:=fS.now pS.2.1
   have s3:=Heap.SameBut.update s2.heap S (Obj.mapSeq fun _=>#[v,w])
   obtain⟨c2,aa⟩:∃ c2,(s2.heap.update S (Obj.mapSeq fun _=>#[v,w])).get? S=some (seqObj "list" #[v,w] c2):=⟨_,get?_update_seq pS.1 fun _=>#[v,w]⟩
   show wpAny _ X.A.in1 (updateSeq S (fun _=>#[v,w]) >>= _) _ _ _
   refine wpAny_bind (wpAny_updateSeq pS.1 rfl ?_)
   rw[G]
   have I3:Inv X pins σ H2 { s2 with heap:=s2.heap.update S (Obj.mapSeq fun _=>#[v,w]),toks:=s2.toks }:=ad.turnedL (fp:=[S]) (fun b o j e=>(s3.2 b (by simpa using j)).trans e) (fun b j=>by rw[List.mem_singleton.mp j];exact a3)
   refine wpAny_pure ⟨plainId_quiet PySem.F.plain_max_loop _,yj8 hc hu (ds:=d::ds) (dm:=dm) M a8 a7 _ 0 H2 F2 H F _ x y v w d kd c2 _ rfl (by simp) I3 x2 (x2.hh.seq sq) (rs.mono x2.ff) ⟨oI,(s3.2 J M).trans pI.1,cI,dI⟩ aa ac a3 rx (px.mono x2.ff) a4 a5 hm fun x v F' H' s' a b c d=>hQ x v F' H' s' a b c d⟩
@[irreducible] noncomputable def N8 (m:ML)(md:ME):ME:=fun ρ=>(m ρ).bind fun ds=>(md ρ).bind fun d0=>maxD ds d0
theorem zt4 {m:ML}{i:ME}{ρ:Ro}{g:D}(h:N8 m i ρ=some g):∃ ds j,m ρ=some ds/\i ρ=some j/\maxD ds j=some g:=by
 unfold N8 at h
 cases h1:m ρ with
 |none=>rw[h1]at h;cases h
 |some d=>
  cases h2:i ρ with
  |none=>rw[h1,h2]at h;cases h
  |some e=>rw[h1,h2]at h;exact⟨d,e,rfl,rfl,h⟩
theorem ze3 {m:ML}{i:ME}{ρ:Ro}{ds:List D}{j:D}(h1:m ρ=some ds)(h2:i ρ=some j):N8 m i ρ=maxD ds j:=by
 unfold N8
 rw[h1,h2];rfl
theorem yx0 {p Z kp j pos:Pos}{e Y:Expr}{m:ML}{md:ME}(hc:X.calm=true)(hu:X.A.units+64<cLine)(hg:Gl X "max")(hm:X.mg "max"=none)(S:Gl X "len")(O:X.mg "len"=none)(ha:PB X e m)(hd:PD X Y md)
  (hs:starEach (e::[]) X.env=(false,eval e X.env)::starEach [] X.env:=by rfl):
  PD X (.Call (.Name "max" p) [e] [⟨some "key",.Name "len" Z,kp⟩,⟨some "default",Y,j⟩] pos) (N8 m md):=by
 intro pins s σ H Q I h
 obtain⟨F0,H0,F,ρ,g,rl,em,q0⟩:=h
 obtain⟨ds,d0,h1,h2,h3⟩:=zt4 em
 refine wpAny_Call_Name_kw (T7 I hg hm PyProof.Rows.boot_max ?_ (by decide) (by decide))
 have A:=k4 ha pa_nil hs pos pins s σ H (fun vs H1=>∃ p xs F1,vs=[.ref p]/\Ext F H F1 H1/\SqL X.K H1 p xs/\Reps X.K F1 xs ds) I ⟨F0,H0,F,ρ,ds,rl,h1,fun p xs F1 H1 G s1 N=>⟨p,xs,F1,rfl,G,s1,N⟩⟩
 refine callWith_kw (thn A fun us s1 i=>?_) (by rw[hs];rfl) (by rw[hs];rfl)
 obtain⟨vs,H1,I1,N,p,xs,F1,U,G,sq,rs⟩:=i
 subst U
 obtain⟨u,rfl,ru⟩:=Q8 N
 cases ru
 show wpAny _ _ (evalAll ((do let v ← eval (.Name "len" Z) X.env;standAt pos;pure v)::(backToKw pos (keywordEach [⟨some "default",Y,j⟩] X.env)).map (·.2))) _ _ s1
 refine wpAny_evalAll_cons (wpAny_bind (T7 I1 S O boot_len (wpAny_bind (wpAny_standAt (wpAny_pure ?_))) (by decide) (by decide)))
 have B:=zz3 (nm:=some "default") (kpos:=j) hd yz8 pos pins s1 σ H1 (fun vs H2=>∃ y F2,vs=[y]/\Ext F1 H1 F2 H2/\Rep X.K F2 y d0) I1 ⟨F0,H0,F1,ρ,d0,rl.go G,h2,fun y F2 H2 z M=>⟨y,F2,rfl,z,M⟩⟩
 refine thn B fun us s2 i=>?_
 obtain⟨vs,H2,I2,M,y,F2,U,z,p0⟩:=i
 subst U
 obtain⟨u2,rfl,L⟩:=Q8 M
 exact xw7 hc hu I2 z.fh (z.hh.seq sq) (rs.mono z.ff) L p0 h3 fun x v F' H' s' I' rx x3 px=>⟨x,H',I',rx,q0 x F' H' ((G.trans z).trans x3) px⟩
end
end
section
noncomputable def minP:List D->D->Option D
 |[],b=>some b
 |d::ds,b=>(match ltF 8 d b with |some true=>minP ds d|some false=>minP ds b|none=>none)
section
variable {X:Cx}{pins:List (Addr×Obj)}{σ:St}
end
section
variable {X:Cx}
end
end
section
section
variable {X:Cx}{pins:List (Addr×Obj)}{σ:St}
end
end
end L2
namespace L2
open List
open PySem PySem.Spec PyProof.Rows PySem.Builtin PySem.Builtin.Str
section
section
variable {X:Cx}{a b c e o:Expr}{ma mb mo:ME}{pos:Pos}
end
end
section
section
variable {X:Cx}{a b c e o:Expr}{ma mb mo:ME}{pos:Pos}
end
end
end L2
namespace L2
open List
open PySem PySem.Spec PyProof.Rows
section
def zf1 (src:List (Option Nat)):Prop:=∀ i j k:Nat,src[i]? =some (some k)->src[j]? =some (some k)->i=j
theorem Q9 {src:List (Option Nat)}(h:∀ i,i<src.length->∀ j,j<src.length->src[i]? =src[j]?->src[i]? =some none\/i=j):zf1 src:=fun i j k hi z=>by
 have I:=(List.getElem?_eq_some_iff.mp hi).1
 have G:=(List.getElem?_eq_some_iff.mp z).1
 rcases h i I j G (by rw[hi,z])with e|e
 .rw[hi]at e;cases e
 .exact e
theorem zm5 {src:List (Option Nat)}{σ:St}{i k:Nat}{v:V}(h:src[i]? =some (some k))(j:σ[k]? =some (some v)):(blk0 src σ)[i]? =some (some v):=by
 unfold blk0
 rw[getElem?_map,h]
 simp only[Option.map_some,Option.bind_some,j];rfl
theorem zr8 {src:List (Option Nat)}{σ:St}{i k:Nat}{v:V}(h:src[i]? =some (some k))(j:(blk0 src σ)[i]? =some (some v)):σ[k]? =some (some v):=by
 unfold blk0 at j
 rw[getElem?_map,h]at j
 simp only[Option.map_some,Option.bind_some]at j
 cases hk:σ[k]? with
 |none=>rw[hk]at j;cases j
 |some o=>rw[hk]at j;simpa using j
section
variable {X:Cx}{a b c e o:Expr}{ma mb mo:ME}{pos:Pos}{st:Stmt}
def rSum (K:W.Frag):List V->Hp->VK->Prop:=fun vs H Q=>∃(p:Addr)(ns:List Int),vs=[.ref p]/\SqL K H p (ns.map V.int)/\Q (.int ns.sum) H
theorem yg2 (G:X.calm=true):CallR X (.builtin "sum") (rSum X.K):=by
 intro pins s σ H xs us Q I r h
 obtain⟨p,ns,rfl,j,q⟩:=h
 obtain⟨u,rfl,z⟩:=Q8 r
 cases z
 obtain⟨its,i,pl,M⟩:=I.list j
 obtain⟨L,h1,h2⟩:=V7 i
 have hp:=pl.isList
 rw[h1]at hp
 refine sum_intListG (I.ok.hd G) hp fun h' tk t' k=>?_
 refine⟨.int ns.sum,H,I.kept k,⟨t',?_⟩,q⟩
 rw[preSum_eq,take_of_length_le (by simp),<-h2]
@[irreducible] noncomputable def msum (m:ML):ME:=fun ρ=>match m ρ with |some ds=>(match D9 ds with |some ns=>some (.int ns.sum)|none=>none)|none=>none
theorem yy8 {p:Pos}{m:ML}(N:X.calm=true)(L:Gl X "sum")(hm:X.mg "sum"=none)(ha:PB X e m)(I:bootBuiltins "sum"=some (.builtin "sum"))(hs:starEach (e::[]) X.env=(false,eval e X.env)::starEach [] X.env:=by rfl)(M:starEach [e] X.env=(false,eval e X.env)::starEach [] X.env:=by rfl)(j:(backTo pos (starEach [] X.env)).any (·.1)=false:=by rfl):PD X (.Call (.Name "sum" p) [e] [] pos) (msum m):=
 (f6 (yg2 N) L hm I (k4 ha pa_nil hs) (by decide) (by decide) M j).imp fun σ H Q i=>by
  obtain⟨F0,H0,F,ρ,g,rl,e,q⟩:=i
  unfold msum at e
  cases h1:m ρ with
  |none=>rw[h1]at e;cases e
  |some ds=>
   rw[h1]at e
   cases h2:D9 ds with
   |none=>simp only[h2]at e;cases e
   |some ns=>
    simp only[h2]at e;cases e
    refine⟨F0,H0,F,ρ,ds,rl,h1,fun p xs F1 H1 z s1 G=>⟨p,ns,rfl,?_,q _ F1 H1 z (.int _)⟩⟩
    rw[<-M0 G h2];exact s1
end
end
section
section
variable {prog:Program}{w:World}{A:Around}{E:Value->Shared->Prop}{s:Shared}{l:Addr}{xs:Array (Int×Tok)}
end
section
variable {X:Cx}{a b c e o:Expr}{ma mb mo:ME}{pos:Pos}{st:Stmt}
end
section
variable {X:Cx}{a b c e:Expr}{na nb:MEm}{pos:Pos}{st:Stmt}{es:List Expr}{E:XK}{mf:MF}{m:MLm}
noncomputable abbrev MBm:=Ro->Option (Bool×Ro)
end
end
section
section
variable {X:Cx}{a b c e:Expr}{na nb:MEm}{pos:Pos}{st:Stmt}{es:List Expr}{m:MLm}
end
end
section
section
variable {X:Cx}{e:Expr}{na:MEm}{pos:Pos}{st:Stmt}{es:List Expr}{m:ML}{mf:MG}{E:XK}
noncomputable def zt0:List D->Bool
 |[]=>true
 | .int _::r=>zt0 r
 |_=>false
theorem zv5 {K:W.Frag}{F F':Hp}:∀{vs:List V}{ds:List D},zt0 ds=true->Reps K F vs ds->Reps K F' vs ds
 |_,[],_,.nil=>.nil
 |_,d::ds,h,.cons r rr=>by
  cases r with
  |int k=>exact .cons (.int k) (zv5 h rr)
  |_=>cases h
def NoL (K:W.Frag):Prop:=∀ p o,List.lookup p K=some o->o.cls≠ .type "list"
noncomputable def noLb:W.Frag->Bool
 |[]=>true
 | (_,o)::r=>(match o.cls with | .type c=>c != "list"|_=>true)&&noLb r
theorem NoL.of:∀{K:W.Frag},noLb K=true->NoL K
 |[],_=>fun p o e=>by cases e
 | (a,o')::r,h=>fun p o e z=>by
  have h:((match o'.cls with | .type c=>c != "list"|_=>true)&&noLb r)=true:=h
  rw[Bool.and_eq_true]at h
  rw[lookup_cons]at e
  split at e
  .cases e
   rw[z]at h
   exact absurd h.1 (by decide)
  .exact NoL.of h.2 p o e z
open Classical in
end
end
section
section
variable {X:Cx}
end
end
section
section
variable {X:Cx}{e:Expr}{pos:Pos}
def rAny (K:W.Frag):List V->Hp->VK->Prop:=fun vs H Q=>∃(p:Addr)(ns:List Int),vs=[.ref p]/\SqL K H p (ns.map V.int)/\Q (.bl (ns.any fun i=>i != 0)) H
theorem xf1 (xs:Array (Int×Tok)):(List.range (intItems xs).size).any (fun i=>numAt xs i != 0)=(xs.toList.map (·.1)).any fun i=>i != 0:=by
 rw[Bool.eq_iff_iff,any_eq_true,any_eq_true]
 constructor
 .rintro⟨i,hi,h⟩
  have hi:i<xs.size:=by simpa[intItems]using hi
  refine⟨numAt xs i,?_,h⟩
  refine List.mem_map.mpr ⟨xs[i],by simp,?_⟩
  simp[numAt,hi]
 .rintro⟨v,hv,h⟩
  obtain⟨p,hp,rfl⟩:=List.mem_map.mp hv
  obtain⟨i,hi,rfl⟩:=getElem_of_mem hp
  have j:i<xs.size:=by simpa using hi
  refine⟨i,by simpa[intItems]using j,?_⟩
  simpa[numAt,j]using h
theorem yg5 (U:X.calm=true):CallR X (.builtin "any") (rAny X.K):=by
 intro pins s σ H xs us Q I r h
 obtain⟨p,ns,rfl,M,q⟩:=h
 obtain⟨u,rfl,N⟩:=Q8 r
 cases N
 obtain⟨its,L,pl,hz⟩:=I.list M
 obtain⟨z,h1,h2⟩:=V7 L
 have hp:=pl.isList
 rw[h1]at hp
 refine call_any_walk (iter_intList hp fun G e st S j=>?_)
 subst e
 refine⟨_,_,_,_,_,_,fun i=>numAt z.toArray i != 0,rfl,Walks.list (A:=X.A.in1) (I.ok.hd U) _ p j (intItems z.toArray),st,fun i v s' Q' E' Z Y=>?_,fun h' tk O=>?_⟩
 .obtain⟨t,rfl⟩:=intItems_at Z
  exact truthy_int Y
 .refine⟨.bl (ns.any fun i=>i != 0),H,I.kept (old_kept O),?_,q⟩
  rw[xf1]
  show Value.bool _=Value.bool _
  rw[<-h2]
@[irreducible] noncomputable def many (m:ML):ME:=fun ρ=>match m ρ with |some ds=>(match D9 ds with |some ns=>some (.bl (ns.any fun i=>i != 0))|none=>none)|none=>none
theorem xm2 {p:Pos}{m:ML}(M:X.calm=true)(I:Gl X "any")(hm:X.mg "any"=none)(ha:PB X e m)(G:bootBuiltins "any"=some (.builtin "any"))(hs:starEach (e::[]) X.env=(false,eval e X.env)::starEach [] X.env:=by rfl)(L:starEach [e] X.env=(false,eval e X.env)::starEach [] X.env:=by rfl)(i:(backTo pos (starEach [] X.env)).any (·.1)=false:=by rfl):PD X (.Call (.Name "any" p) [e] [] pos) (many m):=
 (f6 (yg5 M) I hm G (k4 ha pa_nil hs) (by decide) (by decide) L i).imp fun σ H Q N=>by
  obtain⟨F0,H0,F,ρ,g,rl,e,q⟩:=N
  unfold many at e
  cases h1:m ρ with
  |none=>rw[h1]at e;cases e
  |some ds=>
   rw[h1]at e
   cases h2:D9 ds with
   |none=>simp only[h2]at e;cases e
   |some ns=>
    simp only[h2]at e;cases e
    refine⟨F0,H0,F,ρ,ds,rl,h1,fun p xs F1 H1 j s1 z=>⟨p,ns,rfl,?_,q _ F1 H1 j (.bl _)⟩⟩
    rw[<-M0 z h2];exact s1
end
end
section
noncomputable def xp9 (sc fsc:Scope):Scope:={ sc with names:=sc.names.map fun(n,k)=>if (k== .free&&fsc.kind== .function&&fsc.names.lookup n==some .cell)then (n,.cell)else (n,k) }
theorem xs6 {X:Cx}{i sc:Scope}{z N:List Str}{src:List (Option Nat)}{C:Addr}{fp:List Addr}{s:Shared}{H:Hp}(j:Scope)(h1:X.env.scope=j)(h:xs8 (xp9 i j) z sc N src=true):Blk (l9 X i C z fp s H) sc N src:=
 X4 (xp9 i j) z (by rw[<-h1];rfl) rfl h
section
variable {X:Cx}{e:Expr}{ma:ME}{pos:Pos}
end
end
section
section
variable {X:Cx}{e:Expr}{ma:ME}{pos:Pos}
end
end
section
section
variable {prog:Program}{w:World}{A:Around}{E:Value->Shared->Prop}{s:Shared}
end
section
variable {X:Cx}
end
end
section
section
variable {X:Cx}{a:Expr}{na:MEm}{pos:Pos}{ca:MBm}
end
end
section
section
variable {X:Cx}{a b:Expr}{m:ML}{pos:Pos}
end
end
end L2
namespace L2
open List
open PySem PySem.Spec PyProof.Rows PySem.W PySem.Builtin PySem.Builtin.ObjectAttr PySem.Builtin.Getset_descriptor
section
structure XCls (K:W.Frag)(C:Addr):Prop where
 ga:findIn K (.ref C) "__getattribute__"=some (some (.builtin "BaseException.__getattribute__"))
 nog:findIn K (.ref C) "__getattr__"=some none
 cl:findIn K (.ref C) "__class__"=some (some (.builtin "object.__class__"))
 ob:mroIn K C (.type "object")=some true
 be:mroIn K C (.type "BaseException")=some true
section
variable {prog:Program}{w:World}{A:Around}{E:Value->Shared->Prop}{K:W.Frag}{x C:Addr}{ox:Obj}{h:Heap}{g:Array GenState}{d:Drawn}{t:Nat}{os:OsState}
end
end
end L2
namespace L2
open List
open PySem PySem.Spec PyProof.Rows
section
structure Flown (P:Program)(w:World)(outer:List Env)(H:Hp)(s:Shared)(H':Hp)(B h':Heap):Prop where
 un:Un (frs outer) [] H H' s.heap h'
 ok:HOk P w H' h'
 st:B.StaysIn h'
 trk:∀ b o,H' b=some o->∃ ob,B.get? b=some ob
 old:∀ b o,s.heap.get? b=some o->b∉frs outer->∃ ob,B.get? b=some ob
section
variable {P:Program}{w:World}{outer:List Env}{H H':Hp}{s:Shared}{B h1 h2 base:Heap}
end
structure Top (X:Cx):Prop where
 stk:X.stack=X.env::X.outer
 frm:X.env.frame=some X.env.locals
 ex:X.ex=[]
section
variable {X:Cx}{pins:List (Addr×Obj)}{σ:St}{H H':Hp}{s:Shared}{B h1:Heap}
end
section
variable {X:Cx}{pins:List (Addr×Obj)}{σ:St}{H:Hp}{s:Shared}{W:Str->St->Hp->Prop}
end
section
variable {X:Cx}{pins pins':List (Addr×Obj)}{σ:St}{H:Hp}{s:Shared}{E:Value->Shared->Prop}
variable (nx:X.xe=noE)
include nx
end
end
section
section
variable {X:Cx}{st:Stmt}{rest:List Stmt}{e c:Expr}{pos:Pos}
end
end
section
section
variable {X:Cx}{pins:List (Addr×Obj)}{E:Value->Shared->Prop}(nx:X.xe=noE)
include nx
end
section
variable {X:Cx}{e c:Expr}{pos:Pos}{st:Stmt}{rest:List Stmt}
end
end
section
section
variable {X:Cx}{pins:List (Addr×Obj)}{σ:St}{H:Hp}{s:Shared}{a C:Addr}
end
section
variable {X:Cx}{pos np hpos:Pos}
end
end
section
structure RoomN (k:Nat)(A:Around):Prop where
 dp:A.depth+3*k+5<recursionLimit
 un:A.units+16*k+200<cLine
structure FnOkN (P:Program)(w:World)(K:W.Frag)(mg:Str->Option Value)(base:Heap)(CX:CXT)(k:Nat)(f:Addr)(fd:FuncData)(ps:List Str)(sp:Sp):Prop where
 len:∀ vs H Q E,sp vs H Q E->vs.length=ps.length
 run:∀(A:Around)(outer:List Env)(s:Shared)(H:Hp)(args:Args)(us:List Value)(vs:List V)(Q:VK)(E:XK),RoomN k A->Env0 P w K mg base A outer s H->BindsTo s fd args (ps.zip us)->Vals vs us->sp vs H Q E->
  codeAny (model P w) A (.call (.ref f) args) (CR CX outer P w H s Q E) s
section
variable {X:Cx}{CX:CXT}{k:Nat}{f:Addr}{fd:FuncData}{ps:List Str}{sp:Sp}{dvs:List V}{ds:List Value}{E:XK}{x:Str}{p pos:Pos}{e:Expr}{es:List Expr}{t:TA}
end
section
variable {X:Cx}{a:Expr}{ma:ME}{pos:Pos}
end
end
section
section
variable {X:Cx}{a:Expr}{ma:ME}{pos:Pos}
open PySem.SeqAt in
end
end
section
end
section
section
variable {X:Cx}{v:Expr}{mv:ME}{pos:Pos}
end
end
section
section
variable {X:Cx}{e:Expr}{pos:Pos}
end
end
section
section
variable {X:Cx}{pins:List (Addr×Obj)}{σ:St}
end
end
section
section
variable {K:W.Frag}{F0 H0 F H:Hp}{σ:St}{ρ:Ro}
theorem Rl.freezeQ (r:Rl K F0 H0 F H σ ρ){i:Nat}{ds:List D}(h:ρ[i]? =some (some (.own ds))):∃ p xs,F p=none/\Reps K F xs ds/\Rl K F0 H0 (upd F p (.lst xs)) H σ (ρ.set i (some (.sh (.lst ds)))):=by
 obtain⟨p,xs,a,b,c,d,z⟩:=r.own i ds h
 have I:i<ρ.length:=(List.getElem?_eq_some_iff.mp h).1
 have e:Ext F0 H0 (upd F p (.lst xs)) H:=r.ext.freeze b z c
 have ff:Same F (upd F p (.lst xs)):=(Same.refl F).put b
 refine⟨p,xs,b,d,⟨e,by simp[r.len],fun j d' q=>?_,fun j es q=>?_,fun j k q es G N e1 e2 e3 e4=>?_,fun j q es e1=>?_,fun j k q es G e1 e2 e3=>?_,fun j k q Z es G e1 e2=>r.ob1 j k q Z es G (j3 e1).2 (j3 e2).2,fun j q es e1=>r.rd j q es (R8 e1).2⟩⟩
 .by_cases hj:i=j
  .subst hj
   rw[getElem?_set_self I]at q
   cases q
   exact⟨_,a,.lst (SqL.of z9) (d.mono ff)⟩
  .rw[getElem?_set_ne hj]at q
   obtain⟨v,Y,U⟩:=r.sh j d' q
   exact⟨v,Y,U.mono ff⟩
 .by_cases hj:i=j
  .subst hj
   rw[getElem?_set_self I]at q
   cases q
  .rw[getElem?_set_ne hj]at q
   obtain⟨p',L,O,b',c',d',S⟩:=r.own j es q
   have hp:p'≠p:=fun w=>r.inj i j p ds es hj h q a (by rw[<-w];exact O)
   exact⟨p',L,O,by rw[y3 hp];exact b',c',d'.mono ff,S⟩
 .have n1:i≠j:=fun w=>by subst w;rw[getElem?_set_self I]at e1;cases e1
  have M:i≠k:=fun w=>by subst w;rw[getElem?_set_self I]at e2;cases e2
  rw[getElem?_set_ne n1]at e1
  rw[getElem?_set_ne M]at e2
  exact r.inj j k q es G N e1 e2 e3 e4
 .obtain⟨n,e1⟩:=j3 e1
  obtain⟨o1,o2,o3,zs,o4,o5⟩:=r.ob j q es e1
  have hp:q≠p:=fun w=>r.obn j i q es ds e1 h (by rw[w];exact a)
  exact⟨o1,by rw[y3 hp];exact o2,o3,zs,o4,o5.mono ff⟩
 .obtain⟨n,e1⟩:=j3 e1
  have M:i≠k:=fun w=>by subst w;rw[getElem?_set_self I]at e2;cases e2
  rw[getElem?_set_ne M]at e2
  exact r.obn j k q es G e1 e2 e3
end
noncomputable def hasL:List D->Bool
 |[]=>false
 | .lst _::_=>true
 |_::r=>hasL r
theorem yt7 {K:W.Frag}{F:Hp}:∀{xs:List V}{ds es:List D},hasL ds=true->zt0 es=true->Reps K F xs ds->Reps K F xs es->False
 |_,[],_,h,_,_,_=>by cases h
 |_,d::ds,[],h,_,.cons _ _,r=>by cases r
 |_,d::ds,e::es,h,h2,.cons a r,.cons b r2=>by
  cases e with
  |int k=>
   cases b
   cases a
   exact yt7 (show hasL ds=true from h) (show zt0 es=true from h2) r r2
  |_=>cases h2
noncomputable def yo9 (ds:List D):D->Bool
 | .lst es=>zt0 es&&hasL ds
 |_=>false
@[irreducible] noncomputable def zp8 (i:Nat)(m:ME):ME:=fun ρ=>match ρ[i]? with
 |some (some (.own ds))=>(match m (ρ.set i (some (.sh (.lst ds))))with |some d=>if yo9 ds d=true then some d else none|none=>none)
 |_=>m ρ
theorem zb2 {K:W.Frag}{F:Hp}{p:Addr}{xs:List V}{ds:List D}{v:V}{d:D}(hp:F p=some (.lst xs))(G:Reps K F xs ds)(h:yo9 ds d=true)(r:Rep K F v d):Rep K (fun b=>if b=p then none else F b) v d:=by
 cases r with
 |lst i j=>
  rename_i a ys es
  have h:(zt0 es&&hasL ds)=true:=h
  rw[Bool.and_eq_true]at h
  refine .lst ?_ (zv5 h.1 j)
  rcases i with (i|⟨o,i⟩)|i
  .have hne:a≠p:=fun z=>by
    rw[z,hp]at i;cases i
    exact yt7 h.2 h.1 G j
   exact .inl (.inl (by show (if a=p then none else F a)=_;rw[if_neg hne];exact i))
  .have hne:a≠p:=fun z=>by rw[z,hp]at i;cases i
   exact .inl (.inr ⟨o,by show (if a=p then none else F a)=_;rw[if_neg hne];exact i⟩)
  .exact .inr i
 |_=>cases h
theorem yx3 {X:Cx}{e:Expr}{m:ME}(i:Nat)(h:PD X e m):PD X e (zp8 i m):=h.imp fun σ H Q I=>by
 obtain⟨F0,H0,F,ρ,d,rl,e,q⟩:=I
 unfold zp8 at e
 split at e
 .rename_i ds h1
  obtain⟨p,xs,hp,O,L⟩:=rl.freezeQ h1
  split at e
  .rename_i d' h2
   split at e
   .rename_i hs
    cases e
    refine⟨F0,H0,_,_,d,L,h2,fun v F2 H2 G N=>?_⟩
    have M:F2 p=some (.lst xs):=G.ff _ _ z9
    refine q v (fun b=>if b=p then none else F2 b) H2 ⟨fun b o j=>?_,G.hh,fun b o j=>?_,fun b j hn=>?_,fun b o u z=>by
     have z:(if b=p then none else F2 b)=some (.frz o u):=z
     split at z
     .cases z
     .rename_i hne
      have:=G.nf b o u z
      rwa [y3 hne]at this⟩ (zb2 M (O.mono (((Same.refl F).put hp).trans G.ff)) hs N)
    .have hne:b≠p:=fun w=>by rw[w,hp]at j;cases j
     show (if b=p then none else F2 b)=some o
     rw[if_neg hne]
     exact G.ff b o (by rw[y3 hne];exact j)
    .have j:(if b=p then none else F2 b)=some o:=j
     split at j
     .cases j
     .exact G.fh b o j
    .have hn:(if b=p then none else F2 b)≠none:=hn
     split at hn
     .exact absurd rfl hn
     .rename_i hne
      exact G.new b (by rw[y3 hne];exact j) hn
   .cases e
  .cases e
 .exact⟨F0,H0,F,ρ,d,rl,e,q⟩
end
section
section
variable {X:Cx}{a b:Expr}{ma mb:ME}{pos:Pos}
end
section
variable {X:Cx}{a b:Expr}
open PySem.SeqAt in
end
end
section
open Classical in
section
variable {X:Cx}{pos:Pos}
end
end
section
section
variable {X:Cx}{st:Stmt}
end
end
section
def qfnD (K:W.Frag)(nm ql:Str)(st:Stmt)(x:Addr):Prop:=∃(oc:Value)(o1:Option Addr)(kV dc pm:Value)(o2:Option Addr)(cd ct:Value)(sl:Array (Option Value)),K.lookup x=some ⟨oc,o1,.func (W.fnOf nm ql (U4 st) (c5 st) (y0 st) .none kV dc pm o2 cd ct),sl⟩/\W.codeIn K cd ql=true/\W.keepIn K (.ref x)=true
def QDn (K:W.Frag)(nm:Str)(st:Stmt):Prop:=∃ x:Addr,W.nsIn K mainGlobals nm=some (some (.ref x))/\qfnD K nm nm st x
def QMn (K:W.Frag)(C:Addr)(nm ql:Str)(st:Stmt):Prop:=∃ x:Addr,W.findIn K (.ref C) nm=some (some (.ref x))/\W.isFn K (.ref x)=true/\qfnD K nm ql st x
theorem QDn.of {K:W.Frag}{nm:Str}{st:Stmt}{x:Addr}{oc:Value}{z:Option Addr}{kV G pm:Value}{j:Option Addr}{i ct:Value}{sl:Array (Option Value)}(e:W.nsIn K mainGlobals nm=some (some (.ref x)))(l:K.lookup x=some ⟨oc,z,.func (W.fnOf nm nm (U4 st) (c5 st) (y0 st) .none kV G pm j i ct),sl⟩)(c:W.codeIn K i nm=true)(k:W.keepIn K (.ref x)=true):QDn K nm st:=⟨x,e,oc,z,kV,G,pm,j,i,ct,sl,l,c,k⟩
theorem QMn.of {K:W.Frag}{C:Addr}{nm ql:Str}{st:Stmt}{x:Addr}{oc:Value}{G:Option Addr}{kV I pm:Value}{z:Option Addr}{j ct:Value}{sl:Array (Option Value)}(e:W.findIn K (.ref C) nm=some (some (.ref x)))(i:W.isFn K (.ref x)=true)(l:K.lookup x=some ⟨oc,G,.func (W.fnOf nm ql (U4 st) (c5 st) (y0 st) .none kV I pm z j ct),sl⟩)(c:W.codeIn K j ql=true)(k:W.keepIn K (.ref x)=true):QMn K C nm ql st:=⟨x,e,i,oc,G,kV,I,pm,z,j,ct,sl,l,c,k⟩
abbrev QBdD (nm ql:Str)(st:Stmt)(ps:List Str)(us:List Value):Prop:=∀(kV doc pm:Value)(an:Option Addr)(cdv ct:Value),bindArgs (W.fnOf nm ql (U4 st) (c5 st) (y0 st) .none kV doc pm an cdv ct) ⟨us,[]⟩=pure (ps.zip us)
section
variable {P:Program}{w:World}{K:W.Frag}{mg:Str->Option Value}{base h:Heap}{nm ql cn:Str}{st:Stmt}{ps:List Str}{sp:Sp}{n:Nat}{C:Addr}
def QDf (K:W.Frag)(mg:Str->Option Value)(nm:Str)(st:Stmt)(ps:List Str):Prop:=∃ f fd,Fun K nm nm st f fd/\Binds K fd ps []/\mg nm=some (.ref f)
def QHd (P:Program)(w:World)(K:W.Frag)(mg:Str->Option Value)(base:Heap)(n:Nat)(nm:Str)(ps:List Str)(sp:Sp):Prop:=∃ f fd,FnOk P w K mg base CX0 n f fd ps sp/\Binds K fd ps []/\W.keepIn K (.ref f)=true/\mg nm=some (.ref f)
theorem qfnD.mk {x:Addr}(D:qfnD K nm ql st x)(j:∀ us:List Value,us.length=ps.length->QBdD nm ql st ps us):∃ fd,Fun K nm ql st x fd/\Binds K fd ps []:=by
 obtain⟨oc,G,kV,I,pm,z,L,ct,sl,l,c,k⟩:=D
 exact⟨_,ys2 l c k,(ys2 l c k).binds fun _ _ _ _ _ _ us i=>j us i _ _ _ _ _ _⟩
theorem QDn.df (D:QDn K nm st)(X:K.In h)(G:h.Ns mainGlobals mg)(i:∀ us:List Value,us.length=ps.length->QBdD nm nm st ps us):QDf K mg nm st ps:=by
 obtain⟨x,e,D⟩:=D
 obtain⟨fd,F,b⟩:=D.mk i
 exact⟨x,fd,F,b,W.mg_of X G e⟩
theorem QDf.mk (D:QDf K mg nm st ps)(h:∀ f fd,Fun K nm nm st f fd->FnOk P w K mg base CX0 n f fd ps sp):QHd P w K mg base n nm ps sp:=by
 obtain⟨f,fd,F,b,a⟩:=D
 exact⟨f,fd,h f fd F,b,F.kp,a⟩
theorem qbd1 {P:List Value->Prop}(h:∀ a,P [a]):∀ us:List Value,us.length=1->P us
 |[a],_=>h a
theorem qbd2 {P:List Value->Prop}(h:∀ a b,P [a,b]):∀ us:List Value,us.length=2->P us
 |[a,b],_=>h a b
theorem qbd3 {P:List Value->Prop}(h:∀ a b c,P [a,b,c]):∀ us:List Value,us.length=3->P us
 |[a,b,c],_=>h a b c
end
section
variable {X:Cx}{n k:Nat}{nm cn:Str}{ps:List Str}{sp:Sp}{e o:Expr}{es:List Expr}{ta:TE}{t:TA}{p pos apos:Pos}{C:Addr}{pl:Sem Bool}
theorem qcl (H:QHd X.prog X.w X.K X.mg X.base n nm ps sp)(G:Room k X.A)(ha:PA X (e::es) t)(hn:n<=k:=by decide)(I:Gl X nm:=by rfl)(j:(nm==("__debug__":Str))=false:=by decide)(L:starEach (e::es) X.env=(false,eval e X.env)::starEach es X.env:=by rfl)(i:(backTo pos (starEach es X.env)).any (·.1)=false:=by rfl):
  PE X (.Call (.Name nm p) (e::es) [] pos) (zb4 sp [] E0 t):=by
 obtain⟨f,fd,F,b,z,a⟩:=H
 exact xy8 (F.mono hn) G I a z b .nil xb2 ha j L i
end
theorem qap {X:Cx}{o e:Expr}{es:List Expr}{to:TE}{t:TA}{apos cpos:Pos}(I:PE X o to)(ha:PA X (e::es) t)
  (z:attributeBase o "append" X.env (eval o X.env)=eval o X.env:=by rfl)
  (G:((backTo cpos (starEach (e::es) X.env)).all (fun x=>!x.1)&&(backToKw cpos (keywordEach [] X.env)).all (fun x=>x.1.isSome)
   &&decide ((e::es).length+([]:List Keyword).length+(if ([]:List Keyword).isEmpty then 0 else 1)<30))=true:=by rfl)
  (j:(apos.endLine==cpos.line)=true:=by rfl) (hs:starEach (e::es) X.env=(false,eval e X.env)::starEach es X.env:=by rfl) (i:(backTo cpos (starEach es X.env)).any (·.1)=false:=by rfl):
  PE X (.Call (.Attribute o "append" apos) (e::es) [] cpos) (tBM X.K "list" zq6 to t):=xb1 PySem.F.plainAttrs_list PySem.F.slot_list_append PySem.F.type_list_append G8 I ha z G j hs i
section
variable {a b c d e f:ME}(ρ:Ro)(ds:List D)
theorem qal1:z4 a anil ρ=some ds->ds.length=0+1:=D3 yg9 ρ ds
theorem qal2:z4 a (z4 b anil) ρ=some ds->ds.length=0+1+1:=D3 qal1 ρ ds
theorem qal3:z4 a (z4 b (z4 c anil)) ρ=some ds->ds.length=0+1+1+1:=D3 qal2 ρ ds
end
theorem qsc {N P:List Str}{sc:Scope}(a:sc.kind= .function:=by rfl)(b:sc.isCoroutine=false:=by rfl)(c:sc.isGenerator=false:=by rfl)(d:N.Nodup:=by decide +kernel)(e:N.take P.length=P:=by rfl)(f:∀ x∈P,sc.names.lookup x=some .local\/sc.names.lookup x=some .cell:=by decide +kernel)(g:∀ y∈sc.names,y.2≠ .free:=by decide +kernel):FnScope N P sc:=⟨a,b,c,d,e,f,g⟩
end
section
structure BlkC (X:Cx)(sc:Scope)(N:List Str)(src:List (Option Nat)):Prop where
 kind:sc.kind= .function
 cells:∀ y∈sc.names,y.2= .cell->sc.names.lookup y.1=some .cell
 names:∀ y∈sc.names,y.2= .local->sc.names.lookup y.1=some .local
 free:∀ y∈sc.names,y.2= .free->X.env.kindOf y.1=some .cell\/X.env.kindOf y.1=some .free
 fv:∀(j i:Nat),src[j]? =some (some i)->∃ x,N[j]? =some x/\X.N[i]? =some x/\sc.names.lookup x=some .free
 len:src.length=N.length
section
variable {X:Cx}{pins:List (Addr×Obj)}{σ:St}{H:Hp}{s:Shared}
end
section
variable {X:Cx}
end
section
variable {X:Cx}{pos:Pos}
end
end
section
section
variable {X:Cx}{pos:Pos}
end
end
section
structure ItH (K:W.Frag)(H0:Hp)(J:It)(its:List D):Prop where
 go:∀(i:Nat) F1 H1,Same H0 H1->Same F1 H1->i<its.length->J.go i H1
 yld:∀(i:Nat) F1 H1 x H2 d,Same H0 H1->Same F1 H1->its[i]? =some d->J.yld i H1 x H2->∃ F2,Ext F1 H1 F2 H2/\Rep K F2 x d
 stop:∀ F1 H1,Same H0 H1->Same F1 H1->J.stop its.length H1
def TIh (K:W.Frag)(mi:ML):TI:=fun σ H R=>∃ F0 H0 F ρ its,Rl K F0 H0 F H σ ρ/\mi ρ=some its/\∀ J,ItH K H0 J its->R J H
def PIh (X:Cx)(tg iter:Expr)(mi:ML):Prop:=PI X tg iter (TIh X.K mi)
@[irreducible] noncomputable def rdl (i:Nat):ML:=fun ρ=>match ρ[i]? with |some (some (.rd _ ds))=>some ds|_=>none
theorem ym0 {i:Nat}{ρ:Ro}{ds:List D}(h:rdl i ρ=some ds):∃ q,ρ[i]? =some (some (.rd q ds)):=by
 unfold rdl at h
 split at h
 .rename_i q es h1;cases h;exact⟨q,h1⟩
 .cases h
@[irreducible] noncomputable def rde (i:Nat):ML:=fun ρ=>match rdl i ρ with |some ds=>some (V4 0 ds)|none=>none
theorem xv9 {ns:List Int}{k:Nat}{d:D}(h:(ns.map D.int)[k]? =some d):∃ n,(ns.map V.int)[k]? =some (.int n)/\d= .int n:=by
 rw[getElem?_map]at h ⊢
 cases hn:ns[k]? with
 |none=>rw[hn]at h;cases h
 |some n=>rw[hn]at h;cases h;exact⟨n,rfl,rfl⟩
theorem Rd.mono {H H':Hp}{q:Addr}{u:HO}(r:Rd H q u)(s:Same H H'):Rd H' q u:=by
 rcases r with z|⟨o,z⟩
 .exact .inl (s _ _ z)
 .exact .inr ⟨o,s _ _ z⟩
theorem yi7 {K:W.Frag}{H0:Hp}{q:Addr}{ns:List Int}(r:Rd H0 q (.lst (ns.map V.int))):ItH K H0 (Ite K q) (V4 0 (ns.map D.int)) where
 go:=fun i F1 H1 a b hi=>by
  rw[l4]at hi
  have:(ns.map V.int)[i]? =some ((ns.map V.int)[i]'(by simpa using hi)):=getElem?_eq_getElem _
  exact⟨_,_,.inl (r.mono a),this⟩
 yld:=fun i F1 H1 x H2 d a b e y=>by
  obtain⟨t,u,rfl,z,rfl,j⟩:=y
  have G:i<(ns.map D.int).length:=by
   have:=(List.getElem?_eq_some_iff.mp e).1
   rwa [l4]at this
  have h1:=getElem?_eq_getElem G
  obtain⟨n,e1,e2⟩:=xv9 h1
  rw[e2]at h1
  have:=j _ (.inl (r.mono a))
  rw[e1]at this;cases this
  have hi:=S6 0 _ i _ h1
  rw[e,Nat.zero_add]at hi
  cases hi
  exact⟨_,Ext.laid b z,.tup (SqT.of z9) (.cons (.int _) (.cons (.int _) .nil))⟩
 stop:=fun F1 H1 a b=>⟨_,.inl (r.mono a),by rw[l4];simp⟩
section
variable {X:Cx}{a b c e:Expr}{ma mb:ME}{pos:Pos}{st:Stmt}
theorem Rl.rdA {K:W.Frag}{F0 H0 F H:Hp}{σ:St}{ρ:Ro}(r:Rl K F0 H0 F H σ ρ){i:Nat}{ds:List D}(h:rdl i ρ=some ds):∃ q,∃ ns:List Int,ρ[i]? =some (some (.rd q ds))/\σ[i]? =some (some (.ref q))/\ds=ns.map D.int/\F0 q=none/\Rd H0 q (.lst (ns.map V.int)):=by
 obtain⟨q,h1⟩:=ym0 h
 obtain⟨e1,e2,ns,e3,j⟩:=r.rd i q ds h1
 exact⟨q,ns,h1,e1,e3,e2,j⟩
theorem ym9 {i:Nat}{x:Str}{G p:Pos}{es:List Expr}{tk:Nat}{tp cpos:Pos}(L:Gl X "enumerate")(I:X.mg "enumerate"=none)(N:PE X (.Name x G) (tVar i))(j:starEach [.Name x G] X.env=[(false,eval (.Name x G) X.env)]:=by rfl):
  PIh X (.Tuple es tk tp) (.Call (.Name "enumerate" p) [.Name x G] [] cpos) (rde i):=PI.imp (yy3 L I (k4 N pa_nil (by rw[j];rfl)) j) fun σ H R z=>by
 obtain⟨F0,H0,F,ρ,its,rl,e,q⟩:=z
 unfold rde at e
 split at e
 .rename_i ds h0
  cases e
  obtain⟨p,ns,h1,h2,rfl,O,M⟩:=rl.rdA h0
  exact⟨_,h2,p,_,rfl,.inl (M.mono rl.ext.hh),q _ (yi7 M)⟩
 .cases e
theorem ym6 {tg iter:Expr}{body:List Stmt}{mi:ML}{g:Tg}{mb:MS}(hp:PassesOwn (model X.prog X.w) X.A X.env X.xe)(hc:X.calm=true)(hi:PIh X tg iter mi)(hg:PGd X tg g)(hb:PSsd X body mb)
  (hs:∀ x,foldedSetIterable iter X.env x=pure x:=by intro _;rfl):PSd X (.For tg iter body [] pos) (mfor mi g mb):=(yz5 hp hc hi hg hb hs).imp fun Dn σ H Y=>by
 obtain⟨F0,H0,F,ρ,o,rl,e,ok⟩:=Y
 unfold mfor at e
 cases h1:mi ρ with
 |none=>rw[h1]at e;cases e
 |some its=>
  rw[h1]at e
  have e:forD g mb its ρ=some o:=e
  refine⟨F0,H0,F,ρ,its,rl,h1,fun J I=>?_⟩
  refine⟨fun i m N H'=>∃ F' ρ',Rl X.K F0 H0 F' H' N ρ'/\Same F F'/\i<=its.length/\m=its.length-i/\forD g mb (its.drop i) ρ'=some o,⟨_,F,ρ,rl,Same.refl _,Nat.zero_le _,rfl,e⟩,?_⟩
  rintro i m N H' ⟨F',ρ',G,sf,a2,rfl,j⟩
  by_cases O:i<its.length
  .right
   have hd:=getElem?_eq_getElem O
   refine⟨I.go i F' H' G.ext.hh G.fh O,fun S H2=>∃ F2 z,Rl X.K F0 H0 F2 H2 S z/\Same F F2/\forD g mb (its.drop (i+1)) z=some o,?_,fun x H2 y=>?_⟩
   .rintro S H2 ⟨F2,z,rl2,sf2,e2⟩
    exact⟨its.length-(i+1),by omega,F2,z,rl2,sf2,O,rfl,e2⟩
   .obtain⟨F2,x2,r2⟩:=I.yld i F' H' x H2 _ G.ext.hh G.fh hd y
    rw[d5 hd]at j
    unfold forD at j
    cases h2:tgD g its[i] ρ' with
    |none=>simp only[h2]at j;cases j
    |some ρ1=>
     simp only[h2]at j
     refine⟨F0,H0,F2,ρ',_,ρ1,G.go x2,r2,h2,fun F3 H3 a1 a0 x3=>?_⟩
     have s3:Same F F3:=(sf.trans x2.ff).trans x3.ff
     cases h3:mb ρ1 with
     |none=>simp only[h3]at j;cases j
     |some o1=>
      simp only[h3]at j
      refine⟨F0,H0,F3,ρ1,o1,a0,h3,?_⟩
      cases o1 with
      |nx z=>exact fun F4 H4 M L U=>⟨F4,z,L,s3.trans U,j⟩
      |ct z=>exact fun F4 H4 M L U=>⟨F4,z,L,s3.trans U,j⟩
      |bk z=>
       cases j
       exact fun F4 H4 M L U=>ok F4 H4 M L (s3.trans U)
      |rt d=>cases j;exact ok
      |rf d=>cases j;exact ok
      |rp d ds=>cases j;exact ok
      |rg d p r=>cases j;exact ok
      |rgf d p r=>cases j;exact ok
  .left
   have Z:i=its.length:=by omega
   subst Z
   rw[drop_length]at j
   have j:some (Out.nx ρ')=some o:=j
   cases j
   exact⟨I.stop F' H' G.ext.hh G.fh,ok F' H' N G sf⟩
end
end
section
def NrP (p:Addr)(ρ:Ro):Prop:=∀(i:Nat) q ds,ρ[i]? =some (some (.rd q ds))->q≠p
theorem NrP.set {p:Addr}{ρ:Ro}(h:NrP p ρ)(i:Nat)(d:D):NrP p (ρ.set i (some (.sh d))):=fun j q ds e=>h j q ds (R8 e).2
theorem NrP.all {p:Addr}:∀(is:List Nat)(ds:List D){ρ ρ':Ro},NrP p ρ->P0 is ds ρ=some ρ'->NrP p ρ'
 |[],[],_,_,h,e=>by cases e;exact h
 |[],_::_,_,_,_,e=>by cases e
 |_::_,[],_,_,_,e=>by cases e
 |i::is,d::ds,ρ,ρ',h,e=>NrP.all is ds (h.set i d) e
theorem NrP.tg {p:Addr}{g:Tg}{d:D}{ρ ρ':Ro}(h:NrP p ρ)(e:tgD g d ρ=some ρ'):NrP p ρ':=by
 cases g with
 |nm i=>cases e;exact h.set i d
 |tp is=>cases d <;> first| (cases e;done)|exact NrP.all is _ h e
 |nt i is=>
  cases d with
  |tup ds=>
   match ds,e with
   |[d,.tup ds],e=>exact NrP.all is _ (h.set i d) e
  |_=>cases e
theorem Rl.rebaseR {K:W.Frag}{F1 F H B:Hp}{σ:St}{ρ:Ro}{p:Addr}{xs ys:List V}(r:Rl K F1 (upd B p (.lst xs)) F H σ ρ)(j:F p=none)(G:NrP p ρ):Rl K F1 (upd B p (.lst ys)) F (upd H p (.lst ys)) σ ρ:=by
 have ne:∀ q,upd B p (.lst xs) q=none->q≠p:=fun q z w=>by rw[w,z9]at z;cases z
 refine⟨⟨r.ext.ff,fun b u e=>?_,r.fh.put j,fun b e n=>?_,r.ext.nf⟩,r.len,r.sh,fun i ds e=>?_,r.inj,fun i q ds e=>?_,r.obn,r.ob1,fun i q ds e=>?_⟩
 .by_cases hb:b=p
  .subst hb;rw[z9]at e ⊢;exact e
  .rw[y3 hb]at e ⊢
   exact r.ext.hh b u (by rw[y3 hb];exact e)
 .have hb:b≠p:=fun w=>by rw[w,j]at n;exact n rfl
  have:=r.ext.new b e n
  rw[y3 hb]at this ⊢;exact this
 .obtain⟨q,zs,a,b,c,d,z⟩:=r.own i ds e
  have hq:=ne q z
  rw[y3 hq]at z
  exact⟨q,zs,a,b,by rw[y3 hq];exact c,d,by rw[y3 hq];exact z⟩
 .obtain⟨a,b,z,zs,c,d⟩:=r.ob i q ds e
  have hq:=ne q z
  rw[y3 hq]at z
  exact⟨a,b,by rw[y3 hq];exact z,zs,by rw[y3 hq];exact c,d⟩
 .obtain⟨a,b,ns,c,z⟩:=r.rd i q ds e
  have hq:=G i q ds e
  refine⟨a,b,ns,c,?_⟩
  unfold Rd at z ⊢
  rw[y3 hq]at z ⊢;exact z
theorem zd3 {K:PySem.W.Frag}{src:List (Option Nat)}{g:Tg}{c:MB}{elt:ME}{its out:List D}{F1 H1 B:Hp}{σ:St}{Z:Ro}{p:Addr}{J:It}{Q:VK}(f1:Same F1 H1)(hp:H1 p=none)(rb:Rl K F1 (upd B p (.lst [])) F1 (upd H1 p (.lst [])) (blk0 src σ) Z)(nr:NrP p Z)(I:ItD K F1 J its)(e:X3 g c elt its Z []=some out)
  (q:∀ xs F' H',Ext F1 H1 F' H'->F' p=none->H' p=some (.lst xs)->Reps K F' xs out->Q (.ref p) H'):
  ∃ W:Nat->Nat->St->Hp->Prop,(∃ m,W 0 m (blk0 src σ) (upd H1 p (.lst [])))/\∀ i m L H',W i m L H'->
   (J.stop i H'/\Q (.ref p) H')\/(J.go i H'/\∃ N:St->Hp->Prop,(∀ G H2,N G H2->∃ m',m'<m/\W (i+1) m' G H2)/\∀ x H2,J.yld i H' x H2->TGd K g x L H2 fun z H3=>TC K c z H3 fun b H4=>
    if b=true then TD K elt z H4 fun y H5=>∃ xs,H5 p=some (.lst xs)/\xs.length<sizeLine/\N z (upd H5 p (.lst (xs++[y])))else N z H4):=by
 have a7:F1 p=none:=f1.free hp
 refine⟨fun i m L H'=>∃ F' ρ' acc xs,Rl K F1 (upd B p (.lst xs)) F' H' L ρ'/\Ext F1 H1 F' H'/\H' p=some (.lst xs)/\F' p=none/\Reps K F' xs acc/\i<=its.length/\m=its.length-i/\X3 g c elt (its.drop i) ρ' acc=some out/\NrP p ρ',
  ⟨_,F1,Z,[],[],rb,(Ext.refl f1).acc hp a7,z9,a7,.nil,Nat.zero_le _,rfl,e,nr⟩,?_⟩
 clear rb e nr
 rintro i m L H' ⟨F',ρ',acc,xs,a2,xe,Y,a4,ra,a9,rfl,e',a8⟩
 by_cases U:i<its.length
 .right
  have hd:=getElem?_eq_getElem U
  refine⟨I.go i F' H' xe.ff a2.fh U,fun G H2=>∃ F2 M j O,Rl K F1 (upd B p (.lst O)) F2 H2 G M/\Ext F1 H1 F2 H2/\H2 p=some (.lst O)/\F2 p=none/\Reps K F2 O j/\X3 g c elt (its.drop (i+1)) M j=some out/\NrP p M,?_,fun x H2 y=>?_⟩
  .rintro G H2 ⟨F2,M,j,O,b1,b2,b3,b4,b5,b6,b7⟩
   exact⟨its.length-(i+1),Nat.sub_lt_sub_left U (Nat.lt_succ_self i),F2,M,j,O,b1,b2,b3,b4,b5,U,rfl,b6,b7⟩
  .obtain⟨F2,x2,r2⟩:=I.yld i F' H' x H2 _ xe.ff a2.fh hd y
   rw[d5 hd]at e'
   obtain⟨ρ1,h2,e3⟩:=B6 e'
   have a3:=a8.tg h2
   clear e' I q y hd
   refine⟨F1,_,F2,ρ',_,ρ1,a2.go x2,r2,h2,fun F3 H3 z S x3=>?_⟩
   have a5:=x2.trans x3
   rcases e3 with⟨h3,e4⟩|⟨d,h3,h4,hz,e4⟩
   .refine⟨F1,_,F3,ρ1,false,S,h3,fun F4 H4 x4=>?_⟩
    have a1:=a5.trans x4
    exact iteF ⟨F4,ρ1,acc,xs,S.go x4,xe.trans a1,a1.hh _ _ Y,a1.stay a4 Y,ra.mono a1.ff,e4,a3⟩
   .refine⟨F1,_,F3,ρ1,true,S,h3,fun F4 H4 x4=>iteT ⟨F1,_,F4,ρ1,d,S.go x4,h4,fun v F5 H5 x5 r5=>?_⟩⟩
    have a0:=(a5.trans x4).trans x5
    have pn:=a0.stay a4 Y
    exact⟨xs,a0.hh _ _ Y,by rw[ra.length];exact hz,F5,ρ1,acc++[d],xs++[v],((S.go x4).go x5).rebaseR pn a3,(xe.trans a0).acc hp pn,z9,pn,(ra.mono a0.ff).append (.cons r5 .nil),e4,a3⟩
 .left
  have a6:i=its.length:=Nat.le_antisymm a9 (Nat.le_of_not_lt U)
  subst a6
  rw[drop_length]at e'
  have e':some acc=some out:=e'
  cases e'
  exact⟨I.stop F' H' xe.ff a2.fh,q xs F' H' xe a4 Y ra⟩
noncomputable def L8 (src:List (Option Nat))(ρ:Ro):Ro:=src.map fun o=>o.bind fun i=>match ρ[i]? with |some (some (.sh d))=>some (.sh d)|some (some (.own ds))=>some (.own ds)|some (some (.rd q ds))=>some (.rd q ds)|_=>none
@[irreducible] noncomputable def G9 (src:List (Option Nat))(mi:ML)(g:Tg)(c:MB)(elt:ME):ML:=fun ρ=>(mi ρ).bind fun its=>X3 g c elt its (L8 src ρ) []
theorem U5 {src:List (Option Nat)}{ρ:Ro}{i:Nat}{x:S}(e:(L8 src ρ)[i]? =some (some x)):∃ k,src[i]? =some (some k)/\ρ[k]? =some (some x)/\nob (some x):=by
 unfold L8 at e
 rw[getElem?_map]at e
 cases h:src[i]? with
 |none=>rw[h]at e;cases e
 |some o=>
  rw[h]at e
  cases o with
  |none=>cases e
  |some k=>
   simp only[Option.map_some,Option.bind_some]at e
   split at e
   .rename_i d h';cases e;exact⟨k,rfl,h',True.intro⟩
   .rename_i ds h';cases e;exact⟨k,rfl,h',True.intro⟩
   .rename_i q ds h';cases e;exact⟨k,rfl,h',True.intro⟩
   .cases e
noncomputable def capB (F H0 H:Hp):Hp:=fun b=>match F b with |some o=>some o|none=>match H0 b with |some _=>H b|none=>none
theorem Rl.blkR {K:W.Frag}{F0 H0 F H:Hp}{σ:St}{ρ:Ro}(r:Rl K F0 H0 F H σ ρ){src:List (Option Nat)}(ok:zf1 src){p:Addr}(hp:H p=none):Rl K F (upd (capB F H0 H) p (.lst [])) F (upd H p (.lst [])) (blk0 src σ) (L8 src ρ):=by
 have M:F p=none:=r.fh.free hp
 refine⟨⟨Same.refl F,fun b u e=>?_,r.fh.put M,fun b e n=>absurd e n,fun _ _ _ z=>z⟩,by unfold blk0 L8;simp,fun i d e=>?_,fun i ds e=>?_,fun i j q ds es G e1 e2 s1 s2=>?_,fun i q ds e=>?_,fun i j q ds es e=>?_,fun i j q O ds es e=>?_,fun i q ds e=>?_⟩
 .by_cases hb:b=p
  .subst hb;rw[z9]at e ⊢;exact e
  .rw[y3 hb]at e ⊢
   unfold capB at e
   split at e
   .rename_i o h1;cases e;exact r.fh _ _ h1
   .split at e
    .exact e
    .cases e
 .obtain⟨k,h1,h2,_⟩:=U5 e
  obtain⟨v,a,b⟩:=r.sh k d h2
  exact⟨v,zm5 h1 a,b⟩
 .obtain⟨k,h1,h2,_⟩:=U5 e
  obtain⟨q,xs,a,b,c,d,z⟩:=r.own k ds h2
  have hq:q≠p:=fun w=>by rw[w,hp]at c;cases c
  exact⟨q,xs,zm5 h1 a,b,by rw[y3 hq];exact c,d,by rw[y3 hq];unfold capB;rw[b,z]⟩
 .obtain⟨k,h1,h2,_⟩:=U5 e1
  obtain⟨l,I,N,_⟩:=U5 e2
  refine r.inj k l q ds es (fun w=>?_) h2 N (zr8 h1 s1) (zr8 I s2)
  subst w
  exact G (ok i j k h1 I)
 .obtain⟨k,h1,h2,n⟩:=U5 e;exact n.elim
 .obtain⟨k,h1,h2,n⟩:=U5 e;exact n.elim
 .obtain⟨k,h1,h2,n⟩:=U5 e;exact n.elim
 .obtain⟨k,h1,h2,_⟩:=U5 e
  obtain⟨a,b,ns,c,d,z⟩:=r.rdF h2
  have hn:H q≠none:=by rcases d with d|⟨o,d⟩ <;> rw[d] <;> simp
  have hq:q≠p:=fun w=>hn (w ▸ hp)
  refine⟨zm5 h1 a,b,ns,c,?_⟩
  have L:capB F H0 H q=H q:=by
   unfold capB
   rw[b]
   cases h0:H0 q with
   |none=>exact absurd h0 z
   |some o=>rfl
  unfold Rd at d ⊢
  rw[y3 hq,L];exact d
theorem Rl.nrp {K:W.Frag}{F0 H0 F H:Hp}{σ:St}{ρ:Ro}(r:Rl K F0 H0 F H σ ρ)(src:List (Option Nat)){p:Addr}(hp:H p=none):NrP p (L8 src ρ):=fun i q ds e w=>by
 obtain⟨k,h1,h2,_⟩:=U5 e
 obtain⟨a,b,ns,c,d,z⟩:=r.rdF h2
 rw[w]at d
 rcases d with d|⟨o,d⟩ <;> rw[hp]at d <;> cases d
theorem yh9 {K:W.Frag}{src:List (Option Nat)}{mi:ML}{g:Tg}{c:MB}{elt:ME}(G:zf1 src){σ:St}{H:Hp}{Q:VK}(h:TF K (G9 src mi g c elt) σ H Q):zq4 src (TId K mi) (TGd K g) (TC K c) (TD K elt) σ H Q:=by
 obtain⟨F0,H0,F,ρ,out,rl,e,q⟩:=h
 unfold G9 at e
 cases h1:mi ρ with
 |none=>rw[h1]at e;cases e
 |some its=>
  rw[h1]at e
  refine⟨F0,H0,F,ρ,its,rl,h1,fun J F1 H1 i I p hp=>?_⟩
  exact zd3 i.fh hp ((rl.go i).blkR G hp) ((rl.go i).nrp src hp) I e fun xs F' H' xe z j L=>q p xs F' H' (i.trans xe) (i.hh.free hp) z j L
section
variable {X:Cx}{a b c e o:Expr}{ma mb mo:ME}{pos:Pos}{st:Stmt}
theorem K6 {sc:Scope}{N:List Str}{src:List (Option Nat)}{tg elt iter:Expr}{i:List Expr}{mi:ML}{g:Tg}{cc:MB}{j:ME}(z:zf1 src)(B:Blk X sc N src)(M:X.calm=true)
  (hi:PId X tg iter mi) (I:∀ C fp s H,PGd (l9 X sc C N fp s H) tg g) (G:∀ C fp s H,PTsd (l9 X sc C N fp s H) i cc) (L:∀ C fp s H,PD (l9 X sc C N fp s H) elt j)
  (hs:∀ x,foldedSetIterable iter X.env x=pure x:=by intro _;rfl):
  PF X (.ListComp elt [⟨tg,iter,i,0⟩] sc pos) (G9 src mi g cc j):=(yy4 (g:=TGd X.K g) (tc:=TC X.K cc) (te:=TD X.K j) B M hi (fun C fp s H=>I C fp s H) (fun C fp s H=>G C fp s H) (fun C fp s H=>L C fp s H) hs).imp fun _ _ _ h=>yh9 z h
end
end
section
noncomputable def RepS (K:W.Frag)(F H:Hp)(v:V):S->Prop
 | .sh d=>Rep K F v d
 | .rd q ds=>v= .ref q/\F q=none/\∃ ns:List Int,ds=ns.map D.int/\Rd H q (.lst (ns.map V.int))
 |_=>False
inductive RpS (K:W.Frag)(F H:Hp):List V->List S->Prop
 |nil:RpS K F H [] []
 |cons {v:V} {x:S} {vs:List V} {xs:List S}:RepS K F H v x->RpS K F H vs xs->RpS K F H (v::vs) (x::xs)
theorem RepS.mono {K:W.Frag}{F H F' H':Hp}{v:V}(e:Ext F H F' H'):∀{x:S},RepS K F H v x->RepS K F' H' v x
 | .sh d,h=>Rep.mono e.ff h
 | .rd q ds,⟨a,b,ns,c,d⟩=>by
   refine⟨a,?_,ns,c,d.mono e.hh⟩
   cases hF:F' q with
   |none=>rfl
   |some u=>
    have:=e.new q b (by rw[hF];simp)
    rcases d with d|⟨o,d⟩ <;> rw[this]at d <;> cases d
 | .own _,h=>h
 | .ob _ _,h=>h
theorem RpS.length {K:W.Frag}{F H:Hp}:∀{vs:List V}{xs:List S},RpS K F H vs xs->vs.length=xs.length
 |_,_,.nil=>rfl
 |_,_,.cons _ r=>by rw[length_cons,length_cons,r.length]
theorem RpS.get {K:W.Frag}{F H:Hp}:∀{vs:List V}{xs:List S},RpS K F H vs xs->∀{i:Nat}{x:S},xs[i]? =some x->∃ v,vs[i]? =some v/\RepS K F H v x
 |_,_,.nil,_,_,e=>by cases e
 |_,_,.cons r _,0,_,e=>by cases e;exact⟨_,rfl,r⟩
 |_,_,.cons _ r,i+1,_,e=>r.get (i:=i) e
noncomputable abbrev MK:=List S->Option Rt
noncomputable abbrev MA:=Ro->Option (List S)
def TAk (K:W.Frag)(m:MA):TA:=fun σ H Q=>∃ F0 H0 F ρ ss,Rl K F0 H0 F H σ ρ/\m ρ=some ss/\∀ vs F' H',Ext F H F' H'->RpS K F' H' vs ss->Q vs H'
def PAk (X:Cx)(es:List Expr)(m:MA):Prop:=PA X es (TAk X.K m)
noncomputable def knil:MA:=fun _=>some []
@[irreducible] noncomputable def N9 (x:ME)(r:MA):MA:=fun ρ=>match x ρ with |some d=>(match r ρ with |some ss=>some (.sh d::ss)|none=>none)|none=>none
@[irreducible] noncomputable def krd (i:Nat)(r:MA):MA:=fun ρ=>match ρ[i]? with |some (some (.rd q ds))=>(match r ρ with |some ss=>some (.rd q ds::ss)|none=>none)|_=>none
def spK (K:W.Frag)(n:Nat)(m:MK):Sp:=fun vs H Q _=>vs.length=n/\∃ F ss r,Same F H/\RpS K F H vs ss/\m ss=some r/\okT K F H Q r
noncomputable def R7 (n:Nat)(ss:List S):Ro:=ss.map some++List.replicate (n-ss.length) none
noncomputable def runK (n:Nat)(m:MS):MK:=fun ss=>match m (R7 n ss)with
 |some (.nx _)=>some (.sh .non)
 |some (.rt d)=>some (.sh d)
 |some (.rf es)=>some (.fr es)
 |some (.rp d es)=>some (.pr d es)
 |_=>none
theorem za4 {K:W.Frag}{F H:Hp}{N:List Str}{vs:List V}{G:List S}(s:Same F H)(r:RpS K F H vs G):Rl K F H F H (start N vs) (R7 N.length G):=by
 have get:∀(i:Nat) x,(R7 N.length G)[i]? =some (some x)->∃ v,(start N vs)[i]? =some (some v)/\RepS K F H v x:=fun i x e=>by
  unfold R7 at e
  by_cases hi:i<G.length
  .rw[getElem?_append_left (by simpa using hi),getElem?_map]at e
   cases q:G[i]? with
   |none=>rw[q]at e;cases e
   |some d=>
    rw[q]at e;cases e
    obtain⟨v,e3,L⟩:=r.get q
    have I:i<vs.length:=(List.getElem?_eq_some_iff.mp e3).1
    refine⟨v,?_,L⟩
    unfold start
    rw[getElem?_append_left (by simpa using I),getElem?_map,e3];rfl
  .rw[getElem?_append_right (by simpa using hi),getElem?_replicate]at e
   split at e <;> cases e
 refine⟨.refl s,?_,fun i d e=>get i _ e,fun i ds e=>?_,fun i j p ds es _ e=>?_,fun i p ds e=>?_,fun i j p ds es e=>?_,fun i j p q ds es e=>?_,fun i q ds e=>?_⟩
 .unfold start R7;simp[r.length]
 .obtain⟨v,_,z⟩:=get i _ e;exact z.elim
 .obtain⟨v,_,z⟩:=get i _ e;exact z.elim
 .obtain⟨v,_,z⟩:=get i _ e;exact z.elim
 .obtain⟨v,_,z⟩:=get i _ e;exact z.elim
 .obtain⟨v,_,z⟩:=get i _ e;exact z.elim
 .obtain⟨v,h1,rfl,h2,ns,h3,h4⟩:=get i _ e
  exact⟨h1,h2,ns,h3,h4⟩
theorem Fun.okK {P:Program}{w:World}{K:W.Frag}{mg:Str->Option Value}{base:Heap}{x qual:Str}{st:Stmt}{f:Addr}{fd:FuncData}{N ps:List Str}{k:Nat}{m:MS}(O:Fun K x qual st f fd)(M:FnScope N ps (y0 st))
  (i:∀(cdv:Value)(A:Around)(outer:List Env)(s:Shared)(H:Hp)(E:XK),Room k (A.deeper (envOfC qual (y0 st) s.heap.objs.size f cdv))->PSsd (cxOf CX0 P w K mg base N qual (y0 st) f cdv A outer s H E).nox (c5 st) m):
  FnOk P w K mg base CX0 (k+1) f fd ps (spK K ps.length (runK N.length m)):=by
 refine O.ok M (fun vs H Q E h=>h.1) fun cdv A outer s H vs Q E L h=>?_
 obtain⟨S,F,j,r,G,I,e,ok⟩:=h
 unfold runK at e
 cases h1:m (R7 N.length j)with
 |none=>rw[h1]at e;cases e
 |some o=>
  rw[h1]at e
  refine⟨_,i cdv A outer s H E L,F,H,F,R7 N.length j,o,za4 G I,h1,?_⟩
  cases o with
  |nx ρ=>cases e;exact fun F' H' z rl _=>ok .non F' H' rl.ext .non
  |rt d=>cases e;exact ok
  |rf es=>cases e;exact ok
  |rp d es=>cases e;exact ok
  |rg d p r=>cases e
  |rgf d p r=>cases e
  |bk ρ=>cases e
  |ct ρ=>cases e
@[irreducible] noncomputable def S4 (f:MK)(m:MA):ME:=fun ρ=>(m ρ).bind fun ss=>match f ss with |some (.sh d)=>some d|some (.fr es)=>some (.lst es)|some (.pr d es)=>some (.tup [d,.lst es])|none=>none
section
variable {X:Cx}{a b c e o:Expr}{ma mb mo:ME}{pos:Pos}{st:Stmt}{E:XK}{es:List Expr}{mf:MK}{m:MA}
theorem zp2:PAk X [] knil:=pa_nil.imp fun σ H Q i=>by
 obtain⟨F0,H0,F,ρ,g,rl,e,q⟩:=i
 cases e;exact q [] F H (.refl rl.fh) .nil
theorem zz7 (ha:PD X a ma)(L:PAk X es m)(hs:starEach (a::es) X.env=(false,eval a X.env)::starEach es X.env:=by rfl):PAk X (a::es) (N9 ma m):=(k4 ha L hs).imp fun σ H Q i=>by
 obtain⟨F0,H0,F,ρ,g,rl,e,q⟩:=i
 unfold N9 at e
 split at e
 .rename_i d h1
  split at e
  .rename_i ss h2
   cases e
   exact⟨F0,H0,F,ρ,d,rl,h1,fun x F1 H1 z I=>⟨F0,H0,F1,ρ,ss,rl.go z,h2,fun xs F2 H2 j G=>q _ F2 H2 (z.trans j) (.cons (Rep.mono j.ff I) G)⟩⟩
  .cases e
 .cases e
theorem yx6 {i:Nat}(ha:PE X a (tVar i))(L:PAk X es m)(hs:starEach (a::es) X.env=(false,eval a X.env)::starEach es X.env:=by rfl):PAk X (a::es) (krd i m):=(k4 ha L hs).imp fun σ H Q j=>by
 obtain⟨F0,H0,F,ρ,g,rl,e,q⟩:=j
 unfold krd at e
 split at e
 .rename_i p ds h1
  split at e
  .rename_i ss h2
   cases e
   obtain⟨e1,e2,ns,e3,M,_⟩:=rl.rdF h1
   have I:RepS X.K F H (.ref p) (.rd p ds):=⟨rfl,e2,ns,e3,M⟩
   exact⟨_,e1,F0,H0,F,ρ,ss,rl,h2,fun xs F2 H2 z G=>q _ F2 H2 z (.cons (I.mono z) G)⟩
  .cases e
 .cases e
theorem zz6 {n:Nat}(h:∀ t,PA X es t->PE X e (zb4 (spK X.K n mf) [] E t))(hl:es.length=n)(ha:PAk X es m)(hm:∀ ρ z,m ρ=some z->z.length=es.length):PD X e (S4 mf m):=(h _ ha).imp fun σ H Q I=>by
 obtain⟨F0,H0,F,ρ,d,rl,e,q⟩:=I
 unfold S4 at e
 cases h1:m ρ with
 |none=>rw[h1]at e;cases e
 |some z=>
  rw[h1]at e
  refine⟨F0,H0,F,ρ,z,rl,h1,fun vs F1 H1 j N=>?_⟩
  dsimp only[Option.bind]at e
  show spK X.K n mf (vs++[]) H1 Q E
  rw[append_nil]
  refine⟨by rw[N.length,hm ρ z h1,hl],F1,z,?_⟩
  split at e
  .rename_i d' h2
   cases e
   exact⟨_,j.fh,N,h2,fun v F2 H2 G O=>q v F2 H2 (j.trans G) O⟩
  .rename_i es' h2
   cases e
   exact⟨_,j.fh,N,h2,fun p xs F2 H2 G hp hF hH O=>q _ (upd F2 p (.lst xs)) H2 (j.trans (G.freeze hF hp hH)) (.lst (SqL.of z9) (O.mono ((Same.refl F2).put hF)))⟩
  .rename_i d' es' h2
   cases e
   refine⟨_,j.fh,N,h2,fun t v p xs F2 H2 G ht hp L Y M S U rv rs=>?_⟩
   have x3:=G.freeze M hp U
   have i:upd F2 p (.lst xs) t=none:=by rw[y3 L];exact Y
   have s2:Same F2 (upd F2 p (.lst xs)):=(Same.refl F2).put M
   have Z:Same (upd F2 p (.lst xs)) (upd (upd F2 p (.lst xs)) t (.tup [v,.ref p])):=(Same.refl _).put i
   exact q _ (upd (upd F2 p (.lst xs)) t (.tup [v,.ref p])) H2 (j.trans (x3.freeze i ht S)) (.tup (SqT.of z9) (.cons (rv.mono (s2.trans Z)) (.cons (.lst (SqL.of (by rw[y3 (Ne.symm L)];exact z9)) (rs.mono (s2.trans Z))) .nil)))
  .cases e
theorem zx0 (ρ:Ro)(i:List S)(h:knil ρ=some i):i.length=0:=by cases h;rfl
theorem E2 {n:Nat}(hm:∀ ρ i,m ρ=some i->i.length=n)(ρ:Ro)(i:List S)(h:N9 ma m ρ=some i):i.length=n+1:=by
 unfold N9 at h
 split at h
 .split at h
  .rename_i h2;cases h;rw[length_cons,hm _ _ h2]
  .cases h
 .cases h
theorem zo2 {n i:Nat}(hm:∀ ρ j,m ρ=some j->j.length=n)(ρ:Ro)(j:List S)(h:krd i m ρ=some j):j.length=n+1:=by
 unfold krd at h
 split at h
 .split at h
  .rename_i h2;cases h;rw[length_cons,hm _ _ h2]
  .cases h
 .cases h
end
noncomputable def hp0:Hp:=fun _=>none
theorem X8 {K:W.Frag}{F:Hp}:∀{ns:List Int}{vs:List V},Reps K F vs (ns.map D.int)->vs=ns.map V.int
 |[],_,.nil=>rfl
 |n::ns,_,.cons (.int _) r=>by rw[X8 r];rfl
theorem xp8 {K:W.Frag}(I:NoL K){F H:Hp}(s:Same F H){v:V}{ns:List Int}(r:Rep K F v (.lst (ns.map D.int))):∃ q,RepS K hp0 H v (.rd q (ns.map D.int)):=by
 cases r with
 |lst i j=>
  rename_i q xs
  rw[X8 j]at i
  rcases i with i|⟨o,its,n,z,G,_⟩
  .exact⟨q,rfl,rfl,ns,rfl,i.mono s⟩
  .exact absurd G (I _ _ z)
end
section
open Classical in
end
section
section
variable {X:Cx}{pins:List (Addr×Obj)}{σ:St}
set_option maxHeartbeats 8000000 in
theorem yw9 (hc:X.calm=true)(hu:X.A.units+64<cLine){l I S:Addr}{xs:List V}{ds:List D}{kw:List (Str×Value)}{dm:D}(U:I≠S)(a6:l≠I)(a5:l≠S):
  ∀(r j:Nat)(H F H0 F0:Hp)(s:Shared)(Z:V)(z:Value)(Y:D)(c:Nat)(R:Result->Shared->Prop),
   ds.length-(j+1)=r->j+1<=ds.length->Inv X pins σ H s->Ext F0 H0 F H->SqT X.K H l xs->Reps X.K F xs ds->s.heap.IsTupleIter I l (j+1)->s.heap.get? S=some (seqObj "list" #[z,z] c)->FpOk X pins H I->FpOk X pins H S->
   RelV Z z->Rep X.K F Z Y->minP (ds.drop (j+1)) Y=some dm->
   (∀ x v F' H' s',Inv X pins σ H' s'->RelV x v->Ext F0 H0 F' H'->Rep X.K F' x dm->R (.ok (.ret v)) s')->
   codeAny (model X.prog X.w) X.A (.builtin "min.loop" ⟨[.ref I,.none,.ref S],kw⟩) R s:=by
 have G:(toString "min"++toString ".loop":String)="min.loop":=by decide
 intro r
 induction r with
 |zero=>
  intro j H F H0 F0 s Z z Y c R hr hj I' ext sq rs N hS fI fS rb pb hm hR
  have a2:j+1=ds.length:=by omega
  obtain⟨its,vr,pl,_⟩:=I'.tuple sq
  have zl:its.length=ds.length:=by rw[<-vr.length,rs.length]
  rw[a2,drop_length]at hm
  have hm:some Y=some dm:=hm
  cases hm
  refine codeAny_builtin PySem.F.entry_min_loop ?_
  rw[Around.under_plainId PySem.F.plain_min_loop _]
  show wpAny _ X.A.in1 (seqItems? (.ref S) >>= _) _ _ _
  refine wpAny_bind (wpAny_seqItems hS rfl ?_)
  show wpAny _ X.A.in1 (tryCatch (pyNext (.ref I)) _ >>= _) _ _ _
  refine wpAny_bind (wpAny_tryCatch (wpAny_pyNext_tuple_end (I'.ok.hd hc) N pl (by simp;omega) fun h' a0=>?_))
  have a4:h'.get? S=some (seqObj "list" #[z,z] c):=a0 S _ (Ne.symm U) hS
  have s1:=Heap.SameBut.update h' S (Obj.mapSeq fun _=>(#[]:Array Value))
  show wpAny _ X.A.in1 (updateSeq S (fun _=>#[]) >>= _) _ _ _
  refine wpAny_bind ?_
  refine wpAny_updateSeq a4 rfl (wpAny_bind (wpAny_letGo (wpAny_pure ?_)))
  have I9:Inv X pins σ H { s with heap:=h'.update S (Obj.mapSeq fun _=>(#[]:Array Value)),toks:=s.toks }:=I'.turnedL (fp:=[I,S]) (t':=s.toks) (fun b o i e=>by
   simp only[mem_cons,not_mem_nil,or_false,not_or]at i
   exact(s1.2 b i.2).trans (a0 b o i.1 e)) (fun b i=>by
   simp only[mem_cons,not_mem_nil,or_false]at i
   rcases i with rfl|rfl <;> assumption)
  exact hR Z z F H _ I9 rb ext pb
 |succ r ih=>
  intro j H F H0 F0 s Z z Y c R hr hj I' ext sq rs N hS fI fS rb pb hm hR
  have M:j+1<ds.length:=by omega
  obtain⟨its,vr,pl,_⟩:=I'.tuple sq
  have zl:its.length=ds.length:=by rw[<-vr.length,rs.length]
  obtain⟨d,hd⟩:∃ d,ds[j+1]? =some d:=⟨_,getElem?_eq_getElem M⟩
  obtain⟨x,hx,px⟩:=rs.get hd
  obtain⟨v,hv,rx⟩:=vr.get hx
  rw[d5 hd]at hm
  unfold minP at hm
  refine codeAny_builtin PySem.F.entry_min_loop ?_
  rw[Around.under_plainId PySem.F.plain_min_loop _]
  show wpAny _ X.A.in1 (seqItems? (.ref S) >>= _) _ _ _
  refine wpAny_bind (wpAny_seqItems hS rfl ?_)
  show wpAny _ X.A.in1 (tryCatch (pyNext (.ref I)) _ >>= _) _ _ _
  refine wpAny_bind (wpAny_tryCatch (wpAny_pyNext_tuple_item N pl (by simpa using hv) fun h1 L s1=>?_))
  have I1:Inv X pins σ H { s with heap:=h1,toks:=s.toks }:=I'.turnedL (fp:=[I]) (fun b o i e=>s1.extBut b o (by simpa using i) e) (fun b i=>by rw[List.mem_singleton.mp i];exact fI)
  have O:h1.get? S=some (seqObj "list" #[z,z] c):=s1.extBut _ _ (Ne.symm U) hS
  cases hlt8:ltF 8 d Y with
  |none=>rw[hlt8]at hm;cases hm
  |some bt=>
   rw[hlt8]at hm
   have a1:=yi2 I1 8 (A:=X.A.in1) (by show X.A.units+1+8<cLine;omega) (px.mono ext.fh) (pb.mono ext.fh) rx rb hlt8
   refine wpAny_bind (wpAny_pure ?_)
   show wpAny _ X.A.in1 (tryCatch (holding [v,v] (richCompare .Lt v z >>= _)) _ >>= _) _ _ _
   refine wpAny_bind (wpAny_tryCatch (wpAny_holding (wpAny_bind (a1 X.prog X.w _ _ ?_))))
   refine wpAny_bind (wpAny_holding (wpAny_truthy_bool ?_))
   refine wpAny_bind (wpAny_letGo (wpAny_pure ?_))
   cases bt with
   |true=>
    have s3:=Heap.SameBut.update h1 S (Obj.mapSeq fun _=>#[v,v])
    obtain⟨c2,a3⟩:∃ c2,(h1.update S (Obj.mapSeq fun _=>#[v,v])).get? S=some (seqObj "list" #[v,v] c2):=⟨_,get?_update_seq O fun _=>#[v,v]⟩
    simp only[if_true]
    refine wpAny_bind ?_
    refine wpAny_updateSeq O rfl (wpAny_bind (wpAny_letGo ?_))
    rw[G]
    have I3:=I1.turnedL (h':=h1.update S (Obj.mapSeq fun _=>#[v,v])) (t':=s.toks) (fp:=[S]) (fun b o i e=>(s3.2 b (by simpa using i)).trans e) (fun b i=>by rw[List.mem_singleton.mp i];exact fS)
    refine wpAny_pure ⟨plainId_quiet PySem.F.plain_min_loop _,ih (j+1) H F H0 F0 _ x v d c2 R (by omega) M I3 ext sq rs (L.at fun o e=>(s3.2 I U).trans e) a3 fI fS rx px hm hR⟩
   |false=>
    simp only[Bool.false_eq_true,if_false]
    refine wpAny_bind (wpAny_letGo ?_)
    rw[G]
    refine wpAny_pure ⟨plainId_quiet PySem.F.plain_min_loop _,ih (j+1) H F H0 F0 _ Z z Y c R (by omega) M I1 ext sq rs L O fI fS rb pb hm hR⟩
theorem zd8 (a b:Value):argsOk "min" ⟨[a,b],[]⟩:=by unfold argsOk;kernel_rfl
set_option maxHeartbeats 8000000 in
theorem yj4 (hc:X.calm=true)(hu:X.A.units+64<cLine){xs:List V}{d:D}{ds:List D}{dm:D}{G M:Hp}{j:Shared}{E:Value->Shared->Prop}{Q:Value->Shared->Prop}
  {Y U:Value} (Ib:Inv X pins σ G j) (a4:Same M G) (vb:Vals xs [Y,U]) (a5:Reps X.K M xs (d::ds)) (hm:minP ds d=some dm)
  (hQ:∀ x v F' H' s',Inv X pins σ H' s'->RelV x v->Ext M G F' H'->Rep X.K F' x dm->Q v s'):
  wpAny (model X.prog X.w) X.A (call (.builtin "min") [Y,U]) Q E j:=by
 have z:(toString "min"++toString ".loop":String)="min.loop":=by decide
 refine kmk_tree PySem.F.kind_min PySem.F.plain_min PySem.F.entry_min (zd8 _ _) ?_
 show wpAny _ X.A.in1 (Builtin.Builtins.bindParams "min" ["key","default"] 0 ⟨[],[]⟩ >>= _) _ _ j
 refine wpAny_bind (wpAny_of_eq (show Builtin.Builtins.bindParams "min" ["key","default"] 0 ⟨[],[]⟩=pure [none,none]from rfl) ?_)
 have a7:xs.length=2:=vb.length
 have ac:G j.heap.objs.size=none:=Ib.hok.fresh (Nat.le_refl _)
 show wpAny _ X.A.in1 (newTuple [Y,U] >>= _) _ _ j
 refine wpAny_bind (wpAny_newTuple ?_ (by show 2<=sizeLine;rw[sizeLine_eq];decide))
 have I:Inv X pins σ (upd G j.heap.objs.size (.tup xs)) { j with heap:=j.heap.push (seqObj "tuple" #[Y,U] 0),toks:=j.toks }:=Ib.laid (t':=j.toks) (fun b u e=>Heap.get?_push_of_some _ e) (Nat.le_refl _) ⟨by rw[a7,sizeLine_eq];decide,_,vb,⟨_,Heap.get?_push_size _ rfl,rfl,_,rfl⟩⟩
 have xb:Ext M G (upd M j.heap.objs.size (.tup xs)) (upd G j.heap.objs.size (.tup xs)):=Ext.laid a4 ac
 have sf:Same (upd M j.heap.objs.size (.tup xs)) (upd G j.heap.objs.size (.tup xs)):=xb.fh
 have sq:SqT X.K (upd G j.heap.objs.size (.tup xs)) j.heap.objs.size xs:=SqT.of z9
 have rs:Reps X.K (upd M j.heap.objs.size (.tup xs)) xs (d::ds):=a5.mono xb.ff
 have hQ:∀ x v F' H' s',Inv X pins σ H' s'->RelV x v->Ext (upd M j.heap.objs.size (.tup xs)) (upd G j.heap.objs.size (.tup xs)) F' H'->Rep X.K F' x dm->Q v s':=fun x v F' H' s' a b c d=>hQ x v F' H' s' a b (xb.trans c) d
 generalize upd M j.heap.objs.size (.tup xs)=F at*
 generalize upd G j.heap.objs.size (.tup xs)=H at*
 show wpAny _ X.A.in1 (pyIter (.ref j.heap.objs.size) >>= _) _ _ { j with heap:=j.heap.push (seqObj "tuple" #[Y,U] 0),toks:=j.toks }
 generalize j.heap.objs.size=l at*
 generalize ({ j with heap:=j.heap.push (seqObj "tuple" #[Y,U] 0),toks:=j.toks }:Shared)=s at*
 obtain⟨its,vr,pl,_⟩:=I.tuple sq
 have a0:=pl
 obtain⟨ol,a8,_⟩:=id a0
 have a1:l<s.heap.objs.size:=Heap.lt_size a8
 refine wpAny_bind (wpAny_pyIter_tuple a0 ?_)
 refine wpAny_bind (wpAny_newList ?_ (Nat.zero_le _))
 rw[z]
 refine wpAny_pure ⟨plainId_quiet PySem.F.plain_min_loop _,?_⟩
 generalize N:({ cls:=.type "tuple_iterator",data:=.fields #[.ref l,.int 0 0] }:Obj)=oI0
 have hS:(s.heap.push oI0).objs.size=s.heap.objs.size+1:=size_push' ..
 have aa:l≠s.heap.objs.size:=Nat.ne_of_lt a1
 have a9:l≠(s.heap.push oI0).objs.size:=by rw[hS];exact Nat.ne_of_lt (Nat.lt_succ_of_lt a1)
 have O:s.heap.objs.size≠(s.heap.push oI0).objs.size:=by rw[hS];exact Nat.ne_of_lt (Nat.lt_succ_self _)
 have gI:((s.heap.push oI0).push (seqObj "list" #[] 0)).get? s.heap.objs.size=some oI0:=Heap.get?_push_of_some _ (Heap.get?_push_size _ (by rw[<-N];rfl))
 have gS:((s.heap.push oI0).push (seqObj "list" #[] 0)).get? (s.heap.push oI0).objs.size=some (seqObj "list" #[] 0):=Heap.get?_push_size _ rfl
 have fI:FpOk X pins H s.heap.objs.size:=I.fpOk (Nat.le_refl _) (I.hok.fresh (Nat.le_refl _))
 have fS:FpOk X pins H (s.heap.push oI0).objs.size:=I.fpOk (by rw[hS];exact Nat.le_succ _) (I.hok.fresh (by rw[hS];exact Nat.le_succ _))
 have I0:Inv X pins σ H { s with heap:=(s.heap.push oI0).push (seqObj "list" #[] 0),toks:=s.toks }:=I.turnedL (fp:=[]) (fun b o _ e=>Heap.get?_push_of_some _ (Heap.get?_push_of_some _ e)) (fun b L=>by cases L)
 generalize (s.heap.push oI0).objs.size=S at*
 generalize hI:s.heap.objs.size=J at*
 generalize (s.heap.push oI0).push (seqObj "list" #[] 0)=h0 at*
 have ab:h0.IsTupleIter J l 0:=⟨_,gI,by rw[<-N],by rw[<-N];rfl⟩
 have zl:its.length=(d::ds).length:=by rw[<-vr.length,rs.length]
 obtain⟨its',Z,a6,_⟩:=I0.tuple sq
 have ae:its'.length=(d::ds).length:=by rw[<-Z.length,rs.length]
 refine codeAny_builtin PySem.F.entry_min_loop ?_
 rw[Around.under_plainId PySem.F.plain_min_loop _]
 show wpAny _ X.A.in1 (seqItems? (.ref S) >>= _) _ _ _
 refine wpAny_bind (wpAny_seqItems gS rfl ?_)
 show wpAny _ X.A.in1 (tryCatch (pyNext (.ref J)) _ >>= _) _ _ _
 obtain⟨x,hx,px⟩:=rs.get (i:=0) (d:=d) rfl
 obtain⟨v,hv,rx⟩:=Z.get hx
 refine wpAny_bind (wpAny_tryCatch (wpAny_pyNext_tuple_item ab a6 (by simpa using hv) fun h1 a2 s1=>?_))
 have I1:=I0.turnedL (h':=h1) (t':=s.toks) (fp:=[J]) (fun b o L e=>s1.extBut b o (by simpa using L) e) (fun b L=>by rw[List.mem_singleton.mp L];exact fI)
 have a3:h1.get? S=some (seqObj "list" #[] 0):=s1.extBut _ _ (Ne.symm O) gS
 refine wpAny_bind (wpAny_pure ?_)
 have s3:=Heap.SameBut.update h1 S (Obj.mapSeq fun _=>#[v,v])
 obtain⟨c2,ad⟩:∃ c2,(h1.update S (Obj.mapSeq fun _=>#[v,v])).get? S=some (seqObj "list" #[v,v] c2):=⟨_,get?_update_seq a3 fun _=>#[v,v]⟩
 show wpAny _ X.A.in1 (updateSeq S (fun _=>#[v,v]) >>= _) _ _ _
 refine wpAny_bind (wpAny_updateSeq a3 rfl ?_)
 rw[z]
 have I3:=I1.turnedL (h':=h1.update S (Obj.mapSeq fun _=>#[v,v])) (t':=s.toks) (fp:=[S]) (fun b o L e=>(s3.2 b (by simpa using L)).trans e) (fun b L=>by rw[List.mem_singleton.mp L];exact fS)
 refine wpAny_pure ⟨plainId_quiet PySem.F.plain_min_loop _,yw9 hc hu (ds:=d::ds) (dm:=dm) O aa a9 _ 0 H F H F _ x v d c2 _ rfl (by simp) I3 (.refl sf) sq rs (a2.at fun o e=>(s3.2 J O).trans e) ad fI fS rx px hm fun x v F' H' s' a b c d=>hQ x v F' H' s' a b c d⟩
end
noncomputable def yv0:List D->Option D
 |[d,e]=>minP [e] d
 |_=>none
def xo0 (K:W.Frag):List V->Hp->VK->Prop:=fun vs H Q=>∃ x y d e dm F,vs=[x,y]/\Same F H/\Reps K F [x,y] [d,e]/\minP [e] d=some dm/\∀ z F' H',Ext F H F' H'->Rep K F' z dm->Q z H'
section
variable {X:Cx}{pos:Pos}
theorem A0 (N:X.calm=true)(M:X.A.units+64<cLine):CallR X (.builtin "min") (xo0 X.K):=by
 intro pins s σ H vs us Q I r h
 obtain⟨x,y,d,e,dm,F,rfl,i,j,hm,q⟩:=h
 obtain⟨u,w,rfl,L,G⟩:=zv0 r
 exact yj4 N M I i (.cons L (.cons G .nil)) j hm fun z v F' H' s' a b c g=>⟨z,H',a,b,q z F' H' c g⟩
theorem zd5 {K:W.Frag}:zc2 K (xo0 K) yv0:=by
 intro F H vs ds g Q j z e q
 unfold yv0 at e
 split at e
 .rename_i d e'
  cases z with
  |cons r i=>
   cases i with
   |cons G i=>
    cases i
    exact⟨_,_,d,e',g,F,rfl,j,.cons r (.cons G .nil),e,q⟩
 .cases e
theorem yk5 {x y:Expr}{p:Pos}{m:ML}(I:X.calm=true)(j:X.A.units+64<cLine)(z:Gl X "min")(hm:X.mg "min"=none)(ha:PAs X [x,y] m)(G:starEach [x,y] X.env=(false,eval x X.env)::starEach [y] X.env:=by rfl)(i:(backTo pos (starEach [y] X.env)).any (·.1)=false:=by rfl):PD X (.Call (.Name "min" p) [x,y] [] pos) (c6 yv0 m):=
 (f6 (A0 I j) z hm PyProof.Rows.boot_min ha (by decide) (by decide) G i).imp fun _ _ _ h=>A1 zd5 h
end
end
section
section
variable {prog:Program}{w:World}{A:Around}{E:Value->Shared->Prop}{s:Shared}
theorem R6 {l:Addr}{i j:Int}{t u v:Tok}{Q:Value->Shared->Prop}(z:IsRange s.heap l i j 1 t u v)(h1:-(2^62)<=j)(h2:j<2^62)(N:-(2^62)<=i)(M:i<2^62)
  (h:Q (.ref s.heap.objs.size) { s with heap:=s.heap.push (zv4 (i+(((j-i).toNat:Int)-1)) (j-i).toNat (-1)) }):wpAny (model prog w) A (call (.builtin "range.__reversed__") [.ref l]) Q E s:=by
 have L:s.TypeIs (.ref l) "range":=⟨_,z,rfl⟩
 refine wpAny_call_entry F.slot_range_reversed L F.entry_range_reversed ?_ (F.args_range_reversed_1 _)
 have G:Builtin.Range.rangeSize i j 1=((j-i).toNat:Int):=by rw[rangeSize_one];split <;> omega
 unfold Builtin.«range.__reversed__»
 refine wpAny_bind (wpAny_of_eq (a:=Value.ref l) rfl ?_)
 unfold Builtin.Range.rangeFields
 refine wpAny_bind ?_
 refine wpAny_bind (wpAny_field z rfl (x:=.int i t) rfl ?_)
 refine wpAny_bind (wpAny_of_eq (a:=some i) rfl ?_)
 refine wpAny_bind (wpAny_field z rfl (x:=.int j u) rfl ?_)
 refine wpAny_bind (wpAny_of_eq (a:=some j) rfl ?_)
 refine wpAny_bind (wpAny_field z rfl (x:=.int 1 v) rfl ?_)
 refine wpAny_bind (wpAny_of_eq (a:=some (1:Int)) rfl ?_)
 refine wpAny_pure ?_
 dsimp only
 rw[G]
 have I:(Builtin.Range.rangeFitsLong i&&Builtin.Range.rangeFitsLong j&&Builtin.Range.rangeFitsLong 1&&Builtin.Range.rangeFitsLong (-1)&&Builtin.Range.rangeFitsLong (i-1)&&Builtin.Range.rangeFitsLong ((j-i).toNat:Int))=true:=by
  simp only[Builtin.Range.rangeFitsLong,Bool.and_eq_true,decide_eq_true_eq]
  omega
 simp only[I,Bool.not_true,Bool.false_eq_true,if_false,if_true]
 have e:i+(((j-i).toNat:Int)-1)*1=i+(((j-i).toNat:Int)-1):=by omega
 rw[e]
 exact wpAny_bind (wpAny_newObj_type (wpAny_pure ⟨_,rfl,h⟩))
theorem Q5 {l:Addr}{i j:Int}{t u v:Tok}{Q₁:Value->Shared->Prop}(z:IsRange s.heap l i j 1 t u v)(h1:-(2^62)<=j)(h2:j<2^62)(L:-(2^62)<=i)(I:i<2^62)
  (h:Q₁ (.ref s.heap.objs.size) { s with heap:=s.heap.push (zv4 (i+(((j-i).toNat:Int)-1)) (j-i).toNat (-1)) }):
  codeAny (model prog w) A (.call (.builtin "reversed.__new__") ⟨[.type "reversed",.ref l],[]⟩) (wants Q₁ E) s:=by
 have G:s.TypeIs (.ref l) "range":=⟨_,z,rfl⟩
 refine codeAny_of_tree ?_
 show wpAny _ A.in1 (do checkBuiltinCall "reversed.__new__" ⟨[.type "reversed",.ref l],[]⟩;again (.builtin "reversed.__new__" ⟨[.type "reversed",.ref l],[]⟩)) _ _ s
 refine wpAny_bind (wpAny_of_eq (F.newCall_reversed_1 _) (wpAny_pure ⟨plainId_quiet F.plain_reversed_new _,codeAny_builtin F.entry_reversed_new ?_⟩))
 rw[Around.under_plainId F.plain_reversed_new _]
 unfold Builtin.«reversed.__new__»
 refine wpAny_bind (wpAny_of_eq (newClass_reversed _) ?_)
 try dsimp only
 refine wpAny_bind (wpAny_of_eq (a:=()) (by first|rfl|kernel_rfl) ?_)
 refine wpAny_bind (wpAny_of_eq (a:=()) (by first|rfl|kernel_rfl) ?_)
 try dsimp only
 refine wpAny_bind (wpAny_specialOf G F.slot_range_reversed.lookup ?_)
 try dsimp only
 refine wpAny_bind (wpAny_of_eq (F.slot_range_reversed.bind _) ?_)
 try dsimp only
 first
 |rw[if_neg (show ¬ ((Value.builtin "range.__reversed__"==Value.none)=true)from Bool.false_ne_true)]
 | (show wpAny _ _ (if (Value.builtin "range.__reversed__"==Value.none)=true then _ else _) _ _ _;rw[if_neg (show ¬ ((Value.builtin "range.__reversed__"==Value.none)=true)from Bool.false_ne_true)])
 refine wpAny_bind (wpAny_rule ?_)
 refine wpAny_bind (m:=runValue (.call (.builtin "range.__reversed__") ⟨[.ref l],[]⟩)) (show wpAny _ _ (call (.builtin "range.__reversed__") [.ref l]) _ _ _ from R6 z h1 h2 L I ?_)
 first
 |exact wpAny_pure h
 |exact wpAny_bind (wpAny_pure (wpAny_pure h))
theorem R5 {l:Addr}{i j:Int}{t u v:Tok}{Q:Value->Shared->Prop}(G:IsRange s.heap l i j 1 t u v)(h1:-(2^62)<=j)(h2:j<2^62)(L:-(2^62)<=i)(I:i<2^62)
  (h:Q (.ref s.heap.objs.size) { s with heap:=s.heap.push (zv4 (i+(((j-i).toNat:Int)-1)) (j-i).toNat (-1)) }):wpAny (model prog w) A (call (.type "reversed") [.ref l]) Q E s:=by
 refine callType_other (U:="range_iterator") (Q₁:=fun obj z=>obj= .ref s.heap.objs.size/\z={ s with heap:=s.heap.push (zv4 (i+(((j-i).toNat:Int)-1)) (j-i).toNat (-1)) }) (by decide +kernel) F.create_reversed ⟨_,_,F.mro_reversed⟩ F.made_reversed L9 (F.typeCall_reversed_1 _) (Q5 G h1 h2 L I ⟨rfl,rfl⟩) ?_
 rintro obj z ⟨rfl,rfl⟩
 exact⟨⟨_,Heap.get?_push_size _ rfl,rfl⟩,h⟩
end
section
variable {X:Cx}
noncomputable def L5 (lo:Int)(n:Nat):List D:=(List.range n).map fun(k:Nat)=>D.int (lo+((n:Int)-1)-(k:Int))
theorem O1 (lo:Int)(n:Nat):(L5 lo n).length=n:=by unfold L5;simp
theorem yt3 {K:W.Frag}{F:Hp}{lo:Int}{n:Nat}:ItD K F (Itdn (lo+((n:Int)-1)) n) (L5 lo n) where
 go:=fun i F1 H1 a b hi=>by rw[O1]at hi;exact hi
 yld:=fun i F1 H1 x H2 d a b e y=>by
  obtain⟨rfl,rfl⟩:=y
  unfold L5 at e
  rw[getElem?_map]at e
  have hi:i<n:=by
   rcases Nat.lt_or_ge i n with h|h
   .exact h
   .rw[getElem?_eq_none (by simpa using h)]at e;cases e
  rw[getElem?_range hi]at e
  cases e
  exact⟨F1,.refl b,.int _⟩
 stop:=fun F1 H1 a b=>by rw[O1];exact Nat.le_refl n
noncomputable def yn9:List D->Option (List D)
 |[.int i,.int j]=>if (okR i&&okR j)=true then some (L5 i (j-i).toNat)else none
 |_=>none
theorem yy0 {tg a G:Expr}{m:ML}{p p2 pos z:Pos}(hg:Gl X "reversed")(hm:X.mg "reversed"=none)(a3:Gl X "range")(a1:X.mg "range"=none)(ha:PAs X [a,G] m)(he:starEach [a,G] X.env=(false,eval a X.env)::starEach [G] X.env:=by rfl)(a0:∀ pos,(backTo pos (starEach [G] X.env)).any (·.1)=false:=by intro _;rfl)
  (Z:∀ pos,(backTo pos (starEach [] X.env)).any (·.1)=false:=by intro _;rfl)
  (hs:starEach (Expr.Call (.Name "range" p2) [a,G] [] z::[]) X.env=(false,eval (Expr.Call (.Name "range" p2) [a,G] [] z) X.env)::starEach [] X.env:=by rfl):
  PId X tg (.Call (.Name "reversed" p) [.Call (.Name "range" p2) [a,G] [] z] [] pos) (t4 yn9 m):=by
 intro pins s σ H R I h
 obtain⟨F0,H0,F,ρ,its,rl,e,q⟩:=h
 obtain⟨ds,h1,h2⟩:=Y4 e
 have A:=k4 (G1 yq4 a3 a1 boot_range ha (by decide) (by decide) he (a0 _)) pa_nil hs pos pins s σ H (fun vs H1=>∃ p i j F1 H2,vs=[.ref p]/\ds=[.int i,.int j]/\H2 p=none/\H1=upd H2 p (.rng i j)/\Ext F H F1 H2) I ⟨F0,H0,F,ρ,ds,rl,h1,fun vs F1 H1 O Y=>by
  unfold yn9 at h2
  split at h2
  .rename_i i j
   cases Y with
   |cons r U=>
    cases U with
    |cons r2 U=>
     cases U;cases r;cases r2
     exact⟨i,j,rfl,fun p hp=>⟨p,i,j,F1,H1,rfl,rfl,hp,rfl,O⟩⟩
  .cases h2⟩
 refine Call_ (T7 I hg hm boot_reversed (PyProof.Rows.callWith_type1 (thn A fun us s1 M=>?_) hs (Z _)))
 obtain⟨vs,H1,S,Y,q1⟩:=M
 obtain⟨l,i,j,F1,H2,ev,ed,hn,eH,O⟩:=q1
 subst ev ed eH
 obtain⟨u,rfl,ru⟩:=Q8 Y
 cases ru
 have h2:(if (okR i&&okR j)=true then some (L5 i (j-i).toNat)else none)=some its:=h2
 split at h2
 case isFalse=>cases h2
 rename_i L
 cases h2
 unfold okR at L
 simp only[Bool.and_eq_true,decide_eq_true_eq]at L
 obtain⟨t,u,v,eo⟩:=S.hok l _ z9
 refine R5 (i:=i) (j:=j) eo L.2.1 L.2.2 L.1.1 L.1.2 ?_
 have N:IsRangeIter (s1.heap.push (zv4 (i+(((j-i).toNat:Int)-1)) (j-i).toNat (-1))) s1.heap.objs.size (i+(((j-i).toNat:Int)-1)) (j-i).toNat (-1):=Heap.get?_push_size _ rfl
 refine wpAny_pyIter_rangeiter N ?_
 have x2:Ext F H F1 (upd H2 l (.rng i j)):=O.trans (Ext.own O.fh hn)
 refine⟨s1.heap.objs.size,[s1.heap.objs.size],_,_,_,rfl,S.kept (t':=s1.toks) fun b o e=>Heap.get?_push_of_some _ e,zb0 _ (i+(((j-i).toNat:Int)-1)) (j-i).toNat,?_,fun b hb=>?_,q _ F1 _ x2 yt3⟩
 .have e1:(i+(((j-i).toNat:Int)-1))+((0:Nat):Int)*(-1)=i+(((j-i).toNat:Int)-1):=by simp
  have e2:((j-i).toNat:Int)-((0:Nat):Int)=(j-i).toNat:=by simp
  show IsRangeIter _ _ ((i+(((j-i).toNat:Int)-1))+((0:Nat):Int)*(-1)) (((j-i).toNat:Int)-((0:Nat):Int)) (-1)
  rw[e1,e2]
  exact N
 .have e:b=s1.heap.objs.size:=by simpa using hb
  subst e
  exact S.fpOk (Nat.le_refl _) (S.hok.fresh (Nat.le_refl _))
end
end
section
theorem yh4 {X:Cx}:PGet X (rIxL X.K):=by
 intro pins s σ H x y v u Q I O N h
 obtain⟨p,xs,i,z,rfl,rfl,hq,U,q⟩:=h
 cases O
 obtain⟨t,rfl⟩:=N
 obtain⟨its,r,pl,hz⟩:=I.list hq
 obtain⟨j,h1,h2,h3,Z,Y⟩:=zm8 U
 obtain⟨w,M,G⟩:=r.get h2
 have S:=r.length
 have hn:=L0
 have fin:EP X pins σ Q w s:=⟨z,H,I,G,q⟩
 by_cases L:0<=i
 .have hj:i.toNat=j:=by
   rw[seqIndex_of L Y]at h1
   exact Option.some.inj h1
  exact wpAny_getItem_list pl.isList L (by omega) (by rw[hj];simpa using M) fin
 .have hj:(i+(its.toArray.size:Int)).toNat=j:=by
   rw[seqIndex_neg (by omega) Z]at h1
   rw[size_toArray,<-S]
   exact Option.some.inj h1
  exact wpAny_getItem_list_neg pl.isList (by omega) (by rw[size_toArray] <;> omega) (by omega) (by rw[hj];simpa using M) fin
@[irreducible] noncomputable def zt7 (i:Nat)(ix v:ME):MS:=fun ρ=>match ρ[i]? with
 |some (some (.own ds))=>(match ix ρ with
  |some (.int k)=>(match ixN ds.length k with
   |some j=>(match ds[j]? with
    |some (.int a)=>(match v ρ with |some (.int b)=>some (.nx (ρ.set i (some (.own (ds.set j (.int (a+b)))))))|_=>none)
    |_=>none)
   |none=>none)
  |_=>none)
 |_=>none
section
variable {X:Cx}{a b c e:Expr}{ma mb:ME}{pos:Pos}{st:Stmt}
theorem yz3 {i:Nat}{x:Str}{Y tpos:Pos}(hv:PE X (.Name x Y) (tVar i))(hx:PD X a ma)(hb:PD X b mb)
  (ha:∀ M N new,augStore a M N new=(do holding [new,M,N] (setItem M N new);release [new,M,N] [];pure .next):=by intros;rfl):
  PSd X (.AugAssign (.Subscript (.Name x Y) a tpos) .Add b pos) (zt7 i ma mb):=(xz9 hv hx yh4 hb xh1 Z5 ha).imp fun Dn σ H I=>by
 obtain⟨F0,H0,F,ρ,o,rl,e,ok⟩:=I
 unfold zt7 at e
 split at e
 .rename_i ds h1
  split at e
  .rename_i k h2
   split at e
   .rename_i j h3
    split at e
    .rename_i n h4
     split at e
     .rename_i n2 h5
      cases e
      obtain⟨p,xs,e1,e2,e3,S,e5⟩:=rl.own i _ h1
      refine⟨_,e1,F0,H0,F,ρ,.int k,rl,h2,fun z F1 H1 L r1=>?_⟩
      cases r1
      obtain⟨u,hu,ru⟩:=S.get h4
      cases ru
      have Z:ixN xs.length k=some j:=by rw[S.length];exact h3
      refine⟨p,xs,k,.int n,rfl,rfl,SqL.of (L.hh _ _ e3),by unfold atI;rw[Z];exact hu,?_⟩
      refine⟨F0,H0,F1,ρ,.int n2,rl.go L,h5,fun z F2 H2 U r2=>?_⟩
      cases r2
      have O:=(rl.go L).go U
      have G:=L.trans U
      refine⟨n,n2,rfl,rfl,p,xs,k,j,rfl,rfl,G.hh _ _ e3,Z,ok F2 _ σ (O.write h1 e1 (Reps.set (.int (n+n2)) j (S.mono G.ff))) G.ff⟩
     .cases e
    .cases e
   .cases e
  .cases e
 .cases e
end
end
section
@[irreducible] noncomputable def zf9 (i:Nat):MS:=fun ρ=>match ρ[i]? with
 |some (some (.own ds))=>if 0<ds.length then some (.nx (ρ.set i (some (.own ds.dropLast))))else none
 |_=>none
theorem Reps.dropLast {K:W.Frag}{F:Hp}:∀{vs:List V}{ds:List D},Reps K F vs ds->Reps K F vs.dropLast ds.dropLast
 |_,_,.nil=>.nil
 |_,_,.cons _ .nil=>.nil
 |_,_,.cons r (.cons r2 rr)=>.cons r (Reps.dropLast (.cons r2 rr))
section
variable {X:Cx}{pos:Pos}
theorem zj6 {i:Nat}{x:Str}{z apos cpos:Pos}(L:PE X (.Name x z) (tVar i))
  (I:PE X (.Call (.Attribute (.Name x z) "pop" apos) [] [] cpos) (tBM0 X.K "list" rPop (tVar i))) (hs:swapsWith (.Call (.Attribute (.Name x z) "pop" apos) [] [] cpos) none pos.line X.env=pure false:=by rfl):
  PSd X (.Expr (.Call (.Attribute (.Name x z) "pop" apos) [] [] cpos) pos) (zf9 i):=(zq8 I hs).imp fun D σ H j=>by
 obtain⟨F0,H0,F,ρ,o,rl,e,ok⟩:=j
 unfold zf9 at e
 split at e
 .rename_i ds h1
  obtain⟨p,xs,e1,e2,e3,G,N⟩:=rl.own i _ h1
  split at e
  .rename_i hz
   cases e
   have M:=G.length
   exact⟨_,e1,.inl ⟨rfl,_,SqL.of e3⟩,p,xs,_,rfl,rfl,e3,getElem?_eq_getElem (by omega),ok F _ σ (rl.write h1 e1 (Reps.dropLast G)) (Same.refl F)⟩
  .cases e
 .cases e
end
end
section
theorem yj1 {K:W.Frag}(N:NoL K){F H:Hp}{Q:VK}(s:Same F H){ns:List Int}(ok:okT K F H Q (.fr (ns.map D.int))):okT K hp0 H Q (.sh (.lst (ns.map D.int))):=fun v F' H' x r=>by
 have i:∀ b o u,F' b≠some (.frz o u):=fun b o u e=>by have:=x.nf b o u e;cases this
 cases r with
 |lst G I=>
  rename_i p ys
  have h2:F' p=some (.lst ys):=by
   rcases G with (z|⟨o,z⟩)|⟨o,its,m,L,M,_⟩
   .exact z
   .exact absurd z (i _ _ _)
   .exact absurd M (N _ _ L)
  have j:=x.new p rfl (by rw[h2];simp)
  rw[X8 I]at h2
  exact ok p (ns.map V.int) F H' ⟨Same.refl _,x.hh,s.trans x.hh,fun b e q=>absurd e q,fun _ _ _ z=>z⟩ j (s.free j) (x.fh _ _ h2) (zz1 ns)
theorem yw3 {K:W.Frag}{F H:Hp}{Q:VK}(s:Same F H){ns:List Int}(ok:okT K F H Q (.fr (ns.map D.int))):okT K hp0 H Q (.fr (ns.map D.int)):=fun p xs F' H' x hp j i r=>by
 rw[X8 r]at i
 exact ok p (ns.map V.int) F H' ⟨Same.refl _,x.hh,s.trans x.hh,fun b e q=>absurd e q,fun _ _ _ z=>z⟩ hp (s.free hp) i (zz1 ns)
def xv3 (m:MK)(a:List D)(i:Int)(r:List Int):Prop:=(∃ ns:List Int,a=ns.map D.int)/\∀ q:Addr,m [.rd q a,.sh (.int i)]=some (.sh (.lst (r.map D.int)))\/m [.rd q a,.sh (.int i)]=some (.fr (r.map D.int))
open Classical in
@[irreducible] noncomputable def lsn8 (m:MK):MF:=fun ds=>match ds with
 |[.lst a,.int i]=>if h:∃ r,xv3 m a i r then some (.fr (h.choose.map D.int))else none
 |_=>none
theorem yu3 {m:MK}{a:List D}{i:Int}{r:List Int}(h:xv3 m a i r):lsn8 m [.lst a,.int i]=some (.fr (r.map D.int)):=by
 unfold lsn8
 have j:∃ r,xv3 m a i r:=⟨r,h⟩
 simp only[dif_pos j]
 rcases j.choose_spec.2 (0:Nat)with e|e <;> rcases h.2 (0:Nat)with z|z <;> rw[z]at e <;> injection e with e
 .injection e with e;injection e with e;rw[e]
 .cases e
 .cases e
 .injection e with e;rw[e]
theorem yn2 {K:W.Frag}(N:NoL K){m:MK}{vs:List V}{H:Hp}{Q:VK}{E:XK}(h:spR K 2 (lsn8 m) vs H Q E):spK K 2 m vs H Q E:=by
 obtain⟨M,F,ds,r,s,j,e,ok⟩:=h
 unfold lsn8 at e
 split at e
 .rename_i a i
  split at e
  .rename_i hx
   cases e
   obtain⟨⟨ns,h1⟩,S⟩:=hx.choose_spec
   cases j with
   |cons L j=>
    cases j with
    |cons O j=>
     cases j
     cases O
     rw[h1]at L
     obtain⟨q,G⟩:=xp8 N s L
     rw[<-h1]at G
     rcases S q with I|I
     .exact⟨M,hp0,_,_,(fun _ _ z=>by cases z),.cons G (.cons (x:=.sh (.int i)) (.int i) .nil),I,yj1 N s ok⟩
     .exact⟨M,hp0,_,_,(fun _ _ z=>by cases z),.cons G (.cons (x:=.sh (.int i)) (.int i) .nil),I,yw3 s ok⟩
  .cases e
 .cases e
theorem QHd.lsn8 {P:Program}{w:World}{K:W.Frag}{mg:Str->Option Value}{base:Heap}{k:Nat}{x:Str}{ps:List Str}{m:MK}(i:NoL K)(h:QHd P w K mg base k x ps (spK K 2 m)):QHd P w K mg base k x ps (spR K 2 (L2.lsn8 m)):=by
 obtain⟨f,fd,G,r⟩:=h
 exact⟨f,fd,G.imp fun _ _ _ _ z=>yn2 i z,r⟩
end
section
noncomputable abbrev lc2 (elt tg iter tg2 iter2:Expr)(sc:Scope)(pos:Pos):Expr:=.ListComp elt [⟨tg,iter,[],0⟩,⟨tg2,iter2,[],0⟩] sc pos
theorem zn5 (elt tg iter tg2 iter2:Expr)(sc:Scope)(pos:Pos)(it acc:Value)(env:Env):
  compTurn (lc2 elt tg iter tg2 iter2 sc pos) 0 it acc env=(standAt iter.pos >>= fun _=>pyNext it >>= fun r=>match r with
   |none=>pure (.done .next)
   |some v=>letOwnedTupleGo tg it v >>= fun _=>assign tg env v >>= fun _=>
    eval iter2 env >>= fun x=>standAt iter2.pos >>= fun _=>foldedSetIterable iter2 env x >>= fun x=>holding [x] (pyIter x) >>= fun i=>
     runOwn (.compStart (lc2 elt tg iter tg2 iter2 sc pos) 1 i acc env) env >>= fun _=>again (.compLoop (lc2 elt tg iter tg2 iter2 sc pos) 0 it acc env)):=by rfl
theorem zn4 (elt tg iter tg2 iter2:Expr)(sc:Scope)(pos:Pos)(it acc:Value)(env:Env):
  compTurn (lc2 elt tg iter tg2 iter2 sc pos) 1 it acc env=(standAt iter2.pos >>= fun _=>pyNext it >>= fun r=>match r with
   |none=>pure (.done .next)
   |some v=>letOwnedTupleGo tg2 it v >>= fun _=>assign tg2 env v >>= fun _=>
    (eval elt env >>= fun x=>call (.builtin "list.append") [acc,x] >>= fun _=>pure ()) >>= fun _=>again (.compLoop (lc2 elt tg iter tg2 iter2 sc pos) 1 it acc env)):=by rfl
section
variable {prog:Program}{w:World}{A:Around}{R:Result->Shared->Prop}{s:Shared}{elt tg iter tg2 iter2:Expr}{sc:Scope}{pos:Pos}{it acc:Value}{env:Env}
theorem zr2 (j:codeAny (model prog w) A (.compLoop (lc2 elt tg iter tg2 iter2 sc pos) 1 it acc env) R s)
  (h:wpAny (model prog w) A (pyIter it) (fun i s'=>codeAny (model prog w) A (.compLoop (lc2 elt tg iter tg2 iter2 sc pos) 1 i acc env) R s') (notedBy (model prog w) A env fun x s'=>R (.error x) s') s):
  codeAny (model prog w) A (.compStart (lc2 elt tg iter tg2 iter2 sc pos) 1 it acc env) R s:=by
 refine codeAny_of_tree ?_
 show wpAny _ _ ((compStart (lc2 elt tg iter tg2 iter2 sc pos) 1 it acc env).onRaise (fun x=>do noteFrame x env;standAt theWindowsPlace)) _ _ s
 refine wpAny_notedAt ?_
 unfold compStart
 show wpAny _ _ (ask >>= _) _ _ s
 refine wpAny_bind (wpAny_askSetting (wpAny_ite ?_))
 split
 .first
   |exact wpAny_bind (wpAny_pure (wpAny_pure (And.intro rfl j)))
   |exact wpAny_pure (And.intro rfl j)
 .first
   |exact wpAny_bind (wpAny_rule (wpAny_bind (wpAny_standAt (wpAny_bind (wpAny_mono h (fun i s' h'=>wpAny_pure (And.intro rfl h')) fun _ _ x=>x)))))
   | (refine wpAny_bind (wpAny_rule ?_);show wpAny _ _ (standAt iter2.pos >>= _) _ _ s;exact wpAny_bind (wpAny_standAt (wpAny_bind (wpAny_mono h (fun i s' h'=>wpAny_pure (And.intro rfl h')) fun _ _ x=>x))))
theorem zn6 (I:Nat->Shared->Prop)
  (turn:∀ n s,I n s->wpAny (model prog w) A (pyNext it) (fun r j=>match r with
   |none=>R (.ok .next) j
   |some v=>wpAny (model prog w) A (letOwnedTupleGo tg2 it v) (fun _ i=>wpAny (model prog w) A (assign tg2 env v) (fun _ L=>
     wpAny (model prog w) A (eval elt env) (fun x G=>
       wpAny (model prog w) A (call (.builtin "list.append") [acc,x]) (fun _ z=>∃ m,m<n/\I m z) noE G) noE L) noE i) noE j) noE s)
  (n:Nat) (h:I n s):codeAny (model prog w) A (.compLoop (lc2 elt tg iter tg2 iter2 sc pos) 1 it acc env) R s:=by
 refine codeAny_loop rfl I (fun n s Y=>?_) n h
 show wpAny _ A ((compTurn (lc2 elt tg iter tg2 iter2 sc pos) 1 it acc env).onRaise (fun x=>do noteFrame x env;theTreesLotGoes x)) _ _ s
 refine wpAny_noted ?_
 rw[zn4]
 refine wpAny_bind (wpAny_standAt (wpAny_bind (toE (turn n s Y) (fun r j M=>?_))))
 cases r with
 |none=>exact wpAny_pure M
 |some v=>
  refine wpAny_bind (toE M fun _ i N=>?_)
  refine wpAny_bind (toE N (fun _ L U=>?_))
  exact wpAny_bind (wpAny_bind (toE U (fun x G S=>wpAny_bind (toE S (fun _ z O=>wpAny_pure (wpAny_pure ⟨rfl,O⟩))))))
theorem zn7 (I:Nat->Shared->Prop)(a1:∀ x,foldedSetIterable iter2 env x=pure x)
  (turn:∀ n s,I n s->wpAny (model prog w) A (pyNext it) (fun r j=>match r with
   |none=>R (.ok .next) j
   |some v=>wpAny (model prog w) A (letOwnedTupleGo tg it v) (fun _ i=>wpAny (model prog w) A (assign tg env v) (fun _ M=>
     wpAny (model prog w) A (eval iter2 env) (fun x L=>wpAny (model prog w) A (pyIter x) (fun S G=>
       codeAny (model prog w) A (.compStart (lc2 elt tg iter tg2 iter2 sc pos) 1 S acc env) (fun r z=>(∃ f,r= .ok f)/\∃ m,m<n/\I m z) G) noE L) noE M) noE i) noE j) noE s)
  (n:Nat) (h:I n s):codeAny (model prog w) A (.compLoop (lc2 elt tg iter tg2 iter2 sc pos) 0 it acc env) R s:=by
 refine codeAny_loop rfl I (fun n s hI=>?_) n h
 show wpAny _ A ((compTurn (lc2 elt tg iter tg2 iter2 sc pos) 0 it acc env).onRaise (fun x=>do noteFrame x env;theTreesLotGoes x)) _ _ s
 refine wpAny_noted ?_
 rw[zn5]
 refine wpAny_bind (wpAny_standAt (wpAny_bind (toE (turn n s hI) (fun r j N=>?_))))
 cases r with
 |none=>exact wpAny_pure N
 |some v=>
  refine wpAny_bind (toE N fun _ i O=>?_)
  refine wpAny_bind (toE O (fun _ M a0=>?_))
  refine wpAny_bind (toE a0 fun x L Z=>?_)
  refine wpAny_bind (wpAny_standAt ?_)
  refine wpAny_bind (wpAny_of_eq (a1 x) ?_)
  refine wpAny_bind (wpAny_holding (toE Z fun S G Y=>?_))
  refine wpAny_bind (wpAny_runOwn (h:=none) (codeAny_mono (show codeAny (model prog w) (A.mark none) _ _ _ from Y) fun r z ⟨⟨f,hf⟩,U⟩=>?_))
  subst hf
  exact wpAny_pure ⟨rfl,U⟩
end
def zb3 (src:List (Option Nat))(wi:TI)(g:TG)(wi2:TI)(g2:TG)(te:TE):TE:=fun σ H Q=>wi σ H fun J H1=>∀ D,H1 D=none->∃ W:Nat->Nat->St->Hp->Prop,(∃ m,W 0 m (blk0 src σ) (upd H1 D (.lst [])))/\∀ i m σ' H',W i m σ' H'->
 (J.stop i H'/\Q (.ref D) H')\/(J.go i H'/\∃ N:St->Hp->Prop,(∀ σ2 H2,N σ2 H2->∃ m',m'<m/\W (i+1) m' σ2 H2)/\∀ x H2,J.yld i H' x H2->g x σ' H2 fun σ3 H3=>wi2 σ3 H3 fun J2 H4=>∃ W2:Nat->Nat->St->Hp->Prop,(∃ m,W2 0 m σ3 H4)/\∀ j m2 σ5 H5,W2 j m2 σ5 H5->
  (J2.stop j H5/\N σ5 H5)\/(J2.go j H5/\∃ N2:St->Hp->Prop,(∀ σ2 H2,N2 σ2 H2->∃ m',m'<m2/\W2 (j+1) m' σ2 H2)/\∀ y H6,J2.yld j H5 y H6->g2 y σ5 H6 fun σ7 H7=>te σ7 H7 fun z H8=>∃ xs,H8 D=some (.lst xs)/\xs.length<sizeLine/\N2 σ7 (upd H8 D (.lst (xs++[z])))))
section
variable {X:Cx}
theorem yg0 {tg iter tg2 iter2 elt:Expr}{sc:Scope}{pos:Pos}{g2:TG}{te:TE}(hc:X.calm=true)(hg:PG X tg2 g2)(he:PE X elt te)(a0:X.xe=noE)
  {pins:List (Addr×Obj)} {σ:St} {H:Hp} {s:Shared} {it D:Addr} {fp:List Addr} {tn:Nat->Heap->Prop} {J:It} {Nx:St->Hp->Prop}
  (I:Inv X pins σ H s) (T:Turn X.prog X.w X.K tg2 J fp it tn) (st:tn 0 s.heap) (hf:∀ b∈fp,FpOk X pins H b)
  (W:Nat->Nat->St->Hp->Prop) {m0:Nat} (w0:W 0 m0 σ H) (turn:∀ j m2 Y U,W j m2 Y U->
  (J.stop j U/\Nx Y U)\/(J.go j U/\∃ N2:St->Hp->Prop,(∀ a2 H2,N2 a2 H2->∃ m',m'<m2/\W (j+1) m' a2 H2)/\∀ y H6,J.yld j U y H6->g2 y Y H6 fun L H7=>te L H7 fun z H8=>∃ xs,H8 D=some (.lst xs)/\xs.length<sizeLine/\N2 L (upd H8 D (.lst (xs++[z]))))):
  codeAny (model X.prog X.w) X.A (.compLoop (lc2 elt tg iter tg2 iter2 sc pos) 1 (.ref it) (.ref D) X.env) (fun r s'=>(∃ f,r= .ok f)/\∃ M H',Inv X pins M H' s'/\Nx M H') s:=by
 have O:∀{H':Hp},(∀ b∈fp,H' b=none)->∀ b∈fp,FpOk X pins H' b:=fun hn b S=>⟨hn b S,(hf b S).2⟩
 refine zn6 (fun n s'=>∃ i M H',Inv X pins M H' s'/\tn i s'.heap/\(∀ b∈fp,H' b=none)/\W i n M H') ?_ m0 ⟨0,σ,H,I,st,fun b S=>(hf b S).1,w0⟩
 rintro n s3 ⟨i,N,H3,I3,a3,a4,w3⟩
 rcases turn i n N H3 w3 with⟨stop,qn⟩|⟨go,N',a6,step⟩
 .refine thn (T.done X rfl rfl rfl hc i pins s3 N H3 noE I3 (O a4) a3 stop) fun r s4 ⟨hr,I4⟩=>?_
  subst hr
  exact⟨⟨_,rfl⟩,N,H3,I4,qn⟩
 .refine thn (T.item X rfl rfl rfl hc i pins s3 N H3 noE I3 (O a4) a3 go) fun r s4 ⟨u,hr,h4⟩=>?_
  subst hr
  refine thn h4 fun _ s5 G=>?_
  obtain⟨x,U,I5,r5,y5,Z,a8⟩:=G
  have a9:=I5.pinned (O a8) (T.obj _ _ Z)
  have again:∀{s7:Shared}{L:St}{H7:Hp},Inv X (pins++G0 fp s5.heap) L H7 s7->N' L H7->∃ m,m<n/\∃ i M H',Inv X pins M H' s7/\tn i s7.heap/\(∀ b∈fp,H' b=none)/\W i m M H':=fun{s7 L H7} I7 n7=>by
   obtain⟨m',hm,w7⟩:=a6 L H7 n7
   refine⟨m',hm,i+1,L,H7,I7.unpinned,T.keep _ _ _ Z fun b S o e=>(I7.pin (b,o) (mem_append_right _ (mem_append_right _ (g7 S e)))).1,fun b S=>?_,w7⟩
   obtain⟨o,e,d⟩:=T.obj _ _ Z b S
   exact(I7.pin (b,o) (mem_append_right _ (mem_append_right _ (g7 S e)))).2.1
  refine thn (a0 ▸ hg _ s5 N U x u _ a9 r5 (step x U y5)) fun _ s6 G=>?_
  obtain⟨a1,H6,I6,q6⟩:=G
  refine thn (a0 ▸ he _ s6 a1 H6 _ I6 q6) fun y s8 G=>?_
  obtain⟨v8,H8,I8,r8,q8⟩:=G
  obtain⟨xs,a7,a5,n8⟩:=q8
  refine thn (a0 ▸ G8 _ s8 a1 H8 (.ref D) [v8] (.ref D) [y] (fun _ H9=>H9=upd H8 D (.lst (xs++[v8]))) I8 rfl (.cons r8 .nil) ⟨_,xs,v8,rfl,rfl,a7,a5,rfl⟩) fun _ s9 G=>?_
  obtain⟨v9,H9,I9,r9,q9⟩:=G
  subst q9
  exact again I9 n8
theorem zn3 {sc:Scope}{N:List Str}{src:List (Option Nat)}{tg elt iter tg2 iter2:Expr}{pos:Pos}{g:TG}{ac:TI}{g2:TG}{te:TE}(B:Blk X sc N src)(hc:X.calm=true)
  (hg:∀ C fp s H,PG (l9 X sc C N fp s H) tg g) (ap:∀ C fp s H,PI (l9 X sc C N fp s H) tg2 iter2 ac) (aq:∀ C fp s H,PG (l9 X sc C N fp s H) tg2 g2) (an:∀ C fp s H x,foldedSetIterable iter2 (l9 X sc C N fp s H).env x=pure x) (he:∀ C fp s H,PE (l9 X sc C N fp s H) elt te)
  {pins:List (Addr×Obj)} {σ:St} {H:Hp} {s:Shared} {it:Addr} {fp:List Addr} {tn:Nat->Heap->Prop} {J:It} {Q:VK} {E:Value->Shared->Prop}
  (I:Inv X pins σ H s) (T:Turn X.prog X.w X.K tg J fp it tn) (st:tn 0 s.heap) (hf:∀ b∈fp,FpOk X pins H b)
  (hW:∀ D,H D=none->∃ W:Nat->Nat->St->Hp->Prop,(∃ m,W 0 m (blk0 src σ) (upd H D (.lst [])))/\∀ i m M H',W i m M H'->
   (J.stop i H'/\Q (.ref D) H')\/(J.go i H'/\∃ N:St->Hp->Prop,(∀ a1 H2,N a1 H2->∃ m',m'<m/\W (i+1) m' a1 H2)/\∀ x H2,J.yld i H' x H2->g x M H2 fun a0 H3=>ac a0 H3 fun J2 H4=>∃ W2:Nat->Nat->St->Hp->Prop,(∃ m,W2 0 m a0 H4)/\∀ j m2 a8 H5,W2 j m2 a8 H5->
    (J2.stop j H5/\N a8 H5)\/(J2.go j H5/\∃ N2:St->Hp->Prop,(∀ a1 H2,N2 a1 H2->∃ m',m'<m2/\W2 (j+1) m' a1 H2)/\∀ y H6,J2.yld j H5 y H6->g2 y a8 H6 fun Y H7=>te Y H7 fun z H8=>∃ xs,H8 D=some (.lst xs)/\xs.length<sizeLine/\N2 Y (upd H8 D (.lst (xs++[z]))))))
  {RR:Value->Addr->Result->Shared->Prop}
  (as:∀ D C H' s' m',Inv X pins σ H' s'->s'.heap.Ns C m'->H' C=none->s.heap.objs.size<=C->Q (.ref D) H'->RR (.ref D) C (.ok .next) s'):
  wpAny (model X.prog X.w) X.A (newList []) (fun acc Z=>wpAny (model X.prog X.w) X.A (newFunctionEnv sc X.env.globals (clOf X.env.cells sc.names []) [] X.env.qual none .none (some X.env)) (fun a7 ad=>
   codeAny (model X.prog X.w) X.A (.compStart (lc2 elt tg iter tg2 iter2 sc pos) 0 (.ref it) acc { a7 with scope:=relabel sc X.env }) (RR acc a7.locals) ad) E Z) E s:=by
 refine wpAny_newObj_type (wpAny_newFunctionEnv B.nocell (by intro y hy;simp at hy) (fun S U G=>?_) B.kind)
 dsimp only at U G ⊢
 generalize ab:s.heap.push { cls:=.type "list",dict:=none,data:=.seq ([]:List Value).toArray }=H2 at U G ⊢
 have hC:H2.objs.size=s.heap.objs.size+1:=by rw[<-ab,Heap.size_push]
 have ak:s.heap.objs.size≠H2.objs.size:=by rw[hC];exact Nat.ne_of_lt (Nat.lt_succ_self _)
 have a6:s.heap.objs.size<=H2.objs.size:=by rw[hC];exact Nat.le_succ _
 have below:∀ b,b<s.heap.objs.size->b≠H2.objs.size:=fun b L=>by rw[hC];exact Nat.ne_of_lt (Nat.lt_succ_of_lt L)
 have old:∀ b o,s.heap.get? b=some o->S.get? b=some o:=fun b o e=>G.extBut b o (below b (Heap.lt_size e)) (Heap.get?_push_of_some _ (ab ▸ Heap.get?_push_of_some _ e))
 have aj:S.get? s.heap.objs.size=some { cls:=.type "list",data:=.seq #[] 0 }:=G.extBut _ _ ak (Heap.get?_push_of_some _ (ab ▸ Heap.get?_push_size _ rfl))
 have ai:∀ b∈fp,∃ o,s.heap.get? b=some o:=fun b L=>by obtain⟨o,e,_⟩:=T.obj _ _ st b L;exact⟨o,e⟩
 have ag:tn 0 S:=T.keep _ _ _ st fun b _ o e=>old b o e
 obtain⟨W,⟨m0,w0⟩,turn⟩:=hW s.heap.objs.size I.fresh
 have I1:=zr7 (t:=s.toks+([]:List (Str×Value)).length) B I hc hf ai old (Nat.le_refl _) aj U a6 ak
 have a2:∀{H':Hp},(∀ b∈fp,H' b=none)->∀ b∈fp,FpOk (l9 X sc H2.objs.size N fp s H) [] H' b:=fun{H'} hn b L=>by
  obtain⟨f0,f1,f2,f3,f4,f5⟩:=hf b L
  refine⟨hn b L,I1.ok.exf b L |>.1,I1.ok.exfs b L,.inl L,fun x c e=>f4 x c (O2 e),fun p hp=>absurd (show p∈([]:List (Addr×Obj))++[]from hp) (by simp)⟩
 have ar:∀ b∈fp,b≠s.heap.objs.size:=fun b L z=>by
  obtain⟨o,e⟩:=ai b L
  exact absurd (Heap.lt_size e) (by rw[z];exact Nat.lt_irrefl _)
 have a5:∀ Z:Shared,Z={ s with heap:=S,toks:=s.toks+([]:List (Str×Value)).length }->
   codeAny (model X.prog X.w) X.A (.compLoop (lc2 elt tg iter tg2 iter2 sc pos) 0 (.ref it) (.ref s.heap.objs.size) (compEnvC sc (clOf X.env.cells sc.names []) H2.objs.size X.env))
    (RR (.ref s.heap.objs.size) H2.objs.size) Z:=by
  rintro Z rfl
  refine zn7 (I:=fun n s'=>∃ i M H',Inv (l9 X sc H2.objs.size N fp s H) [] M H' s'/\tn i s'.heap/\(∀ b∈fp,H' b=none)/\W i n M H') (an H2.objs.size fp s H) ?_ m0
   ⟨0,_,_,I1,ag,fun b L=>by rw[y3 (ar b L)];exact(hf b L).1,w0⟩
  rintro n s3 ⟨i,a0,H3,I3,af,al,w3⟩
  rcases turn i n a0 H3 w3 with⟨stop,qn⟩|⟨go,N',au,step⟩
  .refine thn (T.done (l9 X sc H2.objs.size N fp s H) rfl rfl rfl rfl i [] s3 a0 H3 noE I3 (a2 al) af stop) fun r s4 ⟨hr,I4⟩=>?_
   subst hr
   obtain⟨m4,ao,_⟩:=id I4.loc
   refine as _ _ H3 s4 m4 ?_ ao I4.free a6 qn
   exact I.call' (ch:=fp) I4.os I4.base I4.hok I4.bare fun b L=>⟨(hf b L).2.2.2.1,(hf b L).2.1,(hf b L).2.2.2.2.1,(hf b L).2.2.2.2.2⟩
  .refine thn (T.item (l9 X sc H2.objs.size N fp s H) rfl rfl rfl rfl i [] s3 a0 H3 noE I3 (a2 al) af go) fun r s4 ⟨u,hr,h4⟩=>?_
   subst hr
   refine thn h4 fun _ s5 O=>?_
   obtain⟨x,H5,I5,r5,y5,aa,av⟩:=O
   have aw:=I5.pinned (a2 av) (T.obj _ _ aa)
   have again:∀{s7:Shared}{Y:St}{H7:Hp},Inv (l9 X sc H2.objs.size N fp s H) ([]++G0 fp s5.heap) Y H7 s7->N' Y H7->∃ m,m<n/\∃ i M H',Inv (l9 X sc H2.objs.size N fp s H) [] M H' s7/\tn i s7.heap/\(∀ b∈fp,H' b=none)/\W i m M H':=fun{s7 Y H7} I7 n7=>by
    obtain⟨m',hm,w7⟩:=au Y H7 n7
    refine⟨m',hm,i+1,Y,H7,I7.unpinned,T.keep _ _ _ aa fun b L o e=>(I7.pin (b,o) (mem_append_right _ (mem_append_right _ (g7 L e)))).1,fun b L=>?_,w7⟩
    obtain⟨o,e,d⟩:=T.obj _ _ aa b L
    exact(I7.pin (b,o) (mem_append_right _ (mem_append_right _ (g7 L e)))).2.1
   refine thn (hg _ _ _ _ _ s5 a0 H5 x u _ aw r5 (step x H5 y5)) fun _ s6 O=>?_
   obtain⟨am,H6,I6,q6⟩:=O
   refine thn (ap _ _ _ _ _ s6 am H6 _ I6 q6) fun xv s7 h7=>thn h7 fun az s8 h8=>?_
   obtain⟨ah,b0,ay,J2,H8,rfl,I8,T2,ae,f8,W2,⟨m2,w2⟩,a9⟩:=h8
   have a3:codeAny (model X.prog X.w) X.A (.compLoop (lc2 elt tg iter tg2 iter2 sc pos) 1 (.ref ah) (.ref s.heap.objs.size) (compEnvC sc (clOf X.env.cells sc.names []) H2.objs.size X.env)) (fun r a4=>(∃ f,r= .ok f)/\∃ m,m<n/\∃ i M H',Inv (l9 X sc H2.objs.size N fp s H) [] M H' a4/\tn i a4.heap/\(∀ b∈fp,H' b=none)/\W i m M H') s8:=
    codeAny_mono (yg0 (X:=l9 X sc H2.objs.size N fp s H) rfl (aq _ _ _ _) (he _ _ _ _) rfl I8 T2 ae f8 W2 w2 a9) fun r s9 ⟨hr,ax,H9,I9,n9⟩=>⟨hr,again I9 n9⟩
   refine zr2 a3 (toE (T2.self X.A 0 s8 (fun v s'=>v= .ref ah/\s'=s8) noE ae ⟨rfl,rfl⟩) fun v s' O=>?_)
   obtain⟨e1,e2⟩:=O
   subst e1;subst e2
   exact a3
 refine codeAny_compStart_list (a5 _ rfl) (toE (T.self X.A 0 { s with heap:=S,toks:=s.toks+([]:List (Str×Value)).length } (fun v s'=>v= .ref it/\s'={ s with heap:=S,toks:=s.toks+([]:List (Str×Value)).length }) noE ag ⟨rfl,rfl⟩) fun v s' O=>?_)
 obtain⟨e1,e2⟩:=O
 subst e1;subst e2
 exact a5 _ rfl
theorem ym8 {i:Nat}{y:Str}{L:Pos}{sc:Scope}{N:List Str}{src:List (Option Nat)}{tg elt iter tg2 iter2:Expr}{pos j:Pos}{wi:TI}{g:TG}{M:TI}{g2:TG}{te:TE}(hN:X.N.Nodup)(a5:X.N[i]? =some y)(hx:Loc X.env.scope y)
  (B:Blk X sc N src) (hc:X.calm=true)
  (hi:PI X tg iter wi) (hg:∀ C fp s H,PG (l9 X sc C N fp s H) tg g) (a4:∀ C fp s H,PI (l9 X sc C N fp s H) tg2 iter2 M) (a6:∀ C fp s H,PG (l9 X sc C N fp s H) tg2 g2) (he:∀ C fp s H,PE (l9 X sc C N fp s H) elt te)
  (a1:swapsWith (lc2 elt tg iter tg2 iter2 sc pos) (some (.Name y L)) j.line X.env=pure true:=by rfl)
  (hs:∀ x,foldedSetIterable iter X.env x=pure x:=by intro _;rfl) (a3:∀ C fp s H x,foldedSetIterable iter2 (l9 X sc C N fp s H).env x=pure x:=by intro _ _ _ _ _;rfl) (hf:X.fn y=true\/X.env.scope.names.lookup y=some .local:=by first|exact .inl rfl|exact .inr rfl|assumption):
  PS X (.Assign [.Name y L] (lc2 elt tg iter tg2 iter2 sc pos) j) (tAsg (zb3 src wi g M g2 te) (K2 i)):=by
 intro pins s σ H Dn I h
 rw[exec_Assign_Name_used _ _ _ _ a1]
 refine wpAny_bind (wpAny_standAt (wpAny_bind ?_))
 show wpAny _ _ (do let _ ← comprehension (lc2 elt tg iter tg2 iter2 sc pos) sc X.env _ (newList []) false (eval iter X.env) (some (assign (.Name y L) X.env))) _ _ s
 refine wpAny_bind (wpAny_mono (wpAny_comprehension_free (use:=some (assign (.Name y L) X.env)) (Q:=fun _ s'=>SP X pins Dn .next s') rfl hs (B.cl I.ok) B.kind B.names
  (wpAny_mono (hi pins s σ H _ I h) (fun xv aa S=>wpAny_mono S (fun ac a9 O=>?_) fun _ _ e=>e) fun _ _ e=>e)) (fun _ s' hq=>wpAny_pure (wpAny_pure hq)) fun _ _ e=>e)
 obtain⟨it,fp,tn,J,H2,rfl,Z,T,a0,f2,hW⟩:=O
 refine zn3 (RR:=fun acc C=>compPost (model X.prog X.w) X.A X.xe (some (assign (.Name y L) X.env)) (fun _ s'=>SP X pins Dn .next s') acc C) (Q:=fun x H1=>K2 i x σ H1 Dn.nx) B hc hg a4 a6 a3 he Z T a0 f2 hW ?_
 intro D C H' s' m' I' hn hC G q
 show wpAny _ _ (assign (.Name y L) X.env (.ref D)) _ _ _
 refine wpAny_assign_Name (J7 I' hN a5 hx (v:=.ref D) rfl (fun ab a8 Y=>?_) hf)
 obtain⟨a,a2,ha⟩:=Y
 have a7:C≠a:=fun z=>by
  rcases ha with ha|ha
  .have:=Z.lt;rw[<-ha,<-z]at this
   exact absurd (Nat.lt_of_lt_of_le this G) (Nat.lt_irrefl _)
  .obtain⟨v,qv⟩:=Z.cell y a ha
   exact absurd (Nat.lt_of_lt_of_le qv.lt (by rw[<-z];exact G)) (Nat.lt_irrefl _)
 exact⟨m',hn.sameBut a2 a7,fun ad U=>⟨_,H',a8.letGo ⟨_,_,Z⟩ G hC U,q⟩⟩
end
noncomputable def X2 (g:Tg)(elt:ME):List D->Ro->List D->Option (Ro×List D)
 |[],ρ,acc=>some (ρ,acc)
 |d::ds,ρ,acc=>match tgD g d ρ with
  |some ρ1=>match elt ρ1 with
   |some x=>if acc.length<sizeLine then X2 g elt ds ρ1 (acc++[x])else none
   |none=>none
  |none=>none
noncomputable def V5 (g:Tg)(mi2:ML)(g2:Tg)(elt:ME):List D->Ro->List D->Option (List D)
 |[],_,acc=>some acc
 |d::ds,ρ,acc=>match tgD g d ρ with
  |some ρ1=>match mi2 ρ1 with
   |some its=>match X2 g2 elt its ρ1 acc with
    |some z=>V5 g mi2 g2 elt ds z.1 z.2
    |none=>none
   |none=>none
  |none=>none
@[irreducible] noncomputable def Q4 (src:List (Option Nat))(mi:ML)(g:Tg)(mi2:ML)(g2:Tg)(elt:ME):ML:=fun ρ=>(mi ρ).bind fun its=>V5 g mi2 g2 elt its (L8 src ρ) []
theorem zn8 {g:Tg}{elt:ME}{d:D}{ds acc:List D}{ρ:Ro}{o:Ro×List D}(h:X2 g elt (d::ds) ρ acc=some o):∃ ρ1 x,tgD g d ρ=some ρ1/\elt ρ1=some x/\acc.length<sizeLine/\X2 g elt ds ρ1 (acc++[x])=some o:=by
 rw[X2]at h
 cases h2:tgD g d ρ with
 |none=>rw[h2]at h;cases h
 |some ρ1=>
  rw[h2]at h
  simp only at h
  cases h4:elt ρ1 with
  |none=>rw[h4]at h;cases h
  |some x=>
   rw[h4]at h
   simp only at h
   by_cases i:acc.length<sizeLine
   .rw[if_pos i]at h;exact⟨ρ1,x,rfl,h4,i,h⟩
   .rw[if_neg i]at h;cases h
theorem zm0 {g:Tg}{i:ML}{j:Tg}{elt:ME}{d:D}{ds acc out:List D}{ρ:Ro}(h:V5 g i j elt (d::ds) ρ acc=some out):∃ ρ1 its z,tgD g d ρ=some ρ1/\i ρ1=some its/\X2 j elt its ρ1 acc=some z/\V5 g i j elt ds z.1 z.2=some out:=by
 rw[V5]at h
 cases h2:tgD g d ρ with
 |none=>rw[h2]at h;cases h
 |some ρ1=>
  rw[h2]at h
  simp only at h
  cases h4:i ρ1 with
  |none=>rw[h4]at h;cases h
  |some its=>
   rw[h4]at h
   simp only at h
   cases h5:X2 j elt its ρ1 acc with
   |none=>rw[h5]at h;cases h
   |some z=>rw[h5]at h;exact⟨ρ1,its,z,rfl,h4,h5,h⟩
theorem zn9 {K:PySem.W.Frag}{src:List (Option Nat)}{g:Tg}{ae:ML}{g2:Tg}{elt:ME}{its out:List D}{F1 H1 B:Hp}{σ:St}{aa:Ro}{p:Addr}{J:It}{Q:VK}(f1:Same F1 H1)(hp:H1 p=none)(rb:Rl K F1 (upd B p (.lst [])) F1 (upd H1 p (.lst [])) (blk0 src σ) aa)(nr:NrP p aa)(I:ItD K F1 J its)(e:V5 g ae g2 elt its aa []=some out)
  (q:∀ xs F' H',Ext F1 H1 F' H'->F' p=none->H' p=some (.lst xs)->Reps K F' xs out->Q (.ref p) H'):
  ∃ W:Nat->Nat->St->Hp->Prop,(∃ m,W 0 m (blk0 src σ) (upd H1 p (.lst [])))/\∀ i m a3 H',W i m a3 H'->
   (J.stop i H'/\Q (.ref p) H')\/(J.go i H'/\∃ N:St->Hp->Prop,(∀ O H2,N O H2->∃ m',m'<m/\W (i+1) m' O H2)/\∀ x H2,J.yld i H' x H2->TGd K g x a3 H2 fun af H3=>TId K ae af H3 fun J2 H4=>∃ W2:Nat->Nat->St->Hp->Prop,(∃ m,W2 0 m af H4)/\∀ j m2 a2 H5,W2 j m2 a2 H5->
    (J2.stop j H5/\N a2 H5)\/(J2.go j H5/\∃ N2:St->Hp->Prop,(∀ O H2,N2 O H2->∃ m',m'<m2/\W2 (j+1) m' O H2)/\∀ y H6,J2.yld j H5 y H6->TGd K g2 y a2 H6 fun a1 H7=>TD K elt a1 H7 fun z H8=>∃ xs,H8 p=some (.lst xs)/\xs.length<sizeLine/\N2 a1 (upd H8 p (.lst (xs++[z]))))):=by
 have as:F1 p=none:=f1.free hp
 refine⟨fun i m a3 H'=>∃ F' ρ' acc xs,Rl K F1 (upd B p (.lst xs)) F' H' a3 ρ'/\Ext F1 H1 F' H'/\H' p=some (.lst xs)/\F' p=none/\Reps K F' xs acc/\i<=its.length/\m=its.length-i/\V5 g ae g2 elt (its.drop i) ρ' acc=some out/\NrP p ρ',
  ⟨_,F1,aa,[],[],rb,(Ext.refl f1).acc hp as,z9,as,.nil,Nat.zero_le _,rfl,e,nr⟩,?_⟩
 clear rb e nr
 rintro i m a3 H' ⟨F',ρ',acc,xs,ad,xe,ai,au,ra,ay,rfl,e',ax⟩
 by_cases a9:i<its.length
 .right
  have hd:=getElem?_eq_getElem a9
  refine⟨I.go i F' H' xe.ff ad.fh a9,fun O H2=>∃ F2 a4 a0 a6,Rl K F1 (upd B p (.lst a6)) F2 H2 O a4/\Ext F1 H1 F2 H2/\H2 p=some (.lst a6)/\F2 p=none/\Reps K F2 a6 a0/\V5 g ae g2 elt (its.drop (i+1)) a4 a0=some out/\NrP p a4,?_,fun x H2 y=>?_⟩
  .rintro O H2 ⟨F2,a4,a0,a6,b1,b2,b3,b4,b5,b6,b7⟩
   exact⟨its.length-(i+1),Nat.sub_lt_sub_left a9 (Nat.lt_succ_self i),F2,a4,a0,a6,b1,b2,b3,b4,b5,a9,rfl,b6,b7⟩
  .obtain⟨F2,x2,r2⟩:=I.yld i F' H' x H2 _ xe.ff ad.fh hd y
   rw[d5 hd]at e'
   obtain⟨ρ1,G,z,h2,h3,h4,e4⟩:=zm0 e'
   have aw:=ax.tg h2
   clear e' I q y hd
   refine⟨F1,_,F2,ρ',_,ρ1,ad.go x2,r2,h2,fun F3 H3 af al x3=>?_⟩
   have av:=x2.trans x3
   refine⟨F1,_,F3,ρ1,G,al,h3,fun J2 F4 H4 x4 I2=>?_⟩
   have ab:=av.trans x4
   refine⟨fun j m2 a2 H5=>∃ F5 U L Y,Rl K F1 (upd B p (.lst Y)) F5 H5 a2 U/\Ext F1 H1 F5 H5/\H5 p=some (.lst Y)/\F5 p=none/\Reps K F5 Y L/\j<=G.length/\m2=G.length-j/\X2 g2 elt (G.drop j) U L=some z/\NrP p U/\Same F4 F5,
    ⟨_,F4,ρ1,acc,xs,al.go x4,xe.trans ab,ab.hh _ _ ai,ab.stay au ai,ra.mono ab.ff,Nat.zero_le _,rfl,h4,aw,Same.refl _⟩,?_⟩
   rintro j m2 a2 H5 ⟨F5,U,L,Y,a8,aj,ah,ar,ag,hj,rfl,e5,an,ac⟩
   by_cases S:j<G.length
   .right
    have aq:=getElem?_eq_getElem S
    refine⟨I2.go j F5 H5 ac a8.fh S,fun a1 H7=>∃ F7 M Z a5,Rl K F1 (upd B p (.lst a5)) F7 H7 a1 M/\Ext F1 H1 F7 H7/\H7 p=some (.lst a5)/\F7 p=none/\Reps K F7 a5 Z/\X2 g2 elt (G.drop (j+1)) M Z=some z/\NrP p M/\Same F4 F7,?_,fun y H6 yy=>?_⟩
    .rintro a1 H7 ⟨F7,M,Z,a5,b1,b2,b3,b4,b5,b6,b7,b8⟩
     exact⟨G.length-(j+1),Nat.sub_lt_sub_left S (Nat.lt_succ_self j),F7,M,Z,a5,b1,b2,b3,b4,b5,S,rfl,b6,b7,b8⟩
    .obtain⟨F6,x6,r6⟩:=I2.yld j F5 H5 y H6 _ ac a8.fh aq yy
     rw[d5 aq]at e5
     obtain⟨M,d,t7,d7,hz,e7⟩:=zn8 e5
     have am:=an.tg t7
     refine⟨F1,_,F6,U,_,M,a8.go x6,r6,t7,fun F7 H7 a1 ak x7=>?_⟩
     refine⟨F1,_,F7,M,d,ak,d7,fun v F8 H8 x8 r8=>?_⟩
     have a7:=(x6.trans x7).trans x8
     have pn:=a7.stay ar ah
     exact⟨Y,a7.hh _ _ ah,by rw[ag.length];exact hz,F8,M,L++[d],Y++[v],(ak.go x8).rebaseR pn am,(aj.trans a7).acc hp pn,z9,pn,(ag.mono a7.ff).append (.cons r8 .nil),e7,am,ac.trans a7.ff⟩
   .left
    have ao:j=G.length:=Nat.le_antisymm hj (Nat.le_of_not_lt S)
    subst ao
    rw[drop_length]at e5
    have e5:some (U,L)=some z:=e5
    cases e5
    exact⟨I2.stop F5 H5 ac a8.fh,F5,U,L,Y,a8,aj,ah,ar,ag,e4,an⟩
 .left
  have ap:i=its.length:=Nat.le_antisymm ay (Nat.le_of_not_lt a9)
  subst ap
  rw[drop_length]at e'
  have e':some acc=some out:=e'
  cases e'
  exact⟨I.stop F' H' xe.ff ad.fh,q xs F' H' xe au ai ra⟩
theorem yr5 {K:W.Frag}{src:List (Option Nat)}{mi:ML}{g:Tg}{j:ML}{L:Tg}{elt:ME}(M:zf1 src){σ:St}{H:Hp}{Q:VK}(h:TF K (Q4 src mi g j L elt) σ H Q):zb3 src (TId K mi) (TGd K g) (TId K j) (TGd K L) (TD K elt) σ H Q:=by
 obtain⟨F0,H0,F,ρ,out,rl,e,q⟩:=h
 unfold Q4 at e
 cases h1:mi ρ with
 |none=>rw[h1]at e;cases e
 |some its=>
  rw[h1]at e
  refine⟨F0,H0,F,ρ,its,rl,h1,fun J F1 H1 i I p hp=>?_⟩
  exact zn9 i.fh hp ((rl.go i).blkR M hp) ((rl.go i).nrp src hp) I e fun xs F' H' xe G z N=>q p xs F' H' (i.trans xe) (i.hh.free hp) G z N
section
variable {X:Cx}{st:Stmt}
theorem zf4 {i:Nat}{src:List (Option Nat)}{mi:ML}{g:Tg}{j:ML}{G:Tg}{z:ME}(I:zf1 src)(h:PS X st (tAsg (zb3 src (TId X.K mi) (TGd X.K g) (TId X.K j) (TGd X.K G) (TD X.K z)) (K2 i))):PSd X st (mset i (mlst (Q4 src mi g j G z))):=xf0 h fun _ _ _ q=>yr5 I (xn1 q)
end
end
section
theorem yc6 (a b:Value):checkTypeCall "enumerate" ⟨[a],[("start",b)]⟩=pure ():=by kernel_rfl
theorem xw1 (a b:Value):checkBuiltinCall "enumerate.__new__" ⟨[.type "enumerate",a],[("start",b)]⟩=pure ():=by kernel_rfl
theorem xu2 (o a b:Value):argsOk "object.__init__" ⟨[o,a],[("start",b)]⟩:=by
 first|exact F.args_object_init_2 o a|kernel_rfl| (unfold argsOk;kernel_rfl)
open AutoSeq1 (wpAny_loadPart')in
theorem xw5 (l:Addr)(its:Array Value)(n:Nat)(L:Option Addr)(G:Array (Option Value))(t:Tok):
  Meets (Builtin.«enumerate.__new__» ⟨[.type "enumerate",.ref l],[("start",.int 1 t)]⟩) (fun _ R s=>s.heap.get? l=some ⟨.type "list",L,.seq its n,G⟩/\
   R (.ok (.ret (.ref (s.heap.push ⟨.type "list_iterator",none,.fields #[.ref l,.int 0 0],#[]⟩).objs.size)))
    { s with heap:=(s.heap.push ⟨.type "list_iterator",none,.fields #[.ref l,.int 0 0],#[]⟩).push ⟨.type "enumerate",none,.fields #[.none,.bool false,.ref s.heap.objs.size,rawInt 1,.none,.none],#[]⟩ }):=
 .of_wp fun _ _ A R s z=>by
  obtain⟨hp,g,d,tk,os⟩:=s;obtain⟨i,z⟩:=z
  have I:=sub_enumerate
  have j:Heap.IsList (Shared.heap ⟨hp,g,d,tk,os⟩) l its:=⟨_,i,rfl,n,rfl⟩
  wp_walk using wpAny_loadPart' i
  refine wpAny_stack_any fun st=>wpAny_pure ?_
  split
  .rename_i c _ _ _ _ _
   cases (c==Value.type "enumerate") <;> (wp_walk using wpAny_loadPart' i,wpAny_pyIter_list j;exact⟨_,rfl,z⟩)
  ·(wp_walk using wpAny_loadPart' i,wpAny_pyIter_list j;exact⟨_,rfl,z⟩)
end
section
section
variable {prog:Program}{w:World}{A:Around}{E:Value->Shared->Prop}{s:Shared}
theorem xu1 {T i:String}{o a b:Value}(j:typeLookup (.type T) "__init__"=pure (some (.builtin "object.__init__")))(hm:Bind.madeBy (.type T)=pure (some i))(hn:(some i != some "object.__new__")=true):
  Meets (Builtin.«object.__init__» ⟨[o,a],[("start",b)]⟩) (fun _ R s=>s.TypeIs o T/\R (.ok (.ret .none)) s):=by
 refine Meets.of_wp fun _ _ A R s hs=>?_
 obtain⟨z,hq⟩:=hs
 repeat (any_goals (first|assumption|wp_step))
 exact⟨_,rfl,hq⟩
theorem zd6 {a b:Value}{S:PySem.Spec}{Q:Value->Shared->Prop}(g:Meets (Builtin.«enumerate.__new__» ⟨[.type "enumerate",a],[("start",b)]⟩) S)
  (h:S A.in1 (wants (fun o j=>j.TypeIs o "enumerate"/\Q o j) E) s):wpAny (model prog w) A (call (.type "enumerate") [a] [("start",b)]) Q E s:=by
 have z:=F.called_enumerate
 obtain⟨c,tl,N⟩:=z.mro
 have U:=yc6 a b
 have Z:=z.made
 have Y:=z.sub
 refine wpAny_call (codeAny_of_tree ?_)
 show wpAny _ _ (callAny (.type "enumerate") _) _ _ _
 refine wpAny_pure ⟨Code.quiet_builtin _ (by decide +kernel),codeAny_builtin F.entry_type_call ?_⟩
 rw[Around.under_plain (weight_type_call_type "enumerate" [a] [("start",b)]) (units_type_call_type "enumerate" [a] [("start",b)])]
 have h1:=z.notType
 have h2:=z.canCreate
 repeat (any_goals (first|assumption|wp_step))
 refine codeAny_mono (codeAny_call_builtin z.plain F.entry_enumerate_new (wpAny_of_eq (xw1 a b) (g prog w A.in1 _ s h))) fun r j M=>?_
 cases r with
 |error e=>exact M
 |ok fl=>
  cases fl with
  |ret o=>
   obtain⟨O,hq⟩:=M
   have h3:=z.init.lookup
   have h4:=z.init.bind o
   repeat (any_goals (first|assumption|wp_step))
   refine codeAny_mono (codeAny_call_builtin z.init.plain F.entry_object_init (z.init.check _ _ _ _ _ _ _ _ O (xu2 o a b) (xu1 (T:="enumerate") z.init.lookup z.made (by decide) prog w A.in1 (wants (fun r G=>r= .none/\Q o G) E) j ⟨O,rfl,hq⟩))) fun L G i=>?_
   cases L with
   |error e=>exact i
   |ok I=>
    cases I with
    |ret r=>
     obtain⟨rfl,hq⟩:=i
     repeat (any_goals (first|assumption|wp_step))
    |_=>exact i.elim
  |_=>exact M.elim
theorem yg4 {l:Addr}{its:Array Value}{t:Tok}{Q:Value->Shared->Prop}(I:s.heap.IsList l its)
  (h:∀ h',IsEnum h' (s.heap.objs.size+1) s.heap.objs.size 1 .none->h'.IsListIter s.heap.objs.size l 0->(∀ b o,s.heap.get? b=some o->h'.get? b=some o)->Q (.ref (s.heap.objs.size+1)) { s with heap:=h' }):
  wpAny (model prog w) A (call (.type "enumerate") [.ref l] [("start",.int 1 t)]) Q E s:=by
 obtain⟨⟨c,L,M,sl⟩,z,G,n,hd⟩:=I
 cases G
 cases hd
 refine zd6 (xw5 l its n L sl t) ⟨z,?_⟩
 have i:(s.heap.push ⟨.type "list_iterator",none,.fields #[.ref l,.int 0 0],#[]⟩).objs.size=s.heap.objs.size+1:=Heap.size_push ..
 show _/\_
 have j:IsEnum ((s.heap.push ⟨.type "list_iterator",none,.fields #[.ref l,.int 0 0],#[]⟩).push ⟨.type "enumerate",none,.fields #[.none,.bool false,.ref s.heap.objs.size,rawInt 1,.none,.none],#[]⟩) (s.heap.objs.size+1) s.heap.objs.size 1 .none:=by
  rw[<-i];exact Heap.get?_push_size _ rfl
 rw[i]
 exact⟨⟨_,j,rfl⟩,h _ j ⟨_,Heap.get?_push_of_some _ (Heap.get?_push_size _ rfl),rfl,rfl⟩ fun b o x=>Heap.get?_push_of_some _ (Heap.get?_push_of_some _ x)⟩
theorem ys8 (hh:A.handled=none)(it l:Addr)(I:l≠it)(its:Array Value):
  Draws prog w A it [it,l] (its.size+1) (fun i v=>∃ j,i=j+1/\its[j]? =some v) (fun i h=>∃ j,i=j+1/\h.IsListIter it l j/\h.IsList l its) where
 live:=fun _ _ ⟨_,_,st,_⟩=>let ⟨o,N,_⟩:=st;⟨o,N⟩
 frame:=fun _ _ _ ⟨j,e,st⟩ L=>⟨j,e,st.1.at fun o e=>L it (by simp) o e,st.2.at fun o e=>L l (by simp) o e⟩
 item:=fun i s Q E hi ⟨j,e,st⟩ O=>by
  subst e
  have M:j<its.size:=by omega
  refine wpAny_nextOf_list_item st.1 st.2 (x:=its[j]) (by simp[M]) fun h' G z=>?_
  exact O _ h' s.toks ⟨j,rfl,by simp[M]⟩ ⟨j+1,rfl,G,st.2.extBut z.extBut I⟩ z
 done:=fun s Q E ⟨j,e,st⟩ S=>by
  have:j=its.size:=by omega
  subst this
  exact wpAny_nextOf_list_end hh st.1 st.2 (by simp) S
end
noncomputable def Ite1 (K:W.Frag)(l:Addr):It:=
 ⟨fun i H=>∃ xs x,SqL K H l xs/\xs[i]? =some x,
  fun i H v H'=>∃ t x,v= .ref t/\H t=none/\H'=upd H t (.tup [.int ((1+i:Nat):Int),x])/\(∀ xs,SqL K H l xs->xs[i]? =some x),
  fun i H=>∃ xs,SqL K H l xs/\xs.length=i⟩
end
section
theorem yo7 {P:Program}{w:World}{K:W.Frag}{es:List Expr}{tk:Nat}{tp:Pos}(e it l:Addr)(a6:e≠it):
  Turn P w K (.Tuple es tk tp) (Ite1 K l) [e,it] e (fun i h=>(∃ old,IsEnum h e it ((i+1:Nat):Int) old)/\h.IsListIter it l i) where
 mem:=by simp
 obj:=fun i h st b hb=>by
  obtain⟨⟨old,N⟩,⟨o1,e1,_,d1⟩⟩:=st
  rcases List.mem_cons.mp hb with rfl|hb
  .exact⟨_,N,fun v q=>by cases q⟩
  .rcases List.mem_singleton.mp hb with rfl
   exact⟨_,e1,fun v q=>by rw[d1]at q;cases q⟩
 keep:=fun i h h' ⟨⟨old,N⟩,h1⟩ k=>⟨⟨old,k e (by simp) _ N⟩,h1.at fun o q=>k it (by simp) o q⟩
 item:=by
  intro X hP hw hK O i pins s σ H E I hf st hg
  subst hP hw hK
  obtain⟨xs,x,Y,hx⟩:=hg
  obtain⟨G,U,p1,_⟩:=I.list Y
  obtain⟨⟨old,N⟩,h1⟩:=st
  have L:=p1.isList
  obtain⟨oi,ei,ci,di⟩:=id h1
  obtain⟨ol,S,cl,_⟩:=id L
  have a5:l≠it:=fun z=>by rw[z]at S;rw[ei]at S;cases S;rw[ci]at cl;exact absurd (Value.type.inj cl) (by decide)
  have ac:e≠l:=fun z=>by rw[<-z]at S;rw[N]at S;cases S;exact absurd (Value.type.inj cl) (by decide)
  have hi:i<G.length:=by
   rw[<-U.length]
   exact(List.getElem?_eq_some_iff.mp hx).1
  refine wpAny_pyNext_enum_itemD (ys8 (A:=X.A.in1) (I.ok.hd O) it l a5 G.toArray) N ⟨i,rfl,h1,L⟩ (by simpa using hi) a6 (by simp[a6,ac]) fun u h' a0 pu a1 a2 a3 a4 hk=>?_
  obtain⟨j,ej,hu⟩:=pu
  cases ej
  obtain⟨j2,ag,a2,_⟩:=a2
  cases ag
  obtain⟨u1,ae,ab⟩:=U.get hx
  have ad:u=u1:=by
   have:G[i]? =some u:=by simpa using hu
   rw[ae]at this;exact(Option.some.inj this).symm
  subst ad
  refine⟨_,rfl,?_⟩
  refine wpAny_letOwnedTupleGo_enum a1 fun aa a9 M=>?_
  have a8:e<s.heap.objs.size:=Heap.lt_size N
  have kk:∀ c o,c∉[e,it]->s.heap.get? c=some o->aa.get? c=some o:=fun c o O q=>by
   simp only[mem_cons,not_mem_nil,or_false,not_or]at O
   exact M.extBut _ _ O.1 (hk c o O.1 O.2 q)
  have hT:=M.extBut _ _ (Nat.ne_of_gt a8) a3
  have I2:Inv X pins σ (upd H s.heap.objs.size (.tup [.int ((1+i:Nat):Int),x])) { s with heap:=aa,toks:=a0+1 }:=
   I.turnedN (T:=s.heap.objs.size) (o:=.tup [.int ((1+i:Nat):Int),x]) kk hf (Nat.le_refl _) ⟨by show 2<=sizeLine;decide,[.int ((i+1:Nat):Int) a0,u],.cons ⟨a0,by rw[Nat.add_comm 1 i]⟩ (.cons ab .nil),⟨_,hT,rfl,_,rfl⟩⟩
  refine⟨.ref s.heap.objs.size,_,I2,rfl,⟨_,x,rfl,I.fresh,rfl,fun zs a7=>by rw[I.list_inj a7 Y];exact hx⟩,
   ⟨⟨_,a9⟩,a2.extBut M.extBut a6.symm⟩,fun c Z=>?_⟩
  have af:c<s.heap.objs.size:=by
   rcases List.mem_cons.mp Z with rfl|Z
   .exact a8
   .rcases List.mem_singleton.mp Z with rfl
    exact Heap.lt_size ei
  rw[y3 (Nat.ne_of_lt af)]
  exact(hf c Z).1
 done:=by
  intro X hP hw hK O i pins s σ H E I hf st hg
  subst hP hw hK
  obtain⟨xs,Y,hl⟩:=hg
  obtain⟨G,U,p1,_⟩:=I.list Y
  obtain⟨⟨old,N⟩,h1⟩:=st
  have L:=p1.isList
  obtain⟨oi,ei,ci,di⟩:=id h1
  obtain⟨ol,S,cl,_⟩:=id L
  have a5:l≠it:=fun z=>by rw[z]at S;rw[ei]at S;cases S;rw[ci]at cl;exact absurd (Value.type.inj cl) (by decide)
  have hz:G.length=i:=by rw[<-U.length];exact hl
  refine wpAny_pyNext_enum_endD (ys8 (A:=X.A.in1) (I.ok.hd O) it l a5 G.toArray) N ⟨i,by simp[hz],h1,L⟩ fun h' hk=>⟨rfl,?_⟩
  exact I.turnedL (t':=s.toks) (fun c o O q=>by
   simp only[mem_cons,not_mem_nil,or_false,not_or]at O
   exact hk c o O.2 q) hf
 self:=fun A i s Q E ⟨⟨old,N⟩,h1⟩ h=>wpAny_pyIter_enum N h
theorem xv7 {K:W.Frag}{F:Hp}{p:Addr}{xs:List V}{ds:List D}(s:SqL K F p xs)(r:Reps K F xs ds):ItD K F (Ite1 K p) (V4 1 ds) where
 go:=fun i F1 H1 a b hi=>by
  rw[l4]at hi
  obtain⟨v,e,_⟩:=r.get (getElem?_eq_getElem hi)
  exact⟨xs,v,b.seq (a.seq s),e⟩
 yld:=fun i F1 H1 x H2 d a b e y=>by
  obtain⟨t,u,rfl,j,rfl,z⟩:=y
  obtain⟨I,e1,G⟩:=r.get' (z xs (b.seq (a.seq s)))
  rw[S6 1 ds i I e1]at e
  cases e
  refine⟨upd F1 t (.tup [.int ((1+i:Nat):Int),u]),Ext.laid b j,.tup (SqT.of z9) ?_⟩
  exact .cons (.int _) (.cons (G.mono (a.trans ((Same.refl F1).put (b.free j)))) .nil)
 stop:=fun F1 H1 a b=>⟨xs,b.seq (a.seq s),by rw[r.length,l4]⟩
noncomputable def zs8:List D->Option (List D)
 |[.lst ds]=>some (V4 1 ds)
 |_=>none
section
variable {X:Cx}
theorem zx7 {M:Model}{A:Around}{E:Value->Shared->Prop}{s:Shared}{env:Env}{pos:Pos}{T:String}{e:Expr}{kws:List Keyword}{Q:Value->Shared->Prop}
  (h:wpAny M A (spliced (backTo pos (starEach [e] env))) (fun vs i=>wpAny M A (evalAll ((backToKw pos (keywordEach kws env)).map (·.2))) (fun us j=>wpAny M A (call (.type T) vs (((backToKw pos (keywordEach kws env)).filterMap (·.1)).zip us)) Q E j) E i) E s)
  (I:backTo pos (starEach [e] env)=(false,eval e env)::backTo pos (starEach [] env)) (hp:(backTo pos (starEach [e] env)).any (·.1)=false) (ha:(backToKw pos (keywordEach kws env)).all (·.1.isSome)=true) (G:(backToKw pos (keywordEach kws env)).any (·.1.isNone)=false):
  wpAny M A (callWith pos (.type T) [] (backTo pos (starEach [e] env)) (backToKw pos (keywordEach kws env))) Q E s:=by
 have g:wpAny M A (evalArgs (.type T) true (backTo pos (starEach [e] env)) (backToKw pos (keywordEach kws env))) (fun a i=>wpAny M A (call (.type T) ([]++a.pos) a.kw) Q E i) E s:=by
  rw[I]at h ⊢
  exact evalArgs_kwB ha h
 unfold callWith
 refine wpAny_bind (wpAny_holding (wpAny_mono g (fun a i z=>wpAny_bind (wpAny_standAt ?_)) fun _ _ x=>x))
 simp only[hp,G,Bool.or_false]
 refine wpAny_bind (wpAny_pure ?_)
 exact wpAny_bind (wpAny_mono z (fun r j y=>wpAny_bind (wpAny_holding (wpAny_point (wpAny_pure y)))) fun _ _ x=>x)
theorem xy2 {es:List Expr}{tk:Nat}{tp:Pos}{a:Expr}{m:ME}{p pos kp ep:Pos}{ek:_}(hg:Gl X "enumerate")(hm:X.mg "enumerate"=none)(ha:PD X a m)
  (hs:starEach [a] X.env=[(false,eval a X.env)]:=by rfl):PId X (.Tuple es tk tp) (.Call (.Name "enumerate" p) [a] [⟨some "start",.Constant (.int 1) ek ep,kp⟩] pos) (t4 zs8 (z4 m anil)):=by
 intro pins s σ H R I h
 obtain⟨F0,H0,F,ρ,its,rl,e,q⟩:=h
 obtain⟨ds,h1,h2⟩:=Y4 e
 have A:=(z0 ha z5 hs:PAs X [a] _) pos pins s σ H (fun vs H1=>∃ F1,Ext F H F1 H1/\Reps X.K F1 vs ds) I ⟨F0,H0,F,ρ,ds,rl,h1,fun vs F1 H1 L N=>⟨F1,L,N⟩⟩
 refine wpAny_Call_Name_kw (T7 I hg hm boot_enumerate ?_)
 refine zx7 (thn A fun us s1 z=>?_) (by rw[hs];rfl) (by rw[hs];rfl) rfl rfl
 obtain⟨vs,H1,I1,N,F1,L,rs⟩:=z
 unfold zs8 at h2
 split at h2
 case h_2=>cases h2
 cases h2
 cases rs with
 |cons r rr=>
  cases rr
  obtain⟨l,xs,rfl,U,rx⟩:=r.l'
  obtain⟨u,rfl,ru⟩:=Q8 N
  cases ru
  have B:=zz3 (nm:=some "start") (kpos:=kp) (pe_int (X:=X) (i:=1) (j:=ek) (pos:=ep)) yz8 pos pins s1 σ H1 (fun vs H2=>vs=[.int 1]/\H2=H1) I1 ⟨rfl,rfl⟩
  refine thn B fun us s2 z=>?_
  obtain⟨vs,H2,M,r2,ev,eH⟩:=z
  subst ev eH
  obtain⟨u2,rfl,t2,rfl⟩:=Q8 r2
  obtain⟨Y,a0,p1,_⟩:=M.list (L.fh.seq U)
  refine yg4 p1.isList fun h' Z O hk=>?_
  have I3:Inv X pins σ H2 { s2 with heap:=h',toks:=s2.toks }:=M.kept hk
  refine wpAny_pyIter_enum Z ?_
  refine⟨_,[s2.heap.objs.size+1,s2.heap.objs.size],_,_,H2,rfl,I3,yo7 _ _ l (Nat.ne_of_gt (Nat.lt_succ_self _)),⟨⟨_,Z⟩,O⟩,fun b S=>?_,q _ F1 _ L (xv7 U rx)⟩
  have G:s2.heap.objs.size<=b:=by
   rcases List.mem_cons.mp S with rfl|S
   .exact Nat.le_succ _
   .rw[List.mem_singleton.mp S];exact Nat.le_refl _
  exact M.fpOk G (M.hok.fresh G)
end
end
section
section
variable {X:Cx}{e:Expr}{ma:ME}
noncomputable def C5 (m:ME):ML:=fun ρ=>match m ρ with |some (.tup ds)=>some ds|_=>none
theorem xv6 {K:W.Frag}{F:Hp}{p:Addr}{xs:List V}{ds:List D}(s:SqT K F p xs)(r:Reps K F xs ds):ItD K F (Itt K p) ds where
 go:=fun i F1 H1 a b hi=>by
  obtain⟨v,e,_⟩:=r.get (getElem?_eq_getElem hi)
  exact⟨xs,v,b.seqT (a.seqT s),e⟩
 yld:=fun i F1 H1 x H2 d a b e y=>by
  obtain⟨rfl,y⟩:=y
  obtain⟨v,e1,e2⟩:=r.get e
  have:=y xs (b.seqT (a.seqT s))
  rw[e1]at this;cases this
  exact⟨F1,.refl b,e2.mono a⟩
 stop:=fun F1 H1 a b=>⟨xs,b.seqT (a.seqT s),by rw[r.length];exact Nat.le_refl _⟩
theorem yz9 {tg:Expr}(hd:PD X e ma):PId X tg e (C5 ma):=PI.imp (xo9 hd) fun σ H R i=>by
 obtain⟨F0,H0,F,ρ,its,rl,e,q⟩:=i
 unfold C5 at e
 split at e
 .rename_i ds h1
  cases e
  refine⟨F0,H0,F,ρ,_,rl,h1,fun v F1 H1 j z=>?_⟩
  cases z with
  |tup s t=>exact⟨_,rfl,⟨_,j.fh.seqT s⟩,q _ F1 H1 j (xv6 s t)⟩
 .cases e
end
end
section
inductive RPs (K:W.Frag)(F H:Hp):List Addr->List (List D)->Prop
 |nil:RPs K F H [] []
 |cons {q:Addr} {xs:List V} {ds:List D} {qs:List Addr} {dss:List (List D)}:H q=some (.lst xs)->Reps K F xs ds->RPs K F H qs dss->RPs K F H (q::qs) (ds::dss)
section
variable {K:W.Frag}{F H F' H':Hp}
theorem RPs.mono (e:Same F F')(k:Same H H'):∀{qs:List Addr}{dss:List (List D)},RPs K F H qs dss->RPs K F' H' qs dss
 |_,_,.nil=>.nil
 |_,_,.cons h r t=>.cons (k _ _ h) (r.mono e) (RPs.mono e k t)
theorem RPs.keep (e:Same F F'):∀{qs:List Addr}{dss:List (List D)},(∀ q∈qs,∀ o,H q=some o->H' q=some o)->RPs K F H qs dss->RPs K F' H' qs dss
 |_,_,_,.nil=>.nil
 |_,_,k,.cons h r t=>.cons (k _ mem_cons_self _ h) (r.mono e) (RPs.keep e (fun q hq=>k q (mem_cons_of_mem _ hq)) t)
theorem RPs.snoc {q:Addr}{xs:List V}{ds:List D}(h:H q=some (.lst xs))(r:Reps K F xs ds):∀{qs:List Addr}{dss:List (List D)},RPs K F H qs dss->RPs K F H (qs++[q]) (dss++[ds])
 |_,_,.nil=>.cons h r .nil
 |_,_,.cons a b t=>.cons a b (RPs.snoc h r t)
theorem RPs.length:∀{qs:List Addr}{dss:List (List D)},RPs K F H qs dss->qs.length=dss.length
 |_,_,.nil=>rfl
 |_,_,.cons _ _ t=>congrArg (·+1) (RPs.length t)
theorem RPs.some:∀{qs:List Addr}{dss:List (List D)},RPs K F H qs dss->∀ q∈qs,∃ o,H q=some o
 |_,_,.cons a _ t,q,hq=>by
  rcases List.mem_cons.mp hq with e|hq
  .rw[e];exact⟨_,a⟩
  .exact RPs.some t q hq
end
noncomputable abbrev MP:=Ro->Option (List (List D))
structure Pots (K:W.Frag)(H F' H':Hp)(p:Addr)(qs:List Addr)(dss:List (List D)):Prop where
 hp:H p=none
 fp:F' p=none
 at':H' p=some (.lst (qs.map V.ref))
 new:∀ q∈qs,H q=none/\F' q=none
 nd:(p::qs).Nodup
 rep:RPs K F' H' qs dss
def TPt (K:W.Frag)(m:MP):TE:=fun σ H Q=>∃ F0 H0 F ρ dss,Rl K F0 H0 F H σ ρ/\m ρ=some dss/\∀ p qs F' H',Ext F H F' H'->Pots K H F' H' p qs dss->Q (.ref p) H'
theorem Ext.stays {F H F' H':Hp}{p:Addr}{o:HO}(x:Ext F H F' H')(j:F p=none)(i:H p=some o):F' p=none:=by
 cases q:F' p with
 |none=>rfl
 |some u=>have:=x.new p j (by rw[q];simp);rw[this]at i;cases i
section
variable {X:Cx}{a b c e:Expr}{pos:Pos}
noncomputable def C4 (g:Tg)(elt:ML):List D->Ro->List (List D)->Option (List (List D))
 |[],_,acc=>some acc
 |it::its,ρ,acc=>match tgD g it ρ with
  |some ρ1=>(match elt ρ1 with
   |some ds=>if acc.length<sizeLine then C4 g elt its ρ1 (acc++[ds])else none
   |none=>none)
  |none=>none
noncomputable def M9 (src:List (Option Nat))(mi:ML)(g:Tg)(elt:ML):MP:=fun ρ=>(mi ρ).bind fun its=>C4 g elt its (D1 src ρ) []
theorem xt3 {K:W.Frag}{src:List (Option Nat)}{mi:ML}{g:Tg}{elt:ML}{σ:St}{H:Hp}{Q:VK}(h:TPt K (M9 src mi g elt) σ H Q):zq4 src (TId K mi) (TGd K g) (TC K cyes) (TF K elt) σ H Q:=by
 obtain⟨F0,H0,F,ρ,out,rl,e,q⟩:=h
 unfold M9 at e
 cases h1:mi ρ with
 |none=>rw[h1]at e;cases e
 |some its=>
  rw[h1]at e
  have e:C4 g elt its (D1 src ρ) []=some out:=e
  refine⟨F0,H0,F,ρ,its,rl,h1,fun J F1 H1 x1 I=>?_⟩
  intro p hp
  obtain⟨rb,no⟩:=(rl.go x1).blk src
  have aa:F1 p=none:=x1.fh.free hp
  refine⟨fun i m a6 H'=>∃ F' ρ' acc qs,Rl K F1 H1 F' H' a6 ρ'/\NoOwn ρ'/\H' p=some (.lst (qs.map V.ref))/\F' p=none/\RPs K F' H' qs acc/\(∀ w∈qs,H1 w=none/\F' w=none)/\(p::qs).Nodup/\i<=its.length/\m=its.length-i/\C4 g elt (its.drop i) ρ' acc=some out,
   ⟨_,F1,D1 src ρ,[],[],rb.other no hp aa,no,z9,aa,.nil,(fun w hw=>by cases hw),by simp,Nat.zero_le _,rfl,e⟩,?_⟩
  rintro i m a6 H' ⟨F',ρ',acc,qs,j,ad,Y,a4,ra,L,a2,aj,rfl,G⟩
  by_cases a3:i<its.length
  .right
   have hd:=getElem?_eq_getElem a3
   refine⟨I.go i F' H' j.ext.ff j.fh a3,fun a5 H2=>∃ F2 U M S,Rl K F1 H1 F2 H2 a5 U/\NoOwn U/\H2 p=some (.lst (S.map V.ref))/\F2 p=none/\RPs K F2 H2 S M/\(∀ w∈S,H1 w=none/\F2 w=none)/\(p::S).Nodup/\C4 g elt (its.drop (i+1)) U M=some out,?_,fun x H2 y=>?_⟩
   .rintro a5 H2 ⟨F2,U,M,S,b1,b2,b3,b4,b5,b6,b7,b8⟩
    exact⟨its.length-(i+1),by omega,F2,U,M,S,b1,b2,b3,b4,b5,b6,b7,a3,rfl,b8⟩
   .obtain⟨F2,x2,r2⟩:=I.yld i F' H' x H2 _ j.ext.ff j.fh hd y
    rw[d5 hd]at G
    unfold C4 at G
    cases h2:tgD g its[i] ρ' with
    |none=>simp only[h2]at G;cases G
    |some ρ1=>
     simp only[h2]at G
     refine⟨F1,H1,F2,ρ',_,ρ1,j.go x2,r2,h2,fun F3 H3 ai Z x3=>?_⟩
     have a7:=ad.tg h2
     have ab:=x2.trans x3
     refine⟨F1,H1,F3,ρ1,true,Z,rfl,fun F4 H4 x4=>iteT ?_⟩
     have a0:=ab.trans x4
     cases h4:elt ρ1 with
     |none=>simp only[h4]at G;cases G
     |some ds=>
      simp only[h4]at G
      split at G
      .rename_i hz
       refine⟨F1,H1,F4,ρ1,ds,Z.go x4,h4,fun w xs F5 H5 x5 hw ag af r5=>?_⟩
       have O:=a0.trans x5
       have ah:=O.hh _ _ Y
       have a8:w≠p:=fun z=>by rw[z,a0.hh _ _ Y]at hw;cases hw
       have ac:RPs K F5 H5 qs acc:=ra.mono O.ff O.hh
       have ae:w∉qs:=fun z=>by
        obtain⟨o,ho⟩:=ra.some w z
        rw[a0.hh _ _ ho]at hw;cases hw
       refine⟨qs.map V.ref,ah,by rw[length_map,ra.length];exact hz,F5,ρ1,acc++[ds],qs++[w],((Z.go x4).go x5).other a7 hp (O.stays a4 Y),a7,by rw[z9,map_append];rfl,O.stays a4 Y,?_,fun z a1=>?_,?_,G⟩
       .refine((ac.snoc af r5)).keep (Same.refl _) fun z a1 o ho=>?_
        have:z≠p:=by
         rcases List.mem_append.mp a1 with N|N
         .exact fun zz=>(List.nodup_cons.mp a2).1 (zz ▸ N)
         .rw[List.mem_singleton.mp N];exact a8
        rw[y3 this];exact ho
       .rcases List.mem_append.mp a1 with N|N
        .obtain⟨o,ho⟩:=ra.some z N
         exact⟨(L z N).1,O.stays (L z N).2 ho⟩
        .rw[List.mem_singleton.mp N]
         exact⟨(Z.go x4).ext.hh.free hw,ag⟩
       .have hn:=List.nodup_cons.mp a2
        refine List.nodup_cons.mpr ⟨fun z=>?_,List.nodup_append.mpr ⟨hn.2,by simp,fun a ha b hb=>?_⟩⟩
        .rcases List.mem_append.mp z with N|N
         .exact hn.1 N
         .exact a8 (List.mem_singleton.mp N).symm
        .rw[List.mem_singleton.mp hb];exact fun zz=>ae (zz ▸ ha)
      .cases G
  .left
   have a9:i=its.length:=by omega
   subst a9
   rw[drop_length]at G
   have G:some acc=some out:=G
   cases G
   exact⟨I.stop F' H' j.ext.ff j.fh,q p qs F' H' (x1.trans j.ext) ⟨x1.hh.free hp,a4,Y,fun w hw=>⟨x1.hh.free (L w hw).1,(L w hw).2⟩,a2,ra⟩⟩
end
end
section
inductive Fl where
 |v (d:D)|l (ds:List D)
inductive Cell where
 |ins (c:Str) (ns:List Str) (fs:List Fl)
 |row (fs:List Fl)
 |tb (P:Addr) (mw:Str) (pos:Pos) (q:Str)
def xe8 (c:Addr)(q:Str):Heap->Prop:=fun h=>h.CodeRec (.ref c) q
structure CodeT (K:W.Frag)(cdv:Value)(P:Addr):Prop where
 hd:∃ c,cdv= .ref c/\∀ h:Heap,K.In h->W.CodeHd h c P
 ne:mainGlobals≠P
def TabF (K:W.Frag)(mw:Str)(P:Addr):Prop:=∃ f oc od fd sl,W.nsIn K mainGlobals mw=some (some (.ref f))/\K.lookup f=some ⟨oc,od,.func fd,sl⟩/\CodeT K fd.code P
noncomputable abbrev Bx:=List (Addr×Cell)
inductive FlR (K:W.Frag)(F B:Hp):List Addr->List V->List Fl->Prop
 |nil:FlR K F B [] [] []
 |v {fp:List Addr} {x:V} {d:D} {xs:List V} {fs:List Fl}:Rep K F x d->FlR K F B fp xs fs->FlR K F B fp (x::xs) (.v d::fs)
 |l {fp:List Addr} {q:Addr} {ys:List V} {ds:List D} {xs:List V} {fs:List Fl}:B q=some (.lst ys)->Reps K F ys ds->FlR K F B fp xs fs->FlR K F B (q::fp) (.ref q::xs) (.l ds::fs)
inductive CellR (K:W.Frag)(F B:Hp):List Addr->Addr->Cell->Prop
 |ins {fp:List Addr} {p dx C:Addr} {c:Str} {ns:List Str} {xs:List V} {fs:List Fl}:W.nsIn K mainGlobals c=some (some (.ref C))->ns.length=xs.length->B p=some (.ins C dx (ns.zip xs))->B dx=some (.own p)->FlR K F B fp xs fs->
   CellR K F B (p::dx::fp) p (.ins c ns fs)
 |row {fp:List Addr} {p:Addr} {xs:List V} {fs:List Fl}:B p=some (.lst xs)->FlR K F B fp xs fs->CellR K F B (p::fp) p (.row fs)
 |tb {P:Addr} {mw:Str} {pos:Pos} {q:Str} {ps:Array Value}:TabF K mw P->B P=some (.tbl ps)->TriplesOk ps.toList->(codeAmong pos ps.toList=none\/∃ c,codeAmong pos ps.toList=some (.ref c)/\F c=some (.ext (xe8 c q)))->CellR K F B [P] P (.tb P mw pos q)
inductive BxR (K:W.Frag)(F B:Hp):List Addr->Bx->Prop
 |nil:BxR K F B [] []
 |cons {fp fq:List Addr} {p:Addr} {c:Cell} {β:Bx}:CellR K F B fp p c->BxR K F B fq β->BxR K F B (fp++fq) ((p,c)::β)
section
variable {K:W.Frag}{F F' B B':Hp}
theorem FlR.mono (e:Same F F'){fp:List Addr}{xs:List V}{fs:List Fl}(h:FlR K F B fp xs fs)(k:∀ a∈fp,B' a=B a):FlR K F' B' fp xs fs:=by
 induction h with
 |nil=>exact .nil
 |v r _ i=>exact .v (r.mono e) (i k)
 |l b r _ i=>exact .l (by rw[k _ (by simp)];exact b) (r.mono e) (i fun a ha=>k a (mem_cons_of_mem _ ha))
theorem CellR.mono (e:Same F F'){fp:List Addr}{p:Addr}{c:Cell}(h:CellR K F B fp p c)(k:∀ a∈fp,B' a=B a):CellR K F' B' fp p c:=by
 cases h with
 |ins a l b d r=>exact .ins a l (by rw[k _ (by simp)];exact b) (by rw[k _ (by simp)];exact d) (r.mono e fun a ha=>k a (by simp[ha]))
 |row b r=>exact .row (by rw[k _ (by simp)];exact b) (r.mono e fun a ha=>k a (by simp[ha]))
 |tb a b t h=>exact .tb a (by rw[k _ (by simp)];exact b) t (h.imp id fun⟨c,h1,h2⟩=>⟨c,h1,e _ _ h2⟩)
theorem BxR.mono (e:Same F F'){fp:List Addr}{β:Bx}(h:BxR K F B fp β)(k:∀ a∈fp,B' a=B a):BxR K F' B' fp β:=by
 induction h with
 |nil=>exact .nil
 |cons c _ i=>exact .cons (c.mono e fun a ha=>k a (by simp[ha])) (i fun a ha=>k a (by simp[ha]))
theorem FlR.mem {fp:List Addr}{xs:List V}{fs:List Fl}(h:FlR K F B fp xs fs):∀ a∈fp,B a≠none:=by
 induction h with
 |nil=>intro a ha;cases ha
 |v _ _ i=>exact i
 |l b _ _ i=>
  intro a ha
  rcases List.mem_cons.mp ha with rfl|ha
  .rw[b];simp
  .exact i a ha
theorem CellR.mem {fp:List Addr}{p:Addr}{c:Cell}(h:CellR K F B fp p c):∀ a∈fp,B a≠none:=by
 intro a ha
 cases h with
 |ins _ _ b d r=>
  rcases List.mem_cons.mp ha with rfl|ha
  .rw[b];simp
  .rcases List.mem_cons.mp ha with rfl|ha
   .rw[d];simp
   .exact r.mem a ha
 |row b r=>
  rcases List.mem_cons.mp ha with rfl|ha
  .rw[b];simp
  .exact r.mem a ha
 |tb _ b _ _=>rw[List.mem_singleton.mp ha,b];simp
theorem BxR.mem {fp:List Addr}{β:Bx}(h:BxR K F B fp β):∀ a∈fp,B a≠none:=by
 induction h with
 |nil=>intro a ha;cases ha
 |cons c _ i=>
  intro a ha
  rcases List.mem_append.mp ha with ha|ha
  .exact c.mem a ha
  .exact i a ha
end
noncomputable def jn (H0 B:Hp):Hp:=fun a=>match B a with |some o=>some o|none=>H0 a
theorem e9 {H0 B:Hp}{a:Addr}{o:HO}(h:B a=some o):jn H0 B a=some o:=by unfold jn;rw[h]
theorem W7 {H0 B:Hp}{a:Addr}(h:B a=none):jn H0 B a=H0 a:=by unfold jn;rw[h]
theorem Z2 {H0 B:Hp}{a:Addr}(h:jn H0 B a=none):B a=none/\H0 a=none:=by
 cases b:B a with
 |none=>rw[W7 b]at h;exact⟨rfl,h⟩
 |some o=>rw[e9 b]at h;cases h
structure BxOk (K:W.Frag)(F0 H0 F B:Hp)(fp:List Addr)(β:Bx):Prop where
 out:∀ a,B a≠none->H0 a=none/\F0 a=none
 bx:BxR K F B fp β
 nd:fp.Nodup
 plain:∀ a o u,B a≠some (.frz o u)
theorem BxOk.mono {K:W.Frag}{F0 H0 F F' B:Hp}{fp:List Addr}{β:Bx}(h:BxOk K F0 H0 F B fp β)(e:Same F F'):BxOk K F0 H0 F' B fp β:=⟨h.out,h.bx.mono e fun _ _=>rfl,h.nd,h.plain⟩
def RlW (K:W.Frag)(F0 H0 F H:Hp)(σ:St)(ρ:Ro)(β:Bx):Prop:=∃ B fp,Rl K F0 (jn H0 B) F H σ ρ/\BxOk K F0 H0 F B fp β
noncomputable abbrev MW:=Ro->Bx->Option (Out×Bx)
noncomputable def okW (K:W.Frag)(F0 H0 Fb:Hp)(Dn:Ends):Out->Bx->Prop
 | .nx ρ,β=>∀ F H σ,RlW K F0 H0 F H σ ρ β->Same Fb F->Dn.nx σ H
 | .bk ρ,β=>∀ F H σ,RlW K F0 H0 F H σ ρ β->Same Fb F->Dn.bk σ H
 | .ct ρ,β=>∀ F H σ,RlW K F0 H0 F H σ ρ β->Same Fb F->Dn.ct σ H
 | .rt d,β=>∀ v F H B fp,Ext F0 (jn H0 B) F H->BxOk K F0 H0 F B fp β->Rep K F v d->Dn.rt v H
 | .rf ds,β=>∀ p xs F H B fp,Ext F0 (jn H0 B) F H->BxOk K F0 H0 F B fp β->jn H0 B p=none->F p=none->H p=some (.lst xs)->Reps K F xs ds->Dn.rt (.ref p) H
 | .rg d p r,β=>∀ v F H xs B fp,Ext F0 (jn H0 B) F H->BxOk K F0 H0 F B fp β->Rep K F v d->jn H0 B p=none->F p=none->H p=some (.lst xs)->Reps K F xs r->Dn.rt v H
 | .rp _ _,_=>False
 | .rgf _ _ _,_=>False
theorem okW.mono {K:W.Frag}{F0 H0 j i:Hp}{Dn:Ends}(s:Same j i):∀{o:Out}{β:Bx},okW K F0 H0 j Dn o β->okW K F0 H0 i Dn o β
 | .nx _,_,h=>fun F H σ rl q=>h F H σ rl (s.trans q)
 | .bk _,_,h=>fun F H σ rl q=>h F H σ rl (s.trans q)
 | .ct _,_,h=>fun F H σ rl q=>h F H σ rl (s.trans q)
 | .rt _,_,h=>h
 | .rf _,_,h=>h
 | .rp _ _,_,h=>h
 | .rg _ _ _,_,h=>h
 | .rgf _ _ _,_,h=>h
def TSw (K:W.Frag)(m:MW):TS:=fun Dn σ H=>∃ F0 H0 F ρ β o β',RlW K F0 H0 F H σ ρ β/\m ρ β=some (o,β')/\okW K F0 H0 F Dn o β'
def TDw (K:W.Frag)(m:Ro->Bx->Option D):TE:=fun σ H Q=>∃ F0 H0 F ρ β d,RlW K F0 H0 F H σ ρ β/\m ρ β=some d/\∀ v F' H',RlW K F0 H0 F' H' σ ρ β->Same F F'->Same H H'->Rep K F' v d->Q v H'
def TCw (K:W.Frag)(m:Ro->Bx->Option Bool):TT:=fun σ H Q=>∃ F0 H0 F ρ β b,RlW K F0 H0 F H σ ρ β/\m ρ β=some b/\∀ F' H',RlW K F0 H0 F' H' σ ρ β->Same F F'->Q b H'
def PSw (X:Cx)(st:Stmt)(m:MW):Prop:=PS X st (TSw X.K m)
def PSsw (X:Cx)(st:List Stmt)(m:MW):Prop:=PSs X st (TSw X.K m)
def PDw (X:Cx)(e:Expr)(m:Ro->Bx->Option D):Prop:=PE X e (TDw X.K m)
def PCw' (X:Cx)(e:Expr)(m:Ro->Bx->Option Bool):Prop:=PT X e (TCw X.K m)
section
variable {X:Cx}{a b c e:Expr}{pos:Pos}{st:Stmt}{rest:List Stmt}
noncomputable def wS (m:MS):MW:=fun ρ β=>match m ρ with |some (.nx ρ')=>some (.nx ρ',β)|some (.bk ρ')=>some (.bk ρ',β)|some (.ct ρ')=>some (.ct ρ',β)|_=>none
noncomputable def wE {α:Type}(m:Ro->Option α):Ro->Bx->Option α:=fun ρ _=>m ρ
theorem psw {m:MS}(h:PSd X st m):PSw X st (wS m):=PS.imp h fun Dn σ H ⟨F0,H0,F,ρ,β,o,β',⟨B,fp,rl,ok⟩,e,k⟩=>by
 unfold wS at e
 split at e
 .rename_i ρ' h1
  cases e
  exact⟨F0,jn H0 B,F,ρ,_,rl,h1,fun F' H' i j z=>k F' H' i ⟨B,fp,j,ok.mono z⟩ z⟩
 .rename_i ρ' h1
  cases e
  exact⟨F0,jn H0 B,F,ρ,_,rl,h1,fun F' H' i j z=>k F' H' i ⟨B,fp,j,ok.mono z⟩ z⟩
 .rename_i ρ' h1
  cases e
  exact⟨F0,jn H0 B,F,ρ,_,rl,h1,fun F' H' i j z=>k F' H' i ⟨B,fp,j,ok.mono z⟩ z⟩
 .cases e
theorem pdw {m:ME}(h:PD X e m):PDw X e (wE m):=PE.imp h fun σ H Q ⟨F0,H0,F,ρ,β,d,⟨B,fp,rl,ok⟩,e,q⟩=>
 ⟨F0,jn H0 B,F,ρ,d,rl,e,fun v F' H' x r=>q v F' H' ⟨B,fp,rl.go x,ok.mono x.ff⟩ x.ff x.hh r⟩
noncomputable def D6 (x y:MW):MW:=fun ρ β=>match x ρ β with |some (.nx ρ',β')=>y ρ' β'|o=>o
theorem K4 {m:MW}(h:PSw X st m):PSsw X [st] m:=yz2 h
theorem ym5:PSsw X [] (wS U2):=PSs.imp pss_nil fun Dn σ H ⟨F0,H0,F,ρ,β,o,β',⟨B,fp,rl,ok⟩,e,k⟩=>by
 cases e
 exact k F H σ ⟨B,fp,rl,ok⟩ (Same.refl _)
theorem W9 {m1 m2':MW}(h1:PSw X st m1)(h2:PSsw X rest m2'):PSsw X (st::rest) (D6 m1 m2'):=PSs.imp (zz2 h1 h2) fun D σ H z=>by
 obtain⟨F0,H0,F,ρ,β,o,β',i,e,ok⟩:=z
 unfold D6 at e
 cases h:m1 ρ β with
 |none=>rw[h]at e;cases e
 |some ob=>
  obtain⟨M,j⟩:=ob
  rw[h]at e
  cases M with
  |nx ρ1=>exact⟨F0,H0,F,ρ,β,_,j,i,h,fun F' H' I G L=>⟨F0,H0,F',ρ1,j,o,β',G,e,ok.mono L⟩⟩
  |bk ρ1=>cases e;exact⟨F0,H0,F,ρ,β,_,_,i,h,ok⟩
  |ct ρ1=>cases e;exact⟨F0,H0,F,ρ,β,_,_,i,h,ok⟩
  |rt d=>cases e;exact⟨F0,H0,F,ρ,β,_,_,i,h,ok⟩
  |rf d=>cases e;exact⟨F0,H0,F,ρ,β,_,_,i,h,ok⟩
  |rp d ds=>cases e;exact⟨F0,H0,F,ρ,β,_,_,i,h,ok⟩
  |rg d p r=>cases e;exact⟨F0,H0,F,ρ,β,_,_,i,h,ok⟩
  |rgf d p r=>cases e;exact⟨F0,H0,F,ρ,β,_,_,i,h,ok⟩
noncomputable def mifW (c:Ro->Bx->Option Bool)(x y:MW):MW:=fun ρ β=>match c ρ β with |some true=>x ρ β|some false=>y ρ β|none=>none
theorem xo7 {ca:Ro->Bx->Option Bool}{x y:List Stmt}{mx I:MW}(N:PCw' X c ca)(M:PSsw X x mx)(L:PSsw X y I):PSw X (.If c x y pos) (mifW ca mx I):=PS.imp (xo8 N M L) fun D σ H j=>by
 obtain⟨F0,H0,F,ρ,β,o,β',i,e,ok⟩:=j
 unfold mifW at e
 split at e
 .rename_i h1
  exact⟨F0,H0,F,ρ,β,_,i,h1,fun F1 H1 G z=>iteT ⟨F0,H0,F1,ρ,β,o,β',G,e,ok.mono z⟩⟩
 .rename_i h1
  exact⟨F0,H0,F,ρ,β,_,i,h1,fun F1 H1 G z=>iteF ⟨F0,H0,F1,ρ,β,o,β',G,e,ok.mono z⟩⟩
 .cases e
noncomputable def yj2 (x:Ro->Bx->Option D):MW:=fun ρ β=>(x ρ β).map fun d=>(.rt d,β)
theorem xz8 {ma:Ro->Bx->Option D}(h:PS X st (tRet (TDw X.K ma))):PSw X st (yj2 ma):=PS.imp h fun D σ H i=>by
 obtain⟨F0,H0,F,ρ,β,o,β',j,e,ok⟩:=i
 unfold yj2 at e
 cases h1:ma ρ β with
 |none=>rw[h1]at e;cases e
 |some d=>
  rw[h1]at e;cases e
  refine⟨F0,H0,F,ρ,β,d,j,h1,fun v F1 H1 z G _ rp=>?_⟩
  obtain⟨B,fp,rl,k⟩:=z
  exact ok v F1 H1 B fp rl.ext k rp
noncomputable def forW (g:Tg)(body:MW):List D->MW
 |[],ρ,β=>some (.nx ρ,β)
 |d::ds,ρ,β=>match tgD g d ρ with
  |some ρ1=>match body ρ1 β with
   |some (.nx ρ2,β2)=>forW g body ds ρ2 β2
   |some (.ct ρ2,β2)=>forW g body ds ρ2 β2
   |some (.bk ρ2,β2)=>some (.nx ρ2,β2)
   |o=>o
  |none=>none
noncomputable def ze4 (mi:ML)(g:Tg)(body:MW):MW:=fun ρ β=>(mi ρ).bind fun its=>forW g body its ρ β
theorem yz1 {tg iter:Expr}{body:List Stmt}{mi:ML}{g:Tg}{mb:MW}(hp:PassesOwn (model X.prog X.w) X.A X.env X.xe)(hc:X.calm=true)(hi:PId X tg iter mi)(hg:PGd X tg g)(hb:PSsw X body mb)
  (hs:∀ x,foldedSetIterable iter X.env x=pure x:=by intro _;rfl):PSw X (.For tg iter body [] pos) (ze4 mi g mb):=PS.imp (yz5 hp hc hi hg hb hs) fun Dn σ H ⟨F0,H0,F,ρ,β,o,β',⟨B,fp,rl,ok⟩,e,k⟩=>by
 unfold ze4 at e
 cases h1:mi ρ with
 |none=>rw[h1]at e;cases e
 |some its=>
  rw[h1]at e
  have e:forW g mb its ρ β=some (o,β'):=e
  refine⟨F0,jn H0 B,F,ρ,its,rl,h1,fun J F1 H1 O I=>?_⟩
  refine⟨fun i m Y H'=>∃ F' ρ' L,RlW X.K F0 H0 F' H' Y ρ' L/\Same F1 F'/\i<=its.length/\m=its.length-i/\forW g mb (its.drop i) ρ' L=some (o,β'),⟨_,F1,ρ,β,⟨B,fp,rl.go O,ok.mono O.ff⟩,Same.refl _,Nat.zero_le _,rfl,e⟩,?_⟩
  rintro i m Y H' ⟨F',ρ',L,⟨B1,a3,N,a1⟩,sf,a6,rfl,j⟩
  by_cases Z:i<its.length
  .right
   have hd:=getElem?_eq_getElem Z
   refine⟨I.go i F' H' sf N.fh Z,fun a0 H2=>∃ F2 z G,RlW X.K F0 H0 F2 H2 a0 z G/\Same F1 F2/\forW g mb (its.drop (i+1)) z G=some (o,β'),?_,fun x H2 y=>?_⟩
   .rintro a0 H2 ⟨F2,z,G,rl2,sf2,e2⟩
    exact⟨its.length-(i+1),by omega,F2,z,G,rl2,sf2,Z,rfl,e2⟩
   .obtain⟨F2,x2,r2⟩:=I.yld i F' H' x H2 _ sf N.fh hd y
    rw[d5 hd]at j
    unfold forW at j
    cases h2:tgD g its[i] ρ' with
    |none=>simp only[h2]at j;cases j
    |some ρ1=>
     simp only[h2]at j
     refine⟨F0,jn H0 B1,F2,ρ',_,ρ1,N.go x2,r2,h2,fun F3 H3 a5 a4 x3=>?_⟩
     have S:Same F1 F3:=(sf.trans x2.ff).trans x3.ff
     cases h3:mb ρ1 L with
     |none=>simp only[h3]at j;cases j
     |some ob=>
      obtain⟨o1,G⟩:=ob
      simp only[h3]at j
      refine⟨F0,H0,F3,ρ1,L,o1,G,⟨B1,a3,a4,a1.mono (x2.ff.trans x3.ff)⟩,h3,?_⟩
      cases o1 with
      |nx z=>exact fun F5 H5 U M s5=>⟨F5,z,G,M,S.trans s5,j⟩
      |ct z=>exact fun F5 H5 U M s5=>⟨F5,z,G,M,S.trans s5,j⟩
      |bk z=>
       cases j
       exact fun F5 H5 U M s5=>k F5 H5 U M ((O.ff.trans S).trans s5)
      |rt d=>cases j;exact k.mono (O.ff.trans S)
      |rf d=>cases j;exact k.mono (O.ff.trans S)
      |rp d ds=>cases j;exact k.mono (O.ff.trans S)
      |rg d p r=>cases j;exact k.mono (O.ff.trans S)
      |rgf d p r=>cases j;exact k.mono (O.ff.trans S)
  .left
   have a2:i=its.length:=by omega
   subst a2
   rw[drop_length]at j
   have j:some (Out.nx ρ',L)=some (o,β'):=j
   cases j
   exact⟨I.stop F' H' sf N.fh,k F' H' Y ⟨B1,a3,N,a1⟩ (O.ff.trans sf)⟩
noncomputable def flD:Fl->D
 | .v d=>d
 | .l ds=>.lst ds
noncomputable def xt9:Cell->D
 | .ins c ns fs=>.obj c ns (fs.map flD)
 | .row fs=>.lst (fs.map flD)
 | .tb P _ _ _=>.ptr P
noncomputable def O8 (β:Bx):Option S->Option S
 |some (.sh (.ptr p))=>match β.lookup p with |some c=>some (.sh (xt9 c))|none=>some (.sh (.ptr p))
 |some (.rd _ _)=>none
 |x=>x
noncomputable def thaw (ρ:Ro)(β:Bx):Ro:=ρ.map (O8 β)
noncomputable def yi3 (m:MB):Ro->Bx->Option Bool:=fun ρ β=>m (thaw ρ β)
end
section
variable {K:W.Frag}{F0 H0 F H B:Hp}{σ:St}{ρ:Ro}{β:Bx}{fp:List Addr}
theorem FlR.rep {G:Hp}{xs:List V}{fs:List Fl}(j:Same F G)(hB:Same B G)(h:FlR K F B fp xs fs):Reps K G xs (fs.map flD):=by
 induction h with
 |nil=>exact .nil
 |v r _ i=>exact .cons (r.mono j) i
 |l b r _ i=>exact .cons (.lst (SqL.of (hB _ _ b)) (r.mono j)) i
theorem CellR.rep {G:Hp}{p:Addr}{c:Cell}(i:Same F G)(hB:Same B G)(h:CellR K F B fp p c):Rep K G (.ref p) (xt9 c):=by
 cases h with
 |ins a l b d r=>exact .obj a l (hB _ _ b) (hB _ _ d) (r.rep i hB)
 |row b r=>exact .lst (SqL.of (hB _ _ b)) (r.rep i hB)
 |tb _ _ _ _=>exact .ptr _
theorem BxR.at' {p:Addr}{c:Cell}:∀{fp:List Addr}{β:Bx},BxR K F B fp β->β.lookup p=some c->∃ fq,CellR K F B fq p c
 |_,_,.nil,e=>by cases e
 |_,_,.cons (p:=q) h r,e=>by
  rw[lookup_cons]at e
  split at e
  .rename_i z
   have z:=beq_iff_eq.mp z
   subst z
   cases e
   exact⟨_,h⟩
  .exact r.at' e
theorem RlW.frozen (rl:Rl K F0 (jn H0 B) F H σ ρ)(ok:BxOk K F0 H0 F B fp β):Rl K (jn F0 B) (jn H0 B) (jn F B) H σ (thaw ρ β)/\Same F (jn F B):=by
 have bh:Same B H:=fun a o e=>rl.ext.hh a o (e9 e)
 have fn:∀ a,B a≠none->F a=none:=fun a h=>by
  cases q:F a with
  |none=>rfl
  |some o=>
   have:=rl.ext.new a (ok.out a h).2 (by rw[q];simp)
   exact absurd (Z2 this).1 h
 have fb:Same F (jn F B):=fun a o e=>by
  cases q:B a with
  |none=>rw[W7 q];exact e
  |some u=>rw[fn a (by rw[q];simp)]at e;cases e
 have Z:Same B (jn F B):=fun a o e=>e9 e
 have G:∀(i:Nat) x,(thaw ρ β)[i]? =some x->∃ y,ρ[i]? =some y/\x=O8 β y:=fun i x e=>by
  unfold thaw at e
  rw[getElem?_map]at e
  cases q:ρ[i]? with
  |none=>rw[q]at e;cases e
  |some y=>rw[q]at e;cases e;exact⟨y,rfl,rfl⟩
 have U:∀{y:Option S}{ds:List D},some (.own ds)=O8 β y->y=some (.own ds):=fun{y ds} e=>by
  unfold O8 at e
  split at e
  .split at e <;> cases e
  .cases e
  .exact e.symm
 have tB:∀{y:Option S}{p:Addr}{ds:List D},some (.ob p ds)=O8 β y->y=some (.ob p ds):=fun{y p ds} e=>by
  unfold O8 at e
  split at e
  .split at e <;> cases e
  .cases e
  .exact e.symm
 have z:∀(i:Nat) ds,(thaw ρ β)[i]? =some (some (.own ds))->ρ[i]? =some (some (.own ds)):=fun i ds e=>by
  obtain⟨y,e1,e2⟩:=G i _ e
  rw[e1,U e2]
 have I:∀(i:Nat) p ds,(thaw ρ β)[i]? =some (some (.ob p ds))->ρ[i]? =some (some (.ob p ds)):=fun i p ds e=>by
  obtain⟨y,e1,e2⟩:=G i _ e
  rw[e1,tB e2]
 have O:∀ p,F p=none->jn H0 B p=none->jn F B p=none:=fun p h h2=>by rw[W7 (Z2 h2).1];exact h
 refine⟨⟨⟨fun a o e=>?_,rl.ext.hh,fun a o e=>?_,fun b e n=>?_,fun b o u e=>?_⟩,by unfold thaw;rw[length_map];exact rl.len,fun i d e=>?_,fun i ds e=>?_,fun i j p ds es N e1 e2 e3 Y=>rl.inj i j p ds es N (z i ds e1) (z j es e2) e3 Y,fun i p ds e=>?_,fun i j p ds es e1 e2 e3=>rl.obn i j p ds es (I i p ds e1) (z j es e2) e3,fun i j p q ds es e1 e2=>rl.ob1 i j p q ds es (I i p ds e1) (I j q es e2),fun i q ds e=>by
  obtain⟨y,e1,e2⟩:=G i _ e
  unfold O8 at e2
  split at e2
  .split at e2 <;> cases e2
  .cases e2
  .rename_i hn
   exact(hn q ds e2.symm).elim⟩,fb⟩
 .cases q:B a with
  |none=>rw[W7 q]at e;rw[W7 q];exact rl.ext.ff a o e
  |some u=>rw[e9 q]at e;rw[e9 q];exact e
 .cases q:B a with
  |none=>rw[W7 q]at e;exact rl.ext.fh a o e
  |some u=>rw[e9 q]at e;cases e;exact bh a _ q
 .obtain⟨e1,e2⟩:=Z2 e
  rw[W7 e1]at n
  exact rl.ext.new b e2 n
 .cases q:B b with
  |none=>rw[W7 q]at e ⊢;exact rl.ext.nf b o u e
  |some w=>rw[e9 q]at e ⊢;exact e
 .obtain⟨y,e1,e2⟩:=G i _ e
  unfold O8 at e2
  split at e2
  .rename_i p
   obtain⟨v,L,M⟩:=rl.sh i _ e1
   cases M
   split at e2
   .rename_i c hc
    cases e2
    obtain⟨fq,hq⟩:=ok.bx.at' hc
    exact⟨_,L,hq.rep fb Z⟩
   .cases e2
    exact⟨_,L,.ptr p⟩
  .cases e2
  .subst e2
   obtain⟨v,L,M⟩:=rl.sh i d e1
   exact⟨v,L,M.mono fb⟩
 .obtain⟨p,xs,L,M,a3,a4,a5⟩:=rl.own i ds (z i ds e)
  exact⟨p,xs,L,O p M a5,a3,a4.mono fb,a5⟩
 .obtain⟨L,M,a3,xs,a4,a5⟩:=rl.ob i p ds (I i p ds e)
  exact⟨L,O p M a3,a3,xs,a4,a5.mono fb⟩
theorem RlW.melt {F2 H2:Hp}(rl:Rl K F0 (jn H0 B) F H σ ρ)(ok:BxOk K F0 H0 F B fp β)(x:Ext (jn F B) H F2 H2)(fb:Same F (jn F B)):RlW K F0 H0 F H2 σ ρ β:=
 ⟨B,fp,rl.go ⟨Same.refl _,x.hh,rl.fh.trans x.hh,fun b e n=>absurd e n,fun _ _ _ z=>z⟩,ok⟩
end
section
variable {X:Cx}{a b c e:Expr}{pos:Pos}
theorem yk6 {m:MB}(h:PC' X e m):PCw' X e (yi3 m):=PT.imp h fun σ H Q ⟨F0,H0,F,ρ,β,d,⟨B,fp,rl,ok⟩,e,q⟩=>by
 obtain⟨i,fb⟩:=RlW.frozen rl ok
 exact⟨_,_,_,_,_,i,e,fun F' H' x=>q F H' (RlW.melt rl ok x fb) (Same.refl _)⟩
end
end
section
noncomputable def cut (H B:Hp):Hp:=fun a=>match B a with |some _=>none|none=>H a
theorem yr1 {H B:Hp}{a:Addr}(h:B a=none):cut H B a=H a:=by unfold cut;rw[h]
theorem xi8 {H B:Hp}(h:Same B H):jn (cut H B) B=H:=by
 funext a
 cases q:B a with
 |none=>rw[W7 q,yr1 q]
 |some o=>rw[e9 q,h a o q]
noncomputable abbrev MFW:=List D->Bx->Option (Rt×Bx)
noncomputable def okTW (K:W.Frag)(F H B:Hp)(Q:VK):Rt->Bx->Prop
 | .sh d,β=>∀ v F' H' B' fp',Ext F (jn (cut H B) B') F' H'->BxOk K F (cut H B) F' B' fp' β->Rep K F' v d->Q v H'
 | .fr ds,β=>∀ p xs F' H' B' fp',Ext F (jn (cut H B) B') F' H'->BxOk K F (cut H B) F' B' fp' β->jn (cut H B) B' p=none->F' p=none->H' p=some (.lst xs)->Reps K F' xs ds->Q (.ref p) H'
 | .pr _ _,_=>False
def spW (K:W.Frag)(n:Nat)(m:MFW):Sp:=fun vs H Q _=>vs.length=n/\∃ F B fp ds β r β',Same F H/\Same B H/\BxOk K F (cut H B) F B fp β/\Reps K F vs ds/\m ds β=some (r,β')/\okTW K F H B Q r β'
noncomputable def runW (n:Nat)(m:MW):MFW:=fun ds β=>match m (j1 n ds) β with
 |some (.nx _,β')=>some (.sh .non,β'.drop (β'.length-β.length))
 |some (.rt d,β')=>some (.sh d,β'.drop (β'.length-β.length))
 |some (.rf es,β')=>some (.fr es,β'.drop (β'.length-β.length))
 |_=>none
theorem BxR.drop {K:W.Frag}{F B:Hp}:∀{fp:List Addr}{β:Bx}(k:Nat),BxR K F B fp β->∃ fq,BxR K F B fq (β.drop k)/\fq.Sublist fp
 |_,_,0,h=>⟨_,h,List.Sublist.refl _⟩
 |_,_,k+1,.nil=>⟨_,.nil,List.Sublist.refl _⟩
 |_,_,k+1,.cons c r=>by
  obtain⟨fq,h,s⟩:=BxR.drop k r
  exact⟨fq,h,s.trans (sublist_append_right _ _)⟩
theorem BxOk.drop {K:W.Frag}{F0 H0 F B:Hp}{fp:List Addr}{β:Bx}(h:BxOk K F0 H0 F B fp β)(k:Nat):∃ fq,BxOk K F0 H0 F B fq (β.drop k):=by
 obtain⟨fq,r,s⟩:=h.bx.drop k
 exact⟨fq,h.out,r,h.nd.sublist s,h.plain⟩
theorem Fun.okW {P:Program}{w:World}{K:W.Frag}{mg:Str->Option Value}{base:Heap}{x qual:Str}{st:Stmt}{f:Addr}{fd:FuncData}{N ps:List Str}{k:Nat}{m:MW}(Fn:Fun K x qual st f fd)(Sc:FnScope N ps (y0 st))
  (i:∀(cdv:Value)(A:Around)(outer:List Env)(s:Shared)(H:Hp)(E:XK),Room k (A.deeper (envOfC qual (y0 st) s.heap.objs.size f cdv))->PSsw (cxOf CX0 P w K mg base N qual (y0 st) f cdv A outer s H E).nox (c5 st) m):
  FnOk P w K mg base CX0 (k+1) f fd ps (spW K ps.length (runW N.length m)):=by
 refine Fn.ok Sc (fun vs H Q E h=>h.1) fun cdv A outer s H vs Q E S h=>?_
 obtain⟨hl,F,B,fp,ds,β,r,β',L,M,U,O,e,ok⟩:=h
 unfold runW at e
 refine⟨_,i cdv A outer s H E S,F,cut H B,F,j1 N.length ds,β,?_⟩
 have start:RlW K F (cut H B) F H (start N vs) (j1 N.length ds) β:=⟨B,fp,by rw[xi8 M];exact zj2 L O,U⟩
 split at e
 .rename_i ρ β1 h1
  cases e
  refine⟨_,_,start,h1,fun F' H' I rl _=>?_⟩
  obtain⟨B',z,G,j⟩:=rl
  obtain⟨fq,k2⟩:=j.drop (β1.length-β.length)
  exact ok .non F' H' B' fq G.ext k2 .non
 .rename_i d β1 h1
  cases e
  refine⟨_,_,start,h1,fun v F' H' B' z x j rp=>?_⟩
  obtain⟨fq,k2⟩:=j.drop (β1.length-β.length)
  exact ok v F' H' B' fq x k2 rp
 .rename_i es β1 h1
  cases e
  refine⟨_,_,start,h1,fun p xs F' H' B' z x j a1 a2 Z Y=>?_⟩
  obtain⟨fq,k2⟩:=j.drop (β1.length-β.length)
  exact ok p xs F' H' B' fq x k2 a1 a2 Z Y
 .cases e
section
variable {K:W.Frag}{F0 H0 F H B:Hp}{σ:St}{ρ:Ro}{β:Bx}{fp:List Addr}
end
section
variable {X:Cx}{a b c e o:Expr}{pos:Pos}{st:Stmt}{rest:List Stmt}{E:XK}{es:List Expr}{mf:MFW}{m:ML}
end
end
section
section
variable {X:Cx}{a b c e o:Expr}{pos apos:Pos}{E:XK}{es:List Expr}{m:ML}{mo:ME}
end
noncomputable def updB (p:Addr)(c':Cell):Bx->Bx
 |[]=>[]
 | (q,c)::β=>if q=p then (q,c')::β else (q,c)::updB p c' β
def nrdR (ρ:Ro):Prop:=∀(i:Nat) q ds,ρ[i]? =some (some (.rd q ds))->False
noncomputable def nrdB (ρ:Ro):Bool:=ρ.all fun x=>match x with |some (.rd _ _)=>false|_=>true
theorem ye7 {ρ:Ro}(h:nrdB ρ=true):nrdR ρ:=fun i q ds e=>by
 have:=List.all_eq_true.mp h _ (mem_of_getElem? e)
 cases this
section
variable {K:W.Frag}{F0 H0 F H B:Hp}{σ:St}{ρ:Ro}{β:Bx}{fp:List Addr}
theorem BxR.upd {p:Addr}{c:Cell}:∀{fp:List Addr}{β:Bx},BxR K F B fp β->fp.Nodup->β.lookup p=some c->∃ fq,CellR K F B fq p c/\fq.Nodup/\(∀ a∈fq,a∈fp)/\
  ∀(M:Cell)(i:List Addr)(B' F':Hp),Same F F'->CellR K F' B' i p M->i.Nodup->(∀ a∈fp,a∉fq->B' a=B a)->(∀ a∈i,a∈fq\/a∉fp)->∃ j,BxR K F' B' j (updB p M β)/\j.Nodup/\∀ a∈j,a∈fp\/a∈i
 |_,_,.nil,_,e=>by cases e
 |_,_,.cons (fp:=f0) (fq:=f1) (p:=q) (c:=c0) (β:=β) h r,nd,e=>by
  obtain⟨n0,n1,n2⟩:=List.nodup_append.mp nd
  have L:∀ a,a∈f0->a∈f1->False:=fun a h1 h2=>n2 a h1 a h2 rfl
  rw[lookup_cons]at e
  cases z:p==q with
  |true=>
   rw[z]at e
   have z:=beq_iff_eq.mp z
   subst z
   cases e
   refine⟨f0,h,n0,fun a ha=>mem_append_left _ ha,fun M i B' F' N hc U O fr=>?_⟩
   unfold updB
   rw[if_pos rfl]
   refine⟨i++f1,.cons hc (r.mono N fun a ha=>O a (mem_append_right _ ha) fun z=>L a z ha),List.nodup_append.mpr ⟨U,n1,fun a h1 b h2 I=>?_⟩,fun a ha=>?_⟩
   .subst I
    rcases fr a h1 with z|z
    .exact L a z h2
    .exact z (mem_append_right _ h2)
   .rcases List.mem_append.mp ha with z|z
    .exact .inr z
    .exact .inl (mem_append_right _ z)
  |false=>
   rw[z]at e
   have a0:¬ q=p:=fun y=>by rw[y,beq_self_eq_true]at z;cases z
   obtain⟨fq,h1,S,G,Z⟩:=r.upd n1 e
   refine⟨fq,h1,S,fun a ha=>mem_append_right _ (G a ha),fun M i B' F' N hc U O fr=>?_⟩
   obtain⟨j,r',Y,hm⟩:=Z M i B' F' N hc U (fun a ha hn=>O a (mem_append_right _ ha) hn) fun a ha=>(fr a ha).imp id fun z y=>z (mem_append_right _ y)
   unfold updB
   rw[if_neg a0]
   refine⟨f0++j,.cons (h.mono N fun a ha=>O a (mem_append_left _ ha) fun y=>L a ha (G a y)) r',List.nodup_append.mpr ⟨n0,Y,fun a h1 b h2 I=>?_⟩,fun a ha=>?_⟩
   .subst I
    rcases hm a h2 with z|z
    .exact L a h1 z
    .rcases fr a z with y|y
     .exact L a h1 (G a y)
     .exact y (mem_append_left _ h1)
   .rcases List.mem_append.mp ha with z|z
    .exact .inl (mem_append_left _ z)
    .exact(hm a z).imp (mem_append_right _) id
theorem Rl.putB {a:Addr}{o:HO}(rl:Rl K F0 (jn H0 B) F H σ ρ)(out:∀ b,B b≠none->H0 b=none/\F0 b=none)(ha:B a≠none\/H a=none)(L:nrdR ρ):Rl K F0 (jn H0 (upd B a o)) F (upd H a o) σ ρ/\F a=none/\H0 a=none/\F0 a=none:=by
 have I:F a=none/\H0 a=none/\F0 a=none:=by
  rcases ha with h|h
  .refine⟨?_,out a h⟩
   cases q:F a with
   |none=>rfl
   |some u=>exact absurd (Z2 (rl.ext.new a (out a h).2 (by rw[q];simp))).1 h
  .have f:F a=none:=rl.fh.free h
   exact⟨f,(Z2 (rl.ext.hh.free h)).2,rl.ext.ff.free f⟩
 have G:∀ b,b≠a->jn H0 (upd B a o) b=jn H0 B b:=fun b j=>by unfold jn;rw[y3 j]
 have ne:∀ p xs,jn H0 B p=none->H p=some (.lst xs)->p≠a:=fun p xs e1 e2 e3=>by
  subst e3
  rcases ha with h|h
  .exact h (Z2 e1).1
  .rw[h]at e2;cases e2
 refine⟨⟨⟨rl.ext.ff,fun b u e=>?_,rl.ext.fh.put I.1,fun b e n=>?_,rl.ext.nf⟩,rl.len,rl.sh,fun i ds e=>?_,rl.inj,fun i p ds e=>?_,rl.obn,rl.ob1,fun i q ds e=>(L i q ds e).elim⟩,I⟩
 .by_cases j:b=a
  .subst j
   rw[e9 z9]at e
   rw[z9];exact e
  .rw[G b j]at e
   rw[y3 j]
   exact rl.ext.hh b u e
 .have j:b≠a:=fun z=>by subst z;exact n I.1
  rw[G b j]
  exact rl.ext.new b e n
 .obtain⟨p,xs,a1,a2,a3,a4,a5⟩:=rl.own i ds e
  have hp:=ne p xs a5 a3
  exact⟨p,xs,a1,a2,by rw[y3 hp];exact a3,a4,by rw[G p hp];exact a5⟩
 .obtain⟨a1,a2,a3,xs,a4,a5⟩:=rl.ob i p ds e
  have hp:=ne p xs a3 a4
  exact⟨a1,a2,by rw[G p hp];exact a3,xs,by rw[y3 hp];exact a4,a5⟩
end
end
section
section
variable {K:W.Frag}{F0 H0 F H B:Hp}{σ:St}{ρ:Ro}{β:Bx}{fp:List Addr}
theorem FlR.length {xs:List V}{fs:List Fl}(h:FlR K F B fp xs fs):xs.length=fs.length:=by
 induction h with
 |nil=>rfl
 |v _ _ i=>simp[i]
 |l _ _ _ i=>simp[i]
theorem yc4 {a:Addr}{o:HO}(out:∀ b,B b≠none->H0 b=none/\F0 b=none)(h:H0 a=none/\F0 a=none):∀ b,upd B a o b≠none->H0 b=none/\F0 b=none:=fun b i=>by
 by_cases z:b=a
 .subst z;exact h
 .rw[y3 z]at i;exact out b i
theorem zc6 {a:Addr}{o:HO}(pl:∀ b o u,B b≠some (.frz o u))(h:∀ p u,o≠ .frz p u):∀ b p u,upd B a o b≠some (.frz p u):=fun b p u i=>by
 by_cases z:b=a
 .subst z;rw[z9]at i;exact h p u (Option.some.inj i)
 .rw[y3 z]at i;exact pl b p u i
end
section
variable {X:Cx}{value o:Expr}{pos pos':Pos}{f:Str}
end
end
section
section
variable {X:Cx}{value e o:Expr}{pos pos' apos cpos:Pos}{f:Str}{st:Stmt}{rest:List Stmt}
noncomputable def yu5 (m:ML):Ro->Bx->Option (List D):=fun ρ β=>(m (thaw ρ β)).bind fun ds=>if ds.all isSc=true then some ds else none
theorem zb9 {K:W.Frag}{F G:Hp}:∀{vs:List V}{ds:List D},ds.all isSc=true->Reps K F vs ds->Reps K G vs ds
 |_,_,_,.nil=>.nil
 |_,_,h,.cons r rr=>by
  rw[all_cons,Bool.and_eq_true]at h
  exact .cons (yf7 h.1 r) (zb9 h.2 rr)
end
end
section
theorem Rl.forget {K:W.Frag}{F0 H0 F H:Hp}{σ:St}{ρ:Ro}(r:Rl K F0 H0 F H σ ρ)(i:Nat):Rl K F0 H0 F H σ (ρ.set i none):=by
 have G:∀(j:Nat) x,(ρ.set i none)[j]? =some (some x)->ρ[j]? =some (some x):=fun j x e=>by
  by_cases L:i=j
  .subst L
   rcases Nat.lt_or_ge i ρ.length with z|z
   .rw[getElem?_set_self z]at e;cases e
   .rw[getElem?_eq_none (by simpa using z)]at e;cases e
  .rw[getElem?_set_ne L]at e;exact e
 exact⟨r.ext,by simp[r.len],fun j d e=>r.sh j d (G j _ e),fun j ds e=>r.own j ds (G j _ e),fun j k p ds es I e1 e2=>r.inj j k p ds es I (G j _ e1) (G k _ e2),fun j p ds e=>r.ob j p ds (G j _ e),fun j k p ds es e1 e2=>r.obn j k p ds es (G j _ e1) (G k _ e2),fun j k p q ds es e1 e2=>r.ob1 j k p q ds es (G j _ e1) (G k _ e2),fun j q ds e=>r.rd j q ds (G j _ e)⟩
open Classical in
noncomputable def anyN {α:Type}(β:Bx)(f:Addr->Option α):Option α:=if h:∃ r,∀ x,x∉β.map Prod.fst->f x=some r then some (Classical.choose h)else none
theorem yp5 {α:Type}{β:Bx}{f:Addr->Option α}{r:α}(h:anyN β f=some r):∀ x,x∉β.map Prod.fst->f x=some r:=by
 unfold anyN at h
 split at h
 .rename_i hx
  cases h
  exact Classical.choose_spec hx
 .cases h
theorem zd0 (l:List Addr):∃ x,x∉l:=by
 have z:∀ l:List Addr,∃ b,∀ a∈l,a<b:=by
  intro l
  induction l with
  |nil=>exact⟨0,fun a h=>by cases h⟩
  |cons a l G=>
   obtain⟨b,j⟩:=G
   refine⟨max b (a+1),fun c i=>?_⟩
   rcases List.mem_cons.mp i with rfl|i
   .have:=Nat.le_max_right b (c+1);exact Nat.lt_of_lt_of_le (Nat.lt_succ_self c) this
   .exact Nat.lt_of_lt_of_le (j c i) (Nat.le_max_left _ _)
 obtain⟨b,j⟩:=z l
 exact⟨b,fun h=>Nat.lt_irrefl _ (j b h)⟩
theorem yp6 {α:Type}{β:Bx}{f:Addr->Option α}{r:α}(h:∀ x,x∉β.map Prod.fst->f x=some r):anyN β f=some r:=by
 unfold anyN
 have i:∃ r,∀ x,x∉β.map Prod.fst->f x=some r:=⟨r,h⟩
 rw[dif_pos i]
 obtain⟨x,hn⟩:=zd0 (β.map Prod.fst)
 have:=Classical.choose_spec i x hn
 rw[h x hn]at this
 exact this.symm
noncomputable def letGo (i:Nat)(k:Nat):Out×Bx->Out×Bx
 | (.nx ρ,β)=>(.nx (ρ.set i none),β.drop (β.length-k))
 | (.bk ρ,β)=>(.bk (ρ.set i none),β.drop (β.length-k))
 | (.ct ρ,β)=>(.ct (ρ.set i none),β.drop (β.length-k))
 | (o,β)=>(o,β.drop (β.length-k))
theorem okW.letGo {K:W.Frag}{F0 H0 G:Hp}{Dn:Ends}{i k:Nat}:∀{o:Out}{β:Bx},okW K F0 H0 G Dn (letGo i k (o,β)).1 (letGo i k (o,β)).2->okW K F0 H0 G Dn o β
 | .nx ρ,β,h=>fun F H σ ⟨B,fp,rl,ok⟩ s=>let ⟨fq,z⟩:=ok.drop (β.length-k);h F H σ ⟨B,fq,rl.forget i,z⟩ s
 | .bk ρ,β,h=>fun F H σ ⟨B,fp,rl,ok⟩ s=>let ⟨fq,z⟩:=ok.drop (β.length-k);h F H σ ⟨B,fq,rl.forget i,z⟩ s
 | .ct ρ,β,h=>fun F H σ ⟨B,fp,rl,ok⟩ s=>let ⟨fq,z⟩:=ok.drop (β.length-k);h F H σ ⟨B,fq,rl.forget i,z⟩ s
 | .rt d,β,h=>fun v F H B fp x ok r=>let ⟨fq,z⟩:=ok.drop (β.length-k);h v F H B fq x z r
 | .rf ds,β,h=>fun p xs F H B fp x ok a b c r=>let ⟨fq,z⟩:=ok.drop (β.length-k);h p xs F H B fq x z a b c r
 | .rg d p r,β,h=>fun v F H xs B fp x ok a j b c e=>let ⟨fq,z⟩:=ok.drop (β.length-k);h v F H xs B fq x z a j b c e
 | .rp _ _,_,h=>h
 | .rgf _ _ _,_,h=>h
section
variable {X:Cx}{e:Expr}{es:List Expr}{st:Stmt}{rest:List Stmt}{E:XK}{mf:MFW}{m:ML}
theorem BxR.keys {K:W.Frag}{F B:Hp}:∀{fp:List Addr}{β:Bx},BxR K F B fp β->∀ p∈β.map Prod.fst,B p≠none
 |_,_,.nil,p,h=>by cases h
 |_,_,.cons (p:=q) c r,p,h=>by
  rw[map_cons]at h
  rcases List.mem_cons.mp h with z|z
  .subst z
   cases c with
   |ins _ _ b _ _=>rw[b];simp
   |row b _=>rw[b];simp
   |tb _ b _ _=>rw[b];simp
  .exact r.keys p z
end
noncomputable def plainW (mf:MFW):MF:=fun ds=>match mf ds []with |some (.sh d,_)=>some (.sh d)|some (.fr es,_)=>some (.fr es)|_=>none
theorem Ext.unjn {F H B F' H':Hp}(d:∀ a,B a≠none->H a=none)(x:Ext F (jn H B) F' H'):Ext F H F' H':=
 ⟨x.ff,fun a o e=>x.hh a o (by
  cases q:B a with
  |none=>rw[W7 q];exact e
  |some u=>rw[d a (by rw[q];simp)]at e;cases e),x.fh,fun b e n=>(Z2 (x.new b e n)).2,x.nf⟩
theorem FnOk.plainW {P:Program}{w:World}{K:W.Frag}{mg:Str->Option Value}{base:Heap}{CX:CXT}{k:Nat}{f:Addr}{fd:FuncData}{ps:List Str}{n:Nat}{mf:MFW}(G:FnOk P w K mg base CX k f fd ps (spW K n mf)):FnOk P w K mg base CX k f fd ps (spR K n (plainW mf)):=G.imp fun vs H Q E j=>by
 obtain⟨S,F,ds,r,I,L,e,ok⟩:=j
 have M:cut H (fun _=>none)=H:=funext fun a=>yr1 rfl
 have N:BxOk K F (cut H fun _=>none) F (fun _=>none) [] []:=⟨fun a h=>absurd rfl h,.nil,nodup_nil,fun a o u h=>by cases h⟩
 refine⟨S,F,fun _=>none,[],ds,[],?_⟩
 unfold L2.plainW at e
 split at e
 .rename_i d β h1
  cases e
  refine⟨_,_,I,fun a o h=>(by cases h),N,L,h1,fun v F' H' B' z x i r=>?_⟩
  rw[M]at x i
  exact ok v F' H' (x.unjn fun a h=>(i.out a h).1) r
 .rename_i es β h1
  cases e
  refine⟨_,_,I,fun a o h=>(by cases h),N,L,h1,fun p xs F' H' B' z x i O Z Y U=>?_⟩
  rw[M]at x i O
  exact ok p xs F' H' (x.unjn fun a h=>(i.out a h).1) (Z2 O).2 Z Y U
 .cases e
end
section
noncomputable def insB (B H:Hp)(L:List Addr):Hp:=fun a=>if a∈L then H a else B a
theorem zx2 {B H:Hp}{L:List Addr}{a:Addr}(h:a∈L):insB B H L a=H a:=by unfold insB;rw[if_pos h]
theorem K8 {B H:Hp}{L:List Addr}{a:Addr}(h:a∉L):insB B H L a=B a:=by unfold insB;rw[if_neg h]
section
variable {K:W.Frag}{F0 H0 F H B:Hp}{σ:St}{ρ:Ro}{β:Bx}{fp:List Addr}
theorem Rl.takeBs {L:List Addr}(rl:Rl K F0 (jn H0 B) F H σ ρ)(O:∀ q∈L,H q≠none)(S:∀ q∈L,F q=none)(N:∀ q∈L,jn H0 B q=none)(hn:∀ q∈L,∀(i:Nat) ds,ρ[i]? =some (some (.own ds))->σ[i]? ≠some (some (.ref q)))(M:∀ q∈L,∀(i:Nat) p ds,ρ[i]? =some (some (.ob p ds))->p≠q):Rl K F0 (jn H0 (insB B H L)) F H σ ρ:=by
 have j:∀ b,b∉L->jn H0 (insB B H L) b=jn H0 B b:=fun b M=>by unfold jn;rw[K8 M]
 refine⟨⟨rl.ext.ff,fun b u e=>?_,rl.ext.fh,fun b e n=>?_,rl.ext.nf⟩,rl.len,rl.sh,fun i ds e=>?_,rl.inj,fun i p ds e=>?_,rl.obn,rl.ob1,fun i G ds e=>by
  obtain⟨a,b,ns,e1,z⟩:=rl.rd i G ds e
  have ne:G∉L:=fun w=>by
   have I:=N G w
   rcases z with z|⟨o,z⟩ <;> (rw[I]at z;cases z)
  refine⟨a,b,ns,e1,?_⟩
  unfold Rd at z ⊢
  rw[j G ne];exact z⟩
 .by_cases hq:b∈L
  .have:=O b hq
   unfold jn at e
   rw[zx2 hq]at e
   cases z:H b with
   |none=>exact absurd z this
   |some o=>rw[z]at e;exact e
  .rw[j b hq]at e;exact rl.ext.hh b u e
 .have hq:b∉L:=fun z=>n (S b z)
  rw[j b hq];exact rl.ext.new b e n
 .obtain⟨p,xs,a1,a2,a3,a4,a5⟩:=rl.own i ds e
  exact⟨p,xs,a1,a2,a3,a4,by rw[j p (fun z=>hn p z i ds e a1)];exact a5⟩
 .obtain⟨a1,a2,a3,xs,a4,a5⟩:=rl.ob i p ds e
  exact⟨a1,a2,by rw[j p (fun z=>M p z i p ds e rfl)];exact a3,xs,a4,a5⟩
theorem zh4 {B':Hp}:∀{qs:List Addr}{dss:List (List D)},RPs K F H qs dss->(∀ q∈qs,B' q=H q)->FlR K F B' qs (qs.map V.ref) (dss.map .l)
 |_,_,.nil,_=>.nil
 |_,_,.cons h r t,k=>.l (by rw[k _ (by simp)];exact h) r (zh4 t fun q hq=>k q (mem_cons_of_mem _ hq))
theorem RlW.pots {F' H':Hp}{p:Addr}{qs:List Addr}{dss:List (List D)}(rl:Rl K F0 (jn H0 B) F H σ ρ)(ok:BxOk K F0 H0 F B fp β)(x:Ext F H F' H')(P:Pots K H F' H' p qs dss):RlW K F0 H0 F' H' σ ρ ((p,.row (dss.map .l))::β)/\B p=none:=by
 have new:∀ q∈p::qs,H q=none/\F' q=none/\H' q≠none:=fun q hq=>by
  rcases List.mem_cons.mp hq with e|hq
  .subst e;exact⟨P.hp,P.fp,by rw[P.at'];simp⟩
  .obtain⟨o,ho⟩:=P.rep.some q hq
   exact⟨(P.new q hq).1,(P.new q hq).2,by rw[ho];simp⟩
 have I:∀ q∈p::qs,jn H0 B q=none:=fun q hq=>rl.ext.hh.free (new q hq).1
 have hB:∀ q∈p::qs,B q=none:=fun q hq=>(Z2 (I q hq)).1
 have G:=(rl.go x).takeBs (L:=p::qs) (fun q hq=>(new q hq).2.2) (fun q hq=>(new q hq).2.1) I (fun q hq i ds e z=>by
  obtain⟨p',xs,S,_,O,_⟩:=rl.own i ds e
  rw[z]at S;cases S
  rw[(new q hq).1]at O;cases O) (fun q hq i p' ds e z=>by
  obtain⟨_,_,_,xs,N,_⟩:=rl.ob i p' ds e
  rw[z,(new q hq).1]at N;cases N)
 have j:∀ a∈fp,a∉p::qs:=fun a ha z=>ok.bx.mem a ha (hB a z)
 refine⟨⟨insB B H' (p::qs),(p::qs)++fp,G,fun a h=>?_,.cons (.row (by rw[zx2 (by simp)];exact P.at') (zh4 P.rep fun q hq=>zx2 (mem_cons_of_mem _ hq))) (ok.bx.mono x.ff fun a ha=>K8 (j a ha)),List.nodup_append.mpr ⟨P.nd,ok.nd,fun a h1 b h2 z=>by subst z;exact j a h2 h1⟩,fun a o u h=>?_⟩,hB p (by simp)⟩
 .by_cases hq:a∈p::qs
  .exact⟨(Z2 (I a hq)).2,rl.ext.ff.free (rl.fh.free (new a hq).1)⟩
  .rw[K8 hq]at h;exact ok.out a h
 .by_cases hq:a∈p::qs
  .rw[zx2 hq]at h
   rcases List.mem_cons.mp hq with e|hq
   .subst e;rw[P.at']at h;cases h
   .obtain⟨i,hi,hiq⟩:=getElem_of_mem hq
    have Y:=P.rep
    have:∃ xs,H' a=some (.lst xs):=by
     clear h
     have M:∀{qs:List Addr}{dss:List (List D)},RPs K F' H' qs dss->a∈qs->∃ xs,H' a=some (.lst xs):=by
      intro qs dss r
      induction r with
      |nil=>intro h;cases h
      |cons h1 _ _ U=>
       intro h
       rcases List.mem_cons.mp h with e|h
       .subst e;exact⟨_,h1⟩
       .exact U h
     exact M Y hq
    obtain⟨xs,e⟩:=this
    rw[e]at h;cases h
  .rw[K8 hq]at h;exact ok.plain a o u h
theorem FlR.at' {n:Nat}{ds:List D}:∀{n:Nat}{fp:List Addr}{xs:List V}{fs:List Fl},FlR K F B fp xs fs->fp.Nodup->fs[n]? =some (.l ds)->∃ q ys,xs[n]? =some (.ref q)/\q∈fp/\B q=some (.lst ys)/\Reps K F ys ds/\
  ∀(B' F':Hp) i j,Same F F'->B' q=some (.lst i)->Reps K F' i j->(∀ a∈fp,a≠q->B' a=B a)->FlR K F' B' fp xs (fs.set n (.l j))
 |_,_,_,_,.nil,_,e=>by simp at e
 |0,_,_,_,.v _ _,_,e=>by simp at e
 |n+1,_,_,_,.v r t,nd,e=>by
  obtain⟨q,ys,Y,N,U,S,O⟩:=FlR.at' (n:=n) t nd (by simpa using e)
  exact⟨q,ys,by simpa using Y,N,U,S,fun B' F' i j G M L I=>.v (r.mono G) (O B' F' i j G M L I)⟩
 |0,_,_,_,.l (fp:=fp) (q:=q) b r t,nd,e=>by
  simp at e
  subst e
  have hn:=List.nodup_cons.mp nd
  exact⟨q,_,rfl,by simp,b,r,fun B' F' i j G M L I=>.l M L (t.mono G fun a ha=>I a (by simp[ha]) fun z=>hn.1 (z ▸ ha))⟩
 |n+1,_,_,_,.l (fp:=fp) (q:=q0) b r t,nd,e=>by
  have hn:=List.nodup_cons.mp nd
  obtain⟨q,ys,Y,N,U,S,O⟩:=FlR.at' (n:=n) t hn.2 (by simpa using e)
  exact⟨q,ys,by simpa using Y,by simp[N],U,S,fun B' F' i j G M L I=>.l (by rw[I q0 (by simp) fun z=>hn.1 (z ▸ N)];exact b) (r.mono G) (O B' F' i j G M L fun a ha hq=>I a (by simp[ha]) hq)⟩
end
noncomputable def ze0 (i:Nat)(mp:MP)(rest:MW):MW:=fun ρ β=>(mp ρ).bind fun dss=>anyN β fun x=>(rest (ρ.set i (some (.sh (.ptr x)))) ((x,.row (dss.map .l))::β)).map (letGo i β.length)
section
variable {X:Cx}{a b c e:Expr}{pos:Pos}{st:Stmt}{rest:List Stmt}{E:XK}{es:List Expr}{mf:MFW}{m:ML}
theorem zv9 {i:Nat}{src:List (Option Nat)}{mi:ML}{g:Tg}{elt:ML}{G:MW}(U:PS X st (tAsg (zq4 src (TId X.K mi) (TGd X.K g) (TC X.K cyes) (TF X.K elt)) (K2 i)))(S:PSsw X rest G):PSsw X (st::rest) (ze0 i (M9 src mi g elt) G):=PSs.imp (zz2 U S) fun Dn σ H ⟨F0,H0,F,ρ,β,o,β',⟨B,fp,rl,ok⟩,e,k⟩=>by
 unfold ze0 at e
 cases h1:M9 src mi g elt ρ with
 |none=>rw[h1]at e;cases e
 |some dss=>
  rw[h1,Option.bind_some]at e
  show zq4 src (TId X.K mi) (TGd X.K g) (TC X.K cyes) (TF X.K elt) σ H (fun v H'=>TSw X.K G Dn (σ.set i (some v)) H')
  refine xt3 ⟨F0,jn H0 B,F,ρ,dss,rl,h1,fun p qs F' H' x P=>?_⟩
  obtain⟨⟨Y,N,I,L⟩,M⟩:=RlW.pots rl ok x P
  have e:=yp5 e p fun z=>ok.bx.keys p z M
  show TSw X.K G Dn (σ.set i (some (.ref p))) H'
  cases h3:G (ρ.set i (some (.sh (.ptr p)))) ((p,.row (dss.map .l))::β)with
  |none=>rw[h3]at e;cases e
  |some ob=>
   obtain⟨O,j⟩:=ob
   rw[h3]at e
   have e:some (letGo i β.length (O,j))=some (o,β'):=e
   have e:=Option.some.inj e
   refine⟨F0,H0,F',_,_,O,j,⟨Y,N,I.set (.ptr p),L⟩,h3,okW.letGo (i:=i) (k:=β.length) ?_⟩
   rw[e]
   exact k.mono x.ff
noncomputable def setR (a b:Int)(d:D)(fs:List Fl):Option (List Fl):=match ixN fs.length a with
 |some n=>(match fs[n]? with
  |some (.l ds)=>(match ixN ds.length b with |some m=>some (fs.set n (.l (ds.set m d)))|none=>none)
  |_=>none)
 |none=>none
noncomputable def zt2 (i:Nat)(k1 k2:ME)(v:Ro->Bx->Option D):MW:=fun ρ β=>match v ρ β,ρ[i]?,k1 ρ,k2 ρ with
 |some d,some (some (.sh (.ptr p))),some (.int a),some (.int b)=>(match β.lookup p with
  |some (.row fs)=>if nrdB ρ=true then (setR a b d fs).map fun fs'=>(.nx ρ,updB p (.row fs') β)else none
  |_=>none)
 |_,_,_,_=>none
theorem K3 {i:Nat}{k1 k2:ME}{mv:Ro->Bx->Option D}(hE:PS X st (tAsg (TDw X.K mv) (gSub (tOp (rIxL X.K) (tVar i) (TD X.K k1)) (TD X.K k2) xz1))):PSw X st (zt2 i k1 k2 mv):=PS.imp hE fun Dn σ H M=>by
 obtain⟨F0,H0,F,ρ,β,o,β',U,e,k⟩:=M
 unfold zt2 at e
 split at e
 .rename_i d p a b h1 hp hk1 hk2
  split at e
  .rename_i fs hb
   split at e
   rotate_left
   .cases e
   rename_i a8
   cases h2:setR a b d fs with
   |none=>rw[h2]at e;cases e
   |some fs'=>
    rw[h2]at e;cases e
    unfold setR at h2
    split at h2
    .rename_i n hn
     split at h2
     .rename_i ds hfs
      split at h2
      .rename_i m hm
       cases h2
       refine⟨F0,H0,F,ρ,β,d,U,h1,fun v F1 H1 r1 s1 _ rp=>?_⟩
       obtain⟨B,fp,rl,ok⟩:=r1
       obtain⟨w,a0,S⟩:=rl.sh i _ hp
       cases S
       obtain⟨fq,hc,nq,ad,up⟩:=ok.bx.upd ok.nd hb
       cases hc with
       |@row fq0 _ xs _ b0 fl=>
        have L:=List.nodup_cons.mp nq
        obtain⟨q,ys,a1,a2,a3,a4,a5⟩:=FlR.at' (n:=n) fl L.2 hfs
        refine⟨_,a0,F0,jn H0 B,F1,ρ,_,rl,hk1,fun w2 F2 H2 O r2=>?_⟩
        cases r2
        have aa:atI xs a=some (.ref q):=by
         unfold atI
         rw[fl.length,hn]
         exact a1
        refine⟨p,xs,a,.ref q,rfl,rfl,SqL.of (O.hh _ _ (rl.ext.hh _ _ (e9 b0))),aa,F0,jn H0 B,F2,ρ,_,rl.go O,hk2,fun w3 N H3 x3 r3=>?_⟩
        cases r3
        have I:=(rl.go O).go x3
        refine⟨q,ys,b,m,rfl,rfl,I.ext.hh _ _ (e9 a3),by rw[a4.length];exact hm,?_⟩
        obtain⟨Y,_,a7,a6⟩:=I.putB (a:=q) (o:=.lst (ys.set m v)) ok.out (.inl (by rw[a3];simp)) (ye7 a8)
        have pq:p≠q:=fun z=>L.1 (z ▸ a2)
        have j:Same F1 N:=O.ff.trans x3.ff
        have G:CellR X.K N (upd B q (.lst (ys.set m v))) (p::fq0) p (.row (fs.set n (.l (ds.set m d)))):=.row (by rw[y3 pq];exact b0) (a5 _ N _ _ j z9 ((a4.mono j).set (rp.mono j) m) fun a _ a9=>y3 a9)
        obtain⟨ab,r',Z,ac⟩:=up _ _ _ N j G nq (fun a _ hn=>y3 fun z=>hn (by rw[z];simp[a2])) fun a ha=>.inl ha
        exact k N _ σ ⟨_,ab,Y,yc4 ok.out ⟨a7,a6⟩,r',Z,zc6 ok.plain fun _ _ z=>by cases z⟩ (s1.trans j)
      .cases h2
     .cases h2
    .cases h2
  .cases e
 .cases e
end
end
section
noncomputable def delB (p:Addr):Bx->Bx
 |[]=>[]
 | (q,c)::β=>match p==q with |true=>β|false=>(q,c)::delB p β
noncomputable def flS:Fl->D
 | .v d=>d
 | .l ds=>.lst ds
section
variable {K:W.Frag}{F0 H0 F H B:Hp}{σ:St}{ρ:Ro}{β:Bx}{fp:List Addr}
theorem BxR.take {p:Addr}{c:Cell}:∀{fp:List Addr}{β:Bx},BxR K F B fp β->β.lookup p=some c->∃ fq fr,CellR K F B fq p c/\BxR K F B fr (delB p β)/\(fq++fr).Perm fp
 |_,_,.nil,e=>by cases e
 |_,_,.cons (fp:=f1) (fq:=f2) (p:=q) (c:=c') (β:=β) h t,e=>by
  rw[lookup_cons]at e
  unfold delB
  cases hq:p==q with
  |true=>
   rw[hq]at e
   cases e
   have:p=q:=by simpa using hq
   subst this
   exact⟨f1,f2,h,t,List.Perm.refl _⟩
  |false=>
   rw[hq]at e
   obtain⟨fq,fr,z,j,i⟩:=BxR.take t e
   refine⟨fq,f1++fr,z,.cons h j,?_⟩
   rw[<-append_assoc]
   refine(List.Perm.append_right fr perm_append_comm).trans ?_
   rw[append_assoc]
   exact List.Perm.append_left f1 i
theorem FlR.shared {F':Hp}{fq:List Addr}{xs:List V}{fs:List Fl}(h:FlR K F B fq xs fs)(s:Same F F')(k:∀ a∈fq,F' a=B a):Reps K F' xs (fs.map flS):=by
 induction h with
 |nil=>exact .nil
 |v r _ i=>exact .cons (r.mono s) (i k)
 |l b r _ i=>exact .cons (.lst (SqL.of (by rw[k _ (by simp)];exact b)) (r.mono s)) (i fun a ha=>k a (mem_cons_of_mem _ ha))
theorem FlR.memL {fq:List Addr}{xs:List V}{fs:List Fl}(h:FlR K F B fq xs fs):∀ a∈fq,∃ ys,B a=some (.lst ys):=by
 induction h with
 |nil=>intro a ha;cases ha
 |v _ _ i=>exact i
 |l b _ _ i=>
  intro a ha
  rcases List.mem_cons.mp ha with rfl|ha
  .exact⟨_,b⟩
  .exact i a ha
theorem yn3 {σ:St}{i:Nat}{x:Option V}(h:σ[i]? =some x):σ.set i x=σ:=by
 apply ext_getElem?
 intro j
 by_cases z:i=j
 .subst z
  rw[getElem?_set_self (List.getElem?_eq_some_iff.mp h).1,h]
 .rw[getElem?_set_ne z]
theorem RlW.freezeR {i:Nat}{p:Addr}{fs:List Fl}(r:RlW K F0 H0 F H σ ρ β)(hi:ρ[i]? =some (some (.sh (.ptr p))))(S:β.lookup p=some (.row fs))(O:nrdR ρ):∃ F',Same F F'/\RlW K F0 H0 F' H σ (ρ.set i (some (.sh (.lst (fs.map flS))))) (delB p β):=by
 obtain⟨B,fp,rl,ok⟩:=r
 obtain⟨fq,fr,hc,G,I⟩:=ok.bx.take S
 cases hc with
 |@row fq0 _ xs _ b0 fl=>
  have at':∀ a∈p::fq0,∃ ys,B a=some (.lst ys):=fun a ha=>by
   rcases List.mem_cons.mp ha with rfl|ha
   .exact⟨_,b0⟩
   .exact fl.memL a ha
  have nb:∀ a∈p::fq0,B a≠none:=fun a ha=>by obtain⟨ys,e⟩:=at' a ha;rw[e];simp
  have N:∀ a∈p::fq0,F a=none:=fun a ha=>by
   cases hF:F a with
   |none=>rfl
   |some o=>
    have h1:=rl.ext.new a (ok.out a (nb a ha)).2 (by rw[hF];simp)
    exact absurd (Z2 h1).1 (nb a ha)
  have nd:(p::fq0++fr).Nodup:=(I.nodup_iff).mpr ok.nd
  have U:∀ a∈fr,a∉p::fq0:=fun a ha S=>(List.nodup_append.mp nd).2.2 a S a ha rfl
  refine⟨fun a=>if a∈p::fq0 then B a else F a,fun a o e=>?_,fun a=>if a∈p::fq0 then none else B a,fr,?_,?_⟩
  .have:a∉p::fq0:=fun z=>by rw[N a z]at e;cases e
   show (if a∈p::fq0 then B a else F a)=some o
   rw[if_neg this];exact e
  .have sF:Same F (fun a=>if a∈p::fq0 then B a else F a):=fun a o e=>by
    have:a∉p::fq0:=fun z=>by rw[N a z]at e;cases e
    show (if a∈p::fq0 then B a else F a)=some o
    rw[if_neg this];exact e
   have L:∀ a,a∉p::fq0->jn H0 (fun a=>if a∈p::fq0 then none else B a) a=jn H0 B a:=fun a ha=>by unfold jn;simp only[if_neg ha]
   have Y:∀ a,a∈p::fq0->jn H0 (fun a=>if a∈p::fq0 then none else B a) a=none:=fun a ha=>by unfold jn;simp only[if_pos ha];exact(ok.out a (nb a ha)).1
   have own:∀ a,jn H0 B a=none->a∉p::fq0:=fun a h z=>nb a z (Z2 h).1
   have M:Rl K F0 (jn H0 (fun a=>if a∈p::fq0 then none else B a)) (fun a=>if a∈p::fq0 then B a else F a) H σ ρ:=by
    refine⟨⟨rl.ext.ff.trans sF,fun b u e=>?_,fun b u e=>?_,fun b e n=>?_,fun b o u e=>?_⟩,rl.len,fun j d e=>?_,fun j ds e=>?_,rl.inj,fun j q ds e=>?_,rl.obn,rl.ob1,fun j q ds e=>(O j q ds e).elim⟩
    .by_cases z:b∈p::fq0
     .rw[Y b z]at e;cases e
     .rw[L b z]at e;exact rl.ext.hh b u e
    .by_cases z:b∈p::fq0
     .have e:B b=some u:=by
       have e:(if b∈p::fq0 then B b else F b)=some u:=e
       rw[if_pos z]at e;exact e
      exact rl.ext.hh b u (e9 e)
     .have e:F b=some u:=by
       have e:(if b∈p::fq0 then B b else F b)=some u:=e
       rw[if_neg z]at e;exact e
      exact rl.fh b u e
    .by_cases z:b∈p::fq0
     .exact Y b z
     .rw[L b z]
      have n:(if b∈p::fq0 then B b else F b)≠none:=n
      rw[if_neg z]at n
      exact rl.ext.new b e n
    .by_cases z:b∈p::fq0
     .have e:(if b∈p::fq0 then B b else F b)=some (.frz o u):=e
      rw[if_pos z]at e
      exact absurd e (ok.plain b o u)
     .have e:(if b∈p::fq0 then B b else F b)=some (.frz o u):=e
      rw[if_neg z]at e
      exact rl.ext.nf b o u e
    .obtain⟨v,a1,a2⟩:=rl.sh j d e
     exact⟨v,a1,a2.mono sF⟩
    .obtain⟨q,ys,a1,a2,a3,a4,a5⟩:=rl.own j ds e
     have z:=own q a5
     exact⟨q,ys,a1,by show (if q∈p::fq0 then B q else F q)=none;rw[if_neg z];exact a2,a3,a4.mono sF,by rw[L q z];exact a5⟩
    .obtain⟨a1,a2,a3,ys,a4,a5⟩:=rl.ob j q ds e
     have z:=own q a3
     exact⟨a1,by show (if q∈p::fq0 then B q else F q)=none;rw[if_neg z];exact a2,by rw[L q z];exact a3,ys,a4,a5.mono sF⟩
   obtain⟨v,hv,Z⟩:=rl.sh i _ hi
   cases Z
   have:=M.set (i:=i) (v:=.ref p) (d:=.lst (fs.map flS)) (.lst (SqL.of (by show (if p∈p::fq0 then B p else F p)=_;rw[if_pos (by simp)];exact b0)) (fl.shared sF fun a ha=>by show (if a∈p::fq0 then B a else F a)=_;rw[if_pos (mem_cons_of_mem _ ha)]))
   rw[yn3 hv]at this
   exact this
  .have sF:Same F (fun a=>if a∈p::fq0 then B a else F a):=fun a o e=>by
    have:a∉p::fq0:=fun z=>by rw[N a z]at e;cases e
    show (if a∈p::fq0 then B a else F a)=some o
    rw[if_neg this];exact e
   refine⟨fun a h=>?_,G.mono sF fun a ha=>?_,(List.nodup_append.mp nd).2.1,fun a o u e=>?_⟩
   .have h:(if a∈p::fq0 then none else B a)≠none:=h
    by_cases z:a∈p::fq0
    .rw[if_pos z]at h;exact absurd rfl h
    .rw[if_neg z]at h;exact ok.out a h
   .show (if a∈p::fq0 then none else B a)=B a
    rw[if_neg (U a ha)]
   .have e:(if a∈p::fq0 then none else B a)=some (.frz o u):=e
    by_cases z:a∈p::fq0
    .rw[if_pos z]at e;cases e
    .rw[if_neg z]at e;exact ok.plain a o u e
end
noncomputable def P7 (i:Nat)(m:MW):MW:=fun ρ β=>match ρ[i]? with
 |some (some (.sh (.ptr p)))=>(match β.lookup p with |some (.row fs)=>if nrdB ρ=true then m (ρ.set i (some (.sh (.lst (fs.map flS))))) (delB p β)else none|_=>none)
 |_=>none
theorem M5 {X:Cx}{j:List Stmt}{m:MW}(i:Nat)(h:PSsw X j m):PSsw X j (P7 i m):=PSs.imp h fun D σ H z=>by
 obtain⟨F0,H0,F,ρ,β,o,β',r,e,ok⟩:=z
 unfold P7 at e
 split at e
 .rename_i p h1
  split at e
  .rename_i fs h2
   split at e
   rotate_left
   .cases e
   rename_i G
   obtain⟨F',s,I⟩:=r.freezeR h1 h2 (ye7 G)
   exact⟨F0,H0,F',_,_,o,β',I,e,ok.mono s⟩
  .cases e
 .cases e
end
section
section
variable {K:W.Frag}{F0 J F H:Hp}{σ:St}{ρ:Ro}
theorem Rl.share {q:Addr}{ys:List V}(rl:Rl K F0 J F H σ ρ)(I:H q=some (.lst ys))(L:F q=none)(G:J q=none)(hn:∀(i:Nat) ds,ρ[i]? =some (some (.own ds))->σ[i]? ≠some (some (.ref q)))(j:∀(i:Nat) p ds,ρ[i]? =some (some (.ob p ds))->p≠q):Rl K F0 J (upd F q (.lst ys)) H σ ρ:=by
 have s:Same F (upd F q (.lst ys)):=(Same.refl F).put L
 refine⟨⟨rl.ext.ff.trans s,rl.ext.hh,fun b u e=>?_,fun b e n=>?_,fun b o u e=>?_⟩,rl.len,fun i d e=>?_,fun i ds e=>?_,rl.inj,fun i p ds e=>?_,rl.obn,rl.ob1,rl.rd⟩
 .by_cases z:b=q
  .subst z;rw[z9]at e;cases e;exact I
  .rw[y3 z]at e;exact rl.fh b u e
 .by_cases z:b=q
  .subst z;exact G
  .rw[y3 z]at n;exact rl.ext.new b e n
 .by_cases z:b=q
  .subst z;rw[z9]at e;cases e
  .rw[y3 z]at e;exact rl.ext.nf b o u e
 .obtain⟨v,a1,a2⟩:=rl.sh i d e
  exact⟨v,a1,a2.mono s⟩
 .obtain⟨p,xs,a1,a2,a3,a4,a5⟩:=rl.own i ds e
  have z:p≠q:=fun w=>hn i ds e (by rw[<-w];exact a1)
  exact⟨p,xs,a1,by rw[y3 z];exact a2,a3,a4.mono s,a5⟩
 .obtain⟨a1,a2,a3,xs,a4,a5⟩:=rl.ob i p ds e
  exact⟨a1,by rw[y3 (j i p ds e)];exact a2,a3,xs,a4,a5.mono s⟩
end
noncomputable def lsW (m:Ro->Bx->Option (List D)):Ro->Bx->Option D:=fun ρ β=>(m ρ β).map D.lst
section
variable {X:Cx}{a b c e e1 e2:Expr}{pos p1 p2:Pos}{st:Stmt}
theorem yy6 {m:ML}(h:PF X e m):PDw X e (lsW (yu5 m)):=PE.imp h fun σ H Q ⟨F0,H0,F,ρ,β,d,⟨B,fp,rl,ok⟩,e,q⟩=>by
 unfold lsW yu5 at e
 cases h1:m (thaw ρ β)with
 |none=>rw[h1]at e;cases e
 |some d'=>
  rw[h1,Option.bind_some]at e
  split at e
  .rename_i hs
   cases e
   obtain⟨N,fb⟩:=RlW.frozen rl ok
   refine⟨_,_,_,_,_,N,h1,fun p xs F' H' x hp S O r=>?_⟩
   have G:=rl.go ⟨Same.refl F,x.hh,rl.fh.trans x.hh,fun b e n=>absurd e n,fun _ _ _ z=>z⟩
   have j:=rl.fh.free hp
   have sh:=G.share O j (rl.ext.hh.free hp) (fun i ds e z=>by
    obtain⟨p',xs,M,_,L,_⟩:=rl.own i ds e
    rw[z]at M;cases M
    rw[hp]at L;cases L) (fun i p' ds e z=>by
    obtain⟨_,_,_,xs,I,_⟩:=rl.ob i p' ds e
    rw[z,hp]at I;cases I)
   have s:Same F (upd F p (.lst xs)):=(Same.refl F).put j
   exact q (.ref p) (upd F p (.lst xs)) H' ⟨B,fp,sh,ok.mono s⟩ s x.hh (.lst (SqL.of z9) (zb9 hs r))
  .cases e
noncomputable def mixR (i:Nat)(k1 k2:ME):Ro->Bx->Option D:=fun ρ β=>match ρ[i]?,k1 ρ,k2 ρ with
 |some (some (.sh (.ptr p))),some (.int a),some (.int b)=>(match β.lookup p with
  |some (.row fs)=>(match ixN fs.length a with
   |some n=>(match fs[n]? with |some (.l ds)=>atI ds b|_=>none)
   |none=>none)
  |_=>none)
 |_,_,_=>none
theorem xg9 {K:W.Frag}{F:Hp}{ys:List V}{ds:List D}{b:Int}{d:D}(r:Reps K F ys ds)(h:atI ds b=some d):∃ v,atI ys b=some v/\Rep K F v d:=by
 unfold atI at h ⊢
 rw[r.length]
 cases hn:ixN ds.length b with
 |none=>rw[hn]at h;cases h
 |some n=>rw[hn]at h;exact r.get h
theorem yy7 {i:Nat}{k1 k2:ME}(h:PE X e (tOp (rIxL X.K) (tOp (rIxL X.K) (tVar i) (TD X.K k1)) (TD X.K k2))):PDw X e (mixR i k1 k2):=PE.imp h fun σ H Q ⟨F0,H0,F,ρ,β,d,⟨B,fp,rl,ok⟩,e,q⟩=>by
 unfold mixR at e
 split at e
 .rename_i p a b hp hk1 hk2
  split at e
  .rename_i fs hb
   split at e
   .rename_i n hn
    split at e
    .rename_i ds hfs
     obtain⟨w,L,G⟩:=rl.sh i _ hp
     cases G
     obtain⟨fq,hc,Y,a0,up⟩:=ok.bx.upd ok.nd hb
     cases hc with
     |@row fq0 _ xs _ b0 fl=>
      have I:=List.nodup_cons.mp Y
      obtain⟨y,ys,a1,a2,a3,a4,a5⟩:=FlR.at' (n:=n) fl I.2 hfs
      refine⟨_,L,F0,jn H0 B,F,ρ,_,rl,hk1,fun w2 F2 H2 z U=>?_⟩
      cases U
      have M:atI xs a=some (.ref y):=by
       unfold atI
       rw[fl.length,hn]
       exact a1
      refine⟨p,xs,a,.ref y,rfl,rfl,SqL.of (z.hh _ _ (rl.ext.hh _ _ (e9 b0))),M,F0,jn H0 B,F2,ρ,_,rl.go z,hk2,fun w3 F3 H3 N S=>?_⟩
      cases S
      have j:=z.trans N
      obtain⟨v,Z,O⟩:=xg9 a4 e
      exact⟨y,ys,b,v,rfl,rfl,SqL.of (j.hh _ _ (rl.ext.hh _ _ (e9 a3))),Z,q v F3 H3 ⟨B,fp,rl.go j,ok.mono j.ff⟩ j.ff j.hh (O.mono j.ff)⟩
    .cases e
   .cases e
  .cases e
 .cases e
noncomputable def yj9 (g:Tg)(m:Ro->Bx->Option D):MW:=fun ρ β=>(m ρ β).bind fun d=>(tgD g d ρ).map fun ρ'=>(.nx ρ',β)
theorem ym4 {g:Tg}{m:Ro->Bx->Option D}(h:PS X st (tAsg (TDw X.K m) (TGd X.K g))):PSw X st (yj9 g m):=PS.imp h fun Dn σ H i=>by
 obtain⟨F0,H0,F,ρ,β,o,β',r,e,k⟩:=i
 unfold yj9 at e
 cases h1:m ρ β with
 |none=>rw[h1]at e;cases e
 |some d=>
  rw[h1,Option.bind_some]at e
  cases h2:tgD g d ρ with
  |none=>rw[h2]at e;cases e
  |some ρ'=>
   rw[h2]at e;cases e
   refine⟨F0,H0,F,ρ,β,d,r,h1,fun v F1 H1 I s1 _ rp=>?_⟩
   obtain⟨B,fp,rl,ok⟩:=I
   exact⟨F0,jn H0 B,F1,ρ,d,ρ',rl,rp,h2,fun F2 H2 j z G=>k F2 H2 j ⟨B,fp,z,ok.mono G.ff⟩ (s1.trans G.ff)⟩
end
end
section
def tOrN (K:W.Frag)(ta tb:TE):TE:=fun σ H Q=>ta σ H fun x H1=>∃ k,TruV K x H1 k/\if k=true then Q x H1 else tb σ H1 Q
section
variable {X:Cx}{a b e:Expr}{pos:Pos}{ta tb:TE}{ma mb:Ro->Bx->Option D}
theorem xn4 {rest:List Expr}(ha:PE X a ta)(M:PE X (.BoolOp .Or (b::rest) pos) tb):PE X (.BoolOp .Or (a::b::rest) pos) (tOrN X.K ta tb):=by
 intro pins s σ H Q I h
 refine BoolOp_or (thn (ha pins s σ H _ I h) fun v s1 i=>?_)
 obtain⟨x,H1,N,j,k,L,z⟩:=i
 refine thn (yf4 pins s1 σ H1 x v (fun c H2=>c=k/\H2=H1) N j ⟨k,L,rfl,rfl⟩) fun c s2 i=>?_
 obtain⟨H2,G,e1,e2⟩:=i
 subst e1 e2
 cases c with
 |false=>exact M pins s2 σ _ Q G z
 |true=>exact⟨x,_,G,j,z⟩
theorem yc7 {K:W.Frag}{F H:Hp}{x:V}{d:D}{k:Bool}(s:Same F H)(r:Rep K F x d)(e:truD d=some k):TruV K x H k:=by
 cases r with
 |non=>cases e;rfl
 |bl=>cases e;rfl
 |int=>cases e;rfl
 |str x=>
  have e:(if x.length<=sizeLine then some ((x.length:Int) != 0)else none)=some k:=e
  split at e
  .rename_i hz
   cases e
   exact⟨hz,rfl⟩
  .cases e
 |lst q i=>cases e;exact .inl ⟨_,s.seq q,W0 i⟩
 |tup q i=>cases e;exact .inr (.inl ⟨_,s.seqT q,W0 i⟩)
 |exc=>cases e
 |ptr=>cases e
 |obj=>cases e
noncomputable def morW (ma mb:Ro->Bx->Option D):Ro->Bx->Option D:=fun ρ β=>(ma ρ β).bind fun d=>(truD d).bind fun k=>if k=true then some d else mb ρ β
theorem xn8 {rest:List Expr}(ha:PDw X a ma)(M:PDw X (.BoolOp .Or (b::rest) pos) mb):PDw X (.BoolOp .Or (a::b::rest) pos) (morW ma mb):=PE.imp (xn4 ha M) fun σ H Q i=>by
 obtain⟨F0,H0,F,ρ,β,g,r,e,q⟩:=i
 unfold morW at e
 cases h1:ma ρ β with
 |none=>rw[h1]at e;cases e
 |some d=>
  rw[h1,Option.bind_some]at e
  cases h2:truD d with
  |none=>rw[h2]at e;cases e
  |some k=>
   rw[h2,Option.bind_some]at e
   refine⟨F0,H0,F,ρ,β,d,r,h1,fun v F1 H1 z s1 G rp=>⟨k,?_,?_⟩⟩
   .obtain⟨B,fp,rl,ok⟩:=z
    exact yc7 rl.fh rp h2
   .cases k with
    |true=>cases e;exact iteT (q v F1 H1 z s1 G rp)
    |false=>exact iteF ⟨F0,H0,F1,ρ,β,g,z,e,fun w F2 H2 L s2 I j=>q w F2 H2 L (s1.trans s2) (G.trans I) j⟩
theorem xy9 {op}(h:PDw X a ma):PDw X (.BoolOp op [a] pos) ma:=ye1 h
noncomputable def zt3 (ma mb:Ro->Bx->Option D):Ro->Bx->Option D:=fun ρ β=>(ma ρ β).bind fun d=>(mb ρ β).bind fun e=>minP [e] d
theorem yk4 {x y:Expr}{p:Pos}(hc:X.calm=true)(hu:X.A.units+64<cLine)(hg:Gl X "min")(hm:X.mg "min"=none)(ha:PDw X x ma)(hb:PDw X y mb)(M:starEach [x,y] X.env=(false,eval x X.env)::starEach [y] X.env:=by rfl)(L:starEach [y] X.env=(false,eval y X.env)::starEach [] X.env:=by rfl)(I:(backTo pos (starEach [y] X.env)).any (·.1)=false:=by rfl):PDw X (.Call (.Name "min" p) [x,y] [] pos) (zt3 ma mb):=
 PE.imp (f6 (A0 hc hu) hg hm PyProof.Rows.boot_min (k4 ha (k4 hb pa_nil L) M) (by decide) (by decide) M I) fun σ H Q i=>by
  obtain⟨F0,H0,F,ρ,β,g,r,e,q⟩:=i
  unfold zt3 at e
  cases h1:ma ρ β with
  |none=>rw[h1]at e;cases e
  |some d=>
   rw[h1,Option.bind_some]at e
   cases h2:mb ρ β with
   |none=>rw[h2]at e;cases e
   |some N=>
    rw[h2,Option.bind_some]at e
    refine⟨F0,H0,F,ρ,β,d,r,h1,fun v F1 H1 Z s1 S rp=>⟨F0,H0,F1,ρ,β,N,Z,h2,fun w F2 H2 Y s2 O G=>?_⟩⟩
    obtain⟨B,fp,rl,ok⟩:=Y
    refine⟨v,w,d,N,g,F2,rfl,rl.fh,.cons (rp.mono s2) (.cons G .nil),e,fun z F3 H3 j U=>?_⟩
    exact q z F3 H3 ⟨B,fp,rl.go j,ok.mono j.ff⟩ ((s1.trans s2).trans j.ff) ((S.trans O).trans j.hh) U
end
end
end L2
set_option maxHeartbeats 4000000
namespace Lw
open List
open PySem L2
abbrev k0a (r:List Int):Option S:=some (.sh (.lst (r.map .int)))
abbrev k0b (k:Nat):Option S:=some (.sh (.int (k:Int)))
abbrev k0c (k:Int):Option S:=some (.sh (.int k))
section
noncomputable section
noncomputable def b_Z8:MS:=(mif (l0 (m2 ltD (mvar 0) (mc (.int 1)))) zi6 U2)
noncomputable def m_Z8:MF:=runB 1 b_Z8
noncomputable def yp1:MS:=(mseq (mapp 2 (mlst (G9 [none,some 1,some 5,some 0] (t4 rng2 (z4 (m2 addD (mvar 4) (mc (.int 1))) (z4 (mlen (bvar 0)) anil))) (.nm 0) (l0 (m2 geD (m2 subD (mix (bvar 3) (mvar 0)) (mvar 2)) (mvar 1))) (mvar 0)))) (mapp 3 (mlst (G9 [none,some 1,some 5,some 0] (t4 rng2 (z4 (m2 addD (mvar 4) (mc (.int 1))) (z4 (mlen (bvar 0)) anil))) (.nm 0) (l0 (m2 geD (m2 subD (mvar 2) (mix (bvar 3) (mvar 0))) (mvar 1))) (mvar 0)))))
noncomputable def yp0:MS:=(W5 3 (W5 2 (mret (mtup (z4 (mvar 2) (z4 (mvar 3) anil))))))
noncomputable def b_Z2:MS:=(mseq (X6 2 (w5 anil)) (mseq (X6 3 (w5 anil)) (mseq (mfor (rde 0) (.tp [4,5]) yp1) yp0)))
noncomputable def m_Z2:MK:=runK 6 b_Z2
noncomputable def xr2:MS:=(zf8 (Z1 [none,some 0] (k0 (mvar 1)) (.nm 0) cyes (msum (Z1 [none,some 1] (k0 (mvar 0)) (.nm 0) cyes (mix (bvar 1) (mvar 0))))))
noncomputable def ze8:MF:=runB 2 xr2
noncomputable def b_Z5:MS:=(mret (mtup (z4 (m1 negD (mlen (bvar 0))) (z4 (mvar 0) anil))))
noncomputable def m_Z5:MF:=runB 1 b_Z5
noncomputable def b_Z3:MS:=(mret (N8 (Z1 [none,some 0] (k0 (mvar 1)) (.nm 0) cyes (mix (bvar 1) (mvar 0))) (mlst (w5 anil))))
noncomputable def m_Z3:MF:=runB 2 b_Z3
noncomputable def b_Z6:MS:=(mseq (masg (.tp [2,3]) (S4 m_Z2 (krd 0 (N9 (mvar 1) knil)))) (mret (mtup (z4 (mtup (z4 (mvar 2) (z4 (mvar 3) anil))) (z4 (mtup (z4 (mvar 3) (z4 (mvar 2) anil))) anil)))))
noncomputable def m_Z6:MK:=runK 4 b_Z6
noncomputable def zm6:MS:=(mseq (mset 7 (zp8 5 (t8 m_Z3 (z4 (mvar 5) (z4 (mix (bvar 2) (mvar 6)) anil))))) (mseq (mif (cor (mtru (mvar 7)) (l0 (m2 (inD false) (mvar 6) (mvar 3)))) (S3 4 (mvar 6) (mlst (mcat (w5 (z4 (mvar 6) anil)) (bvar 7)))) U2) (mseq (mset 7 (zp8 4 (t8 m_Z3 (z4 (mvar 4) (z4 (mix (bvar 1) (mvar 6)) anil))))) (mif (mtru (mvar 7)) (S3 5 (mvar 6) (mlst (mcat (w5 (z4 (mvar 6) anil)) (bvar 7)))) U2))))
noncomputable def yq9:MS:=(W5 4 (mseq (mset 7 (t8 m_Z3 (z4 (mvar 4) (z4 (mvar 3) anil)))) (mret (mite (mtru (mvar 7)) (mlst (mcat (w5 (z4 (mvar 0) anil)) (bvar 7))) (mlst (w5 anil))))))
noncomputable def b_Z4:MS:=(mseq (mset 3 (mix (bvar 1) (mvar 0))) (mseq (X6 4 (mrep (w5 (z4 (mlst (w5 anil)) anil)) (mlen (bvar 1)))) (mseq (X6 5 (mrep (w5 (z4 (mlst (w5 anil)) anil)) (mlen (bvar 1)))) (mseq (mfor (t4 yn9 (z4 (m2 addD (mvar 0) (mc (.int 1))) (z4 (mlen (bvar 1)) anil))) (.nm 6) zm6) yq9))))
noncomputable def m_Z4:MF:=runB 8 b_Z4
noncomputable def b_Z0:MS:=(mseq (zp7 (t8 m_Z8 (z4 (mvar 1) anil))) (mseq (mset 2 (mlst (Q4 [none,none,none,some 0] (C5 (S4 m_Z6 (krd 0 (N9 (mvar 1) knil)))) (.tp [0,1]) (t4 rng1 (z4 (mlen (bvar 3)) anil)) (.nm 2) (t8 m_Z4 (z4 (mvar 2) (z4 (mvar 0) (z4 (mvar 1) anil))))))) (mret (ze2 (fun d=>shOf (m_Z5 [d])) (bvar 2) (mlst (w5 anil))))))
noncomputable def m_Z0:MK:=runK 3 b_Z0
noncomputable def e6:MF:=lsn8 m_Z0
noncomputable def zx8:MS:=(mseq (mapp 5 (msum (Z1 [none,some 4] (k0 (mvar 3)) (.nm 0) cyes (mix (bvar 1) (mvar 0))))) (mset 4 (t8 ze8 (z4 (t8 ze8 (z4 (mvar 4) (z4 (mvar 1) anil))) (z4 (mvar 2) anil)))))
noncomputable def b_Z7:MS:=(mseq (mset 3 (mix (bvar 1) (mvar 0))) (mseq (mset 4 (mlst (Z1 [none,some 3] (t4 rng1 (z4 (mlen (bvar 1)) anil)) (.nm 0) cyes (mite (l0 (m2 (inD false) (mvar 0) (mvar 1))) (mc (.int 1)) (mc (.int 0)))))) (mseq (X6 5 (w5 anil)) (mseq (Y6 (mtru (many (bvar 4))) zx8 1000) (D7 5)))))
noncomputable def m_Z7:MF:=runB 6 b_Z7
noncomputable def zm7:MS:=(zt7 2 (mvar 6) (mvar 7))
noncomputable def zw1:MS:=(mfor (t4 zs8 (z4 (t8 m_Z7 (z4 (mvar 5) (z4 (mvar 3) (z4 (mvar 4) anil)))) anil)) (.tp [6,7]) zm7)
noncomputable def zw0:MS:=(mfor (t4 rng1 (z4 (mlen (bvar 0)) anil)) (.nm 5) zw1)
noncomputable def zx9:MS:=(zf9 2)
noncomputable def yp2:MS:=(mseq (Y6 (l0 (m2 eqSD (mix (bvar 2) (m1 negD (mc (.int 1)))) (mc (.int 0)))) zx9 1000) (D7 2))
noncomputable def b_Z1:MS:=(mseq (zp7 (t8 m_Z8 (z4 (mvar 1) anil))) (mseq (X6 2 (mcat (w5 (z4 (mc (.int 1)) anil)) (mrep (w5 (z4 (mc (.int 0)) anil)) (mlen (bvar 0))))) (mseq (mfor (C5 (S4 m_Z6 (krd 0 (N9 (mvar 1) knil)))) (.tp [3,4]) zw0) yp2)))
noncomputable def m_Z1:MK:=runK 8 b_Z1
noncomputable def c7:MF:=lsn8 m_Z1
noncomputable def xr3:MS:=(mseq (mif (l0 (m2 geD (mvar 0) (m2 powD (mc (.int 10)) (mc (.int 18))))) (mret (m2 modD (m2 shrD (m2 subD (mvar 0) (m2 powD (mc (.int 10)) (mc (.int 18)))) (m2 mulD (mc (.int 28)) (mvar 1))) (m2 powD (mc (.int 2)) (mc (.int 28))))) U2) (mseq (mset 2 (m2 modD (m2 mulD (m2 addD (m2 addD (mvar 0) (m2 mulD (mc (.int 1013)) (mvar 1))) (mc (.int 1))) (mc (.int 16807))) (mc (.int 2147483647)))) (mseq (mset 2 (m2 modD (m2 mulD (mvar 2) (mvar 2)) (mc (.int 2147483629)))) (mret (m2 M1 (m2 modD (m2 mulD (mvar 2) (mc (.int 39373))) (mc (.int 2147483587))) (mc (.int 8)))))))
noncomputable def W6:MF:=runB 3 xr3
noncomputable def xr5:MS:=(zf8 (mcut (mcat (mcut (bvar 0) yk9 (yx7 (mvar 1))) (w5 (z4 (mc (.int 0)) anil))) yk9 (yx7 (c6 xw9 (z4 (mc (.int 1)) (z4 (c6 yj6 (z4 (mvar 1) (z4 (mlen (bvar 0)) anil))) anil))))))
noncomputable def yv7:MF:=runB 2 xr5
noncomputable def zw4:MS:=(mseq (mset 9 (m2 modD (t8 W6 (z4 (mvar 0) (z4 (m2 addD (mc (.int 10)) (mvar 8)) anil))) (mvar 4))) (mseq (mset 7 (m2 subD (m2 addD (mvar 7) (mvar 9)) (m2 M1 (mvar 4) (mc (.int 2))))) (mseq (mset 10 (mlst (w5 (z4 (m2 subD (mvar 9) (m2 M1 (mvar 4) (mc (.int 2)))) (z4 (m2 addD (mvar 8) (m2 M1 (mvar 9) (mc (.int 2)))) (z4 (m2 subD (m2 subD (mc (.int 0)) (mvar 8)) (m2 M1 (mvar 9) (mc (.int 2)))) (z4 (mix (w5 (z4 (mvar 9) (z4 (m2 subD (mc (.int 0)) (mvar 9)) anil))) (m2 modD (mvar 8) (mc (.int 2)))) anil))))))) (mseq (mset 10 (mlst (mcat (bvar 10) (w5 (z4 (m2 addD (mvar 9) (m2 mulD (m2 modD (m2 M1 (mvar 8) (mvar 5)) (mc (.int 2))) (mvar 4))) (z4 (mvar 4) (z4 (m2 addD (m2 mulD (m2 subD (mvar 9) (m2 M1 (mvar 4) (mc (.int 2)))) (m2 powD (mc (.int 10)) (mc (.int 23)))) (m2 modD (t8 W6 (z4 (mvar 0) (z4 (m2 addD (mc (.int 10)) (mvar 8)) anil))) (mc (.int 3)))) anil))))))) (mapp 6 (mix (mcat (bvar 10) (w5 (z4 (mvar 7) anil))) (mvar 3)))))))
noncomputable def xr0:MS:=(mseq (mset 2 (m2 modD (t8 W6 (z4 (mvar 0) (z4 (mc (.int 0)) anil))) (mix (w5 (z4 (mc (.int 4)) (z4 (mc (.int 13)) (z4 (mc (.int 41)) (z4 (m2 addD (mvar 1) (mc (.int 1))) anil))))) (m2 modD (t8 W6 (z4 (mvar 0) (z4 (mc (.int 1)) anil))) (mc (.int 4)))))) (mseq (mset 3 (m2 modD (t8 W6 (z4 (mvar 0) (z4 (mc (.int 2)) anil))) (mc (.int 8)))) (mseq (mset 4 (mix (w5 (z4 (mc (.int 2)) (z4 (mc (.int 5)) (z4 (mc (.int 50)) (z4 (m2 powD (mc (.int 10)) (mc (.int 6))) anil))))) (m2 modD (t8 W6 (z4 (mvar 0) (z4 (mc (.int 3)) anil))) (mc (.int 4))))) (mseq (mset 5 (m2 addD (mc (.int 1)) (m2 modD (t8 W6 (z4 (mvar 0) (z4 (mc (.int 4)) anil))) (mc (.int 9))))) (mseq (X6 6 (w5 anil)) (mseq (mset 7 (mc (.int 0))) (mseq (mfor (t4 rng1 (z4 (c6 yj6 (z4 (mvar 2) (z4 (mvar 1) anil))) anil)) (.nm 8) zw4) (D7 6))))))))
noncomputable def yv4:MF:=runB 11 xr0
noncomputable def yp3:MS:=(mseq (mset 1 (mlst (w5 (z4 (mc (.int 1)) (z4 (m2 addD (mc (.int 1)) (m2 modD (t8 W6 (z4 (mvar 0) (z4 (mc (.int 5)) anil))) (mc (.int 9)))) (z4 (m2 addD (mc (.int 1)) (m2 modD (t8 W6 (z4 (mvar 0) (z4 (mc (.int 6)) anil))) (mc (.int 1000)))) anil)))))) (mret (mix (mcat (bvar 1) (w5 (z4 (m2 addD (mc (.int 1)) (m2 mulD (m2 modD (t8 W6 (z4 (mvar 0) (z4 (mc (.int 6)) anil))) (m2 powD (mc (.int 10)) (mc (.int 6)))) (m2 powD (mc (.int 10)) (mc (.int 23))))) anil))) (m2 modD (t8 W6 (z4 (mvar 0) (z4 (mc (.int 7)) anil))) (mc (.int 4))))))
noncomputable def yi0:MF:=runB 2 yp3
noncomputable def b_Z9:MS:=(mseq (mif (mtru (misi "str" (mvar 1))) (mret (mand (misi "str" (mvar 0)) (m2 eqSD (mvar 0) (mvar 1)))) U2) (mseq (mif (mtru (zy7 "list" "tuple" (mvar 1))) (mseq (mif (cor (l0 (m2 neSD (misi "list" (mvar 0)) (misi "list" (mvar 1)))) (cnot (mtru (zy7 "list" "tuple" (mvar 0))))) (mret (mc (.bl false))) U2) (mseq (mif (l0 (m2 neSD (c6 lenF (z4 (mvar 0) anil)) (c6 lenF (z4 (mvar 1) anil)))) (mret (mc (.bl false))) U2) zi6)) U2) (mret (mand (misi "int" (mvar 0)) (mand (m1 notD (misi "bool" (mvar 0))) (m2 eqSD (mvar 0) (mvar 1)))))))
noncomputable def m_Z9:MF:=runB 2 b_Z9
noncomputable def xr6:MS:=(mseq (mif (mtru (misi "str" (mvar 1))) (mret (mand (misi "str" (mvar 0)) (m2 eqSD (mvar 0) (mvar 1)))) U2) (mseq (mif (mtru (zy7 "list" "tuple" (mvar 1))) (mseq (mif (cor (l0 (m2 neSD (misi "list" (mvar 0)) (misi "list" (mvar 1)))) (cnot (mtru (zy7 "list" "tuple" (mvar 0))))) (mret (mc (.bl false))) U2) (mseq (mif (l0 (m2 neSD (c6 lenF (z4 (mvar 0) anil)) (c6 lenF (z4 (mvar 1) anil)))) (mret (mc (.bl false))) U2) (mret (meqB false (Z1 [none,none] (t4 zip2 (z4 (mvar 0) (z4 (mvar 1) anil))) (.tp [0,1]) (cnot (mtru (t8 m_Z9 (z4 (mvar 0) (z4 (mvar 1) anil))))) (mc (.int 1))) (w5 anil))))) U2) (mret (mand (misi "int" (mvar 0)) (mand (m1 notD (misi "bool" (mvar 0))) (m2 eqSD (mvar 0) (mvar 1)))))))
noncomputable def yv8:MF:=runB 2 xr6
noncomputable def zw5:MS:=(S3 2 (m2 addD (mvar 3) (mc (.int 1))) (m2 addD (mix (bvar 2) (m2 addD (mvar 3) (mc (.int 1)))) (mvar 4)))
noncomputable def xr1:MS:=(mseq (X6 2 (mcat (bvar 0) (mrep (w5 (z4 (mc (.int 0)) anil)) (m2 subD (m2 addD (mlen (bvar 1)) (mc (.int 1))) (mlen (bvar 0)))))) (mseq (mfor (t4 C3 (z4 (mvar 1) anil)) (.tp [3,4]) zw5) (D7 2)))
noncomputable def yv5:MF:=runB 5 xr1
noncomputable def d8:MW:=(D6 (wS (mset 7 (c6 intF (z4 (m2 gtD (mix (bvar 0) (mvar 5)) (mix (bvar 0) (mvar 6))) anil)))) (mifW (yi3 (cand (l0 (m2 geD (c6 absF (z4 (m2 subD (mix (bvar 0) (mvar 5)) (mix (bvar 0) (mvar 6))) anil)) (mvar 1))) (l0 (meqB true (k0 (mix (k0 (mix (bvar 3) (mvar 6))) (m2 subD (mc (.int 1)) (mvar 7)))) (w5 anil))))) (D6 (zt2 3 (mvar 5) (mvar 7) (lsW (yu5 (S5 yv5 (z4 (mix (k0 (mix (bvar 3) (mvar 5))) (mvar 7)) (z4 (mix (k0 (mix (bvar 3) (mvar 6))) (m2 subD (mc (.int 1)) (mvar 7))) anil)))))) (D6 (yj9 (.tp [8,9]) (mixR 4 (mvar 6) (m2 subD (mc (.int 1)) (mvar 7)))) (zt2 4 (mvar 5) (mvar 7) (zt3 (morW (mixR 4 (mvar 5) (mvar 7)) (wE (mtup (z4 (mc (.int 1)) (z4 (mlst (w5 anil)) anil))))) (wE (mtup (z4 (m2 subD (mvar 8) (mc (.int 1))) (z4 (mlst (mcat (bvar 9) (w5 (z4 (mvar 5) anil)))) anil)))))))) (wS U2)))
noncomputable def Y1:MW:=(ze4 (t4 rng2 (z4 (mvar 2) (z4 (mvar 5) anil))) (.nm 6) d8)
noncomputable def O5:MW:=(P7 4 (P7 3 (yj2 (wE (mtup (z4 (mvar 3) (z4 (mvar 4) anil)))))))
noncomputable def Y0:MW:=(D6 (zt2 3 (mvar 2) (mc (.int 0)) (wE (mlst (w5 (z4 (mc (.int 0)) (z4 (mc (.int 1)) anil)))))) (D6 (zt2 4 (mvar 2) (mc (.int 0)) (wE (mtup (z4 (m1 negD (mc (.int 1))) (z4 (mlst (w5 (z4 (mvar 2) anil))) anil))))) (D6 (ze4 (t4 rng2 (z4 (m2 addD (mvar 2) (mc (.int 1))) (z4 (mlen (bvar 0)) anil))) (.nm 5) Y1) O5)))
noncomputable def Z9:MW:=(ze0 4 (M9 [none] (k0 (mvar 0)) (.nm 0) (w5 (z4 (mc .non) (z4 (mc .non) anil)))) Y0)
noncomputable def M2:MW:=(ze0 3 (M9 [none] (k0 (mvar 0)) (.nm 0) (w5 (z4 (mlst (w5 anil)) (z4 (mlst (w5 anil)) anil)))) Z9)
noncomputable def R0:MF:=plainW (runW 10 M2)
noncomputable def O6:MS:=(S3 2 (m2 M1 (mvar 9) (mc (.int 2))) (m2 addD (mix (bvar 2) (m2 M1 (mvar 9) (mc (.int 2)))) (mvar 10)))
noncomputable def J4:MS:=(mif (cand (l0 (meqB true (k0 (mix (k0 (mix (bvar 6) (mvar 8))) (mc (.int 1)))) (w5 anil))) (l0 (m2 geD (m2 subD (mix (bvar 4) (mvar 8)) (mix (bvar 4) (mvar 5))) (mvar 1)))) (mseq (mfor (t4 C3 (z4 (mix (k0 (mix (bvar 6) (mvar 8))) (mc (.int 1))) anil)) (.tp [9,10]) O6) (mset 3 (c6 yv0 (z4 (mvar 3) (z4 (mix (k0 (mix (bvar 7) (mvar 8))) (mc (.int 1))) anil))))) U2)
noncomputable def J3:MS:=(mseq (masg (.tp [6,7]) (t8 R0 (z4 (mvar 4) (z4 (mvar 1) (z4 (mvar 5) anil))))) (mfor (t4 rng2 (z4 (m2 addD (mvar 5) (mc (.int 1))) (z4 (mlen (bvar 0)) anil))) (.nm 8) J4))
noncomputable def zg4:MS:=(mfor (t4 rng1 (z4 (mlen (bvar 0)) anil)) (.nm 5) J3)
noncomputable def J1:MS:=(zf9 2)
noncomputable def zg3:MS:=(W5 2 (mret (mtup (z4 (mvar 2) (z4 (m2 ixTD (mvar 3) (mc (.int 1))) anil)))))
noncomputable def zg2:MS:=(mseq (Y6 (l0 (m2 eqSD (mix (bvar 2) (m1 negD (mc (.int 1)))) (mc (.int 0)))) J1 1000) zg3)
noncomputable def xr4:MS:=(mseq (X6 2 (mcat (w5 (z4 (mc (.int 1)) anil)) (mrep (w5 (z4 (mc (.int 0)) anil)) (mlen (bvar 0))))) (mseq (mset 3 (mtup (z4 (mc (.int 0)) (z4 (mlst (w5 anil)) anil)))) (mseq (mfor (k0 (mlst (w5 (z4 (mvar 0) (z4 (mlst (Z1 [none] (k0 (mvar 0)) (.nm 0) cyes (m2 subD (mc (.int 0)) (mvar 0)))) anil))))) (.nm 4) zg4) zg2)))
noncomputable def yv6:MF:=runB 11 xr4
noncomputable def zw3:MS:=(mseq (X6 9 (S5 e6 (z4 (mvar 7) (z4 (mvar 4) anil)))) (mseq (X6 10 (S5 c7 (z4 (mvar 7) (z4 (mvar 4) anil)))) (mseq (mif (cor (cnot (mtru (ze6 9 (t8 yv8 (z4 (mvar 9) (z4 (mvar 6) anil)))))) (cor (cnot (mtru (ze6 10 (t8 yv8 (z4 (mvar 10) (z4 (mvar 5) anil)))))) (l0 (meqB true (bvar 7) (bvar 3))))) (mret (mc (.bl false))) U2) (mseq (mapp 9 (mc (.int 0))) (mapp 10 (mc (.int 0)))))))
noncomputable def zw2:MS:=(mseq (mset 3 (t8 yv4 (z4 (mvar 2) (z4 (mix (w5 (z4 (mc (.int 16)) (z4 (mc (.int 40)) anil))) (c6 intF (z4 (mand (m2 eqSD (mvar 1) (mc (.int 0))) (m2 eqSD (m2 modD (t8 W6 (z4 (mvar 2) (z4 (mc (.int 320)) anil))) (mc (.int 4))) (mc (.int 0)))) anil))) anil)))) (mseq (mset 4 (t8 yi0 (z4 (mvar 2) anil))) (mseq (masg (.tp [5,6]) (t8 yv6 (z4 (mvar 3) (z4 (mvar 4) anil)))) (mseq (mset 7 (mlst (bvar 3))) (mfor (t4 rng1 (z4 (mc (.int 2)) anil)) (.nm 8) zw3)))))
noncomputable def xs9:MS:=(mseq (mfor (t4 C3 (z4 (t8 yv7 (z4 (mvar 0) (z4 (mc (.int 2)) anil))) anil)) (.tp [1,2]) zw2) (mret (mc (.bl true))))
noncomputable def zo0:MF:=runB 11 xs9
end
end
section
theorem xg0 (i j:Int):eqS (.int i) (.int j)=some (i==j):=rfl
theorem yd7 (i j:Bool):eqS (.bl i) (.bl j)=some (i==j):=rfl
theorem xh5 (i j:Str):eqS (.str i) (.str j)=some (i==j):=rfl
theorem xh6:eqS .non .non=some true:=rfl
theorem xh8 (j:Bool):eqS .non (.bl j)=some false:=rfl
theorem xg1 (j:Bool):eqS (.bl j) .non=some false:=rfl
theorem xh7 (j:Int):eqS .non (.int j)=some false:=rfl
theorem xh9 (j:Int):eqS (.int j) .non=some false:=rfl
local macro_rules|`(tactic|simp_arith [$ls,*])=>`(tactic|simp(config:={decide:=true,implicitDefEqProofs:=false}) only[runB,j1,map_cons,map_nil,length_cons,length_nil,List.replicate,cons_append,nil_append,mvar,bvar,mc,mlst,k0,m2,l0,subD,mulD,M1,modD,powD,shrD,ltD,leD,gtD,geD,eqSD,neSD,xg0,yd7,xh5,xh6,xh8,xg1,xh7,xh9,m1,negD,notD,mand,mtru,truD,cand,cor,cnot,mite,anil,z4,w5,mtup,mlen,mix,yk9,yx7,mcut,mcat,addD,c6,lenF,absF,xw9,yj6,two2,intF,U2,mseq,mif,zi6,mset,X6,zp7,mret,zf8,D7,mapp,S3,W5,masg,t4,zip2,C3,cyes,t8,S5,meqB,misi,tyD,int2,bl2,tgD,P0,Option.bind_some,Option.map_some,Option.bind_none,Option.map_none,getElem?_cons_zero,getElem?_cons_succ,set_cons_zero,set_cons_succ,isEmpty_cons,isEmpty_nil,Bool.not_true,Bool.not_false,$ls,*])
noncomputable def stir (c k:Int):Int:=if 10^18<=c then (c-10^18) / 2^(28*k).toNat % 2^28 else
 (((c+1013*k+1)*16807 % 2147483647)*((c+1013*k+1)*16807 % 2147483647) % 2147483629)*39373 % 2147483587 / 8
theorem Q2 (c k:Int):0<=stir c k:=by
 unfold stir
 split
 .exact Int.emod_nonneg _ (by decide)
 .exact Int.ediv_nonneg (Int.emod_nonneg _ (by decide)) (by decide)
theorem yw4 (i j:Int)(h1:-(2^64)<j)(h2:j<2^64):P6 i j=true:=by
 unfold P6;simp only[h1,h2,decide_true,Bool.and_self,Bool.or_true]
theorem N6 (i j:Int)(h1:-(2^64)<i)(h2:i<2^64):P6 i j=true:=by
 unfold P6;simp only[h1,h2,decide_true,Bool.and_self,Bool.true_or]
theorem t6 (i j:Int)(h:0<j):zy6 i j=true:=by unfold zy6;simp only[h,decide_true]
theorem seqI {x y:MS}{ρ ρ':Ro}{o:Option Out}(h:x ρ=some (.nx ρ'))(h2:y ρ'=o):mseq x y ρ=o:=by
 unfold mseq;rw[h];exact h2
noncomputable def yn1 {α:Type}(I:List α->Ro->Prop)(Q:Out->Prop)(ds:List α):Out->Prop
 | .nx ρ=>I ds ρ| .ct ρ=>I ds ρ| .bk ρ=>Q (.nx ρ)| .rt d=>Q (.rt d)| .rf es=>Q (.rf es)| .rp d es=>Q (.rp d es)| .rg d p r=>Q (.rg d p r)| .rgf d p r=>Q (.rgf d p r)
theorem O0 {α:Type}{g:Tg}{body:MS}{f:α->D}(I:List α->Ro->Prop)(Q:Out->Prop)
  (hs:∀ d ds ρ,I (d::ds) ρ->∃ ρ1 o,tgD g (f d) ρ=some ρ1/\body ρ1=some o/\yn1 I Q ds o) (hd:∀ ρ,I [] ρ->Q (.nx ρ)):
  ∀(ds:List α)(ρ:Ro),I ds ρ->∃ o,forD g body (ds.map f) ρ=some o/\Q o
 |[],ρ,h=>⟨.nx ρ,rfl,hd ρ h⟩
 |d::ds,ρ,h=>by
  obtain⟨ρ1,o,h1,h2,j⟩:=hs d ds ρ h
  rw[map_cons]
  unfold forD
  rw[h1]
  simp only[h2]
  cases o with
  |nx i=>exact O0 I Q hs hd ds i j
  |ct i=>exact O0 I Q hs hd ds i j
  |bk i=>exact⟨_,rfl,j⟩
  |rt d=>exact⟨_,rfl,j⟩
  |rf d=>exact⟨_,rfl,j⟩
  |rp d es=>exact⟨_,rfl,j⟩
  |rg d p r=>exact⟨_,rfl,j⟩
  |rgf d p r=>exact⟨_,rfl,j⟩
theorem X1 {α:Type}{g:Tg}{c:MB}{elt:ME}{f:α->D}{G:α->D}(I:List α->Ro->Prop)
  (hs:∀ d ds ρ,I (d::ds) ρ->∃ ρ1,tgD g (f d) ρ=some ρ1/\c ρ1=some true/\elt ρ1=some (G d)/\I ds ρ1):
  ∀(ds:List α)(ρ:Ro)(acc:List D),I ds ρ->acc.length+ds.length<=sizeLine->X3 g c elt (ds.map f) ρ acc=some (acc++ds.map G)
 |[],ρ,acc,h,hl=>by simp[X3]
 |d::ds,ρ,acc,h,hl=>by
  obtain⟨ρ1,h1,h2,j,i⟩:=hs d ds ρ h
  rw[map_cons]
  unfold X3
  rw[h1]
  simp only[h2,j]
  rw[length_cons]at hl
  rw[if_pos (by omega),X1 I hs ds ρ1 _ i (by simp;omega)]
  simp
noncomputable def cutI {α:Type}(xs:List α)(lo hi:Option Int):List α:=(xs.drop (HT.sIx xs.length 0 lo)).take (HT.sIx xs.length xs.length hi-HT.sIx xs.length 0 lo)
theorem zh6 {α:Type}(f:α->D)(xs:List α)(lo hi:Option Int):cutL (xs.map f) lo hi=(cutI xs lo hi).map f:=by
 unfold cutL cutI;rw[length_map,<-map_drop,<-map_take]
theorem xt2 {α:Type}(xs:List α)(k:Nat):cutI xs none (some (k:Int))=xs.take k:=by
 unfold cutI
 rw[HT.sIx_nat,HT.sIx_none]
 simp
theorem zw6 {α:Type}(f:α->D)(xs:List α)(k:Int)(j:0<=k)(h1:k<xs.length)(dflt:α):atI (xs.map f) k=some (f (xs.getD k.toNat dflt)):=by
 unfold atI ixN
 rw[length_map,if_pos j,if_pos h1]
 have i:k.toNat<xs.length:=by omega
 simp[getElem?_map,i]
theorem atI_last {α:Type}(f:α->D)(xs:List α)(x:α):atI ((xs++[x]).map f) (-1)=some (f x):=by
 unfold atI ixN
 rw[length_map,if_neg (by decide),if_pos (by simp;omega)]
 have e:(-1+((xs++[x]).length:Int)).toNat=xs.length:=by simp;omega
 rw[e]
 simp
theorem Y7 {n:Nat}{m:MS}{ds:List D}{d:D}(h:m (j1 n ds)=some (.rt d)):runB n m ds=some (.sh d):=by unfold runB;rw[h]
theorem A9 {n:Nat}{m:MS}{ds:List D}{d:List D}(h:m (j1 n ds)=some (.rf d)):runB n m ds=some (.fr d):=by unfold runB;rw[h]
noncomputable def after (rest:MS):Out->Option Out
 | .nx ρ=>rest ρ| .bk ρ=>some (.bk ρ)| .ct ρ=>some (.ct ρ)| .rt d=>some (.rt d)| .rf d=>some (.rf d)| .rp d es=>some (.rp d es)| .rg d p r=>some (.rg d p r)| .rgf d p r=>some (.rgf d p r)
theorem c9 {x y:MS}{ρ:Ro}{o:Out}(h:x ρ=some o):mseq x y ρ=after y o:=by
 unfold mseq;rw[h];cases o <;> rfl
theorem ya1 {α:Type}{mi:ML}{g:Tg}{body rest:MS}{ρ:Ro}{res:Option Out}{f:α->D}(ds:List α)(hi:mi ρ=some (ds.map f))(I:List α->Ro->Prop)(Q:Out->Prop)(i:I ds ρ)
  (hs:∀ d ds ρ,I (d::ds) ρ->∃ ρ1 o,tgD g (f d) ρ=some ρ1/\body ρ1=some o/\yn1 I Q ds o) (hd:∀ ρ,I [] ρ->Q (.nx ρ)) (hq:∀ o,Q o->after rest o=res):mseq (mfor mi g body) rest ρ=res:=by
 obtain⟨o,e,q⟩:=O0 (g:=g) (body:=body) I Q hs hd ds ρ i
 rw[c9 (o:=o) (by unfold mfor;rw[hi];exact e)]
 exact hq o q
theorem xj9 (i j:Int):(if j>i then j else i)=max i j:=by omega
theorem yd0 (i j:Int):(if j<i then j else i)=min i j:=by omega
theorem xf6 (i:Int):(if i<0 then -i else i)=(i.natAbs:Int):=by omega
theorem n4:1000000<=sizeLine:=by rw[show sizeLine=2^24 from rfl];decide
theorem w4 {n:Nat}(h:n<=1000000):n<=sizeLine:=Nat.le_trans h n4
theorem C9 (j n:Nat)(h:j<n):List.range' j (n-j)=j::List.range' (j+1) (n-(j+1)):=by
 have:n-j=(n-(j+1))+1:=by omega
 rw[this,range'_succ]
theorem j6 {x n:Int}(hn:0<n):0<=x % n/\x % n<n:=⟨Int.emod_nonneg _ (by omega),Int.emod_lt_of_pos _ hn⟩
def Run (m:MS)(ρ:Ro)(R:Out->Prop):Prop:=∃ o,m ρ=some o/\R o
noncomputable def xf3 (rest:MS)(R:Out->Prop):Out->Prop
 | .nx ρ=>Run rest ρ R| .bk ρ=>R (.bk ρ)| .ct ρ=>R (.ct ρ)| .rt d=>R (.rt d)| .rf d=>R (.rf d)| .rp d es=>R (.rp d es)| .rg d p r=>R (.rg d p r)| .rgf d p r=>R (.rgf d p r)
theorem t9 {x y:MS}{ρ ρ':Ro}{R:Out->Prop}(h:x ρ=some (.nx ρ'))(h2:Run y ρ' R):Run (mseq x y) ρ R:=by
 obtain⟨o,e,r⟩:=h2
 exact⟨o,seqI h e,r⟩
theorem P1 {x y:MS}{ρ:Ro}{R:Out->Prop}(h:Run x ρ (xf3 y R)):Run (mseq x y) ρ R:=by
 obtain⟨o,e,r⟩:=h
 cases o with
 |nx ρ'=>exact t9 e r
 |bk ρ'=>exact⟨_,c9 e,r⟩
 |ct ρ'=>exact⟨_,c9 e,r⟩
 |rt d=>exact⟨_,c9 e,r⟩
 |rf d=>exact⟨_,c9 e,r⟩
 |rp d es=>exact⟨_,c9 e,r⟩
 |rg d p' i=>exact⟨_,c9 e,r⟩
 |rgf d p' i=>exact⟨_,c9 e,r⟩
theorem ya8 {α:Type}{mi:ML}{g:Tg}{body:MS}{ρ:Ro}{f:α->D}(ds:List α)(hi:mi ρ=some (ds.map f))(I:List α->Ro->Prop)(Q:Out->Prop)(i:I ds ρ)
  (hs:∀ d ds ρ,I (d::ds) ρ->∃ ρ1,tgD g (f d) ρ=some ρ1/\Run body ρ1 (yn1 I Q ds)) (hd:∀ ρ,I [] ρ->Q (.nx ρ)):Run (mfor mi g body) ρ Q:=by
 obtain⟨o,e,q⟩:=O0 (g:=g) (body:=body) I Q (fun d ds ρ h=>by obtain⟨ρ1,a,o,b,c⟩:=hs d ds ρ h;exact⟨ρ1,o,a,b,c⟩) hd ds ρ i
 exact⟨o,by unfold mfor;rw[hi];exact e,q⟩
theorem Z6 {mi:ML}{g:Tg}{body:MS}{ρ:Ro}{f:Nat->D}(n:Nat)(hi:mi ρ=some ((List.range n).map f))(I:Nat->Ro->Prop)(Q:Out->Prop)(N:I 0 ρ)
  (hs:∀ j ρ,j<n->I j ρ->∃ ρ1,tgD g (f j) ρ=some ρ1/\Run body ρ1 (yn1 (fun(_:List Unit) ρ=>I (j+1) ρ) Q [])) (hd:∀ ρ,I n ρ->Q (.nx ρ)):Run (mfor mi g body) ρ Q:=by
 refine ya8 (List.range n) hi (I:=fun ks ρ=>∃ j,j<=n/\ks=List.range' j (n-j)/\I j ρ) (Q:=Q) ⟨0,by omega,by rw[range_eq_range'];rfl,N⟩ ?_ ?_
 .rintro d ds ρ ⟨j,hj,e,h⟩
  have G:j<n:=by
   rcases Nat.lt_or_ge j n with z|z
   .exact z
   .rw[show n-j=0 by omega]at e;cases e
  rw[C9 j n G]at e
  obtain⟨e1,e2⟩:=List.cons.inj e
  subst e1
  obtain⟨ρ1,S,o,O,i⟩:=hs d ρ G h
  refine⟨ρ1,S,o,O,?_⟩
  cases o with
  |nx r=>exact⟨d+1,by omega,e2,i⟩
  |ct r=>exact⟨d+1,by omega,e2,i⟩
  |bk r=>exact i
  |rt r=>exact i
  |rf r=>exact i
  |rp r L=>exact i
  |rg r L M=>exact i
  |rgf r L M=>exact i
 .rintro ρ ⟨j,hj,e,h⟩
  have:n-j=0:=by
   rcases Nat.eq_zero_or_pos (n-j)with z|z
   .exact z
   .rw[C9 j n (by omega)]at e;cases e
  have:j=n:=by omega
  subst this
  exact hd ρ h
theorem O9 {i:Nat}{m:MS}{ρ:Ro}{ds:List D}{R:Out->Prop}(h:ρ[i]? =some (some (.own ds)))(h2:Run m (ρ.set i (some (.sh (.lst ds)))) R):Run (W5 i m) ρ R:=by
 obtain⟨o,e,r⟩:=h2
 exact⟨o,by unfold W5;rw[h];exact e,r⟩
theorem xp4 {c:MB}{x y:MS}{ρ:Ro}{R:Out->Prop}{b:Bool}(h:c ρ=some b)(h2:Run (if b then x else y) ρ R):Run (mif c x y) ρ R:=by
 obtain⟨o,e,r⟩:=h2
 refine⟨o,?_,r⟩
 unfold mif;rw[h]
 cases b <;> exact e
theorem xj4 {x:Int}(h:0<=x):∃ n:Nat,x=n:=⟨x.toNat,by omega⟩
theorem xv1 {x y:ME}{ρ:Ro}{a b:Bool}(h1:x ρ=some (.bl a))(h2:y ρ=some (.bl b)):mand x y ρ=some (.bl (a&&b)):=by
 unfold mand;rw[h1];cases a <;> simp[h2]
theorem S9 (lo:Int)(n:Nat):T9 lo n=(List.range n).map fun(i:Nat)=>D.int (lo+(i:Int)):=rfl
theorem P2 (n:Nat):T9 0 n=((List.range n).map fun(i:Nat)=>(i:Int)).map .int:=by
 rw[S9,map_map]
 apply map_congr_left
 intro i _
 simp
theorem T4 {j:Int}(h1:-(2^62)<=j)(h2:j<2^62):okR j=true:=by unfold okR;simp only[h1,h2,decide_true,Bool.and_self]
theorem N1 {j:Int}(h:okR j=true):rng1 [.int j]=some (T9 0 j.toNat):=by
 unfold rng1
 simp only[h,if_true]
theorem za3 {i j:Int}(h:okR i=true)(h2:okR j=true):rng2 [.int i,.int j]=some (T9 i (j-i).toNat):=by
 unfold rng2
 simp only[h,h2,Bool.and_self,if_true]
theorem zj1 {n:Nat}{m:MS}{ds:List D}{P:List D->Prop}(h:Run m (j1 n ds) (fun o=>∃ es,o= .rf es/\P es)):∃ es,runB n m ds=some (.fr es)/\P es:=by
 obtain⟨o,e,es,rfl,p⟩:=h
 exact⟨es,A9 e,p⟩
theorem yn5 {i:Nat}{ρ:Ro}{ds:List D}{R:Out->Prop}(h:ρ[i]? =some (some (.own ds)))(h2:R (.rf ds)):Run (D7 i) ρ R:=⟨_,by unfold D7;rw[h],h2⟩
theorem E6 (i j:Int)(h:0<j)(h2:j<1073741824):L4 i j=true:=by unfold L4;simp only[h,h2,decide_true,Bool.and_self]
theorem at4 (a b c d:Int)(k:Int)(i:0<=k)(h1:k<4):∃ x,atI [D.int a,.int b,.int c,.int d] k=some (.int x)/\(x=a\/x=b\/x=c\/x=d):=by
 have:k=0\/k=1\/k=2\/k=3:=by omega
 rcases this with h|h|h|h <;> subst h
 .exact⟨_,rfl,by simp⟩
 .exact⟨_,rfl,by simp⟩
 .exact⟨_,rfl,by simp⟩
 .exact⟨_,rfl,by simp⟩
theorem at8 (a b c d e f g h:Int)(k:Int)(i:0<=k)(h1:k<8):∃ x,atI [D.int a,.int b,.int c,.int d,.int e,.int f,.int g,.int h] k=some (.int x):=by
 have:k=0\/k=1\/k=2\/k=3\/k=4\/k=5\/k=6\/k=7:=by omega
 rcases this with h|h|h|h|h|h|h|h <;> subst h <;> exact⟨_,rfl⟩
theorem at2 (a b:Int)(k:Int)(i:0<=k)(h1:k<2):∃ x,atI [D.int a,.int b] k=some (.int x):=by
 have:k=0\/k=1:=by omega
 rcases this with h|h <;> subst h <;> exact⟨_,rfl⟩
theorem E7:∀(η:List Int)(k:Nat),V4 k (η.map .int)=(List.range η.length).map fun(i:Nat)=>D.tup [.int ((k+i:Nat):Int),.int (η.getD i 0)]
 |[],k=>rfl
 |x::η,k=>by
  rw[map_cons,V4,E7 η (k+1),length_cons,range_succ_eq_map,map_cons,map_map]
  congr 1
  apply map_congr_left
  intro i _
  simp only[Function.comp,Nat.succ_eq_add_one,getD_cons_succ]
  rw[show k+1+i=k+(i+1)by omega]
theorem xu8 (ds:List D):eqFD false (.lst ds) (.lst [])=some (.bl ds.isEmpty):=by
 unfold eqFD eqF
 cases ds with
 |nil=>rfl
 |cons d ds=>rfl
theorem ys4 (ds:List D):eqFD true (.lst ds) (.lst [])=some (.bl (!ds.isEmpty)):=by
 unfold eqFD eqF
 cases ds with
 |nil=>rfl
 |cons d ds=>rfl
theorem xh0 {n:Nat}{k:Int}(i:0<=k)(h1:k<n):ixN n k=some k.toNat:=by unfold ixN;rw[if_pos i,if_pos h1]
theorem zk5 (n:Nat):∀ xs:List Int,zipE (eqF (n+1)) (xs.map .int) (xs.map .int)=some true
 |[]=>rfl
 |x::xs=>by
  rw[map_cons,zipE,zk5 n xs]
  show (some (x==x)).bind _=_
  rw[beq_self_eq_true];rfl
theorem xg3 (n:Nat)(xs:List Int):eqF (n+2) (.lst (xs.map .int)) (.lst (xs.map .int))=some true:=by
 show (if _=_ then zipE (eqF (n+1)) (xs.map .int) (xs.map .int)else some false)=_
 rw[if_pos rfl,zk5]
theorem yn6 {n:Nat}{m:MS}{ds:List D}{d:D}(h:Run m (j1 n ds) (fun o=>o= .rt d)):runB n m ds=some (.sh d):=by
 obtain⟨o,e,rfl⟩:=h
 exact Y7 e
theorem P8 {f:MF}{m:ML}{ρ:Ro}{ds es:List D}(h:m ρ=some ds)(h2:f ds=some (.fr es)):t8 f m ρ=some (.lst es):=by
 unfold t8;rw[h];show (match f ds with |some (.sh d)=>some d|some (.fr es)=>some (D.lst es)|some (.pr d es)=>some (.tup [d,.lst es])|none=>none)=_;rw[h2]
theorem i5 {f:MF}{m:ML}{ρ:Ro}{ds:List D}{d:D}(h:m ρ=some ds)(h2:f ds=some (.sh d)):t8 f m ρ=some d:=by
 unfold t8;rw[h];show (match f ds with |some (.sh d)=>some d|some (.fr es)=>some (D.lst es)|some (.pr d es)=>some (.tup [d,.lst es])|none=>none)=_;rw[h2]
theorem z6 {x:ME}{r:ML}{ρ:Ro}{d:D}{ds:List D}(h:x ρ=some d)(h2:r ρ=some ds):z4 x r ρ=some (d::ds):=by
 unfold z4;rw[h,h2];rfl
theorem y4 {ρ:Ro}:anil ρ=some []:=rfl
theorem zq3 (η:List Int)(i:Nat)(h:i<η.length):atI (η.map D.int) (i:Int)=some (.int (η.getD i 0)):=by
 have:=zw6 D.int η (i:Int) (by omega) (by omega) 0
 rw[Int.toNat_natCast]at this
 exact this
theorem zs7:∀ ps:List Int,flVs (ps.map D.int)=some (ps.map V.int)
 |[]=>rfl
 |p::ps=>by
  rw[map_cons,flVs,zs7 ps];rfl
theorem W1 {α:Type}{g:Tg}{c:MB}{elt:ME}{f:α->D}{p:α->Bool}{G:α->D}(I:List α->Ro->Prop)
  (hs:∀ d ds ρ,I (d::ds) ρ->∃ ρ1,tgD g (f d) ρ=some ρ1/\c ρ1=some (p d)/\(p d=true->elt ρ1=some (G d))/\I ds ρ1):
  ∀(ds:List α)(ρ:Ro)(acc:List D),I ds ρ->acc.length+ds.length<=sizeLine->X3 g c elt (ds.map f) ρ acc=some (acc++(ds.filter p).map G)
 |[],ρ,acc,h,hl=>by simp[X3]
 |d::ds,ρ,acc,h,hl=>by
  obtain⟨ρ1,h1,h2,j,i⟩:=hs d ds ρ h
  rw[length_cons]at hl
  rw[map_cons]
  unfold X3
  rw[h1]
  simp only[h2]
  cases hp:p d with
  |false=>
   simp only
   rw[W1 I hs ds ρ1 acc i (by omega),filter_cons,hp]
   rfl
  |true=>
   simp only[j hp]
   rw[if_pos (by omega),W1 I hs ds ρ1 _ i (by simp;omega),filter_cons,hp]
   simp
theorem ys7 {m:ML}{ρ:Ro}{ds:List D}(h:m ρ=some ds):l0 (meqB true m (w5 anil)) ρ=some (!ds.isEmpty):=by
 have i:0<=sizeLine:=Nat.zero_le _
 have e:w5 anil ρ=some []:=by simp_arith [i,if_true]
 unfold l0 meqB
 rw[h,e]
 simp only[Option.bind_some,ys4]
theorem zs9 {α β:Type}(xs:List α)(f:α->β):(xs.map f).isEmpty=xs.isEmpty:=by cases xs <;> rfl
theorem yr2 {x y:MB}{ρ:Ro}{a b:Bool}(h1:x ρ=some a)(h2:y ρ=some b):cor x y ρ=some (a || b):=by
 unfold cor;rw[h1];cases a <;> simp[h2]
theorem yq0 {x y:MB}{ρ:Ro}{a b:Bool}(h1:x ρ=some a)(h2:y ρ=some b):cand x y ρ=some (a&&b):=by
 unfold cand;rw[h1];cases a <;> simp[h2]
theorem f9 {i:Nat}{x:ME}{ρ:Ro}{d:D}(h:x ρ=some d):mset i x ρ=some (.nx (ρ.set i (some (.sh d)))):=by unfold mset;rw[h];rfl
theorem j9 {m:ML}{ρ:Ro}{ds:List D}(h:m ρ=some ds):mlst m ρ=some (.lst ds):=by unfold mlst;rw[h];rfl
theorem w9 {m:ML}{ρ:Ro}{ds:List D}(h:m ρ=some ds)(i:ds.length<=sizeLine):w5 m ρ=some ds:=by
 unfold w5;rw[h];show (if ds.length<=sizeLine then some ds else none)=_;rw[if_pos i]
theorem g6 {m:ML}{i:ME}{ρ:Ro}{ds:List D}{k:Int}{d:D}(h1:m ρ=some ds)(h2:i ρ=some (.int k))(j:atI ds k=some d):mix m i ρ=some d:=by
 unfold mix;rw[h1,h2];exact j
theorem yh5 {m:ML}{ρ:Ro}{ds:List D}(h:m ρ=some ds)(i:Bool):meqB i m (w5 anil) ρ=some (.bl (if i then !ds.isEmpty else ds.isEmpty)):=by
 have j:0<=sizeLine:=Nat.zero_le _
 have e:w5 anil ρ=some []:=by simp_arith [j,if_true]
 unfold meqB
 rw[h,e]
 cases i
 .simp only[Option.bind_some,xu8];rfl
 .simp only[Option.bind_some,ys4];rfl
theorem U6 {m:ME}{ρ:Ro}{ds:List D}(h:m ρ=some (.lst ds)):k0 m ρ=some ds:=by unfold k0;rw[h]
theorem F9 {x y:ML}{ρ:Ro}{ds es:List D}(h1:x ρ=some ds)(h2:y ρ=some es)(i:ds.length+es.length<=sizeLine):mcat x y ρ=some (ds++es):=by
 unfold mcat;rw[h1,h2];show (if ds.length+es.length<=sizeLine then some (ds++es)else none)=_;rw[if_pos i]
theorem W4 {m:ML}{ρ:Ro}{ds:List D}(h:m ρ=some ds)(i:ds.length<=sizeLine):mtup m ρ=some (.tup ds):=by
 unfold mtup;rw[w9 h i];rfl
theorem N7 {x:ME}{ρ:Ro}{d:D}(h:x ρ=some d):mret x ρ=some (.rt d):=by unfold mret;rw[h];rfl
theorem xa6:kitB "list" "str"=some false:=by decide +kernel
theorem xa8:kitB "int" "str"=some false:=by decide +kernel
theorem xa7:kitB "list" "list"=some true:=by decide +kernel
theorem xa9:kitB "int" "int"=some true:=by decide +kernel
theorem wz0:kitB "int" "bool"=some false:=by decide +kernel
theorem k2_i:zs0 "int" "list" "tuple"=some false:=by decide +kernel
theorem k2_l:zs0 "list" "list" "tuple"=some true:=by decide +kernel
theorem zk4 {α:Type}(f:α->D):∀ xs:List α,List.zipWith (fun d e=>D.tup [d,e]) (xs.map f) (xs.map f)=xs.map fun x=>D.tup [f x,f x]
 |[]=>rfl
 |x::xs=>by rw[map_cons,zipWith_cons_cons,zk4 f xs];rfl
theorem zo8 {α:Type}(xs:List α):xs.filter (fun _=>false)=[]:=by
 induction xs with
 |nil=>rfl
 |cons x xs i=>rw[filter_cons];exact i
theorem yr3 {α:Type}{f:α->D}{mi:ML}{c:MB}{ρ:Ro}(xs:List α)(hi:mi ρ=some (xs.map fun x=>D.tup [f x,f x]))(L:xs.length<=1000)(I:∀ x∈xs,c [some (.sh (f x)),some (.sh (f x))]=some false):
  meqB false (Z1 [none,none] mi (.tp [0,1]) c (mc (.int 1))) (w5 anil) ρ=some (.bl true):=by
 have e:Z1 [none,none] mi (.tp [0,1]) c (mc (.int 1)) ρ=some []:=by
  unfold Z1
  rw[hi]
  refine(W1 (f:=fun x=>D.tup [f x,f x]) (p:=fun _=>false) (G:=fun _=>D.int 1) (fun ys ρ=>(∀ x∈ys,x∈xs)/\∃ a b,ρ=[a,b])
   (by
    rintro x ds ρ ⟨i,a,b,rfl⟩
    exact⟨_,rfl,I x (i x (by simp)),fun z=>(by cases z),fun y j=>i y (by simp[j]),_,_,rfl⟩) xs _ [] ⟨fun _ h=>h,none,none,rfl⟩ (w4 (by simp;omega))).trans ?_
  rw[zo8];rfl
 rw[yh5 e false];rfl
theorem xh4 (xs:List Int):eqFD true (.lst (xs.map .int)) (.lst (xs.map .int))=some (.bl false):=by
 unfold eqFD
 rw[xg3 6];rfl
section
open PySem L2
theorem zi8 {x:ME}{ρ:Ro}{d:D}(h:x ρ=some d):zp7 x ρ=some (.nx ρ):=by unfold zp7;rw[h];rfl
end
section
open PySem L2
theorem za1 {n:Nat}{m:MS}{i:List S}{d:D}(h:m (R7 n i)=some (.rt d)):runK n m i=some (.sh d):=by unfold runK;rw[h]
theorem zj0 {n:Nat}{m:MS}{i:List S}{d:D}(h:Run m (R7 n i) (fun o=>o= .rt d)):runK n m i=some (.sh d):=by
 obtain⟨o,e,rfl⟩:=h
 exact za1 e
theorem E1 {f:MK}{m:MA}{ρ:Ro}{i:List S}{d:D}(h:m ρ=some i)(h2:f i=some (.sh d)):S4 f m ρ=some d:=by
 unfold S4;rw[h,Option.bind_some,h2]
theorem zx1 {x:ME}{r:MA}{ρ:Ro}{d:D}{i:List S}(h:x ρ=some d)(h2:r ρ=some i):N9 x r ρ=some (.sh d::i):=by
 unfold N9;rw[h,h2]
theorem yu9 {i:Nat}{r:MA}{ρ:Ro}{q:Addr}{ds:List D}{j:List S}(h:ρ[i]? =some (some (.rd q ds)))(h2:r ρ=some j):krd i r ρ=some (.rd q ds::j):=by
 unfold krd;rw[h,h2]
theorem zo3 {ρ:Ro}:knil ρ=some []:=rfl
end
section
open PySem L2
noncomputable def lx:List Nat->List Nat->Bool
 |[],[]=>false
 |[],_::_=>true
 |_::_,[]=>false
 |a::l,b::m=>decide (a<b) || (a==b&&lx l m)
noncomputable def l5 (l m:List Nat):Bool:=decide (m.length<l.length) || (l.length==m.length&&lx l m)
theorem yu1:∀ l,lx l l=false
 |[]=>rfl
 |a::l=>by unfold lx;simp[yu1 l]
theorem zh0:∀{a b c:List Nat},lx a b=true->lx b c=true->lx a c=true
 |[],[],_,h,_=>by cases h
 |[],_::_,[],_,h=>by cases h
 |[],_::_,_::_,_,_=>rfl
 |_::_,[],_,h,_=>by cases h
 |_::_,_::_,[],_,h=>by cases h
 |a::l,b::m,c::k,h1,h2=>by
  unfold lx at*
  simp only[Bool.or_eq_true,Bool.and_eq_true,decide_eq_true_eq,beq_iff_eq]at*
  rcases h1 with h1|⟨rfl,h1⟩ <;> rcases h2 with h2|⟨rfl,h2⟩
  .exact .inl (by omega)
  .exact .inl h1
  .exact .inl h2
  .exact .inr ⟨rfl,zh0 h1 h2⟩
theorem yd1:∀(a b:List Nat),a=b\/lx a b=true\/lx b a=true
 |[],[]=>.inl rfl
 |[],_::_=>.inr (.inl rfl)
 |_::_,[]=>.inr (.inr rfl)
 |a::l,b::m=>by
  unfold lx
  simp only[Bool.or_eq_true,Bool.and_eq_true,decide_eq_true_eq,beq_iff_eq]
  rcases Nat.lt_trichotomy a b with h|h|h
  .exact .inr (.inl (.inl h))
  .subst h
   rcases yd1 l m with h|h|h
   .exact .inl (by rw[h])
   .exact .inr (.inl (.inr ⟨rfl,h⟩))
   .exact .inr (.inr (.inr ⟨rfl,h⟩))
  .exact .inr (.inr (.inl h))
theorem X5 (l m:List Nat):l5 l m=true↔m.length<l.length\/(l.length=m.length/\lx l m=true):=by
 unfold l5
 simp only[Bool.or_eq_true,Bool.and_eq_true,decide_eq_true_eq,beq_iff_eq]
theorem U7 {a b c:List Nat}(h1:l5 a b=true)(h2:l5 b c=true):l5 a c=true:=by
 rw[X5]at*
 rcases h1 with h1|⟨h1,j⟩ <;> rcases h2 with h2|⟨h2,i⟩
 .exact .inl (by omega)
 .exact .inl (by omega)
 .exact .inl (by omega)
 .exact .inr ⟨by omega,zh0 j i⟩
theorem D2 (a b:List Nat):a=b\/l5 a b=true\/l5 b a=true:=by
 rw[X5,X5]
 rcases Nat.lt_trichotomy a.length b.length with h|h|h
 .exact .inr (.inr (.inl h))
 .rcases yd1 a b with z|z|z
  .exact .inl z
  .exact .inr (.inl (.inr ⟨h,z⟩))
  .exact .inr (.inr (.inr ⟨h.symm,z⟩))
 .exact .inr (.inl (.inl h))
theorem V6 (a:List Nat):l5 a a=false:=by
 unfold l5;simp[yu1]
theorem zc0 (p:Nat)(a b:List Nat):l5 (p::a) (p::b)=l5 a b:=by
 unfold l5
 simp[lx]
def Best (P:List Nat->Prop)(l:List Nat):Prop:=P l/\∀ m,P m->l5 m l=false
theorem Best.unique {P:List Nat->Prop}{l m:List Nat}(a:Best P l)(b:Best P m):l=m:=by
 rcases D2 l m with h|h|h
 .exact h
 .have:=b.2 l a.1;rw[h]at this;cases this
 .have:=a.2 m b.1;rw[h]at this;cases this
theorem Best.iff {P Q:List Nat->Prop}{l:List Nat}(a:Best P l)(h:∀ m,P m↔Q m):Best Q l:=⟨(h l).mp a.1,fun m hm=>a.2 m ((h m).mpr hm)⟩
def far (s:Int)(d:Bool)(a b:Int):Prop:=if d then s<=b-a else s<=a-b
noncomputable instance (s:Int) (d:Bool) (a b:Int):Decidable (far s d a b):=by unfold far;exact inferInstance
noncomputable def Wd (x:Nat->Int)(n:Nat)(s:Int):Bool->List Nat->Prop
 |_,[]=>False
 |_,[p]=>p<n
 |d,p::q::l=>p<q/\far s d (x p) (x q)/\Wd x n s (!d) (q::l)
def Hd (p:Nat)(l:List Nat):Prop:=∃ m,l=p::m
variable {x:Nat->Int}{n:Nat}{s:Int}
theorem Wd.lt:∀{l:List Nat}{d:Bool}{p:Nat},Wd x n s d (p::l)->p<n
 |[],d,p,h=>h
 |q::l,d,p,h=>Nat.lt_trans h.1 h.2.2.lt
theorem Wd.len:∀{l:List Nat}{d:Bool}{p:Nat},Wd x n s d (p::l)->l.length+p<n
 |[],d,p,h=>by have h:p<n:=h;simpa using h
 |q::l,d,p,h=>by
  have:=h.2.2.len
  have:=h.1
  simp;omega
end
section
open PySem L2
variable {x:Nat->Int}{n:Nat}{s:Int}
theorem yp7 (l:List Nat)(h:l≠[]):l5 [] l=false:=by
 cases l with
 |nil=>exact absurd rfl h
 |cons a l=>
  cases e:l5 [] (a::l)with
  |false=>rfl
  |true=>
   rw[X5]at e
   simp only[length_nil,length_cons]at e
   omega
theorem ahead_false {a b:List Nat}:l5 a b=false↔a=b\/l5 b a=true:=by
 constructor
 .intro h
  rcases D2 a b with z|z|z
  .exact .inl z
  .rw[h]at z;cases z
  .exact .inr z
 .rintro(z|z)
  .rw[z];exact V6 _
  .cases e:l5 a b with
   |false=>rfl
   |true=>have:=U7 e z;rw[V6]at this;cases this
theorem R4 {a b c:List Nat}(h1:l5 a b=false)(h2:l5 b c=false):l5 a c=false:=by
 rw[ahead_false]at*
 rcases h1 with rfl|h1
 .exact h2
 .rcases h2 with rfl|h2
  .exact .inr h1
  .exact .inr (U7 h2 h1)
theorem zg1 {P Q R:List Nat->Prop}{a b c:List Nat}(ha:Best P a)(j:Best Q b)(G:c=if l5 b a=true then b else a)(i:∀ l,R l↔P l\/Q l):Best R c:=by
 subst G
 cases h:l5 b a with
 |true=>
  simp only[if_true]
  exact⟨(i _).mpr (.inr j.1),fun m hm=>by
   rcases (i m).mp hm with z|z
   .exact R4 (ha.2 m z) (ahead_false.mpr (.inr h))
   .exact j.2 m z⟩
 |false=>
  simp only[Bool.false_eq_true,if_false]
  exact⟨(i _).mpr (.inl ha.1),fun m hm=>by
   rcases (i m).mp hm with z|z
   .exact ha.2 m z
   .exact R4 (j.2 m z) h⟩
noncomputable def fl:List (List Nat)->List Nat->List Nat
 |[],b=>b
 |m::ls,b=>if b.length<m.length then fl ls m else fl ls b
noncomputable def flD:List (List Nat)->List Nat
 |[]=>[]
 |m::ls=>fl ls m
theorem yi1 {a b:Nat}{l m:List Nat}(h:a<b):lx (a::l) (b::m)=true:=by
 unfold lx;simp[h]
end
section
open PySem L2
noncomputable def dN (p:Nat):D:=.int (p:Int)
noncomputable def L (l:List Nat):D:=.lst (l.map dN)
noncomputable def Ky (l:List Nat):D:=.tup [.int (-(l.length:Int)),L l]
theorem yd8 (k:Nat)(a b:Nat):eqF (k+1) (dN a) (dN b)=some (a==b):=by
 show some ((a:Int)==(b:Int))=_
 congr 1
 rw[Bool.eq_iff_iff,beq_iff_eq,beq_iff_eq]
 omega
theorem zc3 (k:Nat):∀(l m:List Nat),l.length=m.length->zipE (eqF (k+1)) (l.map dN) (m.map dN)=some (l==m)
 |[],[],_=>rfl
 |[],_::_,h=>by cases h
 |_::_,[],h=>by cases h
 |a::l,b::m,h=>by
  rw[map_cons,map_cons,zipE,yd8,zc3 k l m (by simpa using h)]
  rfl
theorem yu7 (k:Nat):∀(l m:List Nat),lexF (eqF (k+1)) (ltF (k+1)) (l.map dN) (m.map dN)=some (lx l m)
 |[],[]=>rfl
 |[],_::_=>rfl
 |_::_,[]=>rfl
 |a::l,b::m=>by
  rw[map_cons,map_cons,lexF,yd8]
  unfold lx
  by_cases h:a=b
  .subst h
   simp only[beq_self_eq_true,Nat.lt_irrefl,decide_false,Bool.true_and,Bool.false_or]
   exact yu7 k l m
  .have e:(a==b)=false:=by simpa using h
   rw[e]
   simp only[Bool.false_and,Bool.or_false]
   show some (decide ((a:Int)<(b:Int)))=_
   congr 1
   apply decide_eq_decide.mpr
   omega
theorem yu2 (l m:List Nat):ltF 8 (Ky l) (Ky m)=some (l5 l m):=by
 show lexF (eqF 7) (ltF 7) [.int (-(l.length:Int)),L l] [.int (-(m.length:Int)),L m]=_
 rw[lexF,show eqF 7 (.int (-(l.length:Int))) (.int (-(m.length:Int)))=some (-(l.length:Int)== -(m.length:Int))from rfl]
 unfold l5
 by_cases h:l.length=m.length
 .rw[h]
  simp only[beq_self_eq_true,Nat.lt_irrefl,decide_false,Bool.true_and,Bool.false_or]
  have e:eqF 7 (L l) (L m)=some (l==m):=by
   show (if (l.map dN).length=(m.map dN).length then zipE (eqF 6) (l.map dN) (m.map dN)else some false)=_
   rw[if_pos (by simpa using h),zc3 5 l m h]
  rw[lexF,e]
  by_cases hq:l=m
  .subst hq
   simp only[beq_self_eq_true]
   rw[yu1];rfl
  .have e2:(l==m)=false:=by simpa using hq
   rw[e2]
   exact yu7 5 l m
 .have e:(-(l.length:Int)== -(m.length:Int))=false:=by
   rw[beq_eq_false_iff_ne];omega
  have e2:(l.length==m.length)=false:=by simpa using h
  rw[e,e2]
  simp only[Bool.false_and,Bool.or_false]
  show some (decide (-(l.length:Int) < -(m.length:Int)))=_
  congr 1
  apply decide_eq_decide.mpr
  omega
theorem zy8 {mk:D->Option D}(G:∀ l,mk (L l)=some (Ky l)):∀(j:List (List Nat))(b:List Nat),∃ r,minF mk (j.map L) (L b) (Ky b)=some (L r)/\r∈b::j/\∀ m∈b::j,l5 m r=false
 |[],b=>⟨b,rfl,by simp,by simp[V6]⟩
 |m::j,b=>by
  rw[map_cons]
  unfold minF
  rw[G m]
  simp only[yu2 m b]
  cases h:l5 m b with
  |true=>
   obtain⟨r,e,h1,h2⟩:=zy8 G j m
   refine⟨r,e,mem_cons_of_mem _ h1,fun k i=>?_⟩
   rcases List.mem_cons.mp i with rfl|i
   .cases z:l5 k r with
    |false=>rfl
    |true=>have:=h2 m (by simp);rw[U7 h z]at this;cases this
   .exact h2 k i
  |false=>
   obtain⟨r,e,h1,h2⟩:=zy8 G j b
   refine⟨r,e,?_,fun k i=>?_⟩
   .rcases List.mem_cons.mp h1 with h1|h1
    .simp[h1]
    .simp[h1]
   .have hb:=h2 b (by simp)
    rcases List.mem_cons.mp i with rfl|i
    .exact hb
    .rcases List.mem_cons.mp i with rfl|i
     .cases z:l5 k r with
      |false=>rfl
      |true=>
       rcases D2 k b with w|w|w
       .rw[w,hb]at z;cases z
       .rw[h]at w;cases w
       .rw[U7 w z]at hb;cases hb
     .exact h2 k (mem_cons_of_mem _ i)
noncomputable abbrev xr (η:List Int):Nat->Int:=fun i=>η.getD i 0
theorem yf6 {x y:ME}{ρ:Ro}{i j:Int}(h1:x ρ=some (.int i))(h2:y ρ=some (.int j)):l0 (m2 geD x y) ρ=some (decide (j<=i)):=by
 unfold l0 m2;rw[h1,h2];rfl
theorem Z0 {m:ML}{ρ:Ro}{ds:List D}(h:m ρ=some ds):mlen m ρ=some (.int ds.length):=by unfold mlen;rw[h];rfl
theorem at_L (U:List (List Nat))(p:Nat)(h:p<U.length):atI (U.map L) (p:Int)=some (L (U.getD p [])):=by
 have:=zw6 L U (p:Int) (by omega) (by omega) []
 rw[Int.toNat_natCast]at this
 exact this
theorem yt2 (n p:Nat)(h:p<n):ixN n (p:Int)=some p:=by
 unfold ixN
 rw[if_pos (by omega),if_pos (by omega),Int.toNat_natCast]
theorem zo5 (U:List (List Nat))(p q:Nat)(l:List Nat)(h:p≠q):(U.set p l).getD q []=U.getD q []:=by
 rw[getD_eq_getElem?_getD,getD_eq_getElem?_getD,getElem?_set_ne h]
theorem zo6 (U:List (List Nat))(p:Nat)(l:List Nat)(h:p<U.length):(U.set p l).getD p []=l:=by
 rw[getD_eq_getElem?_getD,getElem?_set_self h];rfl
theorem xi6 (l:List Nat):m_Z5 [L l]=some (.sh (Ky l)):=by
 unfold m_Z5 b_Z5
 have i2:0+1+1<=sizeLine:=w4 (by decide)
 refine Y7 ?_
 unfold L
 simp_arith [i2,if_true,length_map]
 rfl
theorem Q0 (step:Int)(h:1<=step):m_Z8 [.int step]=some (.sh .non):=by
 have:¬ step<1:=by omega
 unfold m_Z8 b_Z8
 simp_arith [this,decide_false]
theorem B3 {f:D->D->Option D}{x y:ME}{ρ:Ro}{a b:D}(h1:x ρ=some a)(h2:y ρ=some b):m2 f x y ρ=f a b:=by
 unfold m2;rw[h1,h2];rfl
theorem Z8 {α:Type}(f:Nat->α)(j:Nat):(List.range (j+1)).map f=(List.range j).map f++[f j]:=by
 rw[range_succ,map_append];rfl
noncomputable def abv (η:List Int)(s:Int)(d:Bool)(p:Nat):List Nat:=((List.range (η.length-(p+1))).map fun j=>p+1+j).filter fun q=>decide (far s d (xr η p) (xr η q))
theorem abv_mem {η:List Int}{s:Int}{d:Bool}{p q:Nat}:q∈abv η s d p↔p<q/\q<η.length/\far s d (xr η p) (xr η q):=by
 unfold abv
 rw[mem_filter,mem_map,decide_eq_true_eq]
 constructor
 .rintro⟨⟨j,hj,rfl⟩,h⟩
  have:=List.mem_range.mp hj
  exact⟨by omega,by omega,h⟩
 .rintro⟨h1,h2,h3⟩
  exact⟨⟨q-(p+1),List.mem_range.mpr (by omega),by omega⟩,h3⟩
theorem zw8 (η:List Int)(s:Int)(d:Bool)(p:Nat):(abv η s d p).length<=η.length:=by
 unfold abv
 refine Nat.le_trans (length_filter_le _ _) ?_
 rw[length_map,length_range];omega
theorem yn8 (η:List Int)(p:Nat)(z:η.length<=300)(hp:p<η.length):T9 ((p:Int)+1) ((η.length:Int)-((p:Int)+1)).toNat=((List.range (η.length-(p+1))).map fun j=>p+1+j).map dN:=by
 rw[S9,show ((η.length:Int)-((p:Int)+1)).toNat=η.length-(p+1)by omega,map_map]
 apply map_congr_left
 intro i _
 show D.int _=D.int _
 congr 1
end
section
open PySem L2
theorem zp9:∀(i:List (List Nat))(b:List Nat),maxF (i.map L) (L b) (.int (b.length:Int))=some (L (fl i b))
 |[],b=>rfl
 |m::i,b=>by
  rw[map_cons]
  unfold maxF
  have e:L3 (L m)=some (.int (m.length:Int)):=by
   show some (D.int ((m.map dN).length:Int))=_
   rw[length_map]
  rw[e]
  show (match some (decide ((m.length:Int)>(b.length:Int)))with |some true=>_|some false=>_|none=>_)=_
  unfold fl
  by_cases h:b.length<m.length
  .rw[if_pos h,decide_eq_true (by omega)]
   exact zp9 i m
  .rw[if_neg h,decide_eq_false (by omega)]
   exact zp9 i b
theorem xw8 (i:List (List Nat)):maxD (i.map L) (.lst [])=some (L (flD i)):=by
 cases i with
 |nil=>rfl
 |cons m i=>
  show (match L3 (L m)with |some j=>maxF (i.map L) (L m) j|none=>none)=_
  have e:L3 (L m)=some (.int (m.length:Int)):=by
   show some (D.int ((m.map dN).length:Int))=_
   rw[length_map]
  rw[e]
  exact zp9 i m
theorem V3 (R:List (List Nat))(qs:List Nat)(j:qs.length<=1000)(hq:∀ q∈qs,q<R.length):m_Z3 [.lst (R.map L),.lst (qs.map dN)]=some (.sh (L (flD (qs.map fun q=>R.getD q [])))):=by
 unfold m_Z3 b_Z3
 refine Y7 ?_
 have e1:Z1 [none,some 0] (k0 (mvar 1)) (.nm 0) cyes (mix (bvar 1) (mvar 0)) (j1 2 [.lst (R.map L),.lst (qs.map dN)])=some ((qs.map fun q=>R.getD q []).map L):=by
  unfold Z1
  rw[U6 (m:=mvar 1) (ds:=qs.map dN) rfl,Option.bind_some]
  refine(X1 (f:=dN) (G:=fun q=>L (R.getD q [])) (fun ks ρ=>(∀ q∈ks,q<R.length)/\∃ o,ρ=[o,some (.sh (.lst (R.map L)))]) (by
   rintro q ks ρ ⟨h,o,rfl⟩
   exact⟨[some (.sh (dN q)),some (.sh (.lst (R.map L)))],rfl,rfl,g6 (m:=bvar 1) rfl rfl (at_L R q (h q (by simp))),fun r i=>h r (by simp[i]),_,rfl⟩) qs _ [] ⟨hq,none,rfl⟩ (w4 (by simp;omega))).trans ?_
  rw[nil_append,map_map]
  rfl
 unfold mret
 rw[ze3 e1 (j9 (w9 y4 (Nat.zero_le _))),xw8]
 rfl
theorem xs3 {i:Nat}{m:ME}{ρ:Ro}{ds:List D}{d:D}(h:ρ[i]? =some (some (.own ds)))(h2:m (ρ.set i (some (.sh (.lst ds))))=some d)(j:yo9 ds d=true):zp8 i m ρ=some d:=by
 unfold zp8
 rw[h]
 simp only[h2,j,if_true]
theorem xw2 (l:List Nat):zt0 (l.map dN)=true:=by
 induction l with
 |nil=>rfl
 |cons a l i=>exact i
theorem xq5 (R:List (List Nat))(l:List Nat)(h:R≠[]):yo9 (R.map L) (L l)=true:=by
 cases R with
 |nil=>exact absurd rfl h
 |cons a R=>
  show (zt0 (l.map dN)&&true)=true
  rw[xw2];rfl
theorem zb6 {i:Nat}{z v:ME}{ρ:Ro}{A:List (List Nat)}{l:List Nat}{p:Nat}(h:ρ[i]? =some (some (.own (A.map L))))(hi:z ρ=some (.int (p:Int)))(G:v ρ=some (L l))(hp:p<A.length):S3 i z v ρ=some (.nx (ρ.set i (some (.own ((A.set p l).map L))))):=by
 unfold S3
 rw[G,h,hi]
 show ((ixN (A.map L).length (p:Int)).map fun j=>Out.nx (ρ.set i (some (.own ((A.map L).set j (L l))))))=_
 rw[length_map,yt2 _ _ hp]
 show some (Out.nx _)=_
 rw[map_set]
theorem ek (l:List Nat):shOf (m_Z5 [L l])=some (Ky l):=by rw[xi6];rfl
noncomputable abbrev RI (r:List Int):D:=.lst (r.map .int)
noncomputable def Ab (η:List Int)(s:Int)(d:Bool):List (List Nat):=(List.range η.length).map (abv η s d)
noncomputable abbrev SP (η:List Int)(s:Int):D:=.tup [.lst ((Ab η s true).map L),.lst ((Ab η s false).map L)]
theorem D4 (η:List Int)(s:Int)(d:Bool):(Ab η s d).length=η.length:=by unfold Ab;simp
theorem yo1 (η:List Int)(s:Int)(d:Bool)(p:Nat)(h:p<η.length):(Ab η s d).getD p []=abv η s d p:=by
 unfold Ab
 rw[getD_eq_getElem?_getD,getElem?_map,getElem?_range h];rfl
theorem zw7 (η:List Int)(s:Int)(d:Bool)(p:Nat):(abv η s d p).Pairwise (·<·):=by
 unfold abv
 refine List.Pairwise.filter _ ?_
 rw[pairwise_map]
 exact(pairwise_lt_range).imp fun h=>by omega
theorem xw4 (n:Nat)(hn:n<=300)(ρ:Ro)(m:ML)(ds:List D)(hm:m ρ=some ds)(hd:ds.length=n):mrep (w5 (z4 (mlst (w5 anil)) anil)) (mlen m) ρ=some ((List.replicate n ([]:List Nat)).map L):=by
 have i1:0+1<=sizeLine:=w4 (by decide)
 have i:=n4
 rw[zy5 (ds:=[.lst []]) (k:=(n:Int)) (w9 (z6 (j9 (w9 y4 (Nat.zero_le _))) y4) i1) (by rw[Z0 hm,hd]) (by unfold J8;simp only[Bool.and_eq_true,decide_eq_true_eq,length_singleton];omega),Int.toNat_natCast]
 congr 1
 rw[map_replicate,flatten_replicate_singleton]
 rfl
theorem za7 (n q:Nat):(List.replicate n ([]:List Nat)).getD q []=[]:=by
 rw[getD_eq_getElem?_getD,getElem?_replicate]
 split <;> rfl
end
section
open PySem L2
noncomputable def zx4 (qr:Addr)(η:List Int)(s:Int)(A B:List (List Nat))(o4 o5:Option S):Ro:=[some (.rd qr (η.map .int)),k0c s,some (.own (A.map L)),some (.own (B.map L)),o4,o5]
theorem zg6 (z:Addr)(η:List Int)(s:Int)(d:Bool)(p:Nat)(I:η.length<=300)(hp:p<η.length)(A B:List (List Nat))(i:MB)
  (L:∀ q:Nat,q<η.length->i [some (.sh (dN q)),k0c s,some (.sh (.int (xr η p))),some (.rd z (η.map .int))]=some (decide (far s d (xr η p) (xr η q)))):
  G9 [none,some 1,some 5,some 0] (t4 rng2 (z4 (m2 addD (mvar 4) (mc (.int 1))) (z4 (mlen (bvar 0)) anil))) (.nm 0) i (mvar 0) (zx4 z η s A B (k0b p) (some (.sh (.int (xr η p)))))=some ((abv η s d p).map dN):=by
 have k1:okR ((p:Int)+1)=true:=T4 (by omega) (by omega)
 have k2:okR (η.length:Int)=true:=T4 (by omega) (by omega)
 have e1:t4 rng2 (z4 (m2 addD (mvar 4) (mc (.int 1))) (z4 (mlen (bvar 0)) anil)) (zx4 z η s A B (k0b p) (some (.sh (.int (xr η p)))))=some (((List.range (η.length-(p+1))).map fun j=>p+1+j).map dN):=by
  unfold zx4
  simp_arith [length_map,za3 k1 k2,yn8 η p I hp]
 unfold G9
 rw[e1,Option.bind_some]
 show X3 _ _ _ _ [none,k0c s,some (.sh (.int (xr η p))),some (.rd z (η.map .int))] []=_
 rw[W1 (f:=dN) (p:=fun q=>decide (far s d (xr η p) (xr η q))) (G:=dN) (fun qs ρ=>(∀ q∈qs,q<η.length)/\∃ o,ρ=[o,k0c s,some (.sh (.int (xr η p))),some (.rd z (η.map .int))])
  (by
   rintro q qs ρ ⟨hq,o,rfl⟩
   exact⟨_,rfl,L q (hq q (by simp)),fun _=>rfl,fun r I=>hq r (by simp[I]),_,rfl⟩) _ _ [] ⟨fun q hq=>by
    obtain⟨j,M,rfl⟩:=List.mem_map.mp hq
    have:=List.mem_range.mp M
    omega,_,rfl⟩ (w4 (by simp;omega)),nil_append]
 rfl
theorem D8 (z:Addr)(η:List Int)(s:Int)(U:η.length<=300):m_Z2 [.rd z (η.map .int),.sh (.int s)]=some (.sh (.tup [.lst (((List.range η.length).map (abv η s true)).map L),.lst (((List.range η.length).map (abv η s false)).map L)])):=by
 unfold m_Z2 b_Z2
 refine zj0 ?_
 have a0:=n4
 have S:0<=sizeLine:=Nat.zero_le _
 have i2:2<=sizeLine:=w4 (by decide)
 refine t9 (ρ':=[some (.rd z (η.map .int)),k0c s,some (.own []),none,none,none]) (by unfold X6;rw[w9 y4 S];rfl) ?_
 refine t9 (ρ':=zx4 z η s [] [] none none) (by unfold X6;rw[w9 y4 S];rfl) ?_
 have ee:rde 0 (zx4 z η s [] [] none none)=some ((List.range η.length).map fun(i:Nat)=>D.tup [.int (i:Int),.int (xr η i)]):=by
  unfold rde
  rw[show rdl 0 (zx4 z η s [] [] none none)=some (η.map .int)by unfold rdl;rfl]
  show some (V4 0 (η.map .int))=_
  rw[E7]
  congr 1
  apply map_congr_left
  intro i _
  rw[Nat.zero_add]
 refine P1 (Z6 η.length (f:=fun(i:Nat)=>D.tup [.int (i:Int),.int (xr η i)]) ee
  (I:=fun j ρ=>∃ O N,ρ=zx4 z η s ((List.range j).map (abv η s true)) ((List.range j).map (abv η s false)) O N) _ ⟨_,_,rfl⟩ ?_ ?_)
 .rintro j ρ hj ⟨O,N,rfl⟩
  refine⟨zx4 z η s ((List.range j).map (abv η s true)) ((List.range j).map (abv η s false)) (k0b j) (some (.sh (.int (xr η j)))),rfl,?_⟩
  unfold yp1
  have Y:∀ q:Nat,q<η.length->mix (bvar 3) (mvar 0) [some (.sh (dN q)),k0c s,some (.sh (.int (xr η j))),some (.rd z (η.map .int))]=some (.int (xr η q)):=fun q hq=>g6 rfl rfl (zq3 η q hq)
  have c1:=zg6 z η s true j U hj ((List.range j).map (abv η s true)) ((List.range j).map (abv η s false)) (l0 (m2 geD (m2 subD (mix (bvar 3) (mvar 0)) (mvar 2)) (mvar 1))) (fun q hq=>by
   rw[yf6 ((B3 (Y q hq) rfl).trans (show subD (.int (xr η q)) (.int (xr η j))=some (.int (xr η q-xr η j))from rfl)) rfl]
   unfold far;simp)
  have c2:=zg6 z η s false j U hj ((List.range (j+1)).map (abv η s true)) ((List.range j).map (abv η s false)) (l0 (m2 geD (m2 subD (mvar 2) (mix (bvar 3) (mvar 0))) (mvar 1))) (fun q hq=>by
   rw[yf6 ((B3 (show mvar 2 _=some (.int (xr η j))from rfl) (Y q hq)).trans (show subD (.int (xr η j)) (.int (xr η q))=some (.int (xr η j-xr η q))from rfl)) rfl]
   unfold far;simp)
  have G:∀(ρ:Ro)(i:Nat)(M:List (List Nat))(m:ML)(l:List Nat),ρ[i]? =some (some (.own (M.map L)))->m ρ=some (l.map dN)->M.length<sizeLine->mapp i (mlst m) ρ=some (.nx (ρ.set i (some (.own ((M++[l]).map L))))):=by
   intro ρ i M m l h1 h2 Z
   unfold mapp
   rw[h1,j9 h2]
   show (some (D.lst (l.map dN))).bind (fun d=>if (M.map L).length<sizeLine then some (Out.nx (ρ.set i (some (.own (M.map L++[d])))))else none)=_
   rw[Option.bind_some,if_pos (by rw[length_map];exact Z),map_append]
   rfl
  refine t9 (ρ':=zx4 z η s ((List.range (j+1)).map (abv η s true)) ((List.range j).map (abv η s false)) (k0b j) (some (.sh (.int (xr η j))))) ?_ ?_
  .rw[G _ 2 _ _ _ rfl c1 (by simp;omega),<-Z8]
   rfl
  .refine⟨_,G _ 3 _ _ _ rfl c2 (by simp;omega),?_⟩
   rw[<-Z8]
   exact⟨_,_,rfl⟩
 .rintro ρ ⟨O,N,rfl⟩
  unfold yp0
  refine O9 (ds:=((List.range η.length).map (abv η s false)).map L) rfl (O9 (ds:=((List.range η.length).map (abv η s true)).map L) rfl ⟨_,N7 (W4 (z6 (d:=.lst (((List.range η.length).map (abv η s true)).map L)) rfl (z6 (d:=.lst (((List.range η.length).map (abv η s false)).map L)) rfl y4)) i2),rfl⟩)
theorem L7 (i:Addr)(η:List Int)(s:Int)(j:η.length<=300):m_Z6 [.rd i (η.map .int),.sh (.int s)]=some (.sh (.tup [.tup [.lst ((Ab η s true).map L),.lst ((Ab η s false).map L)],.tup [.lst ((Ab η s false).map L),.lst ((Ab η s true).map L)]])):=by
 have i2:2<=sizeLine:=w4 (by decide)
 unfold m_Z6 b_Z6
 refine zj0 ?_
 refine t9 (ρ':=[some (.rd i (η.map .int)),k0c s,some (.sh (.lst ((Ab η s true).map L))),some (.sh (.lst ((Ab η s false).map L)))]) ?_ ?_
 .unfold masg
  rw[E1 (yu9 (q:=i) (ds:=η.map .int) rfl (zx1 (d:=.int s) rfl zo3)) (D8 i η s j)]
  rfl
 .exact⟨_,N7 (W4 (z6 (W4 (z6 (d:=.lst ((Ab η s true).map L)) rfl (z6 (d:=.lst ((Ab η s false).map L)) rfl y4)) i2) (z6 (W4 (z6 (d:=.lst ((Ab η s false).map L)) rfl (z6 (d:=.lst ((Ab η s true).map L)) rfl y4)) i2) y4)) i2),rfl⟩
end
section
open PySem L2
def Bo (P:List Nat->Prop)(l:List Nat):Prop:=Best (fun m=>m=[]\/P m) l
theorem J5 (r:List Nat):l5 [] r=false:=by
 cases r with
 |nil=>rfl
 |cons a r=>exact yp7 _ (by simp)
theorem Bo.iff {P Q:List Nat->Prop}{l:List Nat}(a:Bo P l)(h:∀ m,P m↔Q m):Bo Q l:=Best.iff a fun m=>by rw[h m]
theorem xu7:∀(i:List (List Nat))(b:List Nat),(b::i).Pairwise (fun a c=>a=[]\/c=[]\/lx a c=true)->fl i b∈b::i/\∀ m∈b::i,l5 m (fl i b)=false
 |[],b,_=>⟨by simp[fl],by simp[fl,V6]⟩
 |m::i,b,h=>by
  have hp:=List.pairwise_cons.mp h
  unfold fl
  by_cases G:b.length<m.length
  .rw[if_pos G]
   obtain⟨h1,h2⟩:=xu7 i m hp.2
   refine⟨mem_cons_of_mem _ h1,fun k j=>?_⟩
   rcases List.mem_cons.mp j with rfl|j
   .exact R4 (ahead_false.mpr (.inr ((X5 m k).mpr (.inl G)))) (h2 m (by simp))
   .exact h2 k j
  .rw[if_neg G]
   have hs:(b::i).Pairwise (fun a c=>a=[]\/c=[]\/lx a c=true):=List.pairwise_cons.mpr ⟨fun c I=>hp.1 c (by simp[I]),(List.pairwise_cons.mp hp.2).2⟩
   obtain⟨h1,h2⟩:=xu7 i b hs
   refine⟨?_,fun k j=>?_⟩
   .rcases List.mem_cons.mp h1 with z|z
    .rw[z];simp
    .simp[z]
   .rcases List.mem_cons.mp j with rfl|j
    .exact h2 k (by simp)
    .rcases List.mem_cons.mp j with rfl|j
     .refine R4 (b:=b) ?_ (h2 b (by simp))
      rcases hp.1 k (by simp)with z|z|z
      .rw[z]at G ⊢
       rw[length_nil]at G
       have:k=[]:=List.length_eq_zero_iff.mp (by omega)
       rw[this];rfl
      .rw[z];exact J5 _
      .refine ahead_false.mpr (.inr ((X5 b k).mpr ?_))
       rcases Nat.lt_or_ge k.length b.length with w|w
       .exact .inl w
       .exact .inr ⟨by omega,z⟩
     .exact h2 k (by simp[j])
theorem ys3 {qs:List Nat}{T:Nat->List Nat}{Q:Nat->List Nat->Prop}(O:qs.Pairwise (·<·))(hh:∀ q∈qs,∀ m,Q q m->Hd q m)(I:∀ q∈qs,Bo (Q q) (T q)):Bo (fun m=>∃ q∈qs,Q q m) (flD (qs.map T)):=by
 cases qs with
 |nil=>exact⟨.inl rfl,fun m hm=>by
   rcases hm with rfl|⟨q,hq,_⟩
   .rfl
   .cases hq⟩
 |cons i qs=>
  have N:((i::qs).map T).Pairwise (fun a c=>a=[]\/c=[]\/lx a c=true):=by
   rw[pairwise_map]
   refine O.imp_of_mem fun{a b} ha M L=>?_
   rcases (I a ha).1 with z|z
   .exact .inl z
   .rcases (I b M).1 with w|w
    .exact .inr (.inl w)
    .obtain⟨m1,e1⟩:=hh a ha _ z
     obtain⟨m2,e2⟩:=hh b M _ w
     rw[e1,e2]
     exact .inr (.inr (yi1 L))
  obtain⟨h1,h2⟩:=xu7 (qs.map T) (T i) (by simpa using N)
  have h1:flD ((i::qs).map T)∈(i::qs).map T:=by simpa[flD]using h1
  have h2:∀ m∈(i::qs).map T,l5 m (flD ((i::qs).map T))=false:=by simpa[flD]using h2
  obtain⟨q,G,e⟩:=List.mem_map.mp h1
  refine⟨?_,fun m hm=>?_⟩
  .rw[<-e]
   rcases (I q G).1 with z|z
   .exact .inl z
   .exact .inr ⟨q,G,z⟩
  .rcases hm with rfl|⟨r,j,z⟩
   .exact J5 _
   .exact R4 ((I r j).2 m (.inr z)) (h2 _ (List.mem_map.mpr ⟨r,j,rfl⟩))
theorem zm4 {P:List Nat->Prop}{b:List Nat}{p:Nat}(L:Bo P b)(hn:∀ m,P m->m≠[])(a:Bool):Bo (fun m=>∃ k,m=p::k/\(P k\/(k=[]/\a=true))) (if (!b.isEmpty || a)=true then p::b else []):=by
 by_cases j:(!b.isEmpty || a)=true
 .rw[if_pos j]
  refine⟨.inr ⟨b,rfl,?_⟩,fun m hm=>?_⟩
  .rcases L.1 with z|z
   .subst z
    exact .inr ⟨rfl,by simpa using j⟩
   .exact .inl z
  .rcases hm with rfl|⟨k,rfl,i⟩
   .exact J5 _
   .rw[zc0]
    exact L.2 k (i.elim .inr fun z=>.inl z.1)
 .rw[if_neg j]
  have I:b=[]/\a=false:=by
   cases b with
   |nil=>exact⟨rfl,by simpa using j⟩
   |cons _ _=>simp at j
  obtain⟨rfl,rfl⟩:=I
  refine⟨.inl rfl,fun m hm=>?_⟩
  rcases hm with rfl|⟨k,rfl,i⟩
  .rfl
  .exfalso
   rcases i with i|⟨_,i⟩
   .have:=L.2 k (.inr i)
    have G:=hn k i
    cases k with
    |nil=>exact G rfl
    |cons y k=>rw[(X5 _ _).mpr (.inl (by simp))]at this;cases this
   .cases i
section
variable (x:Nat->Int)(n:Nat)(s:Int)
def En (la:Nat->Prop)(l:List Nat):Prop:=∃ z,l.getLast? =some z/\la z
def Ra (la:Nat->Prop)(o:Nat)(d:Bool)(p:Nat)(l:List Nat):Prop:=Wd x n s d l/\Hd p l/\l.length % 2=o/\En la l
end
variable {x:Nat->Int}{n:Nat}{s:Int}
theorem En.cons {la:Nat->Prop}{p q:Nat}{l:List Nat}:En la (p::q::l)↔En la (q::l):=by unfold En;rw[getLast?_cons_cons]
theorem Ra.ne {la:Nat->Prop}{o:Nat}{d:Bool}{p:Nat}{l:List Nat}(h:Ra x n s la o d p l):l≠[]:=by
 obtain⟨_,⟨m,rfl⟩,_⟩:=h;simp
theorem zv8 {la:Nat->Prop}{d:Bool}{p:Nat}{l:List Nat}(hp:p<n):Ra x n s la 1 d p l↔∃ k,l=p::k/\((∃ q,(p<q/\q<n/\far s d (x p) (x q))/\Ra x n s la 0 (!d) q k)\/(k=[]/\la p)):=by
 constructor
 .rintro⟨h1,⟨k,rfl⟩,h3,h4⟩
  refine⟨k,rfl,?_⟩
  cases k with
  |nil=>
   obtain⟨z,e,i⟩:=h4
   cases e
   exact .inr ⟨rfl,i⟩
  |cons q k=>
   refine .inl ⟨q,⟨h1.1,h1.2.2.lt,h1.2.1⟩,h1.2.2,⟨k,rfl⟩,?_,En.cons.mp h4⟩
   simp only[length_cons]at h3 ⊢;omega
 .rintro⟨k,rfl,⟨q,⟨a1,a2,a3⟩,b1,⟨m,rfl⟩,b3,b4⟩|⟨rfl,h⟩⟩
  .refine⟨⟨a1,a3,b1⟩,⟨_,rfl⟩,?_,En.cons.mpr b4⟩
   simp only[length_cons]at b3 ⊢;omega
  .exact⟨hp,⟨_,rfl⟩,rfl,⟨p,rfl,h⟩⟩
theorem N3 {la:Nat->Prop}{d:Bool}{p:Nat}{l:List Nat}(hp:p<n):Ra x n s la 0 d p l↔∃ k,l=p::k/\∃ q,(p<q/\q<n/\far s d (x p) (x q))/\Ra x n s la 1 (!d) q k:=by
 constructor
 .rintro⟨h1,⟨k,rfl⟩,h3,h4⟩
  refine⟨k,rfl,?_⟩
  cases k with
  |nil=>simp at h3
  |cons q k=>
   refine⟨q,⟨h1.1,h1.2.2.lt,h1.2.1⟩,h1.2.2,⟨k,rfl⟩,?_,En.cons.mp h4⟩
   simp only[length_cons]at h3 ⊢;omega
 .rintro⟨k,rfl,q,⟨a1,a2,a3⟩,b1,⟨m,rfl⟩,b3,b4⟩
  refine⟨⟨a1,a3,b1⟩,⟨_,rfl⟩,?_,En.cons.mpr b4⟩
  simp only[length_cons]at b3 ⊢;omega
end
section
open PySem L2
abbrev La (η:List Int)(s:Int)(d:Bool)(f:Nat):Nat->Prop:=fun z=>z∈abv η s d f
abbrev RaR (η:List Int)(s:Int)(d:Bool)(f:Nat)(o:Nat)(e:Bool):Nat->List Nat->Prop:=Ra (xr η) η.length s (La η s d f) o e
noncomputable def eB (η:List Int)(s:Int)(d:Bool)(f:Nat)(G B:List (List Nat))(o6 o7:Option S):Ro:=[k0b f,some (.sh (.lst ((Ab η s d).map L))),some (.sh (.lst ((Ab η s (!d)).map L))),some (.sh (L (abv η s d f))),some (.own (G.map L)),some (.own (B.map L)),o6,o7]
structure Beh (η:List Int)(s:Int)(d:Bool)(f p:Nat)(G B:List (List Nat)):Prop where
 lG:G.length=η.length
 lB:B.length=η.length
 at':∀ q,p<=q->q<η.length->Bo (RaR η s d f 1 (!d) q) (G.getD q [])/\Bo (RaR η s d f 0 d q) (B.getD q [])
 yet:∀ q,q<p->G.getD q []=[]/\B.getD q []=[]
theorem zm3 {η:List Int}{s:Int}{d e:Bool}{f o:Nat}{qs:List Nat}{l:List Nat}(h:Bo (fun m=>∃ q∈qs,RaR η s d f o e q m) l):l.length<=η.length:=by
 rcases h.1 with rfl|⟨q,_,a,⟨m,rfl⟩,_⟩
 .simp
 .have:=a.len;simp;omega
theorem xi1 {η:List Int}{s:Int}{e:Bool}{ρ:Ro}{i k p:Nat}{T:List (List Nat)}(hp:p<η.length)(Z:η.length<=300)(hi:ρ[i]? =some (some (.own (T.map L))))(S:i≠6)(G:i≠k)(M:i<ρ.length)(N:ρ[k]? =some (some (.sh (.lst ((Ab η s e).map L)))))(j:ρ[6]? =some (k0b p))(I:T.length=η.length):
  zp8 i (t8 m_Z3 (z4 (mvar i) (z4 (mix (bvar k) (mvar 6)) anil))) ρ=some (L (flD ((abv η s e p).map fun q=>T.getD q []))):=by
 have O:T≠[]:=fun z=>by rw[z]at I;simp at I;omega
 refine xs3 hi ?_ (xq5 T _ O)
 have Y:mvar i (ρ.set i (some (.sh (.lst (T.map L)))))=some (.lst (T.map L)):=by
  unfold mvar
  rw[getElem?_set_self M]
 have U:mix (bvar k) (mvar 6) (ρ.set i (some (.sh (.lst (T.map L)))))=some (L (abv η s e p)):=by
  refine g6 (ds:=(Ab η s e).map L) (k:=(p:Int)) ?_ ?_ ?_
  .unfold bvar;rw[getElem?_set_ne G,N]
  .unfold mvar;rw[getElem?_set_ne S,j]
  .rw[at_L _ p (by rw[D4];exact hp),yo1 η s e p hp]
 exact i5 (z6 Y (z6 U y4)) (V3 T (abv η s e p) (by have:=zw8 η s e p;omega) fun q hq=>by have:=(abv_mem.mp hq).2.1;omega)
theorem yc8 {i:Nat}{ρ:Ro}{l:List Nat}(h:ρ[i]? =some (some (.sh (L l)))):mtru (mvar i) ρ=some (!l.isEmpty):=by
 unfold mtru mvar
 rw[h]
 cases l <;> rfl
theorem za9 {i j:Nat}{ρ:Ro}{p:Nat}{w:List Nat}(hi:ρ[i]? =some (k0b p))(z:ρ[j]? =some (some (.sh (L w))))(hw:w.length<=300):mlst (mcat (w5 (z4 (mvar i) anil)) (bvar j)) ρ=some (L (p::w)):=by
 have i1:0+1<=sizeLine:=w4 (by decide)
 have g:mvar i ρ=some (.int (p:Int)):=by unfold mvar;rw[hi]
 have G:bvar j ρ=some (w.map dN):=by unfold bvar;rw[z];rfl
 rw[j9 (F9 (w9 (z6 g y4) i1) G (by rw[length_map,length_singleton];exact w4 (by omega)))]
 rfl
theorem xu3 (i:Int)(ps:List Int):inV (V.int i) (ps.map V.int)=decide (i∈ps):=by
 unfold inV
 rw[any_map,Bool.eq_iff_iff,any_eq_true,decide_eq_true_eq]
 constructor
 .rintro⟨y,hy,e⟩
  have e:(i==y)=true\/(y==i)=true:=by first|exact .inl e|exact .inr e
  rcases e with e|e
  .rw[beq_iff_eq.mp e];exact hy
  .rw[<-beq_iff_eq.mp e];exact hy
 .intro h
  exact⟨i,h,by show (i==i)=true;exact beq_self_eq_true i⟩
theorem in_L (p:Nat)(l:List Nat):inD false (.int (p:Int)) (L l)=some (.bl (decide (p∈l))):=by
 have e:l.map dN=(l.map fun(k:Nat)=>(k:Int)).map D.int:=by rw[map_map];rfl
 show inDs false (.int (p:Int)) (l.map dN)=_
 unfold inDs
 rw[e,zs7]
 show some (D.bl (inV (V.int (p:Int)) ((l.map fun(k:Nat)=>(k:Int)).map V.int)))=_
 rw[xu3]
 congr 2
 apply decide_eq_decide.mpr
 rw[mem_map]
 constructor
 .rintro⟨k,hk,e⟩
  have e:(k:Int)=(p:Int):=e
  rw[show p=k by omega];exact hk
 .intro h;exact⟨p,h,rfl⟩
theorem xh2 {i j:Nat}{ρ:Ro}{p:Nat}{l:List Nat}(hi:ρ[i]? =some (k0b p))(z:ρ[j]? =some (some (.sh (L l)))):l0 (m2 (inD false) (mvar i) (mvar j)) ρ=some (decide (p∈l)):=by
 unfold l0
 rw[B3 (a:=.int (p:Int)) (b:=L l) (by unfold mvar;rw[hi]) (by unfold mvar;rw[z]),in_L]
theorem zd7 {η:List Int}{s:Int}{d:Bool}{f p:Nat}{G B:List (List Nat)}{o7:Option S}(Z:η.length<=300)(hp:p<η.length)(h:Beh η s d f (p+1) G B):
  ∃ G' B' N,zm6 (eB η s d f G B (k0b p) o7)=some (.nx (eB η s d f G' B' (k0b p) N))/\Beh η s d f p G' B':=by
 have j:∀ e q,q∈abv η s e p->p<q/\q<η.length:=fun e q hq=>⟨(abv_mem.mp hq).1,(abv_mem.mp hq).2.1⟩
 have U:Bo (fun m=>∃ q∈abv η s (!d) p,RaR η s d f 0 d q m) (flD ((abv η s (!d) p).map fun q=>B.getD q [])):=
  ys3 (zw7 η s (!d) p) (fun q _ m hm=>hm.2.1) fun q hq=>(h.at' q (j _ q hq).1 (j _ q hq).2).2
 generalize e1:flD ((abv η s (!d) p).map fun q=>B.getD q [])=w1 at U
 have l1:=zm3 U
 have g1:Bo (RaR η s d f 1 (!d) p) (if (!w1.isEmpty || decide (p∈abv η s d f))=true then p::w1 else []):=by
  refine(zm4 (p:=p) U (fun m ⟨q,_,hq⟩=>hq.ne) (decide (p∈abv η s d f))).iff fun m=>?_
  refine Iff.trans ?_ (zv8 hp).symm
  constructor
  .rintro⟨k,rfl,⟨q,hq,z⟩|⟨rfl,z⟩⟩
   .exact⟨k,rfl,.inl ⟨q,abv_mem.mp hq,by rw[Bool.not_not];exact z⟩⟩
   .exact⟨[],rfl,.inr ⟨rfl,of_decide_eq_true z⟩⟩
  .rintro⟨k,rfl,⟨q,hq,z⟩|⟨rfl,z⟩⟩
   .exact⟨k,rfl,.inl ⟨q,abv_mem.mpr hq,by rw[Bool.not_not]at z;exact z⟩⟩
   .exact⟨[],rfl,.inr ⟨rfl,decide_eq_true z⟩⟩
 have Y:=h.yet p (Nat.lt_succ_self p)
 have lset:∀(c:Bool)(T:List (List Nat))(w:List Nat),T.length=η.length->(if c=true then T.set p w else T).length=η.length:=fun c T w hT=>by cases c <;> simp[hT]
 have i:∀(c:Bool)(T:List (List Nat))(w:List Nat) q,p≠q->(if c=true then T.set p w else T).getD q []=T.getD q []:=fun c T w q hq=>by
  cases c
  .rfl
  .exact zo5 _ _ _ _ hq
 have I:∀(c:Bool)(T:List (List Nat))(w:List Nat),T.length=η.length->T.getD p []=[]->(if c=true then T.set p w else T).getD p []=if c=true then w else []:=fun c T w hT hn=>by
  cases c
  .exact hn
  .exact zo6 _ _ _ (by omega)
 obtain⟨c1,M⟩:∃ c,c=(!w1.isEmpty || decide (p∈abv η s d f)):=⟨_,rfl⟩
 rw[<-M]at g1
 have O:Bo (fun m=>∃ q∈abv η s d p,RaR η s d f 1 (!d) q m) (flD ((abv η s d p).map fun q=>(if c1=true then G.set p (p::w1)else G).getD q [])):=
  ys3 (zw7 η s d p) (fun q _ m hm=>hm.2.1) fun q hq=>by
   have hm:=j _ q hq
   rw[i c1 G _ q (by omega)]
   exact(h.at' q hm.1 hm.2).1
 generalize e2:flD ((abv η s d p).map fun q=>(if c1=true then G.set p (p::w1)else G).getD q [])=w2 at O
 have l2:=zm3 O
 have g2:Bo (RaR η s d f 0 d p) (if (!w2.isEmpty)=true then p::w2 else []):=by
  have g:=zm4 (p:=p) O (fun m ⟨q,_,hq⟩=>hq.ne) false
  rw[Bool.or_false]at g
  refine g.iff fun m=>?_
  refine Iff.trans ?_ (N3 hp).symm
  constructor
  .rintro⟨k,rfl,⟨q,hq,z⟩|⟨_,z⟩⟩
   .exact⟨k,rfl,q,abv_mem.mp hq,z⟩
   .cases z
  .rintro⟨k,rfl,q,hq,z⟩
   exact⟨k,rfl,.inl ⟨q,abv_mem.mpr hq,z⟩⟩
 refine⟨if c1=true then G.set p (p::w1)else G,if (!w2.isEmpty)=true then B.set p (p::w2)else B,some (.sh (L w2)),?_,lset _ _ _ h.lG,lset _ _ _ h.lB,fun q a b=>?_,fun q a=>?_⟩
 .unfold zm6
  refine seqI (ρ':=eB η s d f G B (k0b p) (some (.sh (L w1)))) ((f9 (by rw[<-e1];exact xi1 hp Z rfl (by decide) (by decide) (by show 5<8;decide) rfl rfl h.lB)).trans rfl) ?_
  refine seqI (ρ':=eB η s d f (if c1=true then G.set p (p::w1)else G) B (k0b p) (some (.sh (L w1)))) ?_ ?_
  .unfold mif
   rw[yr2 (yc8 (l:=w1) rfl) (xh2 (p:=p) (l:=abv η s d f) rfl rfl),<-M]
   cases c1
   .rfl
   .exact(zb6 (A:=G) (l:=p::w1) (p:=p) rfl rfl (za9 (p:=p) (w:=w1) rfl rfl (by omega)) (by rw[h.lG];exact hp)).trans rfl
  refine seqI (ρ':=eB η s d f (if c1=true then G.set p (p::w1)else G) B (k0b p) (some (.sh (L w2)))) ((f9 (by rw[<-e2];exact xi1 hp Z rfl (by decide) (by decide) (by show 4<8;decide) rfl rfl (lset _ _ _ h.lG))).trans rfl) ?_
  unfold mif
  rw[yc8 (l:=w2) rfl]
  cases (!w2.isEmpty)
  .rfl
  .exact(zb6 (A:=B) (l:=p::w2) (p:=p) rfl rfl (za9 (p:=p) (w:=w2) rfl rfl (by omega)) (by rw[h.lB];exact hp)).trans rfl
 .by_cases hq:p=q
  .subst hq
   rw[I _ _ _ h.lG Y.1,I _ _ _ h.lB Y.2]
   exact⟨g1,g2⟩
  .rw[i _ _ _ _ hq,i _ _ _ _ hq]
   exact h.at' q (by omega) b
 .rw[i _ _ _ _ (by omega),i _ _ _ _ (by omega)]
  exact h.yet q (by omega)
end
section
open PySem L2
theorem yh7 {lo hi:Nat}(h:lo<=hi)(hh:hi<=1000):yn9 [.int (lo:Int),.int (hi:Int)]=some ((List.range (hi-lo)).map fun(j:Nat)=>D.int ((hi-1-j:Nat):Int)):=by
 show (if (okR (lo:Int)&&okR (hi:Int))=true then some (L5 (lo:Int) ((hi:Int)-(lo:Int)).toNat)else none)=_
 rw[if_pos (by rw[T4 (by omega) (by omega),T4 (by omega) (by omega)];rfl)]
 unfold L5
 rw[show ((hi:Int)-(lo:Int)).toNat=hi-lo by omega]
 congr 1
 apply map_congr_left
 intro j i
 have:=List.mem_range.mp i
 congr 1
 omega
theorem T6 (η:List Int)(s:Int)(d:Bool)(f:Nat)(Z:η.length<=300)(S:f<η.length):∃ l,m_Z4 [.int (f:Int),.lst ((Ab η s d).map L),.lst ((Ab η s (!d)).map L)]=some (.sh (L l))/\Bo (RaR η s d f 0 d f) l:=by
 suffices h:Run b_Z4 (j1 8 [.int (f:Int),.lst ((Ab η s d).map L),.lst ((Ab η s (!d)).map L)]) (fun o=>∃ l,o= .rt (L l)/\Bo (RaR η s d f 0 d f) l)by
  obtain⟨o,e,l,rfl,r⟩:=h
  exact⟨l,Y7 e,r⟩
 unfold b_Z4
 refine t9 (ρ':=[k0b f,some (.sh (.lst ((Ab η s d).map L))),some (.sh (.lst ((Ab η s (!d)).map L))),some (.sh (L (abv η s d f))),none,none,none,none])
  ((f9 (g6 (ds:=(Ab η s d).map L) (k:=(f:Int)) rfl rfl (by rw[at_L _ f (by rw[D4];exact S),yo1 η s d f S]))).trans rfl) ?_
 have Y:∀(i:Nat)(ρ:Ro),bvar 1 ρ=some ((Ab η s d).map L)->X6 i (mrep (w5 (z4 (mlst (w5 anil)) anil)) (mlen (bvar 1))) ρ=some (.nx (ρ.set i (some (.own ((List.replicate η.length ([]:List Nat)).map L))))):=fun i ρ hb=>by
  unfold X6
  rw[xw4 η.length Z ρ (bvar 1) _ hb (by rw[length_map,D4])]
  rfl
 refine t9 (Y 4 _ rfl) (t9 (ρ':=eB η s d f (List.replicate η.length []) (List.replicate η.length []) none none) (Y 5 _ rfl) ?_)
 refine P1 (Z6 (η.length-(f+1)) (f:=fun(j:Nat)=>D.int ((η.length-1-j:Nat):Int)) ?_
  (I:=fun j ρ=>∃ G B O o7,Beh η s d f (η.length-j) G B/\ρ=eB η s d f G B O o7) _
  ⟨_,_,_,_,⟨by simp,by simp,fun q h1 h2=>by omega,fun q _=>⟨za7 _ _,za7 _ _⟩⟩,rfl⟩ ?_ ?_)
 .unfold t4
  rw[z6 (d:=.int ((f+1:Nat):Int)) ((B3 (f:=addD) (a:=.int (f:Int)) (b:=.int 1) rfl rfl).trans rfl) (z6 (x:=mlen (bvar 1)) (d:=.int (η.length:Int)) (by rw[Z0 (ds:=(Ab η s d).map L) rfl,length_map,D4]) y4),Option.bind_some,yh7 S (by omega)]
 .rintro j ρ hj ⟨G,B,O,o7,h,rfl⟩
  refine⟨eB η s d f G B (some (.sh (.int ((η.length-1-j:Nat):Int)))) o7,rfl,?_⟩
  have e2:η.length-1-j+1=η.length-j:=by omega
  obtain⟨G',B',a0,eb,hT⟩:=zd7 (o7:=o7) Z (show η.length-1-j<η.length by omega) (by rw[e2];exact h)
  exact⟨_,eb,G',B',_,_,by rw[show η.length-(j+1)=η.length-1-j by omega];exact hT,rfl⟩
 .rintro ρ ⟨G,B,O,o7,h,rfl⟩
  rw[show η.length-(η.length-(f+1))=f+1 by omega]at h
  have M:∀ q,q∈abv η s d f->f<q/\q<η.length:=fun q hq=>⟨(abv_mem.mp hq).1,(abv_mem.mp hq).2.1⟩
  have U:Bo (fun m=>∃ q∈abv η s d f,RaR η s d f 1 (!d) q m) (flD ((abv η s d f).map fun q=>G.getD q [])):=
   ys3 (zw7 η s d f) (fun q _ m hm=>hm.2.1) fun q hq=>(h.at' q (M q hq).1 (M q hq).2).1
  have N:=V3 G (abv η s d f) (by have:=zw8 η s d f;omega) fun q hq=>by have:=M q hq;rw[h.lG];omega
  generalize flD ((abv η s d f).map fun q=>G.getD q [])=w at U N
  have lw:=zm3 U
  unfold yq9
  refine O9 (ds:=G.map L) rfl ?_
  refine t9 (ρ':=[k0b f,some (.sh (.lst ((Ab η s d).map L))),some (.sh (.lst ((Ab η s (!d)).map L))),some (.sh (L (abv η s d f))),some (.sh (.lst (G.map L))),some (.own (B.map L)),O,some (.sh (L w))]) ((f9 (i5 (z6 (d:=.lst (G.map L)) rfl (z6 (d:=L (abv η s d f)) rfl y4)) N)).trans rfl) ?_
  refine⟨.rt (L (if (!w.isEmpty)=true then f::w else [])),N7 ?_,_,rfl,?_⟩
  .unfold mite
   rw[yc8 (l:=w) rfl]
   cases (!w.isEmpty)
   .exact j9 (w9 y4 (Nat.zero_le _))
   .exact za9 (p:=f) (w:=w) rfl rfl (by omega)
  .have g:=zm4 (p:=f) U (fun m ⟨q,_,hq⟩=>hq.ne) false
   rw[Bool.or_false]at g
   refine g.iff fun m=>?_
   refine Iff.trans ?_ (N3 S).symm
   constructor
   .rintro⟨k,rfl,⟨q,hq,z⟩|⟨_,z⟩⟩
    .exact⟨k,rfl,q,abv_mem.mp hq,z⟩
    .cases z
   .rintro⟨k,rfl,q,hq,z⟩
    exact⟨k,rfl,.inl ⟨q,abv_mem.mpr hq,z⟩⟩
def Rg (η:List Int)(s:Int)(l:List Nat):Prop:=∃ d f,f<η.length/\RaR η s d f 0 d f l
theorem B7 {α:Type}{g:Tg}{elt:ME}{f:α->D}{G:α->D}(I:List α->Ro->Prop)(hs:∀ d ds ρ,I (d::ds) ρ->∃ ρ1,tgD g (f d) ρ=some ρ1/\elt ρ1=some (G d)/\I ds ρ1):
  ∀(ds:List α)(ρ:Ro)(acc:List D),I ds ρ->acc.length+ds.length<=sizeLine->∃ ρ',X2 g elt (ds.map f) ρ acc=some (ρ',acc++ds.map G)/\I [] ρ'
 |[],ρ,acc,h,hl=>⟨ρ,by simp[X2],h⟩
 |d::ds,ρ,acc,h,hl=>by
  obtain⟨ρ1,h1,z,j⟩:=hs d ds ρ h
  rw[length_cons]at hl
  obtain⟨ρ',e,i⟩:=B7 I hs ds ρ1 (acc++[G d]) j (by simp;omega)
  refine⟨ρ',?_,i⟩
  rw[map_cons]
  unfold X2
  rw[h1]
  simp only[z]
  rw[if_pos (by omega),e]
  simp
theorem zd4 {g G:Tg}{j:ML}{elt:ME}{M L:D}{ρ ρ1 i:Ro}{i1 i2 acc:List D}{z I:Ro×List D}(h1:tgD g M ρ=some ρ1)(h2:j ρ1=some i1)(U:X2 G elt i1 ρ1 acc=some z)(S:tgD g L z.1=some i)(O:j i=some i2)(N:X2 G elt i2 i z.2=some I):V5 g j G elt [M,L] ρ acc=some I.2:=by
 rw[V5,h1]
 simp only[h2,U]
 rw[V5,S]
 simp only[O,N]
 rw[V5]
theorem ze5 {src:List (Option Nat)}{mi i:ML}{g j:Tg}{elt:ME}{ρ:Ro}{its out:List D}(h:mi ρ=some its)(h2:V5 g i j elt its (L8 src ρ) []=some out):Q4 src mi g i j elt ρ=some out:=by
 unfold Q4;rw[h];exact h2
theorem K1 (q:Addr)(η:List Int)(s:Int)(h1:1<=s)(O:η.length<=300):∃ l,m_Z0 [.rd q (η.map .int),.sh (.int s)]=some (.sh (L l))/\Best (fun m=>m=[]\/Rg η s m) l:=by
 have a0:=n4
 obtain⟨F,Y⟩:∃ F:Bool->Nat->List Nat,∀ d f,f<η.length->m_Z4 [.int (f:Int),.lst ((Ab η s d).map L),.lst ((Ab η s (!d)).map L)]=some (.sh (L (F d f)))/\Bo (RaR η s d f 0 d f) (F d f):=by
  refine⟨fun d f=>if h:f<η.length then (T6 η s d f O h).choose else [],fun d f h=>?_⟩
  simp only[dif_pos h]
  exact(T6 η s d f O h).choose_spec
 have ec:Q4 [none,none,none,some 0] (C5 (S4 m_Z6 (krd 0 (N9 (mvar 1) knil)))) (.tp [0,1]) (t4 rng1 (z4 (mlen (bvar 3)) anil)) (.nm 2) (t8 m_Z4 (z4 (mvar 2) (z4 (mvar 0) (z4 (mvar 1) anil)))) [some (.rd q (η.map .int)),k0c s,none]=some (((List.range η.length).map (F true)++(List.range η.length).map (F false)).map L):=by
  have e1:C5 (S4 m_Z6 (krd 0 (N9 (mvar 1) knil))) [some (.rd q (η.map .int)),k0c s,none]=some [.tup [.lst ((Ab η s true).map L),.lst ((Ab η s false).map L)],.tup [.lst ((Ab η s false).map L),.lst ((Ab η s true).map L)]]:=by
   unfold C5
   rw[E1 (yu9 (q:=q) (ds:=η.map .int) rfl (zx1 (d:=.int s) rfl zo3)) (L7 q η s O)]
  have N:∀ a b c:Option S,t4 rng1 (z4 (mlen (bvar 3)) anil) [a,b,c,some (.rd q (η.map .int))]=some ((List.range η.length).map dN):=fun a b c=>by
   unfold t4
   rw[z6 (d:=.int (η.length:Int)) (by rw[Z0 (ds:=η.map .int) rfl,length_map]) y4,Option.bind_some,N1 (T4 (by omega) (by omega)),Int.toNat_natCast,P2,map_map]
   rfl
  have I:∀(d:Bool)(c:Option S)(acc:List D),acc.length<=600->∃ Z,X2 (.nm 2) (t8 m_Z4 (z4 (mvar 2) (z4 (mvar 0) (z4 (mvar 1) anil)))) ((List.range η.length).map dN) [some (.sh (.lst ((Ab η s d).map L))),some (.sh (.lst ((Ab η s (!d)).map L))),c,some (.rd q (η.map .int))] acc=some ([some (.sh (.lst ((Ab η s d).map L))),some (.sh (.lst ((Ab η s (!d)).map L))),Z,some (.rd q (η.map .int))],acc++((List.range η.length).map (F d)).map L):=fun d c acc ha=>by
   obtain⟨ρ',e,_,Z,rfl⟩:=B7 (g:=.nm 2) (elt:=t8 m_Z4 (z4 (mvar 2) (z4 (mvar 0) (z4 (mvar 1) anil)))) (f:=dN) (G:=fun f=>L (F d f)) (fun fs ρ=>(∀ f∈fs,f<η.length)/\∃ c,ρ=[some (.sh (.lst ((Ab η s d).map L))),some (.sh (.lst ((Ab η s (!d)).map L))),c,some (.rd q (η.map .int))])
    (by
     rintro f fs ρ ⟨i,c,rfl⟩
     exact⟨[some (.sh (.lst ((Ab η s d).map L))),some (.sh (.lst ((Ab η s (!d)).map L))),k0b f,some (.rd q (η.map .int))],rfl,i5 (z6 (d:=.int (f:Int)) rfl (z6 (d:=.lst ((Ab η s d).map L)) rfl (z6 (d:=.lst ((Ab η s (!d)).map L)) rfl y4))) (Y d f (i f (by simp))).1,fun g hg=>i g (by simp[hg]),_,rfl⟩)
    (List.range η.length) [some (.sh (.lst ((Ab η s d).map L))),some (.sh (.lst ((Ab η s (!d)).map L))),c,some (.rd q (η.map .int))] acc ⟨fun f i=>List.mem_range.mp i,c,rfl⟩ (by rw[length_range];omega)
   exact⟨Z,by rw[e,map_map];rfl⟩
  obtain⟨c1,i1⟩:=I true none [] (by simp)
  obtain⟨c2,i2⟩:=I false c1 ([]++((List.range η.length).map (F true)).map L) (by simp;omega)
  refine(ze5 e1 (zd4 (ρ:=[none,none,none,some (.rd q (η.map .int))]) rfl (N _ _ _) i1 rfl (N _ _ _) i2)).trans ?_
  rw[nil_append,map_append]
 generalize U:(List.range η.length).map (F true)++(List.range η.length).map (F false)=j at ec
 have M:∀ m,m∈j↔∃ d f,f<η.length/\m=F d f:=fun m=>by
  rw[<-U,mem_append,mem_map,mem_map]
  constructor
  .rintro(⟨f,i,rfl⟩|⟨f,i,rfl⟩)
   .exact⟨true,f,List.mem_range.mp i,rfl⟩
   .exact⟨false,f,List.mem_range.mp i,rfl⟩
  .rintro⟨d,f,i,rfl⟩
   cases d
   .exact .inr ⟨f,List.mem_range.mpr i,rfl⟩
   .exact .inl ⟨f,List.mem_range.mpr i,rfl⟩
 have em:∃ l,minD (fun d=>shOf (m_Z5 [d])) (j.map L) (.lst [])=some (L l)/\(j=[]/\l=[]\/l∈j/\∀ m∈j,l5 m l=false):=by
  cases j with
  |nil=>exact⟨[],rfl,.inl ⟨rfl,rfl⟩⟩
  |cons b j=>
   obtain⟨r,e,a1,a2⟩:=zy8 (mk:=fun d=>shOf (m_Z5 [d])) ek j b
   refine⟨r,?_,.inr ⟨a1,a2⟩⟩
   show (match shOf (m_Z5 [L b])with |some kd=>minF _ (j.map L) (L b) kd|none=>none)=_
   rw[ek b]
   exact e
 obtain⟨l,el,hl⟩:=em
 refine⟨l,?_,?_⟩
 .unfold m_Z0 b_Z0
  refine za1 ?_
  refine seqI (ρ':=[some (.rd q (η.map .int)),k0c s,none]) ?_ ?_
  .exact zi8 (i5 (f:=m_Z8) (z6 (d:=.int s) rfl y4) (Q0 s h1))
  refine seqI (ρ':=[some (.rd q (η.map .int)),k0c s,some (.sh (.lst (j.map L)))]) ((f9 (j9 ec)).trans rfl) ?_
  exact N7 (by rw[yj3 (ds:=j.map L) rfl (j9 (w9 y4 (Nat.zero_le _))),el])
 .have hall:∀ m,Rg η s m->∃ k∈j,l5 m k=false:=fun m ⟨d,f,i,h⟩=>⟨F d f,(M _).mpr ⟨d,f,i,rfl⟩,(Y d f i).2.2 m (.inr h)⟩
  rcases hl with⟨e1,e2⟩|⟨h2,h3⟩
  .subst e2
   refine⟨.inl rfl,fun m hm=>?_⟩
   rcases hm with rfl|hm
   .rfl
   .obtain⟨k,hk,_⟩:=hall m hm
    rw[e1]at hk;cases hk
  .refine⟨?_,fun m hm=>?_⟩
   .obtain⟨d,f,i,rfl⟩:=(M l).mp h2
    rcases (Y d f i).2.1 with z|z
    .exact .inl z
    .exact .inr ⟨d,f,i,z⟩
   .rcases hm with rfl|hm
    .exact J5 _
    .obtain⟨k,hk,z⟩:=hall m hm
     exact R4 z (h3 k hk)
end
section
open PySem L2
theorem yn0 (ns:List Nat):(ns.map fun(k:Nat)=>(k:Int)).sum=((ns.sum:Nat):Int):=by
 induction ns with
 |nil=>rfl
 |cons n ns i=>rw[map_cons,sum_cons,sum_cons,i];omega
theorem dns (ns:List Nat):ns.map dN=(ns.map fun(k:Nat)=>(k:Int)).map .int:=by rw[map_map];rfl
theorem yw6 {m:ML}{ρ:Ro}{ns:List Nat}(h:m ρ=some (ns.map dN)):msum m ρ=some (dN ns.sum):=by
 unfold msum
 rw[h,dns]
 simp only[E4,yn0]
 rfl
theorem xv0 {m:ML}{ρ:Ro}{ns:List Nat}(h:m ρ=some (ns.map dN)):many m ρ=some (.bl (ns.any fun n=>n != 0)):=by
 unfold many
 rw[h,dns]
 simp only[E4]
 congr 2
 rw[any_map]
 congr 1
 funext n
 show ((n:Int) != 0)=(n != 0)
 by_cases z:n=0
 .subst z;rfl
 .rw[bne_iff_ne.mpr z,bne_iff_ne.mpr (by omega)]
theorem yg8 (ns:List Nat)(q:Nat)(h:q<ns.length):atI (ns.map dN) (q:Int)=some (dN (ns.getD q 0)):=by
 have:=zw6 dN ns (q:Int) (by omega) (by omega) 0
 rw[Int.toNat_natCast]at this
 exact this
theorem zk2 (ns:List Nat)(j:List (List Nat))(hA:∀ a∈j,a.length<=300/\∀ q∈a,q<ns.length)(N:j.length<=300):ze8 [.lst (ns.map dN),.lst (j.map L)]=some (.fr ((j.map fun a=>(a.map fun q=>ns.getD q 0).sum).map dN)):=by
 unfold ze8 xr2
 refine A9 ?_
 have M:=n4
 have i:∀ a:List Nat,(a.length<=300/\∀ q∈a,q<ns.length)->Z1 [none,some 1] (k0 (mvar 0)) (.nm 0) cyes (mix (bvar 1) (mvar 0)) [some (.sh (L a)),some (.sh (.lst (ns.map dN)))]=some ((a.map fun q=>ns.getD q 0).map dN):=by
  rintro a ⟨la,ha⟩
  unfold Z1
  rw[show k0 (mvar 0) [some (.sh (L a)),some (.sh (.lst (ns.map dN)))]=some (a.map dN)from rfl,Option.bind_some]
  show X3 _ _ _ _ [none,some (.sh (.lst (ns.map dN)))] []=_
  rw[X1 (f:=dN) (G:=fun q=>dN (ns.getD q 0)) (fun es ρ=>(∀ q∈es,q<ns.length)/\∃ o,ρ=[o,some (.sh (.lst (ns.map dN)))]) (by
   rintro q es ρ ⟨hq,o,rfl⟩
   exact⟨_,rfl,rfl,g6 (ds:=ns.map dN) (k:=(q:Int)) rfl rfl (yg8 ns q (hq q (by simp))),fun z I=>hq z (by simp[I]),_,rfl⟩) a _ [] ⟨ha,none,rfl⟩ (by simp;omega),nil_append,map_map]
  rfl
 unfold zf8 Z1
 rw[show k0 (mvar 1) (j1 2 [.lst (ns.map dN),.lst (j.map L)])=some (j.map L)from rfl,Option.bind_some]
 show (X3 _ _ _ _ [none,some (.sh (.lst (ns.map dN)))] []).map _=_
 rw[X1 (f:=L) (G:=fun a=>dN (a.map fun q=>ns.getD q 0).sum) (fun es ρ=>(∀ a∈es,a.length<=300/\∀ q∈a,q<ns.length)/\∃ o,ρ=[o,some (.sh (.lst (ns.map dN)))]) (by
  rintro a es ρ ⟨ha,o,rfl⟩
  refine⟨[some (.sh (L a)),some (.sh (.lst (ns.map dN)))],rfl,rfl,?_,fun z I=>ha z (by simp[I]),_,rfl⟩
  have e:=i a (ha a (by simp))
  unfold Z1 at e
  exact yw6 e) j _ [] ⟨hA,none,rfl⟩ (by simp;omega),nil_append]
 show some (Out.rf _)=_
 rw[map_map]
 rfl
theorem O7 (η:List Int)(s:Int)(d:Bool)(p:Nat):(abv η s d p).Nodup:=by
 unfold abv
 refine List.Pairwise.filter _ (List.pairwise_map.mpr ?_)
 exact List.Pairwise.imp (fun{a b} h=>by omega) (nodup_range (n:=η.length-(p+1)))
theorem yd3 {A B:List (List Nat)}(f:List Nat->List Nat)(hA:A.Nodup):(∀ a∈A,∀ b∈A,f a=f b->a=b)->(∀ a∈A,f a∈B)->A.length<=B.length:=by
 induction A generalizing B with
 |nil=>intro _ _;exact Nat.zero_le _
 |cons a A z=>
  intro hi hm
  have j:=List.nodup_cons.mp hA
  have ha:=hm a (by simp)
  have:=z (B:=B.erase (f a)) j.2 (fun x i y G=>hi x (by simp[i]) y (by simp[G])) (fun x i=>by
   refine(mem_erase_of_ne fun e=>?_).mpr (hm x (by simp[i]))
   have:=hi x (by simp[i]) a (by simp) e
   subst this
   exact j.1 i)
  rw[length_erase_of_mem ha]at this
  have hp:0<B.length:=length_pos_of_mem ha
  rw[length_cons];omega
theorem zk9 {A B:List (List Nat)}(hA:A.Nodup)(hB:B.Nodup)(h:∀ l,l∈A↔l∈B):A.length=B.length:=
 Nat.le_antisymm (yd3 id hA (fun _ _ _ _ e=>e) fun a ha=>(h a).mp ha) (yd3 id hB (fun _ _ _ _ e=>e) fun a ha=>(h a).mpr ha)
noncomputable def gl (η:List Int)(s:Int)(d:Bool)(f:Nat):Nat->Nat->List (List Nat)
 |0,p=>if p∈abv η s d f then [[p]]else []
 |k+1,p=>(abv η s (!d) p).flatMap fun q=>(abv η s d q).flatMap fun r=>(gl η s d f k r).map fun l=>p::q::l
theorem zs4 (η:List Int)(s:Int)(d:Bool)(f:Nat):∀(k p:Nat),p<η.length->∀ l,l∈gl η s d f k p↔RaR η s d f 1 (!d) p l/\l.length=2*k+1
 |0,p,hp,l=>by
  rw[gl]
  constructor
  .intro h
   split at h
   .rename_i hl
    rw[mem_singleton]at h
    subst h
    exact⟨(zv8 hp).mpr ⟨[],rfl,.inr ⟨rfl,hl⟩⟩,rfl⟩
   .cases h
  .rintro⟨h1,h2⟩
   obtain⟨k,rfl,⟨q,_,z⟩|⟨rfl,z⟩⟩:=(zv8 hp).mp h1
   .have:=z.ne
    cases k with
    |nil=>exact absurd rfl this
    |cons _ _=>simp at h2
   .have z:p∈abv η s d f:=z
    rw[if_pos z];simp
 |k+1,p,hp,l=>by
  rw[gl,mem_flatMap]
  constructor
  .rintro⟨q,hq,h⟩
   obtain⟨r,i,h⟩:=List.mem_flatMap.mp h
   obtain⟨m,hm,e⟩:=List.mem_map.mp h
   have hq:=abv_mem.mp hq
   have i:=abv_mem.mp i
   obtain⟨a,b⟩:=(zs4 η s d f k r i.2.1 m).mp hm
   subst e
   refine⟨(zv8 hp).mpr ⟨_,rfl,.inl ⟨q,hq,?_⟩⟩,by simp only[length_cons];omega⟩
   rw[Bool.not_not]
   exact(N3 hq.2.1).mpr ⟨m,rfl,r,i,a⟩
  .rintro⟨h1,h2⟩
   obtain⟨k1,rfl,⟨q,hq,z⟩|⟨rfl,z⟩⟩:=(zv8 hp).mp h1
   .rw[Bool.not_not]at z
    obtain⟨m,rfl,r,i,a⟩:=(N3 hq.2.1).mp z
    refine⟨q,abv_mem.mpr hq,List.mem_flatMap.mpr ⟨r,abv_mem.mpr i,List.mem_map.mpr ⟨m,(zs4 η s d f k r i.2.1 m).mpr ⟨a,?_⟩,rfl⟩⟩⟩
    simp only[length_cons]at h2
    omega
   .simp only[length_cons,length_nil]at h2
    omega
theorem yt9 {η:List Int}{s:Int}{d:Bool}{f k p:Nat}{l:List Nat}(h:l∈gl η s d f k p):l.head? =some p:=by
 cases k with
 |zero=>
  rw[gl]at h
  split at h
  .rw[mem_singleton]at h;rw[h];rfl
  .cases h
 |succ k=>
  rw[gl,mem_flatMap]at h
  obtain⟨q,_,h⟩:=h
  obtain⟨r,_,h⟩:=List.mem_flatMap.mp h
  obtain⟨m,_,e⟩:=List.mem_map.mp h
  rw[<-e];rfl
theorem N4 {xs:List Nat}{F:Nat->List (List Nat)}(i:xs.Nodup)(h1:∀ q∈xs,(F q).Nodup)(h2:∀ q l,l∈F q->l.head? =some q):(xs.flatMap F).Nodup:=by
 unfold List.Nodup
 rw[pairwise_flatMap]
 refine⟨h1,List.Pairwise.imp (fun{a b} h=>?_) i⟩
 intro x i y j e
 have:=h2 a x i
 rw[e,h2 b y j]at this
 exact h (Option.some.inj this).symm
theorem nodup_cons {p:Nat}{xs:List (List Nat)}(h:xs.Nodup):(xs.map (p::·)).Nodup:=by
 unfold List.Nodup
 rw[pairwise_map]
 exact List.Pairwise.imp (fun{a b} h=>by simpa using h) h
theorem zh3 (η:List Int)(s:Int)(d:Bool)(f:Nat):∀ k p,(gl η s d f k p).Nodup
 |0,p=>by
  rw[gl];split <;> simp
 |k+1,p=>by
  have e:gl η s d f (k+1) p=((abv η s (!d) p).flatMap fun q=>((abv η s d q).flatMap fun r=>gl η s d f k r).map (q::·)).map (p::·):=by
   rw[gl,map_flatMap]
   congr 1
   funext q
   rw[map_map,map_flatMap]
   rfl
  rw[e]
  refine nodup_cons (N4 (O7 η s (!d) p) (fun q _=>nodup_cons (N4 (O7 η s d q) (fun r _=>zh3 η s d f k r) fun r l h=>yt9 h)) ?_)
  intro q l h
  obtain⟨m,_,e⟩:=List.mem_map.mp h
  rw[<-e];rfl
noncomputable def gn (η:List Int)(s:Int)(d:Bool)(f k p:Nat):Nat:=(gl η s d f k p).length
theorem yt8 (η:List Int)(s:Int)(d:Bool)(f k p:Nat):gn η s d f (k+1) p=((abv η s (!d) p).map fun q=>((abv η s d q).map fun r=>gn η s d f k r).sum).sum:=by
 unfold gn
 rw[gl,length_flatMap]
 congr 1
 apply map_congr_left
 intro q _
 rw[length_flatMap]
 congr 1
 apply map_congr_left
 intro r _
 rw[length_map]
noncomputable def rl (η:List Int)(s:Int)(d:Bool)(k f:Nat):List (List Nat):=((abv η s d f).flatMap fun p=>gl η s d f k p).map (f::·)
noncomputable def rn (η:List Int)(s:Int)(d:Bool)(k f:Nat):Nat:=((abv η s d f).map fun p=>gn η s d f k p).sum
theorem za6 (η:List Int)(s:Int)(d:Bool)(k f:Nat):(rl η s d k f).length=rn η s d k f:=by
 unfold rl rn
 rw[length_map,length_flatMap]
 rfl
theorem za5 {η:List Int}{s:Int}{d:Bool}{k f:Nat}{l:List Nat}(i:f<η.length):l∈rl η s d k f↔RaR η s d f 0 d f l/\l.length=2*k+2:=by
 unfold rl
 rw[mem_map]
 constructor
 .rintro⟨m,hm,rfl⟩
  obtain⟨p,hp,hm⟩:=List.mem_flatMap.mp hm
  have hp:=abv_mem.mp hp
  obtain⟨a,b⟩:=(zs4 η s d f k p hp.2.1 m).mp hm
  exact⟨(N3 i).mpr ⟨m,rfl,p,hp,a⟩,by simp only[length_cons];omega⟩
 .rintro⟨h1,h2⟩
  obtain⟨m,rfl,p,hp,a⟩:=(N3 i).mp h1
  refine⟨m,List.mem_flatMap.mpr ⟨p,abv_mem.mpr hp,(zs4 η s d f k p hp.2.1 m).mpr ⟨a,?_⟩⟩,rfl⟩
  simp only[length_cons]at h2
  omega
theorem zz0 (η:List Int)(s:Int)(d:Bool)(k f:Nat):(rl η s d k f).Nodup:=
 nodup_cons (N4 (O7 η s d f) (fun p _=>zh3 η s d f k p) fun p l h=>yt9 h)
noncomputable def an (η:List Int)(s:Int)(k:Nat):Nat:=((List.range η.length).map (rn η s true k)).sum+((List.range η.length).map (rn η s false k)).sum
theorem xp7 {η:List Int}{s:Int}{l:List Nat}(h:Rg η s l):l.length<=η.length:=by
 obtain⟨d,f,i,a,⟨m,rfl⟩,_⟩:=h
 have:=a.len
 simp;omega
theorem xu6 {η:List Int}{s:Int}{d:Bool}{f k p:Nat}(hp:p<η.length)(h:η.length<2*k+1):gn η s d f k p=0:=by
 unfold gn
 cases hA:gl η s d f k p with
 |nil=>rfl
 |cons a A=>
  obtain⟨⟨w,⟨m,rfl⟩,_⟩,e⟩:=(zs4 η s d f k p hp a).mp (by rw[hA];simp)
  have:=w.len
  simp only[length_cons]at e
  omega
end
section
open PySem L2
theorem V2 {i:Nat}{x:ML}{ρ:Ro}{ds:List D}(h:x ρ=some ds):X6 i x ρ=some (.nx (ρ.set i (some (.own ds)))):=by unfold X6;rw[h];rfl
noncomputable def GN (η:List Int)(s:Int)(d:Bool)(f k:Nat):List Nat:=(List.range η.length).map (gn η s d f k)
theorem yv3 (n:Nat)(F:Nat->Nat)(q:Nat)(h:q<n):((List.range n).map F).getD q 0=F q:=by
 rw[getD_eq_getElem?_getD,getElem?_map,getElem?_range h];rfl
theorem yc0 (η:List Int)(s:Int)(i:η.length<=300)(e:Bool)(F:Nat->Nat):ze8 [.lst (((List.range η.length).map F).map dN),.lst ((Ab η s e).map L)]=some (.fr (((List.range η.length).map fun p=>((abv η s e p).map F).sum).map dN)):=by
 rw[zk2 ((List.range η.length).map F) (Ab η s e) ?_ (by rw[D4];omega)]
 .congr 3
  unfold Ab
  rw[map_map]
  apply map_congr_left
  intro p hp
  show ((abv η s e p).map fun q=>((List.range η.length).map F).getD q 0).sum=_
  congr 1
  apply map_congr_left
  intro q hq
  exact yv3 _ _ _ (abv_mem.mp hq).2.1
 .intro a ha
  obtain⟨p,_,rfl⟩:=List.mem_map.mp ha
  refine⟨Nat.le_trans (zw8 η s e p) i,fun q hq=>?_⟩
  rw[length_map,length_range]
  exact(abv_mem.mp hq).2.1
noncomputable def eC (η:List Int)(s:Int)(d:Bool)(f k:Nat):Ro:=[k0b f,some (.sh (.lst ((Ab η s d).map L))),some (.sh (.lst ((Ab η s (!d)).map L))),some (.sh (L (abv η s d f))),some (.sh (.lst ((GN η s d f k).map dN))),some (.own (((List.range k).map fun k=>rn η s d k f).map dN))]
theorem zb5 (η:List Int)(s:Int)(d:Bool)(f k:Nat)(I:η.length<=300):msum (Z1 [none,some 4] (k0 (mvar 3)) (.nm 0) cyes (mix (bvar 1) (mvar 0))) (eC η s d f k)=some (dN (rn η s d k f)):=by
 have j:=n4
 refine yw6 (ns:=(abv η s d f).map fun p=>gn η s d f k p) ?_
 unfold Z1
 rw[show k0 (mvar 3) (eC η s d f k)=some ((abv η s d f).map dN)from rfl,Option.bind_some]
 refine(X1 (f:=dN) (G:=fun p=>dN (gn η s d f k p)) (fun es ρ=>(∀ q∈es,q<η.length)/\∃ o,ρ=[o,some (.sh (.lst ((GN η s d f k).map dN)))]) (by
  rintro q es ρ ⟨hq,o,rfl⟩
  refine⟨[some (.sh (dN q)),some (.sh (.lst ((GN η s d f k).map dN)))],rfl,rfl,?_,fun z i=>hq z (by simp[i]),_,rfl⟩
  refine g6 (ds:=(GN η s d f k).map dN) (k:=(q:Int)) rfl rfl ?_
  rw[yg8 _ q (by unfold GN;rw[length_map,length_range];exact hq q (by simp))]
  unfold GN
  rw[yv3 _ _ _ (hq q (by simp))]) (abv η s d f) _ [] ⟨fun q hq=>(abv_mem.mp hq).2.1,none,rfl⟩ (by have:=zw8 η s d f;simp;omega)).trans ?_
 rw[nil_append,map_map]
 rfl
theorem xs0 (η:List Int)(s:Int)(d:Bool)(f k:Nat)(i:η.length<=300)(z:k<=1000):zx8 (eC η s d f k)=some (.nx (eC η s d f (k+1))):=by
 have j:=n4
 unfold zx8
 refine seqI (ρ':=(eC η s d f k).set 5 (some (.own (((List.range (k+1)).map fun k=>rn η s d k f).map dN)))) ?_ ?_
 .unfold mapp
  rw[zb5 η s d f k i]
  show (if (((List.range k).map fun k=>rn η s d k f).map dN).length<sizeLine then _ else none)=_
  rw[if_pos (by simp;omega),Z8,map_append]
  rfl
 .have e1:=yc0 η s i d (gn η s d f k)
  have e2:=yc0 η s i (!d) fun q=>((abv η s d q).map fun r=>gn η s d f k r).sum
  have e3:((List.range η.length).map fun p=>((abv η s (!d) p).map fun q=>((abv η s d q).map fun r=>gn η s d f k r).sum).sum)=GN η s d f (k+1):=by
   unfold GN
   apply map_congr_left
   intro p _
   rw[yt8]
  rw[e3]at e2
  exact(f9 (P8 (z6 (P8 (z6 (d:=.lst ((GN η s d f k).map dN)) rfl (z6 (d:=.lst ((Ab η s d).map L)) rfl y4)) e1) (z6 (d:=.lst ((Ab η s (!d)).map L)) rfl y4)) e2)).trans rfl
theorem yr9 (η:List Int)(s:Int)(d:Bool)(f:Nat)(i:η.length<=300):∀(u k:Nat),η.length+1<=k+u->k<=η.length->
  ∃ J,J<=η.length/\(∀ p,p<η.length->gn η s d f J p=0)/\Y6 (mtru (many (bvar 4))) zx8 u (eC η s d f k)=some (.nx (eC η s d f J))
 |0,k,h,hk=>by omega
 |u+1,k,h,hk=>by
  have c2:mtru (many (bvar 4)) (eC η s d f k)=some ((GN η s d f k).any fun n=>n != 0):=by
   unfold mtru
   rw[xv0 (ns:=GN η s d f k) rfl]
   rfl
  unfold Y6
  rw[c2]
  cases hz:(GN η s d f k).any fun n=>n != 0 with
  |true=>
   have j:k<η.length:=by
    rcases Nat.lt_or_ge k η.length with w|w
    .exact w
    .obtain⟨y,hy,e⟩:=List.any_eq_true.mp hz
     obtain⟨p,hp,rfl⟩:=List.mem_map.mp hy
     have hp:=List.mem_range.mp hp
     rw[xu6 hp (by omega)]at e
     cases e
   simp only[xs0 η s d f k i (by omega)]
   exact yr9 η s d f i u (k+1) (by omega) (by omega)
  |false=>
   refine⟨k,hk,fun p hp=>?_,rfl⟩
   have:=List.any_eq_false.mp hz (gn η s d f k p) (List.mem_map.mpr ⟨p,List.mem_range.mpr hp,rfl⟩)
   simpa using this
theorem S8 {xs:List Nat}{F:Nat->Nat}(h:∀ q∈xs,F q=0):(xs.map F).sum=0:=by
 induction xs with
 |nil=>rfl
 |cons x xs i=>rw[map_cons,sum_cons,h x (by simp),i fun q hq=>h q (by simp[hq])]
theorem yd4 {η:List Int}{s:Int}{d:Bool}{f J:Nat}(h:∀ p,p<η.length->gn η s d f J p=0):∀ i p,p<η.length->gn η s d f (J+i) p=0
 |0,p,hp=>h p hp
 |i+1,p,hp=>by
  rw[<-Nat.add_assoc,yt8]
  exact S8 fun q hq=>S8 fun r j=>yd4 h i r (abv_mem.mp j).2.1
theorem E9 (η:List Int)(s:Int)(d:Bool)(f:Nat)(I:η.length<=300)(i:f<η.length):∃ J,J<=η.length/\(∀ k,J<=k->rn η s d k f=0)/\m_Z7 [.int (f:Int),.lst ((Ab η s d).map L),.lst ((Ab η s (!d)).map L)]=some (.fr (((List.range J).map fun k=>rn η s d k f).map dN)):=by
 have U:=n4
 obtain⟨J,M,j,N⟩:=yr9 η s d f I 1000 0 (by omega) (by omega)
 refine⟨J,M,fun k Y=>?_,?_⟩
 .unfold rn
  refine S8 fun p hp=>?_
  have:=yd4 j (k-J) p (abv_mem.mp hp).2.1
  rw[show J+(k-J)=k by omega]at this
  exact this
 .unfold m_Z7 b_Z7
  refine A9 ?_
  refine seqI (ρ':=[k0b f,some (.sh (.lst ((Ab η s d).map L))),some (.sh (.lst ((Ab η s (!d)).map L))),some (.sh (L (abv η s d f))),none,none])
   ((f9 (g6 (ds:=(Ab η s d).map L) (k:=(f:Int)) rfl rfl (by rw[at_L _ f (by rw[D4];exact i),yo1 η s d f i]))).trans rfl) ?_
  have S:Z1 [none,some 3] (t4 rng1 (z4 (mlen (bvar 1)) anil)) (.nm 0) cyes (mite (l0 (m2 (inD false) (mvar 0) (mvar 1))) (mc (.int 1)) (mc (.int 0))) [k0b f,some (.sh (.lst ((Ab η s d).map L))),some (.sh (.lst ((Ab η s (!d)).map L))),some (.sh (L (abv η s d f))),none,none]=some ((GN η s d f 0).map dN):=by
   have O:t4 rng1 (z4 (mlen (bvar 1)) anil) [k0b f,some (.sh (.lst ((Ab η s d).map L))),some (.sh (.lst ((Ab η s (!d)).map L))),some (.sh (L (abv η s d f))),none,none]=some ((List.range η.length).map dN):=by
    unfold t4
    rw[z6 (d:=.int (η.length:Int)) (by rw[Z0 (ds:=(Ab η s d).map L) rfl,length_map,D4]) y4,Option.bind_some,N1 (T4 (by omega) (by omega)),Int.toNat_natCast,P2,map_map]
    rfl
   unfold Z1
   rw[O,Option.bind_some]
   refine(X1 (f:=dN) (G:=fun p=>dN (gn η s d f 0 p)) (fun _ ρ=>∃ o,ρ=[o,some (.sh (L (abv η s d f)))]) (by
    rintro p ps ρ ⟨o,rfl⟩
    refine⟨[some (.sh (dN p)),some (.sh (L (abv η s d f)))],rfl,rfl,?_,_,rfl⟩
    unfold mite
    rw[xh2 (p:=p) (l:=abv η s d f) rfl rfl]
    unfold gn
    rw[gl]
    by_cases z:p∈abv η s d f
    .rw[if_pos z,decide_eq_true z];rfl
    .rw[if_neg z,decide_eq_false z];rfl) (List.range η.length) _ [] ⟨none,rfl⟩ (by simp;omega)).trans ?_
   unfold GN
   rw[nil_append,map_map]
   rfl
  refine seqI (ρ':=[k0b f,some (.sh (.lst ((Ab η s d).map L))),some (.sh (.lst ((Ab η s (!d)).map L))),some (.sh (L (abv η s d f))),some (.sh (.lst ((GN η s d f 0).map dN))),none]) ((f9 (j9 S)).trans rfl) ?_
  refine seqI (ρ':=eC η s d f 0) ((V2 (w9 y4 (Nat.zero_le _))).trans rfl) ?_
  refine seqI N ?_
  rfl
end
section
open PySem L2
noncomputable def eK (q:Addr)(η:List Int)(s:Int)(T:List Nat)(o3 o4 o5 o6 o7:Option S):Ro:=[some (.rd q (η.map .int)),k0c s,some (.own (T.map dN)),o3,o4,o5,o6,o7]
theorem yg7 {i h b:Nat}{j v:ME}{ρ:Ro}{T:List Nat}(hi:ρ[i]? =some (some (.own (T.map dN))))(z:j ρ=some (.int (h:Int)))(G:v ρ=some (dN b))(hh:h<T.length):zt7 i j v ρ=some (.nx (ρ.set i (some (.own ((T.set h (T.getD h 0+b)).map dN))))):=by
 unfold zt7
 rw[hi,z]
 simp only
 rw[length_map,yt2 _ _ hh]
 simp only
 have e:(T.map dN)[h]? =some (.int ((T.getD h 0:Nat):Int)):=by
  rw[getElem?_map,getD_eq_getElem?_getD,getElem?_eq_getElem hh];rfl
 rw[e,G]
 show some (Out.nx (ρ.set i (some (.own ((T.map dN).set h (.int (((T.getD h 0:Nat):Int)+(b:Int))))))))=_
 rw[map_set]
 rfl
theorem zo4 (T:List Nat)(p q b:Nat)(h:p≠q):(T.set p b).getD q 0=T.getD q 0:=by
 rw[getD_eq_getElem?_getD,getD_eq_getElem?_getD,getElem?_set_ne h]
theorem ys0 (T:List Nat)(p b:Nat)(h:p<T.length):(T.set p b).getD p 0=b:=by
 rw[getD_eq_getElem?_getD,getElem?_set_self h];rfl
def Put (n:Nat)(T U:List Nat)(c:Nat->Nat):Prop:=T.length=n+1/\U.length=n+1/\U.getD 0 0=T.getD 0 0/\∀ h,h<n->U.getD (h+1) 0=T.getD (h+1) 0+c h
theorem yh6 (c:Nat->Nat)(J:Nat):zs8 [.lst (((List.range J).map c).map dN)]=some ((List.range J).map fun(i:Nat)=>D.tup [.int ((i+1:Nat):Int),dN (c i)]):=by
 show some (V4 1 _)=_
 congr 1
 apply ext_getElem?
 intro i
 rcases Nat.lt_or_ge i J with h|h
 .rw[S6 1 _ i (dN (c i)) (by rw[getElem?_map,getElem?_map,getElem?_range h];rfl),getElem?_map,getElem?_range h,Nat.add_comm 1 i]
  rfl
 .rw[getElem?_eq_none (by rw[l4];simpa using h),getElem?_eq_none (by simpa using h)]
theorem yw1 (q:Addr)(η:List Int)(s:Int)(hr:η.length<=300)(d:Bool)(f:Nat)(hf:f<η.length)(T:List Nat)(Z:T.length=η.length+1)(O o7:Option S):
  ∃ U M G,Put η.length T U (fun h=>rn η s d h f)/\zw1 (eK q η s T (some (.sh (.lst ((Ab η s d).map L)))) (some (.sh (.lst ((Ab η s (!d)).map L)))) (k0b f) O o7)=some (.nx (eK q η s U (some (.sh (.lst ((Ab η s d).map L)))) (some (.sh (.lst ((Ab η s (!d)).map L)))) (k0b f) M G)):=by
 obtain⟨J,hJ,hz,ec⟩:=E9 η s d f hr hf
 unfold zw1
 obtain⟨o,e,U,M,G,rfl,hU⟩:=Z6 (mi:=t4 zs8 (z4 (t8 m_Z7 (z4 (mvar 5) (z4 (mvar 3) (z4 (mvar 4) anil)))) anil)) (g:=.tp [6,7]) (body:=zm7) (ρ:=eK q η s T (some (.sh (.lst ((Ab η s d).map L)))) (some (.sh (.lst ((Ab η s (!d)).map L)))) (k0b f) O o7) J (f:=fun(i:Nat)=>D.tup [.int ((i+1:Nat):Int),dN (rn η s d i f)])
  (by
   unfold t4
   rw[z6 (P8 (z6 (d:=.int (f:Int)) rfl (z6 (d:=.lst ((Ab η s d).map L)) rfl (z6 (d:=.lst ((Ab η s (!d)).map L)) rfl y4))) ec) y4,Option.bind_some]
   exact yh6 (fun k=>rn η s d k f) J)
  (I:=fun j ρ=>∃ U M G,ρ=eK q η s U (some (.sh (.lst ((Ab η s d).map L)))) (some (.sh (.lst ((Ab η s (!d)).map L)))) (k0b f) M G/\Put η.length T U (fun h=>if h<j then rn η s d h f else 0))
  (Q:=fun o=>∃ U M G,o= .nx (eK q η s U (some (.sh (.lst ((Ab η s d).map L)))) (some (.sh (.lst ((Ab η s (!d)).map L)))) (k0b f) M G)/\Put η.length T U (fun h=>rn η s d h f))
  ⟨T,O,o7,rfl,Z,Z,rfl,fun h _=>by simp⟩
  (by
   rintro j ρ hj ⟨U,M,G,rfl,h1,h2,Y,N⟩
   refine⟨eK q η s U (some (.sh (.lst ((Ab η s d).map L)))) (some (.sh (.lst ((Ab η s (!d)).map L)))) (k0b f) (some (.sh (.int ((j+1:Nat):Int)))) (some (.sh (dN (rn η s d j f)))),rfl,?_⟩
   unfold zm7
   refine⟨_,yg7 (T:=U) (h:=j+1) (b:=rn η s d j f) rfl rfl rfl (by omega),?_⟩
   refine⟨U.set (j+1) (U.getD (j+1) 0+rn η s d j f),_,_,rfl,h1,by rw[length_set];exact h2,?_,fun h hh=>?_⟩
   .rw[zo4 _ _ _ _ (by omega)];exact Y
   .by_cases z:j=h
    .subst z
     rw[ys0 _ _ _ (by omega),N j hh]
     simp
    .rw[zo4 _ _ _ _ (by omega),N h hh]
     dsimp only
     by_cases w:h<j
     .rw[if_pos w,if_pos (by omega)]
     .rw[if_neg w,if_neg (by omega)])
  (by
   rintro ρ ⟨U,M,G,rfl,h1,h2,Y,N⟩
   refine⟨U,M,G,rfl,h1,h2,Y,fun h hh=>?_⟩
   rw[N h hh]
   dsimp only
   by_cases w:h<J
   .rw[if_pos w]
   .rw[if_neg w,hz h (by omega)])
 exact⟨U,M,G,hU,e⟩
theorem xz0 {q:Addr}{η:List Int}{ρ:Ro}(i:η.length<=300)(h:ρ[0]? =some (some (.rd q (η.map .int)))):t4 rng1 (z4 (mlen (bvar 0)) anil) ρ=some ((List.range η.length).map dN):=by
 unfold t4
 rw[z6 (d:=.int (η.length:Int)) (by rw[Z0 (ds:=η.map .int) (by unfold bvar;rw[h]),length_map]) y4,Option.bind_some,N1 (T4 (by omega) (by omega)),Int.toNat_natCast,P2,map_map]
 rfl
theorem yw0 (q:Addr)(η:List Int)(s:Int)(Y:η.length<=300)(d:Bool)(T:List Nat)(Z:T.length=η.length+1)(N M o7:Option S):
  ∃ U G z i,Put η.length T U (fun h=>((List.range η.length).map (rn η s d h)).sum)/\zw0 (eK q η s T (some (.sh (.lst ((Ab η s d).map L)))) (some (.sh (.lst ((Ab η s (!d)).map L)))) N M o7)=some (.nx (eK q η s U (some (.sh (.lst ((Ab η s d).map L)))) (some (.sh (.lst ((Ab η s (!d)).map L)))) G z i)):=by
 unfold zw0
 obtain⟨o,e,U,G,z,i,rfl,O⟩:=Z6 (mi:=t4 rng1 (z4 (mlen (bvar 0)) anil)) (g:=.nm 5) (body:=zw1) (ρ:=eK q η s T (some (.sh (.lst ((Ab η s d).map L)))) (some (.sh (.lst ((Ab η s (!d)).map L)))) N M o7) η.length (f:=dN) (xz0 (q:=q) Y rfl)
  (I:=fun j ρ=>∃ U G z i,ρ=eK q η s U (some (.sh (.lst ((Ab η s d).map L)))) (some (.sh (.lst ((Ab η s (!d)).map L)))) G z i/\Put η.length T U (fun h=>((List.range j).map (rn η s d h)).sum))
  (Q:=fun o=>∃ U G z i,o= .nx (eK q η s U (some (.sh (.lst ((Ab η s d).map L)))) (some (.sh (.lst ((Ab η s (!d)).map L)))) G z i)/\Put η.length T U (fun h=>((List.range η.length).map (rn η s d h)).sum))
  ⟨T,N,M,o7,rfl,Z,Z,rfl,fun h _=>by simp⟩
  (by
   rintro j ρ hj ⟨U,G,z,i,rfl,h1,h2,h3,h4⟩
   obtain⟨V,r6,r7,⟨_,g2,g3,g4⟩,ev⟩:=yw1 q η s Y d j hj U h2 z i
   refine⟨eK q η s U (some (.sh (.lst ((Ab η s d).map L)))) (some (.sh (.lst ((Ab η s (!d)).map L)))) (k0b j) z i,rfl,_,ev,?_⟩
   refine⟨V,_,_,_,rfl,h1,g2,by rw[g3,h3],fun h hh=>?_⟩
   rw[g4 h hh,h4 h hh]
   dsimp only
   rw[Z8,sum_append,sum_singleton,Nat.add_assoc])
  (by
   rintro ρ ⟨U,G,z,i,rfl,O⟩
   exact⟨U,G,z,i,rfl,O⟩)
 exact⟨U,G,z,i,O,e⟩
noncomputable def tn (η:List Int)(s:Int):Nat->Nat
 |0=>1
 |h+1=>an η s h
theorem zi1 (q:Addr)(η:List Int)(s:Int)(L:η.length<=300)(I G j i o7:Option S):∀(m u:Nat),m<u->m<=400->∃ M,M<=m/\tn η s M≠0/\(∀ h,M<h->h<=m->tn η s h=0)/\
  Y6 (l0 (m2 eqSD (mix (bvar 2) (m1 negD (mc (.int 1)))) (mc (.int 0)))) zx9 u (eK q η s ((List.range (m+1)).map (tn η s)) I G j i o7)=some (.nx (eK q η s ((List.range (M+1)).map (tn η s)) I G j i o7))
 |m,0,h,_=>by omega
 |m,u+1,h,hm=>by
  have c:l0 (m2 eqSD (mix (bvar 2) (m1 negD (mc (.int 1)))) (mc (.int 0))) (eK q η s ((List.range (m+1)).map (tn η s)) I G j i o7)=some (decide (tn η s m=0)):=by
   have e:mix (bvar 2) (m1 negD (mc (.int 1))) (eK q η s ((List.range (m+1)).map (tn η s)) I G j i o7)=some (dN (tn η s m)):=by
    refine g6 (ds:=((List.range (m+1)).map (tn η s)).map dN) (k:=-1) rfl rfl ?_
    rw[Z8]
    exact atI_last dN _ _
   unfold l0
   rw[B3 e (b:=.int 0) rfl]
   show (match (some (D.bl (((tn η s m:Nat):Int)==0)):Option D)with |some (.bl b)=>some b|_=>none)=_
   simp only
   congr 1
   rw[Bool.eq_iff_iff,beq_iff_eq,decide_eq_true_eq]
   omega
  unfold Y6
  rw[c]
  by_cases z:tn η s m=0
  .rw[decide_eq_true z]
   cases m with
   |zero=>cases z
   |succ m=>
    have e:zx9 (eK q η s ((List.range (m+1+1)).map (tn η s)) I G j i o7)=some (.nx (eK q η s ((List.range (m+1)).map (tn η s)) I G j i o7)):=by
     unfold zx9 zf9
     show (if 0<(((List.range (m+1+1)).map (tn η s)).map dN).length then some (Out.nx ((eK q η s ((List.range (m+1+1)).map (tn η s)) I G j i o7).set 2 (some (.own (((List.range (m+1+1)).map (tn η s)).map dN).dropLast))))else none)=_
     rw[if_pos (by simp),Z8,map_append]
     rw[show (List.map dN (List.map (tn η s) (List.range (m+1)))++List.map dN [tn η s (m+1)]).dropLast=List.map dN (List.map (tn η s) (List.range (m+1)))from dropLast_concat]
     rfl
    simp only[e]
    obtain⟨M,h1,h2,O,N⟩:=zi1 q η s L I G j i o7 m u (by omega) (by omega)
    refine⟨M,by omega,h2,fun h a b=>?_,N⟩
    rcases Nat.lt_or_ge h (m+1)with w|w
    .exact O h a (by omega)
    .rw[show h=m+1 by omega];exact z
  .rw[decide_eq_false z]
   exact⟨m,Nat.le_refl _,z,fun h a b=>by omega,rfl⟩
theorem ya9 {n:Nat}{m:MS}{i:List S}{d:List D}(h:m (R7 n i)=some (.rf d)):runK n m i=some (.fr d):=by unfold runK;rw[h]
theorem zc4 (n:Nat):(List.replicate n [D.int 0]).flatten=((List.range n).map fun _=>0).map dN:=by
 induction n with
 |zero=>rfl
 |succ n i=>rw[replicate_succ',flatten_append,i,range_succ,map_append,map_append];rfl
theorem zx3 {g:Tg}{body:MS}{G z:D}{ρ ρ1 j ρ3 i:Ro}(h1:tgD g G ρ=some ρ1)(h2:body ρ1=some (.nx j))(L:tgD g z j=some ρ3)(I:body ρ3=some (.nx i)):forD g body [G,z] ρ=some (.nx i):=by
 unfold forD
 rw[h1]
 simp only[h2]
 unfold forD
 rw[L]
 simp only[I]
 rfl
theorem E8 (q:Addr)(η:List Int)(s:Int)(h1:1<=s)(j:η.length<=300):∃ M,M<=η.length/\tn η s M≠0/\(∀ h,M<h->h<=η.length->tn η s h=0)/\m_Z1 [.rd q (η.map .int),.sh (.int s)]=some (.fr (((List.range (M+1)).map (tn η s)).map dN)):=by
 have a0:=n4
 have i1:1<=sizeLine:=w4 (by decide)
 have rk:J8 1 (η.length:Int)=true:=by
  unfold J8
  rw[decide_eq_true (by omega),decide_eq_true (by omega),decide_eq_true (by rw[Int.toNat_natCast];omega)];rfl
 have e0:mcat (w5 (z4 (mc (.int 1)) anil)) (mrep (w5 (z4 (mc (.int 0)) anil)) (mlen (bvar 0))) [some (.rd q (η.map .int)),k0c s,none,none,none,none,none,none]=some ((1::(List.range η.length).map fun _=>0).map dN):=by
  have rp:=zy5 (x:=w5 (z4 (mc (.int 0)) anil)) (y:=mlen (bvar 0)) (ρ:=[some (.rd q (η.map .int)),k0c s,none,none,none,none,none,none]) (w9 (z6 (d:=.int 0) rfl y4) i1) (k:=(η.length:Int)) (by rw[Z0 (ds:=η.map .int) rfl,length_map]) rk
  rw[Int.toNat_natCast,zc4]at rp
  refine(F9 (w9 (z6 (d:=.int 1) rfl y4) i1) rp (by simp;omega)).trans ?_
  rfl
 have lT:(1::(List.range η.length).map fun _=>0).length=η.length+1:=by simp
 obtain⟨U,S,O,N,⟨_,u2,u3,u4⟩,eu⟩:=yw0 q η s j true (1::(List.range η.length).map fun _=>0) lT none none none
 obtain⟨V,I,G,z,⟨_,v2,Z,Y⟩,ev⟩:=yw0 q η s j false U u2 S O N
 have hV:V=(List.range (η.length+1)).map (tn η s):=by
  apply ext_getElem?
  intro i
  rcases Nat.lt_or_ge i (η.length+1)with h|h
  .have hg:V.getD i 0=tn η s i:=by
    cases i with
    |zero=>rw[Z,u3];rfl
    |succ i=>
     rw[Y i (by omega),u4 i (by omega)]
     rw[show (1::(List.range η.length).map fun _=>0).getD (i+1) 0=0 from yv3 η.length (fun _=>0) i (by omega),Nat.zero_add]
     rfl
   rw[getElem?_map,getElem?_range h]
   rw[getD_eq_getElem?_getD,getElem?_eq_getElem (by omega)]at hg
   rw[getElem?_eq_getElem (by omega)]
   exact congrArg some hg
  .rw[getElem?_eq_none (by omega),getElem?_eq_none (by simpa using h)]
 obtain⟨M,hM,m1,m2,em⟩:=zi1 q η s j (some (.sh (.lst ((Ab η s false).map L)))) (some (.sh (.lst ((Ab η s true).map L)))) I G z η.length 1000 (by omega) (by omega)
 refine⟨M,hM,m1,m2,?_⟩
 unfold m_Z1 b_Z1
 refine ya9 ?_
 refine seqI (ρ':=[some (.rd q (η.map .int)),k0c s,none,none,none,none,none,none]) (zi8 (i5 (f:=m_Z8) (z6 (d:=.int s) rfl y4) (Q0 s h1))) ?_
 refine seqI (ρ':=eK q η s (1::(List.range η.length).map fun _=>0) none none none none none) ((V2 e0).trans rfl) ?_
 have e1:C5 (S4 m_Z6 (krd 0 (N9 (mvar 1) knil))) (eK q η s (1::(List.range η.length).map fun _=>0) none none none none none)=some [.tup [.lst ((Ab η s true).map L),.lst ((Ab η s false).map L)],.tup [.lst ((Ab η s false).map L),.lst ((Ab η s true).map L)]]:=by
  unfold C5
  rw[E1 (yu9 (q:=q) (ds:=η.map .int) rfl (zx1 (d:=.int s) rfl zo3)) (L7 q η s j)]
 have ef:mfor (C5 (S4 m_Z6 (krd 0 (N9 (mvar 1) knil)))) (.tp [3,4]) zw0 (eK q η s (1::(List.range η.length).map fun _=>0) none none none none none)=some (.nx (eK q η s V (some (.sh (.lst ((Ab η s false).map L)))) (some (.sh (.lst ((Ab η s true).map L)))) I G z)):=by
  unfold mfor
  rw[e1,Option.bind_some]
  refine zx3 (ρ1:=eK q η s (1::(List.range η.length).map fun _=>0) (some (.sh (.lst ((Ab η s true).map L)))) (some (.sh (.lst ((Ab η s (!true)).map L)))) none none none) rfl eu (ρ3:=eK q η s U (some (.sh (.lst ((Ab η s false).map L)))) (some (.sh (.lst ((Ab η s (!false)).map L)))) S O N) rfl ev
 refine seqI ef ?_
 unfold yp2
 rw[hV]
 refine seqI em ?_
 rfl
end
section
open PySem L2
theorem W3 (c k:Int)(hk:0<=k):W6 [.int c,.int k]=some (.sh (.int (stir c k))):=by
 have hp:((10:Int)^(18:Int).toNat)=10^18:=rfl
 have j:((2:Int)^(28:Int).toNat)=2^28:=rfl
 have L:zu1 10 18=true:=by decide
 have I:zu1 2 28=true:=by decide
 have G:P6 28 k=true:=N6 _ _ (by decide) (by decide)
 have Z:P6 1013 k=true:=N6 _ _ (by decide) (by decide)
 have Y:P6 (c+1013*k+1) 16807=true:=yw4 _ _ (by decide) (by decide)
 have U:yb9 (c-10^18) (28*k)=true:=by unfold yb9;exact decide_eq_true (by omega)
 have o7:P6 ((c+1013*k+1)*16807 % 2147483647) ((c+1013*k+1)*16807 % 2147483647)=true:=N6 _ _ (by omega) (by omega)
 have S:P6 (((c+1013*k+1)*16807 % 2147483647)*((c+1013*k+1)*16807 % 2147483647) % 2147483629) 39373=true:=yw4 _ _ (by decide) (by decide)
 have z:∀ i,zy6 i (2^28)=true:=fun i=>t6 _ _ (by decide)
 have O:∀ i,zy6 i 2147483647=true:=fun i=>t6 _ _ (by decide)
 have N:∀ i,zy6 i 2147483629=true:=fun i=>t6 _ _ (by decide)
 have M:∀ i,zy6 i 2147483587=true:=fun i=>t6 _ _ (by decide)
 have f1:∀ i,L4 i 8=true:=fun i=>by unfold L4;decide
 unfold W6 xr3 stir
 by_cases h:10^18<=c
 .simp_arith [hp,j,L,I,G,U,z,h,decide_true,if_true]
 .simp_arith [hp,j,L,I,G,Z,Y,o7,S,z,O,N,M,f1,h,decide_false,if_true,if_false]
theorem yg1 (ns:List Int)(many:Nat)(G:ns.length<=63):∃ z:List Int,yv7 [.lst (ns.map .int),.int many]=some (.fr (z.map .int)):=by
 unfold yv7 xr5
 have e1:cutL (ns.map D.int) none (some (many:Int))=(ns.take many).map .int:=by rw[zh6,xt2]
 have e2:[D.int 0]=([0]:List Int).map .int:=rfl
 have g:((ns.take many).map D.int).length+[D.int 0].length<=sizeLine:=w4 (by simp;omega)
 have j:1<=sizeLine:=w4 (by decide)
 refine⟨cutI (ns.take many++[0]) none (some (max 1 (min (many:Int) (ns.length:Int)))),A9 ?_⟩
 simp_arith [e1,j,if_true,length_map,xj9,yd0]
 have i:(ns.take many).length+(0+1)<=sizeLine:=w4 (by simp;omega)
 rw[if_pos i]
 simp_arith []
 rw[e2,<-map_append,zh6]
noncomputable def envR (c most size kind wide block:Int)(f:List Int)(last:Int)(o8 o9 o10:Option S):Ro:=[k0c c,k0c most,k0c size,k0c kind,k0c wide,k0c block,some (.own (f.map .int)),k0c last,o8,o9,o10]
theorem yn7 (c I size kind wide z:Int)(f:List Int)(G:Int)(j:Nat)(O L:Option S)(a1:0<=kind)(a0:kind<8)(hw:0<wide)(a2:wide<=1000000)(hb:0<z)(a3:z<=9)(hf:f.length<1000000)(Q:Out->Prop)
  (hQ:∀ x G o8 O L,Q (.nx (envR c I size kind wide z (f++[x]) G o8 O L))):Run zw4 (envR c I size kind wide z f G (k0b j) O L) Q:=by
 have s1:=W3 c (10+(j:Int)) (by omega)
 have b1:=j6 (x:=stir c (10+(j:Int))) hw
 obtain⟨one,eo⟩:∃ k,stir c (10+(j:Int)) % wide=k:=⟨_,rfl⟩
 rw[eo]at b1
 have N:(10:Int)^(23:Int).toNat=100000000000000000000000:=by decide
 have U:zu1 10 23=true:=by decide
 have i1:0+1<=sizeLine:=w4 (by decide)
 have i2:0+1+1<=sizeLine:=w4 (by decide)
 have i3:0+1+1+1<=sizeLine:=w4 (by decide)
 have i4:0+1+1+1+1<=sizeLine:=w4 (by decide)
 have i7:0+1+1+1+1+(0+1+1+1)<=sizeLine:=w4 (by decide)
 have i8:0+1+1+1+1+1+1+1+(0+1)<=sizeLine:=w4 (by decide)
 have d2:∀ i,L4 i 2=true:=fun i=>E6 _ _ (by decide) (by decide)
 have M:=j6 (x:=(j:Int)) (show (0:Int)<2 by decide)
 obtain⟨x2,e2⟩:=at2 one (0-one) ((j:Int) % 2) M.1 M.2
 have mb:=j6 (x:=(j:Int) / z) (show (0:Int)<2 by decide)
 have Z:P6 ((j:Int) / z % 2) wide=true:=N6 _ _ (by omega) (by omega)
 have Y:P6 (one-wide / 2) 100000000000000000000000=true:=N6 _ _ (by omega) (by omega)
 unfold zw4 envR
 ((apply t9;focus (simp_arith [s1,t6 (stir c (10+(j:Int))) wide hw,if_true,eo];rfl)))
 ((apply t9;focus (simp_arith [d2,if_true];rfl)))
 ((apply t9;focus (simp_arith [d2,if_true,i4,i2,t6 (j:Int) 2 (by decide),e2];rfl)))
 ((apply t9;focus (simp_arith [d2,if_true,i3,i7,E6 (j:Int) z hb (by omega),t6 ((j:Int) / z) 2 (by decide),Z,Y,N,U,s1,t6 (stir c (10+(j:Int))) 3 (by decide)];rfl)))
 obtain⟨x8,e8⟩:=at8 (one-wide / 2) ((j:Int)+one / 2) (0-(j:Int)-one / 2) x2 (one+(j:Int) / z % 2*wide) wide ((one-wide / 2)*100000000000000000000000+stir c (10+(j:Int)) % 3) (G+one-wide / 2) kind a1 a0
 have hl:(f.map D.int).length<sizeLine:=by simp;have:=n4;omega
 refine⟨_,by simp_arith [i1,i8,if_true,e8,hl];rfl,?_⟩
 have:=fun a b d=>hQ x8 (G+one-wide / 2) a b d
 unfold envR at this
 simp only[map_append]at this
 exact this _ _ _
theorem xp6 (c:Int)(i:Nat)(hm:i<=300):∃ f:List Int,f.length<=i/\yv4 [.int c,.int i]=some (.fr (f.map .int)):=by
 suffices h:∃ es,yv4 [.int c,.int i]=some (.fr es)/\∃ f:List Int,f.length<=i/\es=f.map .int by
  obtain⟨es,e,f,O,rfl⟩:=h
  exact⟨f,O,e⟩
 unfold yv4 xr0
 refine zj1 ?_
 have S:0+1+1+1+1<=sizeLine:=w4 (by decide)
 have i0:0<=sizeLine:=Nat.zero_le _
 have p6:(10:Int)^(6:Int).toNat=1000000:=by decide
 have o6:zu1 10 6=true:=by decide
 have Z:=j6 (x:=stir c 1) (show (0:Int)<4 by decide)
 have Y:=j6 (x:=stir c 2) (show (0:Int)<8 by decide)
 have U:=j6 (x:=stir c 3) (show (0:Int)<4 by decide)
 have b4:=j6 (x:=stir c 4) (show (0:Int)<9 by decide)
 obtain⟨sz,e1,a0⟩:=at4 4 13 41 ((i:Int)+1) (stir c 1 % 4) Z.1 Z.2
 have N:0<sz:=by omega
 have b0:=j6 (x:=stir c 0) N
 ((apply t9;focus (simp_arith [W3 c 0 (by decide),W3 c 1 (by decide),S,if_true,t6 (stir c 1) 4 (by decide),e1,t6 (stir c 0) sz N];rfl)))
 ((apply t9;focus (simp_arith [W3 c 2 (by decide),if_true,t6 (stir c 2) 8 (by decide)];rfl)))
 obtain⟨wide,e3,hw⟩:=at4 2 5 50 1000000 (stir c 3 % 4) U.1 U.2
 ((apply t9;focus (simp_arith [W3 c 3 (by decide),S,if_true,t6 (stir c 3) 4 (by decide),p6,o6,e3];rfl)))
 ((apply t9;focus (simp_arith [W3 c 4 (by decide),if_true,t6 (stir c 4) 9 (by decide)];rfl)))
 ((apply t9;focus (simp_arith [i0,if_true];rfl)))
 ((apply t9;focus (simp_arith [];rfl)))
 obtain⟨n,en⟩:=xj4 (x:=min (stir c 0 % sz) (i:Int)) (by omega)
 have hn:n<=300:=by omega
 have a1:n<=i:=by omega
 have k1:okR (n:Int)=true:=T4 (by omega) (by omega)
 refine P1 (Z6 n (f:=fun(j:Nat)=>D.int (j:Int)) (by simp_arith [yd0,en,N1 k1,Int.toNat_natCast];rw[P2,map_map];rfl)
  (I:=fun j ρ=>∃ f z M L G,f.length=j/\ρ=envR c i (stir c 0 % sz) (stir c 2 % 8) wide (1+stir c 4 % 9) f z M L G) _ ⟨[],_,_,_,_,rfl,rfl⟩ ?_ ?_)
 .rintro j ρ hj ⟨f,z,M,L,G,O,rfl⟩
  refine⟨_,rfl,yn7 c i (stir c 0 % sz) (stir c 2 % 8) wide (1+stir c 4 % 9) f z j L G Y.1 Y.2 (by omega) (by omega) (by omega) (by omega) (by omega) _ fun x z M L G=>⟨f++[x],z,M,L,G,by simp[O],rfl⟩⟩
 .rintro ρ ⟨f,z,M,L,G,O,rfl⟩
  exact yn5 rfl ⟨_,rfl,f,by omega,rfl⟩
theorem zi9 {i:Nat}{m:ME}{ρ:Ro}{ds:List D}{d:D}(h:ρ[i]? =some (some (.own ds)))(h2:m (ρ.set i (some (.sh (.lst ds))))=some d)(hn:noL d=true):ze6 i m ρ=some d:=by
 unfold ze6;rw[h];simp only;rw[h2];simp only[hn,if_true]
theorem yw5 {x:ME}{ρ:Ro}{b:Bool}(h:x ρ=some (.bl b)):mtru x ρ=some b:=by unfold mtru;rw[h];rfl
theorem yr7 {x:MB}{ρ:Ro}{b:Bool}(h:x ρ=some b):cnot x ρ=some (!b):=by unfold cnot;rw[h];rfl
theorem zi5 {x:ME}{ρ:Ro}{b:Bool}(h:x ρ=some (.bl b)):l0 x ρ=some b:=by unfold l0;rw[h]
theorem J0 {f:List D->Option D}{m:ML}{ρ:Ro}{ds:List D}(h:m ρ=some ds):c6 f m ρ=f ds:=by
 unfold c6;rw[h];rfl
theorem zt5 {c:MB}{x:MS}{ρ:Ro}(h:c ρ=some false):mif c x U2 ρ=some (.nx ρ):=by unfold mif;rw[h];rfl
theorem X7 {f:D->D->Option D}{x y:ME}{ρ:Ro}{a b:D}(h1:x ρ=some a)(h2:y ρ=some b):m2 f x y ρ=f a b:=by
 unfold m2;rw[h1,h2];rfl
theorem xc4 (a:Int):m_Z9 [.int a,.int a]=some (.sh (.bl true)):=by
 unfold m_Z9 b_Z9
 refine Y7 ?_
 ((apply seqI;focus (simp_arith [xa8];rfl)))
 ((apply seqI;focus (simp_arith [zy7,k2_i];rfl)))
 simp_arith [xa9,wz0,beq_self_eq_true]
theorem zv3 (xs:List Int)(i:xs.length<=1000):yv8 [.lst (xs.map .int),.lst (xs.map .int)]=some (.sh (.bl true)):=by
 unfold yv8 xr6
 refine yn6 ?_
 ((apply t9;focus (simp_arith [xa6];rfl)))
 refine P1 (xp4 (b:=true) (by simp_arith [zy7,k2_l]) ?_)
 show Run (mseq _ _) _ _
 ((apply t9;focus (simp_arith [xa7,zy7,k2_l,yd7,beq_self_eq_true,Bool.not_true,Bool.not_false];rfl)))
 ((apply t9;focus (simp_arith [beq_self_eq_true,Bool.not_true];rfl)))
 refine⟨.rt (.bl true),?_,rfl⟩
 have j:=yr3 (f:=D.int) (mi:=t4 zip2 (z4 (mvar 0) (z4 (mvar 1) anil))) (c:=cnot (mtru (t8 m_Z9 (z4 (mvar 0) (z4 (mvar 1) anil))))) (ρ:=[k0a xs,k0a xs]) xs (by simp_arith [zk4]) i
  (by
   intro x z
   unfold cnot mtru
   rw[i5 (z6 (d:=.int x) rfl (z6 (d:=.int x) rfl y4)) (xc4 x)];rfl)
 exact N7 j
end
section
open PySem L2
noncomputable def ptN (a b:List Nat)(k m:Nat):Nat:=a.getD m 0+(if 1<=m/\m<=k then b.getD (m-1) 0 else 0)
noncomputable def ptL (a b:List Nat)(k:Nat):List Nat:=(List.range (max a.length (b.length+1))).map (ptN a b k)
theorem V8 (a b:List Nat)(k:Nat):(ptL a b k).length=max a.length (b.length+1):=by unfold ptL;simp
theorem B0 (a b:List Nat)(k m:Nat)(h:m<max a.length (b.length+1)):(ptL a b k)[m]? =some (ptN a b k m):=by unfold ptL;rw[getElem?_map,getElem?_range h];rfl
theorem ym2 (a b:List Nat):a++List.replicate (b.length+1-a.length) 0=ptL a b 0:=by
 refine ext_getElem? fun m=>?_
 by_cases h:m<max a.length (b.length+1)
 .rw[B0 a b 0 m h,ptN,if_neg (by omega),Nat.add_zero]
  by_cases h2:m<a.length
  .rw[getElem?_append_left h2,getD_eq_getElem?_getD,getElem?_eq_getElem h2];rfl
  .rw[getElem?_append_right (by omega),getElem?_replicate,if_pos (by omega),getD_eq_getElem?_getD,getElem?_eq_none (by omega)];rfl
 .rw[getElem?_eq_none (by simp;omega),getElem?_eq_none (by rw[V8];omega)]
theorem ym3 (a b:List Nat)(k:Nat)(i:k<b.length):(ptL a b k).set (k+1) (ptN a b k (k+1)+b.getD k 0)=ptL a b (k+1):=by
 refine ext_getElem? fun m=>?_
 rw[getElem?_set]
 by_cases h:m<max a.length (b.length+1)
 .by_cases e:k+1=m
  .subst e
   rw[if_pos rfl,if_pos (by rw[V8];exact h),B0 a b _ _ h]
   unfold ptN
   rw[if_neg (by omega),if_pos (by omega)];simp
  .rw[if_neg e,B0 a b k m h,B0 a b (k+1) m h]
   unfold ptN
   by_cases h1:1<=m/\m<=k
   .rw[if_pos h1,if_pos (by omega)]
   .rw[if_neg h1,if_neg (by omega)]
 .rw[if_neg (by omega),getElem?_eq_none (by rw[V8];omega),getElem?_eq_none (by rw[V8];omega)]
theorem zk8 {i:Nat}{ns:List Nat}{p:Nat}{v:Nat}{j x:ME}{ρ:Ro}(hi:ρ[i]? =some (some (.own (ns.map dN))))(hp:j ρ=some (.int (p:Int)))(z:x ρ=some (dN v))(G:p<ns.length):S3 i j x ρ=some (.nx (ρ.set i (some (.own ((ns.set p v).map dN))))):=by
 unfold S3
 rw[z,Option.bind_some]
 simp only[hi]
 rw[hp,Option.bind_some]
 simp only
 have e:ixN (ns.map dN).length (p:Int)=some p:=by
  unfold ixN
  rw[length_map,if_pos (by omega),if_pos (by omega)];simp
 rw[e,Option.map_some,<-map_set]
theorem zx5:∀(ns:List Nat)(k:Nat),V4 k (ns.map dN)=(List.range ns.length).map fun(i:Nat)=>D.tup [.int ((k+i:Nat):Int),dN (ns.getD i 0)]
 |[],k=>rfl
 |n::ns,k=>by
  rw[map_cons,V4,zx5 ns (k+1),length_cons,range_succ_eq_map,map_cons,map_map]
  refine congr (congrArg List.cons rfl) (map_congr_left fun i _=>?_)
  show _=D.tup [.int ((k+(i+1):Nat):Int),dN ((n::ns).getD (i+1) 0)]
  rw[show k+(i+1)=k+1+i by omega];rfl
noncomputable def eP (a b f:List Nat)(o3 o4:Option S):Ro:=[some (.sh (L a)),some (.sh (L b)),some (.own (f.map dN)),o3,o4]
theorem xo4 (a b:List Nat)(ha:a.length<=1000)(U:b.length<=1000):yv5 [L a,L b]=some (.fr ((ptL a b b.length).map dN)):=by
 have S:=n4
 have i1:1<=sizeLine:=w4 (by decide)
 unfold yv5 xr1
 have key:Run (mseq (X6 2 (mcat (bvar 0) (mrep (w5 (z4 (mc (.int 0)) anil)) (m2 subD (m2 addD (mlen (bvar 1)) (mc (.int 1))) (mlen (bvar 0)))))) (mseq (mfor (t4 C3 (z4 (mvar 1) anil)) (.tp [3,4]) zw5) (D7 2))) (j1 5 [L a,L b]) (fun o=>∃ es,o= .rf es/\es=(ptL a b b.length).map dN):=by
  refine t9 (ρ':=eP a b (ptL a b 0) none none) ?_ ?_
  .have e0:m2 subD (m2 addD (mlen (bvar 1)) (mc (.int 1))) (mlen (bvar 0)) (j1 5 [L a,L b])=some (.int ((b.length:Int)+1-(a.length:Int))):=by
    refine(X7 ((X7 (Z0 (m:=bvar 1) (ds:=b.map dN) rfl) (b:=.int 1) rfl).trans rfl) (Z0 (m:=bvar 0) (ds:=a.map dN) rfl)).trans ?_
    rw[length_map,length_map];rfl
   have N:J8 1 ((b.length:Int)+1-(a.length:Int))=true:=by
    unfold J8
    rw[decide_eq_true (by omega),decide_eq_true (by omega),decide_eq_true (by omega)];rfl
   have rp:=zy5 (x:=w5 (z4 (mc (.int 0)) anil)) (w9 (z6 (d:=.int 0) rfl y4) i1) e0 N
   have e1:(List.replicate ((b.length:Int)+1-(a.length:Int)).toNat [D.int 0]).flatten=(List.replicate (b.length+1-a.length) 0).map dN:=by
    rw[show ((b.length:Int)+1-(a.length:Int)).toNat=b.length+1-a.length by omega,map_replicate]
    generalize b.length+1-a.length=n
    induction n with
    |zero=>rfl
    |succ n O=>rw[replicate_succ,flatten_cons,O,replicate_succ];rfl
   rw[e1]at rp
   refine(V2 (F9 (x:=bvar 0) (ds:=a.map dN) rfl rp (w4 (by rw[length_map,length_map,length_replicate];omega)))).trans ?_
   rw[<-map_append,ym2];rfl
  refine P1 (Z6 b.length (f:=fun(i:Nat)=>D.tup [.int (i:Int),dN (b.getD i 0)]) ?_ (I:=fun k ρ=>∃ z j,ρ=eP a b (ptL a b k) z j) _ ⟨_,_,rfl⟩ ?_ ?_)
  .unfold t4
   rw[z6 (x:=mvar 1) (d:=.lst (b.map dN)) rfl y4,Option.bind_some]
   show some (V4 0 (b.map dN))=_
   rw[zx5]
   congr 1
   apply map_congr_left
   intro i _
   rw[Nat.zero_add]
  .rintro k ρ hk ⟨z,j,rfl⟩
   refine⟨eP a b (ptL a b k) (k0b k) (some (.sh (dN (b.getD k 0)))),rfl,?_⟩
   unfold zw5
   have M:m2 addD (mvar 3) (mc (.int 1)) (eP a b (ptL a b k) (k0b k) (some (.sh (dN (b.getD k 0)))))=some (.int ((k+1:Nat):Int)):=(X7 (a:=.int (k:Int)) (b:=.int 1) rfl rfl).trans rfl
   have hm:k+1<max a.length (b.length+1):=by omega
   have G:atI ((ptL a b k).map dN) ((k+1:Nat):Int)=some (dN (ptN a b k (k+1))):=by
    rw[yg8 _ _ (by rw[V8];exact hm),getD_eq_getElem?_getD,B0 _ _ _ _ hm];rfl
   refine⟨_,zk8 (ns:=ptL a b k) (v:=ptN a b k (k+1)+b.getD k 0) rfl M ((X7 (g6 (m:=bvar 2) (ds:=(ptL a b k).map dN) rfl M G) (b:=dN (b.getD k 0)) rfl).trans rfl) (by rw[V8];exact hm),?_⟩
   rw[ym3 a b k hk]
   exact⟨_,_,rfl⟩
  .rintro ρ ⟨z,j,rfl⟩
   exact⟨_,rfl,_,rfl,rfl⟩
 obtain⟨es,e,h⟩:=zj1 key
 rw[e,h]
end
section
open PySem L2
section
variable {α:Type}
noncomputable def pick (b:Bool)(w:α×α):α:=if b then w.2 else w.1
noncomputable def putp (b:Bool)(v:α)(w:α×α):α×α:=if b then (w.1,v)else (v,w.2)
theorem yk1 (b c:Bool)(v:α)(w:α×α):pick c (putp b v w)=if c=b then v else pick c w:=by cases b <;> cases c <;> rfl
noncomputable def bit (b:Bool):Int:=if b then 1 else 0
noncomputable def FW (f:α->D)(A:List (α×α)):List Fl:=A.map fun w=>.l [f w.1,f w.2]
noncomputable def DW (f:α->D)(A:List (α×α)):List D:=A.map fun w=>.lst [f w.1,f w.2]
theorem FW_D (f:α->D)(A:List (α×α)):xt9 (.row (FW f A))= .lst (DW f A):=by
 show D.lst ((FW f A).map L2.flD)=_
 unfold FW DW
 rw[map_map]
 rfl
theorem FW_S (f:α->D)(A:List (α×α)):(FW f A).map flS=DW f A:=by
 unfold FW DW
 rw[map_map]
 rfl
theorem yp4 (f:α->D)(w:α×α)(b:Bool):atI [f w.1,f w.2] (bit b)=some (f (pick b w)):=by cases b <;> rfl
theorem wy2 (f:α->D)(A:List (α×α))(p:Nat)(hp:p<A.length)(i:α×α):atI (DW f A) (p:Int)=some (.lst [f (A.getD p i).1,f (A.getD p i).2]):=by
 have:=zw6 (fun w:α×α=>D.lst [f w.1,f w.2]) A (p:Int) (by omega) (by omega) i
 rw[Int.toNat_natCast]at this
 exact this
theorem zs1 {f:α->D}{A:List (α×α)}{m:ML}{i j:ME}{ρ:Ro}{p:Nat}{b:Bool}(z:α×α)(h1:m ρ=some (DW f A))(h2:i ρ=some (.int (p:Int)))(G:j ρ=some (.int (bit b)))(hp:p<A.length):mix (k0 (mix m i)) j ρ=some (f (pick b (A.getD p z))):=
 g6 (U6 (g6 h1 h2 (wy2 f A p hp z))) G (yp4 f _ b)
theorem yc2 {f:α->D}{A:List (α×α)}{p:Nat}(i:α×α)(hp:p<A.length):(FW f A)[p]? =some (.l [f (A.getD p i).1,f (A.getD p i).2]):=by
 unfold FW
 rw[getElem?_map,getD_eq_getElem?_getD,getElem?_eq_getElem hp]
 rfl
theorem yc1 {f:α->D}{A:List (α×α)}:(FW f A).length=A.length:=by unfold FW;simp
theorem yd2 (n p:Nat)(h:p<n):ixN n (p:Int)=some p:=by
 have:=xh0 (n:=n) (k:=(p:Int)) (by omega) (by omega)
 rw[this,Int.toNat_natCast]
theorem yw8 {f:α->D}{A:List (α×α)}{i:Nat}{k1 k2:ME}{ρ:Ro}{β:Bx}{y:Addr}{p:Nat}{b:Bool}(j:α×α)(hi:ρ[i]? =some (some (.sh (.ptr y))))(z:β.lookup y=some (.row (FW f A)))(h2:k1 ρ=some (.int (p:Int)))(G:k2 ρ=some (.int (bit b)))(hp:p<A.length):mixR i k1 k2 ρ β=some (f (pick b (A.getD p j))):=by
 unfold mixR
 simp only[hi,h2,G,z]
 rw[yc1,yd2 _ _ hp]
 simp only
 rw[yc2 j hp]
 exact yp4 f _ b
theorem ya0 {f:α->D}{A:List (α×α)}{p:Nat}{b:Bool}{v:α}(i:α×α)(hp:p<A.length):setR (p:Int) (bit b) (f v) (FW f A)=some (FW f (A.set p (putp b v (A.getD p i)))):=by
 unfold setR
 rw[yc1,yd2 _ _ hp]
 simp only
 rw[yc2 i hp]
 have e:∀ w:α×α,(match ixN [f w.1,f w.2].length (bit b)with |some m=>some ((FW f A).set p (.l ([f w.1,f w.2].set m (f v))))|none=>none)=some (FW f (A.set p (putp b v w))):=fun w=>by
  unfold FW
  rw[map_set]
  cases b <;> rfl
 exact e _
theorem K7 {f:α->D}{A:List (α×α)}{i:Nat}{k1 k2:ME}{g:Ro->Bx->Option D}{ρ:Ro}{β:Bx}{y:Addr}{p:Nat}{b:Bool}{v:α}(j:α×α)(G:g ρ β=some (f v))(hi:ρ[i]? =some (some (.sh (.ptr y))))(I:β.lookup y=some (.row (FW f A)))(h2:k1 ρ=some (.int (p:Int)))(L:k2 ρ=some (.int (bit b)))(hp:p<A.length)(z:nrdB ρ=true):zt2 i k1 k2 g ρ β=some (.nx ρ,updB y (.row (FW f (A.set p (putp b v (A.getD p j))))) β):=by
 unfold zt2
 simp only[G,hi,h2,L,I]
 rw[if_pos z,ya0 j hp]
 rfl
theorem c8 {A:List (α×α)}{p q:Nat}{b c:Bool}{v:α}(i:α×α)(hp:p<A.length):pick c ((A.set p (putp b v (A.getD p i))).getD q i)=if q=p/\c=b then v else pick c (A.getD q i):=by
 rw[getD_eq_getElem?_getD,getElem?_set]
 by_cases h:p=q
 .subst h
  rw[if_pos rfl,if_pos hp]
  show pick c (putp b v (A.getD p i))=_
  rw[yk1]
  simp
 .rw[if_neg h,if_neg (fun z=>h z.1.symm),getD_eq_getElem?_getD]
end
theorem seqW {x y:MW}{ρ ρ':Ro}{β β':Bx}{r:Option (Out×Bx)}(h:x ρ β=some (.nx ρ',β'))(h2:y ρ' β'=r):D6 x y ρ β=r:=by
 unfold D6;rw[h];exact h2
theorem xq1 {m:MS}{ρ ρ':Ro}{β:Bx}(h:m ρ=some (.nx ρ')):wS m ρ β=some (.nx ρ',β):=by unfold wS;rw[h]
noncomputable def OD:Option (List Nat)->D
 |none=>.non
 |some a=>Ky a
noncomputable def bx (x y:Addr)(A:List (List Nat×List Nat))(B:List (Option (List Nat)×Option (List Nat))):Bx:=[(y,.row (FW OD B)),(x,.row (FW L A))]
theorem bx_y {x y:Addr}{A:List (List Nat×List Nat)}{B:List (Option (List Nat)×Option (List Nat))}:(bx x y A B).lookup y=some (.row (FW OD B)):=by unfold bx;simp
theorem bx_x {x y:Addr}{A:List (List Nat×List Nat)}{B:List (Option (List Nat)×Option (List Nat))}(h:x≠y):(bx x y A B).lookup x=some (.row (FW L A)):=by
 unfold bx
 rw[lookup_cons,show (x==y)=false from beq_eq_false_iff_ne.mpr h]
 simp
theorem up_y {x y:Addr}{A:List (List Nat×List Nat)}{B B':List (Option (List Nat)×Option (List Nat))}:updB y (.row (FW OD B')) (bx x y A B)=bx x y A B':=by unfold bx updB;rw[if_pos rfl]
theorem up_x {x y:Addr}{A i:List (List Nat×List Nat)}{B:List (Option (List Nat)×Option (List Nat))}(h:x≠y):updB x (.row (FW L i)) (bx x y A B)=bx x y i B:=by unfold bx;rw[updB,if_neg (Ne.symm h),updB,if_pos rfl]
def NP (o:Option S):Prop:=∀ β,O8 β o=o
noncomputable def eQ (ns:List Int)(s:Int)(fi:Nat)(d3 d4:D)(o5 o6 o7 o8 o9:Option S):Ro:=[some (.sh (RI ns)),k0c s,k0b fi,some (.sh d3),some (.sh d4),o5,o6,o7,o8,o9]
theorem xj3 {ρ:Ro}(h:∀ x∈ρ,NP x\/∃ d,x=some (.sh d)):nrdB ρ=true:=by
 unfold nrdB
 rw[all_eq_true]
 intro x i
 rcases h x i with h|⟨d,rfl⟩
 .cases x with
  |none=>rfl
  |some y=>
   cases y with
   |rd q ds=>have:=h [];cases this
   |sh d=>rfl
   |own ds=>rfl
   |ob p ds=>rfl
 .rfl
theorem zf6 {ns:List Int}{s:Int}{fi:Nat}{Y d4:D}{I G o7 z j:Option S}(U:NP I)(O:NP G)(N:NP o7)(M:NP z)(L:NP j):nrdB (eQ ns s fi Y d4 I G o7 z j)=true:=by
 refine xj3 fun x i=>?_
 unfold eQ at i
 simp only[mem_cons,not_mem_nil,or_false]at i
 rcases i with rfl|rfl|rfl|rfl|rfl|rfl|rfl|rfl|rfl|rfl
 .exact .inr ⟨_,rfl⟩
 .exact .inr ⟨_,rfl⟩
 .exact .inr ⟨_,rfl⟩
 .exact .inr ⟨_,rfl⟩
 .exact .inr ⟨_,rfl⟩
 .exact .inl U
 .exact .inl O
 .exact .inl N
 .exact .inl M
 .exact .inl L
theorem yf5 (ns:List Int)(s:Int)(fi:Nat){x y:Addr}(h:x≠y)(A:List (List Nat×List Nat))(B:List (Option (List Nat)×Option (List Nat))){G z o7 j i:Option S}(U:NP G)(O:NP z)(N:NP o7)(M:NP j)(I:NP i):thaw (eQ ns s fi (.ptr x) (.ptr y) G z o7 j i) (bx x y A B)=eQ ns s fi (.lst (DW L A)) (.lst (DW OD B)) G z o7 j i:=by
 unfold thaw eQ
 simp only[map_cons,map_nil,U _,O _,N _,M _,I _]
 have e1:O8 (bx x y A B) (some (.sh (.ptr x)))=some (.sh (.lst (DW L A))):=by
  unfold O8
  simp only[bx_x h]
  rw[FW_D]
 have e2:O8 (bx x y A B) (some (.sh (.ptr y)))=some (.sh (.lst (DW OD B))):=by
  unfold O8
  simp only[bx_y]
  rw[FW_D]
 rw[e1,e2]
 rfl
end
section
open PySem L2
noncomputable abbrev AW:=List (List Nat×List Nat)
noncomputable abbrev BW:=List (Option (List Nat)×Option (List Nat))
def Wok (p:Nat)(w:List Nat)(o:Option (List Nat)):Prop:=w.length<=p+2/\(w≠[]->o≠none)/\∀ t,o=some t->t.length<=p+1
def Iv (n:Nat)(A:AW)(B:BW):Prop:=A.length=n/\B.length=n/\∀ p,p<n->∀ b,Wok p (pick b (A.getD p ([],[]))) (pick b (B.getD p (none,none)))
theorem c3 (i:Int):NP (k0c i):=fun _=>rfl
theorem ye8 (l:List D):NP (some (.sh (.lst l))):=fun _=>rfl
theorem i9:NP none:=fun _=>rfl
theorem xj8 {c:Ro->Bx->Option Bool}{x y:MW}{ρ:Ro}{β:Bx}(h:c ρ β=some false):mifW c x y ρ β=y ρ β:=by unfold mifW;rw[h]
theorem xj7 {c:Ro->Bx->Option Bool}{x y:MW}{ρ:Ro}{β:Bx}(h:c ρ β=some true):mifW c x y ρ β=x ρ β:=by unfold mifW;rw[h]
theorem zp5 (b:Bool):(1:Int)-bit b=bit (!b):=by cases b <;> rfl
theorem xf2 (l:List Nat):(l.map dN).all isSc=true:=by
 rw[all_map,all_eq_true]
 intro x _
 rfl
theorem yv2 {f:MF}{m:ML}{ρ:Ro}{ds es:List D}(h:m ρ=some ds)(h2:f ds=some (.fr es)):S5 f m ρ=some es:=by
 unfold S5;rw[h];simp only[Option.bind_some,h2]
noncomputable def orD:Option (List Nat)->D
 |none=>.tup [.int 1,L []]
 |some l=>Ky l
noncomputable def mnO:Option (List Nat)->List Nat->List Nat
 |none,c=>c
 |some l,c=>if l5 c l=true then c else l
theorem or_K (o:Option (List Nat)){ma mb:Ro->Bx->Option D}{ρ:Ro}{β:Bx}(h:ma ρ β=some (OD o))(h2:mb ρ β=some (.tup [.int 1,L []])):morW ma mb ρ β=some (orD o):=by
 unfold morW
 rw[h,Option.bind_some]
 cases o with
 |none=>exact h2
 |some t=>rfl
theorem xj5 (o:Option (List Nat))(c:List Nat):minP [Ky c] (orD o)=some (Ky (mnO o c)):=by
 unfold minP
 cases o with
 |none=>
  have:ltF 8 (Ky c) (orD none)=some true:=by
   show lexF (eqF 7) (ltF 7) [.int (-(c.length:Int)),L c] [.int 1,L []]=_
   rw[lexF,show eqF 7 (.int (-(c.length:Int))) (.int 1)=some (-(c.length:Int)==1)from rfl,show (-(c.length:Int)==1)=false from beq_eq_false_iff_ne.mpr (by omega)]
   show some (decide (-(c.length:Int)<1))=_
   rw[decide_eq_true (by omega)]
  rw[this]
  rfl
 |some l=>
  show (match ltF 8 (Ky c) (Ky l)with |some true=>minP [] (Ky c)|some false=>minP [] (Ky l)|none=>none)=_
  rw[yu2]
  show _=some (Ky (if l5 c l=true then c else l))
  cases l5 c l
  .rw[if_neg (by decide)];rfl
  .rw[if_pos rfl];rfl
noncomputable def fb (ns:List Int)(p q:Nat):Bool:=decide (ns.getD p 0>ns.getD q 0)
noncomputable def goes (ns:List Int)(s:Int)(A:AW)(p q:Nat):Bool:=decide (s<=((ns.getD p 0-ns.getD q 0).natAbs:Int))&& !(pick (!fb ns p q) (A.getD q ([],[]))).isEmpty
noncomputable def stA (ns:List Int)(s:Int)(p q:Nat)(A:AW):AW:=if goes ns s A p q=true then A.set p (putp (fb ns p q) (ptL (pick (fb ns p q) (A.getD p ([],[]))) (pick (!fb ns p q) (A.getD q ([],[]))) (pick (!fb ns p q) (A.getD q ([],[]))).length) (A.getD p ([],[])))else A
noncomputable def stB (ns:List Int)(s:Int)(p q:Nat)(A:AW)(B:BW):BW:=if goes ns s A p q=true then B.set p (putp (fb ns p q) (some (mnO (pick (fb ns p q) (B.getD p (none,none))) ((pick (!fb ns p q) (B.getD q (none,none))).getD []++[p]))) (B.getD p (none,none)))else B
theorem yr6 (ns:List Int)(s:Int)(fi p q:Nat)(hn:ns.length<=40)(hq:q<p)(hp:p<ns.length)(A:AW)(B:BW)(I:Iv ns.length A B)(o7 G j:Option S)(n7:NP o7)(n8:NP G)(Z:NP j):
  Iv ns.length (stA ns s p q A) (stB ns s p q A B)/\∃ p7 p8 p9,NP p7/\NP p8/\NP p9/\∀ x y,x≠y->d8 (eQ ns s fi (.ptr x) (.ptr y) (k0b p) (k0b q) o7 G j) (bx x y A B)=some (.nx (eQ ns s fi (.ptr x) (.ptr y) (k0b p) (k0b q) p7 p8 p9),bx x y (stA ns s p q A) (stB ns s p q A B)):=by
 have a4:=n4
 have hg:∀ b,fb ns p q=b->goes ns s A p q=(decide (s<=((ns.getD p 0-ns.getD q 0).natAbs:Int))&& !(pick (!b) (A.getD q ([],[]))).isEmpty):=fun b h=>by unfold goes;rw[h]
 unfold stA stB
 obtain⟨b,hb⟩:∃ b,fb ns p q=b:=⟨_,rfl⟩
 rw[hg b hb,hb]
 have U:=zq3 ns p hp
 have O:=zq3 ns q (by omega)
 obtain⟨lA,lB,hI⟩:=I
 have s7:∀ x y,mset 7 (c6 intF (z4 (m2 gtD (mix (bvar 0) (mvar 5)) (mix (bvar 0) (mvar 6))) anil)) (eQ ns s fi (.ptr x) (.ptr y) (k0b p) (k0b q) o7 G j)=some (.nx (eQ ns s fi (.ptr x) (.ptr y) (k0b p) (k0b q) (some (.sh (.int (bit b)))) G j)):=fun x y=>by
  refine(f9 (d:=.int (bit b)) ?_).trans rfl
  rw[J0 (z6 ((X7 (g6 (ds:=ns.map .int) (k:=(p:Int)) rfl rfl U) (g6 (ds:=ns.map .int) (k:=(q:Int)) rfl rfl O)).trans (show gtD (.int (ns.getD p 0)) (.int (ns.getD q 0))=some (.bl b)by rw[<-hb];rfl)) y4)]
  rfl
 have cond:∀ x y,x≠y->yi3 (cand (l0 (m2 geD (c6 absF (z4 (m2 subD (mix (bvar 0) (mvar 5)) (mix (bvar 0) (mvar 6))) anil)) (mvar 1))) (l0 (meqB true (k0 (mix (k0 (mix (bvar 3) (mvar 6))) (m2 subD (mc (.int 1)) (mvar 7)))) (w5 anil)))) (eQ ns s fi (.ptr x) (.ptr y) (k0b p) (k0b q) (some (.sh (.int (bit b)))) G j) (bx x y A B)=some (decide (s<=((ns.getD p 0-ns.getD q 0).natAbs:Int))&& !(pick (!b) (A.getD q ([],[]))).isEmpty):=fun x y h=>by
  unfold yi3
  rw[yf5 ns s fi h A B (c3 _) (c3 _) (c3 _) n8 Z]
  have e1:l0 (m2 geD (c6 absF (z4 (m2 subD (mix (bvar 0) (mvar 5)) (mix (bvar 0) (mvar 6))) anil)) (mvar 1)) (eQ ns s fi (.lst (DW L A)) (.lst (DW OD B)) (k0b p) (k0b q) (some (.sh (.int (bit b)))) G j)=some (decide (s<=((ns.getD p 0-ns.getD q 0).natAbs:Int))):=by
   refine zi5 ((X7 (b:=.int s) (a:=.int ((ns.getD p 0-ns.getD q 0).natAbs:Int)) ?_ rfl).trans rfl)
   rw[J0 (z6 ((X7 (g6 (ds:=ns.map .int) (k:=(p:Int)) rfl rfl U) (g6 (ds:=ns.map .int) (k:=(q:Int)) rfl rfl O)).trans (show subD (.int (ns.getD p 0)) (.int (ns.getD q 0))=some (.int (ns.getD p 0-ns.getD q 0))from rfl)) y4)]
   show some (D.int (if ns.getD p 0-ns.getD q 0<0 then -(ns.getD p 0-ns.getD q 0)else ns.getD p 0-ns.getD q 0))=_
   rw[xf6]
  have e2:mix (k0 (mix (bvar 3) (mvar 6))) (m2 subD (mc (.int 1)) (mvar 7)) (eQ ns s fi (.lst (DW L A)) (.lst (DW OD B)) (k0b p) (k0b q) (some (.sh (.int (bit b)))) G j)=some (L (pick (!b) (A.getD q ([],[])))):=
   zs1 (f:=L) (A:=A) ([],[]) rfl rfl ((X7 (a:=.int 1) (b:=.int (bit b)) rfl rfl).trans (congrArg (fun z=>some (D.int z)) (zp5 b))) (by omega)
  have e3:=ys7 (U6 (ds:=(pick (!b) (A.getD q ([],[]))).map dN) e2)
  rw[zs9]at e3
  exact yq0 e1 e3
 unfold d8
 cases hc:(decide (s<=((ns.getD p 0-ns.getD q 0).natAbs:Int))&& !(pick (!b) (A.getD q ([],[]))).isEmpty)with
 |false=>
  refine⟨⟨lA,lB,hI⟩,some (.sh (.int (bit b))),G,j,c3 _,n8,Z,fun x y h=>?_⟩
  refine seqW (xq1 (s7 x y)) ?_
  rw[xj8 ((cond x y h).trans (congrArg some hc))]
  rfl
 |true=>
  rw[Bool.and_eq_true,Bool.not_eq_true',isEmpty_eq_false_iff]at hc
  have Y:=hI q (by omega) (!b)
  have wp:=hI p hp b
  obtain⟨t,ht⟩:=Option.ne_none_iff_exists'.mp (Y.2.1 hc.2)
  have tl:=Y.2.2 t ht
  have er:=xj5 (pick b (B.getD p (none,none))) (t++[p])
  have a0:(mnO (pick b (B.getD p (none,none))) (t++[p])).length<=p+1:=by
   cases ho:pick b (B.getD p (none,none))with
   |none=>show (t++[p]).length<=_;simp;omega
   |some u=>
    unfold mnO
    simp only
    split
    .simp;omega
    .exact wp.2.2 u ho
  simp only[if_true]
  rw[ht,show (some t).getD []=t from rfl]
  generalize mnO (pick b (B.getD p (none,none))) (t++[p])=r at*
  generalize N:A.set p (putp b (ptL (pick b (A.getD p ([],[]))) (pick (!b) (A.getD q ([],[]))) (pick (!b) (A.getD q ([],[]))).length) (A.getD p ([],[])))=A'
  generalize M:B.set p (putp b (some r) (B.getD p (none,none)))=B'
  refine⟨⟨by rw[<-N,length_set,lA],by rw[<-M,length_set,lB],fun p' a3 c=>?_⟩,some (.sh (.int (bit b))),some (.sh (.int (-(t.length:Int)))),some (.sh (L t)),c3 _,c3 _,ye8 _,fun x y h=>?_⟩
  .rw[<-N,<-M,c8 _ (by omega),c8 _ (by omega)]
   by_cases z:p'=p/\c=b
   .rw[if_pos z,if_pos z]
    obtain⟨rfl,rfl⟩:=z
    refine⟨?_,fun _=>by simp,fun u hu=>by cases hu;exact a0⟩
    rw[V8]
    have:=Y.1
    have:=wp.1
    omega
   .rw[if_neg z,if_neg z]
    exact hI p' a3 c
  .refine seqW (xq1 (s7 x y)) ?_
   rw[xj7 ((cond x y h).trans (congrArg some (by rw[Bool.and_eq_true,Bool.not_eq_true',isEmpty_eq_false_iff];exact hc)))]
   have v1:lsW (yu5 (S5 yv5 (z4 (mix (k0 (mix (bvar 3) (mvar 5))) (mvar 7)) (z4 (mix (k0 (mix (bvar 3) (mvar 6))) (m2 subD (mc (.int 1)) (mvar 7))) anil)))) (eQ ns s fi (.ptr x) (.ptr y) (k0b p) (k0b q) (some (.sh (.int (bit b)))) G j) (bx x y A B)=some (L (ptL (pick b (A.getD p ([],[]))) (pick (!b) (A.getD q ([],[]))) (pick (!b) (A.getD q ([],[]))).length)):=by
    unfold lsW yu5
    rw[yf5 ns s fi h A B (c3 _) (c3 _) (c3 _) n8 Z]
    have a1:mix (k0 (mix (bvar 3) (mvar 5))) (mvar 7) (eQ ns s fi (.lst (DW L A)) (.lst (DW OD B)) (k0b p) (k0b q) (some (.sh (.int (bit b)))) G j)=some (L (pick b (A.getD p ([],[])))):=zs1 (f:=L) (A:=A) ([],[]) rfl rfl rfl (by omega)
    have a2:mix (k0 (mix (bvar 3) (mvar 6))) (m2 subD (mc (.int 1)) (mvar 7)) (eQ ns s fi (.lst (DW L A)) (.lst (DW OD B)) (k0b p) (k0b q) (some (.sh (.int (bit b)))) G j)=some (L (pick (!b) (A.getD q ([],[])))):=
     zs1 (f:=L) (A:=A) ([],[]) rfl rfl ((X7 (a:=.int 1) (b:=.int (bit b)) rfl rfl).trans (congrArg (fun z=>some (D.int z)) (zp5 b))) (by omega)
    have:=Y.1
    have:=wp.1
    rw[yv2 (z6 a1 (z6 a2 y4)) (xo4 _ _ (by omega) (by omega)),Option.bind_some,if_pos (xf2 _)]
    rfl
   have w1:=K7 (f:=L) (i:=3) (k1:=mvar 5) (k2:=mvar 7) (p:=p) (b:=b) ([],[]) v1 rfl (bx_x h) rfl rfl (by omega) (zf6 (c3 _) (c3 _) (c3 _) n8 Z)
   rw[up_x h,N]at w1
   refine seqW w1 ?_
   have v2:mixR 4 (mvar 6) (m2 subD (mc (.int 1)) (mvar 7)) (eQ ns s fi (.ptr x) (.ptr y) (k0b p) (k0b q) (some (.sh (.int (bit b)))) G j) (bx x y A' B)=some (Ky t):=by
    rw[yw8 (f:=OD) (A:=B) (p:=q) (b:=!b) (none,none) rfl bx_y rfl ((X7 (a:=.int 1) (b:=.int (bit b)) rfl rfl).trans (congrArg (fun z=>some (D.int z)) (zp5 b))) (by omega),ht]
    rfl
   refine seqW (ρ':=eQ ns s fi (.ptr x) (.ptr y) (k0b p) (k0b q) (some (.sh (.int (bit b)))) (some (.sh (.int (-(t.length:Int))))) (some (.sh (L t)))) (β':=bx x y A' B) ?_ ?_
   .unfold yj9
    rw[v2,Option.bind_some]
    rfl
   have v3:mixR 4 (mvar 5) (mvar 7) (eQ ns s fi (.ptr x) (.ptr y) (k0b p) (k0b q) (some (.sh (.int (bit b)))) (some (.sh (.int (-(t.length:Int))))) (some (.sh (L t)))) (bx x y A' B)=some (OD (pick b (B.getD p (none,none)))):=yw8 (f:=OD) (A:=B) (p:=p) (b:=b) (none,none) rfl bx_y rfl rfl (by omega)
   have v4:wE (mtup (z4 (mc (.int 1)) (z4 (mlst (w5 anil)) anil))) (eQ ns s fi (.ptr x) (.ptr y) (k0b p) (k0b q) (some (.sh (.int (bit b)))) (some (.sh (.int (-(t.length:Int))))) (some (.sh (L t)))) (bx x y A' B)=some (.tup [.int 1,L []]):=
    W4 (z6 (d:=.int 1) rfl (z6 (j9 (w9 y4 (Nat.zero_le _))) y4)) (w4 (by simp))
   have v5:wE (mtup (z4 (m2 subD (mvar 8) (mc (.int 1))) (z4 (mlst (mcat (bvar 9) (w5 (z4 (mvar 5) anil)))) anil))) (eQ ns s fi (.ptr x) (.ptr y) (k0b p) (k0b q) (some (.sh (.int (bit b)))) (some (.sh (.int (-(t.length:Int))))) (some (.sh (L t)))) (bx x y A' B)=some (Ky (t++[p])):=by
    have c1:=F9 (ρ:=eQ ns s fi (.ptr x) (.ptr y) (k0b p) (k0b q) (some (.sh (.int (bit b)))) (some (.sh (.int (-(t.length:Int))))) (some (.sh (L t)))) (x:=bvar 9) (ds:=t.map dN) rfl (w9 (z6 (x:=mvar 5) (d:=.int (p:Int)) rfl y4) (w4 (by simp))) (w4 (by simp;omega))
    have:=W4 (z6 ((X7 (f:=subD) (ρ:=eQ ns s fi (.ptr x) (.ptr y) (k0b p) (k0b q) (some (.sh (.int (bit b)))) (some (.sh (.int (-(t.length:Int))))) (some (.sh (L t)))) (x:=mvar 8) (y:=mc (.int 1)) (a:=.int (-(t.length:Int))) (b:=.int 1) rfl rfl).trans (show subD (.int (-(t.length:Int))) (.int 1)=some (.int (-(t.length:Int)-1))from rfl)) (z6 (j9 c1) y4)) (w4 (by simp))
    unfold wE
    rw[this]
    unfold Ky L
    rw[map_append,length_append,show (-(t.length:Int)-1)=(-((t.length+[p].length:Nat):Int))by simp;omega]
    rfl
   have v6:zt3 (morW (mixR 4 (mvar 5) (mvar 7)) (wE (mtup (z4 (mc (.int 1)) (z4 (mlst (w5 anil)) anil))))) (wE (mtup (z4 (m2 subD (mvar 8) (mc (.int 1))) (z4 (mlst (mcat (bvar 9) (w5 (z4 (mvar 5) anil)))) anil)))) (eQ ns s fi (.ptr x) (.ptr y) (k0b p) (k0b q) (some (.sh (.int (bit b)))) (some (.sh (.int (-(t.length:Int))))) (some (.sh (L t)))) (bx x y A' B)=some (OD (some r)):=by
    unfold zt3
    rw[or_K _ v3 v4,Option.bind_some,v5,Option.bind_some]
    exact er
   have w3:=K7 (f:=OD) (i:=4) (k1:=mvar 5) (k2:=mvar 7) (p:=p) (b:=b) (none,none) v6 rfl bx_y rfl rfl (by omega) (zf6 (c3 _) (c3 _) (c3 _) (c3 _) (ye8 _))
   rw[up_y,M]at w3
   exact w3
end
section
open PySem L2
theorem zs5 {α:Type}{f:α->D}{g:Tg}{body:MW}{d:α}{ds:List α}{ρ ρ1 i:Ro}{β j:Bx}{r:Option (Out×Bx)}(h1:tgD g (f d) ρ=some ρ1)(h2:body ρ1 β=some (.nx i,j))(z:forW g body (ds.map f) i j=r):forW g body ((d::ds).map f) ρ β=r:=by
 rw[map_cons,forW,h1]
 simp only
 rw[h2]
 exact z
noncomputable def stP (ns:List Int)(s:Int)(p:Nat)(AB:AW×BW)(q:Nat):AW×BW:=(stA ns s p q AB.1,stB ns s p q AB.1 AB.2)
theorem B9 (ns:List Int)(s:Int)(fi p:Nat)(hn:ns.length<=40)(hp:p<ns.length):∀(qs:List Nat)(AB:AW×BW)(G o7 j i:Option S),(∀ q∈qs,q<p)->Iv ns.length AB.1 AB.2->NP G->NP o7->NP j->NP i->
  Iv ns.length (qs.foldl (stP ns s p) AB).1 (qs.foldl (stP ns s p) AB).2/\∃ O N M L,NP O/\NP N/\NP M/\NP L/\∀ x y,x≠y->forW (.nm 6) d8 (qs.map dN) (eQ ns s fi (.ptr x) (.ptr y) (k0b p) G o7 j i) (bx x y AB.1 AB.2)=some (.nx (eQ ns s fi (.ptr x) (.ptr y) (k0b p) O N M L),bx x y (qs.foldl (stP ns s p) AB).1 (qs.foldl (stP ns s p) AB).2)
 |[],AB,G,o7,j,i,_,I,n6,n7,n8,n9=>⟨I,G,o7,j,i,n6,n7,n8,n9,fun _ _ _=>rfl⟩
 |q::qs,AB,G,o7,j,i,hq,I,n6,n7,n8,n9=>by
  obtain⟨I1,N,M,L,m7,m8,m9,e1⟩:=yr6 ns s fi p q hn (hq q (by simp)) hp AB.1 AB.2 I o7 j i n7 n8 n9
  obtain⟨I2,r6,Z,Y,U,k6,k7,k8,k9,e2⟩:=B9 ns s fi p hn hp qs (stP ns s p AB q) _ N M L (fun z hz=>hq z (by simp[hz])) I1 (c3 (q:Int)) m7 m8 m9
  refine⟨I2,r6,Z,Y,U,k6,k7,k8,k9,fun x y h=>?_⟩
  have ht:tgD (.nm 6) (dN q) (eQ ns s fi (.ptr x) (.ptr y) (k0b p) G o7 j i)=some (eQ ns s fi (.ptr x) (.ptr y) (k0b p) (k0b q) o7 j i):=rfl
  exact zs5 ht (e1 x y h) (e2 x y h)
theorem za2 {a b:ME}{ρ:Ro}{i j:Nat}(h1:a ρ=some (.int (i:Int)))(h2:b ρ=some (.int (j:Int)))(hi:i<=1000)(z:j<=1000):t4 rng2 (z4 a (z4 b anil)) ρ=some (((List.range (j-i)).map (i+·)).map dN):=by
 unfold t4
 rw[z6 h1 (z6 h2 y4),Option.bind_some,za3 (T4 (by omega) (by omega)) (T4 (by omega) (by omega)),S9,map_map,show ((j:Int)-(i:Int)).toNat=j-i by omega]
 rfl
theorem zi7 {mi:ML}{g:Tg}{body:MW}{ρ:Ro}{β:Bx}{its:List D}{r:Option (Out×Bx)}(h:mi ρ=some its)(h2:forW g body its ρ β=r):ze4 mi g body ρ β=r:=by
 unfold ze4;rw[h];exact h2
theorem xt6 (ns:List Int)(s:Int)(fi p:Nat)(hn:ns.length<=40)(hp:p<ns.length)(L:fi<ns.length){x y:Addr}{I o7 G z:Option S}{r:Option (Out×Bx)}{β:Bx}(h:forW (.nm 6) d8 (((List.range (p-fi)).map (fi+·)).map dN) (eQ ns s fi (.ptr x) (.ptr y) (k0b p) I o7 G z) β=r):Y1 (eQ ns s fi (.ptr x) (.ptr y) (k0b p) I o7 G z) β=r:=by
 have e:=za2 (a:=mvar 2) (b:=mvar 5) (ρ:=eQ ns s fi (.ptr x) (.ptr y) (k0b p) I o7 G z) (i:=fi) (j:=p) rfl rfl (by omega) (by omega)
 unfold Y1
 exact zi7 e h
noncomputable def stQ (ns:List Int)(s:Int)(fi:Nat)(AB:AW×BW)(p:Nat):AW×BW:=((List.range (p-fi)).map (fi+·)).foldl (stP ns s p) AB
theorem B8 (ns:List Int)(s:Int)(fi:Nat)(hn:ns.length<=40)(hf:fi<ns.length):∀(ps:List Nat)(AB:AW×BW)(M L o7 G j:Option S),(∀ q∈ps,q<ns.length)->Iv ns.length AB.1 AB.2->NP M->NP L->NP o7->NP G->NP j->
  Iv ns.length (ps.foldl (stQ ns s fi) AB).1 (ps.foldl (stQ ns s fi) AB).2/\∃ Z Y U O N,NP Z/\NP Y/\NP U/\NP O/\NP N/\∀ x y,x≠y->forW (.nm 5) Y1 (ps.map dN) (eQ ns s fi (.ptr x) (.ptr y) M L o7 G j) (bx x y AB.1 AB.2)=some (.nx (eQ ns s fi (.ptr x) (.ptr y) Z Y U O N),bx x y (ps.foldl (stQ ns s fi) AB).1 (ps.foldl (stQ ns s fi) AB).2)
 |[],AB,M,L,o7,G,j,_,I,n5,n6,n7,n8,n9=>⟨I,M,L,o7,G,j,n5,n6,n7,n8,n9,fun _ _ _=>rfl⟩
 |p::ps,AB,M,L,o7,G,j,hq,I,n5,n6,n7,n8,n9=>by
  have hp:=hq p (by simp)
  obtain⟨I1,Y,U,O,N,m6,m7,m8,m9,e1⟩:=B9 ns s fi p hn hp ((List.range (p-fi)).map (fi+·)) AB L o7 G j (fun q hq=>by
   rw[mem_map]at hq
   obtain⟨i,hi,rfl⟩:=hq
   rw[mem_range]at hi
   omega) I n6 n7 n8 n9
  obtain⟨I2,r5,r6,r7,r8,r9,k5,k6,k7,k8,k9,e2⟩:=B8 ns s fi hn hf ps (stQ ns s fi AB p) (k0b p) Y U O N (fun z hz=>hq z (by simp[hz])) I1 (c3 _) m6 m7 m8 m9
  refine⟨I2,r5,r6,r7,r8,r9,k5,k6,k7,k8,k9,fun x y h=>?_⟩
  have ht:tgD (.nm 5) (dN p) (eQ ns s fi (.ptr x) (.ptr y) M L o7 G j)=some (eQ ns s fi (.ptr x) (.ptr y) (k0b p) L o7 G j):=rfl
  exact zs5 ht (xt6 ns s fi p hn hp hf (e1 x y h)) (e2 x y h)
theorem zh7 (d:D)(m:ME)(hm:∀ ρ,m ρ=some d):∀(is:List Int)(o:Option S)(acc:List (List D)),acc.length+is.length<=1000->C4 (.nm 0) (w5 (z4 m (z4 m anil))) (is.map .int) [o] acc=some (acc++List.replicate is.length [d,d])
 |[],o,acc,_=>by simp[C4]
 |i::is,o,acc,h=>by
  have i2:0+1+1<=sizeLine:=w4 (by decide)
  have j:=n4
  rw[map_cons,C4]
  have e1:tgD (.nm 0) (.int i) [o]=some [k0c i]:=rfl
  rw[e1]
  simp only
  rw[w9 (z6 (hm _) (z6 (hm _) y4)) i2]
  simp only
  rw[if_pos (by simp at h;omega),zh7 d m hm is _ _ (by simp at h ⊢;omega)]
  simp[replicate_succ]
theorem zh8 (d:D)(m:ME)(hm:∀ ρ,m ρ=some d)(ns:List Int)(hn:ns.length<=40){ρ:Ro}(h:mvar 0 ρ=some (RI ns)):M9 [none] (k0 (mvar 0)) (.nm 0) (w5 (z4 m (z4 m anil))) ρ=some (List.replicate ns.length [d,d]):=by
 unfold M9
 rw[U6 h,Option.bind_some]
 show C4 (.nm 0) _ _ [none] []=_
 rw[zh7 d m hm ns none [] (by simp;omega),nil_append]
theorem yz7 {m:MW}{n:Nat}{ds:List D}{d:D}{β:Bx}(e:m (j1 n ds) []=some (.rt d,β)):plainW (runW n m) ds=some (.sh d):=by
 unfold plainW runW
 rw[e]
theorem wy1 {x y:Addr}{A:AW}{B:BW}:delB y (bx x y A B)=[(x,.row (FW L A))]:=by unfold bx delB;simp
theorem yi6 (n fi:Nat)(j:fi<n):Iv n ((List.replicate n ([],[])).set fi (putp false [0,1] ((List.replicate n ([],[])).getD fi ([],[])))) ((List.replicate n (none,none)).set fi (putp false (some [fi]) ((List.replicate n (none,none)).getD fi (none,none)))):=by
 refine⟨by simp,by simp,fun p hp c=>?_⟩
 rw[c8 _ (by simpa using j),c8 _ (by simpa using j)]
 by_cases z:p=fi/\c=false
 .rw[if_pos z,if_pos z]
  exact⟨by simp,fun _=>by simp,fun u i=>by cases i;simp⟩
 .rw[if_neg z,if_neg z]
  have e1:(List.replicate n (([]:List Nat),([]:List Nat))).getD p ([],[])=([],[]):=by
   rw[getD_eq_getElem?_getD,getElem?_replicate,if_pos hp];rfl
  have e2:(List.replicate n ((none:Option (List Nat)),(none:Option (List Nat)))).getD p (none,none)=(none,none):=by
   rw[getD_eq_getElem?_getD,getElem?_replicate,if_pos hp];rfl
  rw[e1,e2]
  cases c
  .exact⟨by simp[pick],fun h=>absurd rfl h,fun u i=>by cases i⟩
  .exact⟨by simp[pick],fun h=>absurd rfl h,fun u i=>by cases i⟩
noncomputable def com0 (n fi:Nat):AW×BW:=((List.replicate n ([],[])).set fi (putp false [0,1] ((List.replicate n ([],[])).getD fi ([],[]))),(List.replicate n (none,none)).set fi (putp false (some [fi]) ((List.replicate n (none,none)).getD fi (none,none))))
noncomputable def d6 (ns:List Int)(s:Int)(fi:Nat):AW×BW:=((List.range (ns.length-(fi+1))).map (fi+1+·)).foldl (stQ ns s fi) (com0 ns.length fi)
theorem xt7 (ns:List Int)(s:Int)(fi:Nat)(hn:ns.length<=40)(S:fi<ns.length):Iv ns.length (d6 ns s fi).1 (d6 ns s fi).2/\R0 [RI ns,.int s,.int (fi:Int)]=some (.sh (.tup [.lst (DW L (d6 ns s fi).1),.lst (DW OD (d6 ns s fi).2)])):=by
 have a0:=n4
 obtain⟨I,O,N,M,G,j,m5,m6,m7,m8,m9,e⟩:=B8 ns s fi hn S ((List.range (ns.length-(fi+1))).map (fi+1+·)) (com0 ns.length fi) none none none none none (fun q hq=>by
   rw[mem_map]at hq
   obtain⟨i,hi,rfl⟩:=hq
   rw[mem_range]at hi
   omega) (yi6 ns.length fi S) i9 i9 i9 i9 i9
 refine⟨I,?_⟩
 unfold d6
 generalize (((List.range (ns.length-(fi+1))).map (fi+1+·)).foldl (stQ ns s fi) (com0 ns.length fi))=AB at*
 obtain⟨A,B⟩:=AB
 simp only at*
 unfold R0
 refine yz7 (β:=[]) ?_
 have r3:∀ x y,x≠y->Y0 (eQ ns s fi (.ptr x) (.ptr y) none none none none none) (bx x y (List.replicate ns.length ([],[])) (List.replicate ns.length (none,none)))=some (.rt (.tup [.lst (DW L A),.lst (DW OD B)]),[]):=fun x y h=>by
  unfold Y0
  have v1:wE (mlst (w5 (z4 (mc (.int 0)) (z4 (mc (.int 1)) anil)))) (eQ ns s fi (.ptr x) (.ptr y) none none none none none) (bx x y (List.replicate ns.length ([],[])) (List.replicate ns.length (none,none)))=some (L [0,1]):=j9 (w9 (z6 (d:=.int 0) rfl (z6 (d:=.int 1) rfl y4)) (w4 (by simp)))
  have Z:=K7 (f:=L) (i:=3) (k1:=mvar 2) (k2:=mc (.int 0)) (p:=fi) (b:=false) ([],[]) v1 rfl (bx_x h) rfl rfl (by simpa using S) (zf6 i9 i9 i9 i9 i9)
  rw[up_x h]at Z
  refine seqW Z ?_
  have v2:∀ A',wE (mtup (z4 (m1 negD (mc (.int 1))) (z4 (mlst (w5 (z4 (mvar 2) anil))) anil))) (eQ ns s fi (.ptr x) (.ptr y) none none none none none) (bx x y A' (List.replicate ns.length (none,none)))=some (OD (some [fi])):=fun A'=>W4 (z6 (d:=.int (-1)) rfl (z6 (j9 (w9 (z6 (x:=mvar 2) (d:=.int (fi:Int)) rfl y4) (w4 (by simp)))) y4)) (w4 (by simp))
  have Y:=K7 (f:=OD) (i:=4) (k1:=mvar 2) (k2:=mc (.int 0)) (p:=fi) (b:=false) (none,none) (v2 ((List.replicate ns.length ([],[])).set fi (putp false [0,1] ((List.replicate ns.length ([],[])).getD fi ([],[]))))) rfl bx_y rfl rfl (by simpa using S) (zf6 i9 i9 i9 i9 i9)
  rw[up_y]at Y
  refine seqW Y ?_
  refine seqW (ρ':=eQ ns s fi (.ptr x) (.ptr y) O N M G j) (β':=bx x y A B) ?_ ?_
  .have eL:mlen (bvar 0) (eQ ns s fi (.ptr x) (.ptr y) none none none none none)=some (.int (ns.length:Int)):=by rw[Z0 (ds:=ns.map .int) rfl,length_map]
   have e1:m2 addD (mvar 2) (mc (.int 1)) (eQ ns s fi (.ptr x) (.ptr y) none none none none none)=some (.int ((fi+1:Nat):Int)):=(X7 (a:=.int (fi:Int)) (b:=.int 1) rfl rfl).trans rfl
   exact zi7 (za2 e1 eL (by omega) (by omega)) (e x y h)
  .unfold O5 P7
   simp only[show (eQ ns s fi (.ptr x) (.ptr y) O N M G j)[4]? =some (some (.sh (.ptr y)))from rfl,bx_y,FW_S,wy1,zf6 m5 m6 m7 m8 m9,if_true]
   simp only[show ((eQ ns s fi (.ptr x) (.ptr y) O N M G j).set 4 (some (.sh (.lst (DW OD B)))))[3]? =some (some (.sh (.ptr x)))from rfl,lookup_cons,beq_self_eq_true,FW_S,show nrdB ((eQ ns s fi (.ptr x) (.ptr y) O N M G j).set 4 (some (.sh (.lst (DW OD B)))))=true from zf6 (d4:=.lst (DW OD B)) m5 m6 m7 m8 m9,if_true]
   unfold yj2 wE
   rw[W4 (z6 (x:=mvar 3) (d:=.lst (DW L A)) rfl (z6 (x:=mvar 4) (d:=.lst (DW OD B)) rfl y4)) (w4 (by simp))]
   show some (Out.rt _,delB x [(x,Cell.row (FW L A))])=_
   unfold delB
   simp
 have r4:∀ x,Z9 (eQ ns s fi (.ptr x) (.lst []) none none none none none |>.set 4 none) [(x,.row (FW L (List.replicate ns.length ([],[]))))]=some (.rt (.tup [.lst (DW L A),.lst (DW OD B)]),[]):=fun x=>by
  unfold Z9 ze0
  rw[zh8 .non (mc .non) (fun _=>rfl) ns hn rfl,Option.bind_some]
  refine yp6 fun y hy=>?_
  have U:x≠y:=fun z=>hy (by simp[z])
  have:(List.replicate ns.length [D.non,D.non]).map Fl.l=FW OD (List.replicate ns.length (none,none)):=by unfold FW;simp[OD]
  rw[this]
  show (Y0 (eQ ns s fi (.ptr x) (.ptr y) none none none none none) (bx x y _ _)).map _=_
  rw[r3 x y U]
  rfl
 unfold M2 ze0
 rw[zh8 (.lst []) (mlst (w5 anil)) (fun _=>j9 (w9 y4 (Nat.zero_le _))) ns hn rfl,Option.bind_some]
 refine yp6 fun x _=>?_
 have:(List.replicate ns.length [D.lst [],D.lst []]).map Fl.l=FW L (List.replicate ns.length ([],[])):=by unfold FW;simp[L]
 rw[this]
 show (Z9 (eQ ns s fi (.ptr x) (.lst []) none none none none none |>.set 4 none) _).map _=_
 rw[r4 x]
 rfl
end
section
open PySem L2
noncomputable def gA (A:AW)(p:Nat)(d:Bool)(m:Nat):Nat:=(pick d (A.getD p ([],[]))).getD m 0
def gE (A:AW)(p:Nat)(d:Bool):Prop:=pick d (A.getD p ([],[]))≠[]
noncomputable def gB (B:BW)(p:Nat)(d:Bool):Option (List Nat):=pick d (B.getD p (none,none))
theorem xz7 (a b:List Nat)(m:Nat):(ptL a b b.length).getD m 0=a.getD m 0+(if 1<=m then b.getD (m-1) 0 else 0):=by
 by_cases h:m<max a.length (b.length+1)
 .rw[getD_eq_getElem?_getD,B0 a b _ m h]
  show ptN a b b.length m=_
  unfold ptN
  by_cases h1:1<=m
  .by_cases h2:m<=b.length
   .rw[if_pos ⟨h1,h2⟩,if_pos h1]
   .rw[if_neg (fun z=>h2 z.2),if_pos h1,getD_eq_getElem?_getD (l:=b),getElem?_eq_none (by omega)];rfl
  .rw[if_neg (fun z=>h1 z.1),if_neg h1]
 .rw[getD_eq_getElem?_getD,getElem?_eq_none (by rw[V8];omega),getD_eq_getElem?_getD,getElem?_eq_none (by omega),getD_eq_getElem?_getD,getElem?_eq_none (by omega)]
  simp
theorem xo6 (a b:List Nat)(k:Nat):ptL a b k≠[]:=fun h=>by
 have:=V8 a b k
 rw[h]at this
 simp at this
 omega
theorem zh5 {ns:List Int}{s:Int}(hs:1<=s){p q:Nat}{d:Bool}:far s d (xr ns q) (xr ns p)↔fb ns p q=d/\s<=((ns.getD p 0-ns.getD q 0).natAbs:Int):=by
 unfold far fb xr
 cases d
 .rw[if_neg (by decide),decide_eq_false_iff_not];omega
 .rw[if_pos rfl,decide_eq_true_eq];omega
section
variable {ns:List Int}{s:Int}(hs:1<=s){p q:Nat}{A:AW}{B:BW}(hq:q<p)(hA:p<A.length)(hB:p<B.length)
include hs
theorem R3 {d:Bool}:(goes ns s A p q=true/\fb ns p q=d)↔far s d (xr ns q) (xr ns p)/\gE A q (!d):=by
 rw[zh5 hs]
 unfold goes gE
 rw[Bool.and_eq_true,decide_eq_true_eq,Bool.not_eq_true',isEmpty_eq_false_iff]
 constructor
 .rintro⟨⟨h1,h2⟩,h3⟩
  subst h3
  exact⟨⟨rfl,h1⟩,h2⟩
 .rintro⟨⟨h3,h1⟩,h2⟩
  subst h3
  exact⟨⟨h1,h2⟩,rfl⟩
include hA
theorem wz9 (p':Nat)(d':Bool)(m:Nat):gA (stA ns s p q A) p' d' m=gA A p' d' m+(if p'=p/\1<=m/\far s d' (xr ns q) (xr ns p)then gA A q (!d') (m-1)else 0):=by
 unfold stA
 by_cases g:goes ns s A p q=true
 .rw[if_pos g]
  unfold gA
  rw[c8 _ hA]
  by_cases z:p'=p/\d'=fb ns p q
  .obtain⟨rfl,rfl⟩:=z
   rw[if_pos ⟨rfl,rfl⟩,xz7]
   have i:=((R3 hs (A:=A) (p:=p') (q:=q) (d:=fb ns p' q)).mp ⟨g,rfl⟩).1
   by_cases h1:1<=m
   .rw[if_pos h1,if_pos ⟨rfl,h1,i⟩]
   .rw[if_neg h1,if_neg (fun z=>h1 z.2.1)]
  .rw[if_neg z,if_neg (fun w=>z ⟨w.1,((zh5 hs).mp w.2.2).1.symm⟩),Nat.add_zero]
 .rw[if_neg g]
  by_cases w:p'=p/\1<=m/\far s d' (xr ns q) (xr ns p)
  .rw[if_pos w]
   have:¬ gE A q (!d'):=fun z=>g ((R3 hs).mpr ⟨w.2.2,z⟩).1
   unfold gE at this
   have e:pick (!d') (A.getD q ([],[]))=[]:=Classical.not_not.mp this
   unfold gA
   rw[e];rfl
  .rw[if_neg w,Nat.add_zero]
theorem wz7 (p':Nat)(d':Bool):gE (stA ns s p q A) p' d'↔gE A p' d'\/(p'=p/\far s d' (xr ns q) (xr ns p)/\gE A q (!d')):=by
 unfold stA
 by_cases g:goes ns s A p q=true
 .rw[if_pos g]
  by_cases z:p'=p/\d'=fb ns p q
  .refine⟨fun _=>.inr ⟨z.1,(R3 hs).mp ⟨g,z.2.symm⟩⟩,fun _=>?_⟩
   unfold gE
   rw[c8 _ hA,if_pos z]
   exact xo6 _ _ _
  .unfold gE
   rw[c8 _ hA,if_neg z]
   exact⟨.inl,fun h=>h.resolve_right fun w=>z ⟨w.1,((zh5 hs).mp w.2.1).1.symm⟩⟩
 .rw[if_neg g]
  exact⟨.inl,fun h=>h.resolve_right fun w=>g ((R3 hs).mpr w.2).1⟩
omit hA
include hB
open Classical in
theorem wz8 (p':Nat)(d':Bool):gB (stB ns s p q A B) p' d'=if p'=p/\far s d' (xr ns q) (xr ns p)/\gE A q (!d')then some (mnO (gB B p d') ((gB B q (!d')).getD []++[p]))else gB B p' d':=by
 unfold stB
 by_cases g:goes ns s A p q=true
 .rw[if_pos g]
  unfold gB
  rw[c8 _ hB]
  by_cases z:p'=p/\d'=fb ns p q
  .obtain⟨rfl,rfl⟩:=z
   rw[if_pos ⟨rfl,rfl⟩,if_pos ⟨rfl,(R3 hs).mp ⟨g,rfl⟩⟩]
  .rw[if_neg z,if_neg (fun w=>z ⟨w.1,((zh5 hs).mp w.2.1).1.symm⟩)]
 .rw[if_neg g,if_neg (fun w=>g ((R3 hs).mpr w.2).1)]
end
noncomputable def cj (x:Nat->Int)(s:Int)(fi:Nat)(C:Nat->List (List Nat))(j:Nat)(d:Bool)(p:Nat):List (List Nat):=(((List.range j).map (fi+·)).filter fun q=>decide (far s d (x q) (x p))).flatMap fun q=>(C q).map (·++[p])
noncomputable def cl (x:Nat->Int)(s:Int)(fi:Nat):Nat->Bool->Nat->List (List Nat)
 |0,_,_=>[]
 |m+1,d,p=>(if m=0/\p=fi/\d=false then [[fi]]else [])++cj x s fi (cl x s fi m (!d)) (p-fi) d p
variable {x:Nat->Int}{s:Int}{fi:Nat}
theorem zx6 (C:Nat->List (List Nat))(j:Nat)(d:Bool)(p:Nat):cj x s fi C (j+1) d p=cj x s fi C j d p++(if far s d (x (fi+j)) (x p)then (C (fi+j)).map (·++[p])else []):=by
 unfold cj
 rw[range_succ,map_append,filter_append,flatMap_append]
 congr 1
 show (List.filter _ [fi+j]).flatMap _=_
 by_cases h:far s d (x (fi+j)) (x p)
 .rw[if_pos h,filter_cons_of_pos (by simpa using h)];simp
 .rw[if_neg h,filter_cons_of_neg (by simpa using h)];simp
theorem cj_mem {C:Nat->List (List Nat)}{j:Nat}{d:Bool}{p:Nat}{l:List Nat}:l∈cj x s fi C j d p↔∃ q k,fi<=q/\q<fi+j/\far s d (x q) (x p)/\k∈C q/\l=k++[p]:=by
 unfold cj
 rw[mem_flatMap]
 constructor
 .rintro⟨q,h1,h2⟩
  obtain⟨k,I,rfl⟩:=List.mem_map.mp h2
  obtain⟨G,z⟩:=List.mem_filter.mp h1
  obtain⟨i,hi,rfl⟩:=List.mem_map.mp G
  have:=List.mem_range.mp hi
  exact⟨_,k,by omega,by omega,by simpa using z,I,rfl⟩
 .rintro⟨q,k,h1,h2,G,z,rfl⟩
  exact⟨q,List.mem_filter.mpr ⟨List.mem_map.mpr ⟨q-fi,List.mem_range.mpr (by omega),by omega⟩,by simpa using G⟩,List.mem_map.mpr ⟨k,z,rfl⟩⟩
def Ls (x:Nat->Int)(s:Int)(fi:Nat)(d:Bool)(p:Nat)(l:List Nat):Prop:=∃ m,l∈cl x s fi m d p
def LJ (x:Nat->Int)(s:Int)(fi j:Nat)(d:Bool)(p:Nat)(l:List Nat):Prop:=∃ m,l∈cj x s fi (cl x s fi m (!d)) j d p
theorem yo0 {d:Bool}{p:Nat}{l:List Nat}:¬ LJ x s fi 0 d p l:=by
 rintro⟨m,h⟩
 obtain⟨q,k,h1,h2,_⟩:=cj_mem.mp h
 omega
theorem LJ_succ {j:Nat}{d:Bool}{p:Nat}{l:List Nat}:LJ x s fi (j+1) d p l↔LJ x s fi j d p l\/(far s d (x (fi+j)) (x p)/\∃ k,Ls x s fi (!d) (fi+j) k/\l=k++[p]):=by
 unfold LJ Ls
 constructor
 .rintro⟨m,h⟩
  rw[zx6,mem_append]at h
  rcases h with h|h
  .exact .inl ⟨m,h⟩
  .by_cases f:far s d (x (fi+j)) (x p)
   .rw[if_pos f]at h
    obtain⟨k,i,rfl⟩:=List.mem_map.mp h
    exact .inr ⟨f,k,⟨m,i⟩,rfl⟩
   .rw[if_neg f]at h;cases h
 .rintro(⟨m,h⟩|⟨f,k,⟨m,h⟩,rfl⟩)
  .exact⟨m,by rw[zx6];exact mem_append_left _ h⟩
  .exact⟨m,by rw[zx6,if_pos f];exact mem_append_right _ (List.mem_map.mpr ⟨k,h,rfl⟩)⟩
theorem yp9 {d:Bool}{p:Nat}{l:List Nat}(hp:fi<p):Ls x s fi d p l↔LJ x s fi (p-fi) d p l:=by
 unfold Ls LJ
 constructor
 .rintro⟨m,h⟩
  cases m with
  |zero=>cases h
  |succ m=>
   rw[cl,if_neg (by omega),nil_append]at h
   exact⟨m,h⟩
 .rintro⟨m,h⟩
  exact⟨m+1,by rw[cl];exact mem_append_right _ h⟩
theorem zm1 (m:Nat)(d:Bool){p:Nat}(hp:p<=fi):cl x s fi m d p=if m=1/\p=fi/\d=false then [[fi]]else []:=by
 cases m with
 |zero=>rw[if_neg (by omega)];rfl
 |succ m=>
  rw[cl,show p-fi=0 by omega]
  have:cj x s fi (cl x s fi m (!d)) 0 d p=[]:=rfl
  rw[this,append_nil]
  by_cases h:m=0/\p=fi/\d=false
  .rw[if_pos h,if_pos ⟨by omega,h.2⟩]
  .rw[if_neg h,if_neg (fun z=>h ⟨by omega,z.2⟩)]
theorem xg8 (m:Nat)(d:Bool){p:Nat}(hp:fi<p):(cl x s fi (m+1) d p)=cj x s fi (cl x s fi m (!d)) (p-fi) d p:=by
 rw[cl,if_neg (by omega),nil_append]
noncomputable def BO (P:List Nat->Prop):Option (List Nat)->Prop
 |none=>∀ l,¬ P l
 |some b=>Best P b
theorem BO.iff {P Q:List Nat->Prop}{o:Option (List Nat)}(a:BO P o)(h:∀ m,P m↔Q m):BO Q o:=by
 cases o with
 |none=>exact fun l z=>a l ((h l).mpr z)
 |some b=>exact Best.iff a h
theorem yu0 (p:Nat):∀(a b:List Nat),a.length=b.length->lx (a++[p]) (b++[p])=lx a b
 |[],[],_=>by simp[lx]
 |[],_::_,h=>by simp at h
 |_::_,[],h=>by simp at h
 |a::as,b::bs,h=>by
  simp only[cons_append,lx]
  rw[yu0 p as bs (by simpa using h)]
theorem zd9 (p:Nat)(a b:List Nat):l5 (a++[p]) (b++[p])=l5 a b:=by
 unfold l5
 by_cases h:a.length=b.length
 .rw[yu0 p a b h];simp[h]
 .have e:(a.length==b.length)=false:=by simpa using h
  have e2:((a++[p]).length==(b++[p]).length)=false:=by simpa using h
  rw[e,e2];simp
theorem xs4 {P Q:List Nat->Prop}{o:Option (List Nat)}{b:List Nat}{p:Nat}(j:BO P o)(z:Best Q b):BO (fun l=>P l\/∃ k,Q k/\l=k++[p]) (some (mnO o (b++[p]))):=by
 have i:Best (fun l=>∃ k,Q k/\l=k++[p]) (b++[p]):=⟨⟨b,z.1,rfl⟩,by
  rintro m ⟨k,G,rfl⟩
  rw[zd9]
  exact z.2 k G⟩
 cases o with
 |none=>exact Best.iff (Q:=fun l=>P l\/∃ k,Q k/\l=k++[p]) i fun m=>⟨.inr,fun h=>h.resolve_left (j m)⟩
 |some a=>exact zg1 (c:=mnO (some a) (b++[p])) j i rfl fun l=>Iff.rfl
end
section
open PySem L2
section
variable (ns:List Int)(s:Int)(fi:Nat)
structure Dn (k:Nat)(AB:AW×BW):Prop where
 lA:AB.1.length=ns.length
 lB:AB.2.length=ns.length
 num:∀ p,p<k->∀ d m,gA AB.1 p d m=(cl (xr ns) s fi m d p).length
 some:∀ p,p<k->∀ d,gE AB.1 p d↔∃ l,Ls (xr ns) s fi d p l
 best:∀ p,p<k->∀ d,BO (Ls (xr ns) s fi d p) (gB AB.2 p d)
 num0:∀ p,k<=p->∀ d m,gA AB.1 p d m=0
 some0:∀ p,k<=p->∀ d,¬ gE AB.1 p d
 best0:∀ p,k<=p->∀ d,gB AB.2 p d=none
structure Pt (p j:Nat)(AB:AW×BW):Prop where
 lA:AB.1.length=ns.length
 lB:AB.2.length=ns.length
 num:∀ p',p'<p->∀ d m,gA AB.1 p' d m=(cl (xr ns) s fi m d p').length
 some:∀ p',p'<p->∀ d,gE AB.1 p' d↔∃ l,Ls (xr ns) s fi d p' l
 best:∀ p',p'<p->∀ d,BO (Ls (xr ns) s fi d p') (gB AB.2 p' d)
 num0:∀ p',p<p'->∀ d m,gA AB.1 p' d m=0
 some0:∀ p',p<p'->∀ d,¬ gE AB.1 p' d
 best0:∀ p',p<p'->∀ d,gB AB.2 p' d=none
 numz:∀ d,gA AB.1 p d 0=0
 nump:∀ d m,gA AB.1 p d (m+1)=(cj (xr ns) s fi (cl (xr ns) s fi m (!d)) j d p).length
 somep:∀ d,gE AB.1 p d↔∃ l,LJ (xr ns) s fi j d p l
 bestp:∀ d,BO (LJ (xr ns) s fi j d p) (gB AB.2 p d)
variable {ns s fi}
theorem yb7 (p q:Nat)(A:AW):(stA ns s p q A).length=A.length:=by unfold stA;split <;> simp
theorem yb6 (p q:Nat)(A:AW)(B:BW):(stB ns s p q A B).length=B.length:=by unfold stB;split <;> simp
theorem xz5 {p:Nat}{AB:AW×BW}(h:Dn ns s fi p AB):Pt ns s fi p 0 AB where
 lA:=h.lA
 lB:=h.lB
 num:=h.num
 some:=h.some
 best:=h.best
 num0:=fun p' hp=>h.num0 p' (by omega)
 some0:=fun p' hp=>h.some0 p' (by omega)
 best0:=fun p' hp=>h.best0 p' (by omega)
 numz:=fun d=>h.num0 p (Nat.le_refl _) d 0
 nump:=fun d m=>h.num0 p (Nat.le_refl _) d (m+1)
 somep:=fun d=>⟨fun z=>absurd z (h.some0 p (Nat.le_refl _) d),fun⟨l,z⟩=>absurd z yo0⟩
 bestp:=fun d=>by rw[h.best0 p (Nat.le_refl _) d];exact fun l=>yo0
theorem xz6 (hs:1<=s){p j:Nat}(G:fi+j<p)(hp:p<ns.length){AB:AW×BW}(h:Pt ns s fi p j AB):Pt ns s fi p (j+1) (stP ns s p AB (fi+j)):=by
 have hA:p<AB.1.length:=by rw[h.lA];exact hp
 have hB:p<AB.2.length:=by rw[h.lB];exact hp
 have N:=wz9 hs (p:=p) (q:=fi+j) (ns:=ns) hA
 have Y:=wz7 hs (p:=p) (q:=fi+j) (ns:=ns) hA
 have eB:=wz8 hs (p:=p) (q:=fi+j) (ns:=ns) (A:=AB.1) hB
 have U:∀ p',p'≠p->∀ d m,gA (stA ns s p (fi+j) AB.1) p' d m=gA AB.1 p' d m:=fun p' z d m=>by rw[N,if_neg (fun w=>z w.1),Nat.add_zero]
 have O:∀ p',p'≠p->∀ d,gE (stA ns s p (fi+j) AB.1) p' d↔gE AB.1 p' d:=fun p' z d=>by rw[Y];exact⟨fun w=>w.resolve_right fun y=>z y.1,.inl⟩
 have S:∀ p',p'≠p->∀ d,gB (stB ns s p (fi+j) AB.1 AB.2) p' d=gB AB.2 p' d:=fun p' z d=>by rw[eB,if_neg (fun w=>z w.1)]
 refine⟨?_,?_,?_,?_,?_,?_,?_,?_,?_,?_,?_,?_⟩
 .show (stA ns s p (fi+j) AB.1).length=_
  rw[yb7];exact h.lA
 .show (stB ns s p (fi+j) AB.1 AB.2).length=_
  rw[yb6];exact h.lB
 .exact fun p' i d m=>(U p' (by omega) d m).trans (h.num p' i d m)
 .exact fun p' i d=>(O p' (by omega) d).trans (h.some p' i d)
 .intro p' i d
  have:=h.best p' i d
  rw[<-S p' (by omega) d]at this
  exact this
 .exact fun p' i d m=>(U p' (by omega) d m).trans (h.num0 p' i d m)
 .exact fun p' i d z=>h.some0 p' i d ((O p' (by omega) d).mp z)
 .exact fun p' i d=>(S p' (by omega) d).trans (h.best0 p' i d)
 .intro d
  show gA (stA ns s p (fi+j) AB.1) p d 0=0
  rw[N,if_neg (by omega),h.numz]
 .intro d m
  show gA (stA ns s p (fi+j) AB.1) p d (m+1)=_
  rw[N,h.nump,zx6,length_append]
  congr 1
  by_cases f:far s d (xr ns (fi+j)) (xr ns p)
  .rw[if_pos ⟨rfl,by omega,f⟩,if_pos f,length_map,h.num (fi+j) G];rfl
  .rw[if_neg (fun z=>f z.2.2),if_neg f];rfl
 .intro d
  show gE (stA ns s p (fi+j) AB.1) p d↔_
  rw[Y,h.somep,h.some (fi+j) G]
  constructor
  .rintro(⟨l,z⟩|⟨_,f,l,z⟩)
   .exact⟨l,LJ_succ.mpr (.inl z)⟩
   .exact⟨_,LJ_succ.mpr (.inr ⟨f,l,z,rfl⟩)⟩
  .rintro⟨l,z⟩
   rcases LJ_succ.mp z with z|⟨f,k,z,_⟩
   .exact .inl ⟨l,z⟩
   .exact .inr ⟨rfl,f,k,z⟩
 .intro d
  show BO _ (gB (stB ns s p (fi+j) AB.1 AB.2) p d)
  rw[eB]
  have I:=h.best (fi+j) G (!d)
  by_cases c:p=p/\far s d (xr ns (fi+j)) (xr ns p)/\gE AB.1 (fi+j) (!d)
  .rw[if_pos c]
   obtain⟨_,f,g⟩:=c
   obtain⟨l,Z⟩:=(h.some (fi+j) G (!d)).mp g
   cases eb:gB AB.2 (fi+j) (!d)with
   |none=>rw[eb]at I;exact absurd Z (I l)
   |some b=>
    rw[eb]at I
    exact(xs4 (h.bestp d) I).iff fun m=>by
     rw[LJ_succ]
     exact⟨fun z=>z.imp id fun⟨k,M,L⟩=>⟨f,k,M,L⟩,fun z=>z.imp id fun⟨_,k,M,L⟩=>⟨k,M,L⟩⟩
  .rw[if_neg c]
   refine(h.bestp d).iff fun m=>?_
   rw[LJ_succ]
   refine⟨.inl,fun z=>z.resolve_right fun⟨f,k,z,_⟩=>c ⟨rfl,f,(h.some (fi+j) G (!d)).mpr ⟨k,z⟩⟩⟩
theorem yf8 (hs:1<=s){p:Nat}(hp:p<ns.length){AB:AW×BW}(h:Dn ns s fi p AB):∀ j,fi+j<=p->Pt ns s fi p j (((List.range j).map (fi+·)).foldl (stP ns s p) AB)
 |0,_=>xz5 h
 |j+1,hj=>by
  rw[range_succ,map_append,foldl_append]
  exact xz6 hs (by omega) hp (yf8 hs hp h j (by omega))
theorem xt1 (hs:1<=s){p:Nat}(j:fi<p)(hp:p<ns.length){AB:AW×BW}(h:Dn ns s fi p AB):Dn ns s fi (p+1) (stQ ns s fi AB p):=by
 have t:Pt ns s fi p (p-fi) (stQ ns s fi AB p):=yf8 hs hp h (p-fi) (by omega)
 refine⟨t.lA,t.lB,fun p' i d m=>?_,fun p' i d=>?_,fun p' i d=>?_,fun p' i=>t.num0 p' (by omega),fun p' i=>t.some0 p' (by omega),fun p' i=>t.best0 p' (by omega)⟩
 .rcases Nat.lt_or_ge p' p with z|z
  .exact t.num p' z d m
  .have:p'=p:=by omega
   subst this
   cases m with
   |zero=>exact t.numz d
   |succ m=>rw[t.nump,xg8 m d j]
 .rcases Nat.lt_or_ge p' p with z|z
  .exact t.some p' z d
  .have:p'=p:=by omega
   subst this
   rw[t.somep]
   exact⟨fun⟨l,z⟩=>⟨l,(yp9 j).mpr z⟩,fun⟨l,z⟩=>⟨l,(yp9 j).mp z⟩⟩
 .rcases Nat.lt_or_ge p' p with z|z
  .exact t.best p' z d
  .have:p'=p:=by omega
   subst this
   exact(t.bestp d).iff fun m=>(yp9 j).symm
theorem M4 {x:Nat->Int}{d:Bool}{p:Nat}{l:List Nat}(hp:p<=fi):Ls x s fi d p l↔p=fi/\d=false/\l=[fi]:=by
 unfold Ls
 constructor
 .rintro⟨m,h⟩
  rw[zm1 m d hp]at h
  by_cases c:m=1/\p=fi/\d=false
  .rw[if_pos c]at h
   exact⟨c.2.1,c.2.2,List.mem_singleton.mp h⟩
  .rw[if_neg c]at h;cases h
 .rintro⟨h1,h2,h3⟩
  refine⟨1,?_⟩
  rw[zm1 1 d hp,if_pos ⟨rfl,h1,h2⟩,h3]
  simp
theorem xt0 (i:fi<ns.length):Dn ns s fi (fi+1) (com0 ns.length fi):=by
 have e1:∀ p,(List.replicate ns.length (([]:List Nat),([]:List Nat))).getD p ([],[])=([],[]):=fun p=>by
  rw[getD_eq_getElem?_getD,getElem?_replicate];split <;> rfl
 have e2:∀ p,(List.replicate ns.length ((none:Option (List Nat)),(none:Option (List Nat)))).getD p (none,none)=(none,none):=fun p=>by
  rw[getD_eq_getElem?_getD,getElem?_replicate];split <;> rfl
 have G:∀ d,pick d (([]:List Nat),([]:List Nat))=[]:=fun d=>by cases d <;> rfl
 have j:∀ d,pick d ((none:Option (List Nat)),(none:Option (List Nat)))=none:=fun d=>by cases d <;> rfl
 have hA:∀ p d,pick d ((com0 ns.length fi).1.getD p ([],[]))=if p=fi/\d=false then [0,1]else []:=fun p d=>by
  unfold com0
  simp only
  rw[c8 _ (by simpa using i),e1,G]
 have hB:∀ p d,gB (com0 ns.length fi).2 p d=if p=fi/\d=false then some [fi]else none:=fun p d=>by
  unfold gB com0
  simp only
  rw[c8 _ (by simpa using i),e2,j]
 refine⟨by unfold com0;simp,by unfold com0;simp,fun p hp d m=>?_,fun p hp d=>?_,fun p hp d=>?_,fun p hp d m=>?_,fun p hp d=>?_,fun p hp d=>?_⟩
 .unfold gA
  rw[hA,zm1 m d (by omega)]
  by_cases c:p=fi/\d=false
  .rw[if_pos c]
   by_cases hm:m=1
   .subst hm
    rw[if_pos ⟨rfl,c⟩];rfl
   .rw[if_neg (fun z=>hm z.1)]
    match m,hm with
    |0,_=>rfl
    |1,h=>exact absurd rfl h
    |m+2,_=>rfl
  .rw[if_neg c,if_neg (fun z=>c z.2)];rfl
 .unfold gE
  rw[hA]
  constructor
  .intro z
   by_cases c:p=fi/\d=false
   .exact⟨[fi],(M4 (by omega)).mpr ⟨c.1,c.2,rfl⟩⟩
   .rw[if_neg c]at z;exact absurd rfl z
  .rintro⟨l,z⟩
   have:=(M4 (by omega)).mp z
   rw[if_pos ⟨this.1,this.2.1⟩]
   simp
 .rw[hB]
  by_cases c:p=fi/\d=false
  .rw[if_pos c]
   refine⟨(M4 (by omega)).mpr ⟨c.1,c.2,rfl⟩,fun m hm=>?_⟩
   rw[((M4 (by omega)).mp hm).2.2]
   exact V6 _
  .rw[if_neg c]
   exact fun l z=>c ⟨((M4 (by omega)).mp z).1,((M4 (by omega)).mp z).2.1⟩
 .unfold gA
  rw[hA,if_neg (by omega)];rfl
 .unfold gE
  rw[hA,if_neg (by omega)]
  exact fun z=>z rfl
 .rw[hB,if_neg (by omega)]
theorem yd9 (hs:1<=s)(i:fi<ns.length):∀ j,fi+1+j<=ns.length->Dn ns s fi (fi+1+j) (((List.range j).map (fi+1+·)).foldl (stQ ns s fi) (com0 ns.length fi))
 |0,_=>xt0 i
 |j+1,hj=>by
  rw[range_succ,map_append,foldl_append]
  have h1:fi<fi+1+j:=by omega
  have h2:fi+1+j<ns.length:=by omega
  exact xt1 hs h1 h2 (yd9 hs i j (by omega))
theorem xt5 (hs:1<=s)(i:fi<ns.length):Dn ns s fi ns.length (d6 ns s fi):=by
 have:=yd9 (ns:=ns) (fi:=fi) hs i (ns.length-(fi+1)) (by omega)
 rw[show fi+1+(ns.length-(fi+1))=ns.length by omega]at this
 exact this
end
noncomputable def dirA (e:Bool)(k:Nat):Bool:=if k % 2=0 then e else !e
theorem zr0 (e:Bool)(k:Nat):dirA (!e) k=dirA e (k+1):=by
 unfold dirA
 by_cases h:k % 2=0
 .rw[if_pos h,if_neg (by omega)]
 .rw[if_neg h,if_pos (by omega)];simp
theorem A6 {x:Nat->Int}{n:Nat}{s:Int}{q p:Nat}:∀(k:List Nat)(e:Bool),Wd x n s e (k++[q,p])↔Wd x n s e (k++[q])/\q<p/\p<n/\far s (dirA e k.length) (x q) (x p)
 |[],e=>by
  show (q<p/\far s e (x q) (x p)/\p<n)↔q<n/\q<p/\p<n/\far s e (x q) (x p)
  exact⟨fun h=>⟨by omega,h.1,h.2.2,h.2.1⟩,fun h=>⟨h.2.1,h.2.2.2,h.2.2.1⟩⟩
 |[a],e=>by
  have:=A6 (x:=x) (n:=n) (s:=s) (q:=q) (p:=p) [] (!e)
  show (a<q/\far s e (x a) (x q)/\Wd x n s (!e) ([]++[q,p]))↔(a<q/\far s e (x a) (x q)/\Wd x n s (!e) ([]++[q]))/\_
  rw[this,zr0]
  exact⟨fun⟨h1,h2,j,i⟩=>⟨⟨h1,h2,j⟩,i⟩,fun⟨⟨h1,h2,j⟩,i⟩=>⟨h1,h2,j,i⟩⟩
 |a::b::k,e=>by
  have:=A6 (x:=x) (n:=n) (s:=s) (q:=q) (p:=p) (b::k) (!e)
  show (a<b/\far s e (x a) (x b)/\Wd x n s (!e) ((b::k)++[q,p]))↔(a<b/\far s e (x a) (x b)/\Wd x n s (!e) ((b::k)++[q]))/\_
  rw[this,zr0]
  exact⟨fun⟨h1,h2,j,i⟩=>⟨⟨h1,h2,j⟩,i⟩,fun⟨⟨h1,h2,j⟩,i⟩=>⟨h1,h2,j,i⟩⟩
def Go (x:Nat->Int)(n:Nat)(s:Int)(fi m:Nat)(d:Bool)(p:Nat)(l:List Nat):Prop:=l.length=m/\Hd fi l/\Wd x n s true l/\l.getLast? =some p/\(m % 2=0↔d=true)
theorem xq0 {x:Nat->Int}{n:Nat}{s:Int}:∀{l:List Nat}{e:Bool}{a:Nat},Wd x n s e (a::l)->∀ y∈a::l,a<=y
 |[],_,a,_,y,i=>by rw[List.mem_singleton.mp i];exact Nat.le_refl _
 |b::l,e,a,h,y,i=>by
  rcases List.mem_cons.mp i with rfl|i
  .exact Nat.le_refl _
  .have:=xq0 h.2.2 y i
   have:=h.1
   omega
theorem zm2 {x:Nat->Int}{n:Nat}{s:Int}{fi:Nat}(O:fi<n):∀(m:Nat)(d:Bool)(p:Nat)(l:List Nat),p<n->(l∈cl x s fi m d p↔Go x n s fi m d p l)
 |0,d,p,l,hp=>by
  refine⟨fun h=>(by cases h),fun h=>?_⟩
  have:=h.1
  obtain⟨k,rfl⟩:=h.2.1
  cases this
 |1,d,p,l,hp=>by
  rw[show cl x s fi 1 d p=(if p=fi/\d=false then [[fi]]else [])by
   rw[cl]
   have:cj x s fi (cl x s fi 0 (!d)) (p-fi) d p=[]:=by
    unfold cj
    rw[flatMap_eq_nil_iff]
    intro q _
    rfl
   rw[this,append_nil]
   by_cases c:p=fi/\d=false
   .rw[if_pos c,if_pos ⟨rfl,c⟩]
   .rw[if_neg c,if_neg (fun z=>c z.2)]]
  constructor
  .intro h
   by_cases c:p=fi/\d=false
   .rw[if_pos c,mem_singleton]at h
    subst h
    obtain⟨rfl,rfl⟩:=c
    exact⟨rfl,⟨[],rfl⟩,hp,rfl,by simp⟩
   .rw[if_neg c]at h;cases h
  .rintro⟨h1,⟨k,rfl⟩,_,h4,h5⟩
   have:k=[]:=by simpa using h1
   subst this
   have e:fi=p:=by simpa using h4
   have e2:d=false:=by
    cases d with
    |false=>rfl
    |true=>simp at h5
   rw[if_pos ⟨e.symm,e2⟩]
   simp
 |m+2,d,p,l,hp=>by
  rw[cl,if_neg (by omega),nil_append,cj_mem]
  constructor
  .rintro⟨q,k,h1,h2,h3,h4,rfl⟩
   have M:q<p:=by omega
   obtain⟨I,U,S,G,L⟩:=(zm2 O (m+1) (!d) q k (by omega)).mp h4
   obtain⟨t,rfl⟩:∃ t,k=t++[q]:=by
    rcases eq_nil_or_concat k with rfl|⟨t,y,rfl⟩
    .simp at G
    .rw[concat_eq_append]at G ⊢
     have:y=q:=by simpa using G
     exact⟨t,by rw[this]⟩
   have j:t.length=m:=by simpa using I
   have N:dirA true t.length=d:=by
    unfold dirA
    rw[j]
    cases d
    .simp at L;rw[if_neg (by omega)];rfl
    .simp at L;rw[if_pos (by omega)]
   refine⟨by simp[j],?_,?_,by simp,?_⟩
   .obtain⟨u,i⟩:=U
    rw[i]
    exact⟨u++[p],rfl⟩
   .rw[append_assoc]
    exact(A6 t true).mpr ⟨S,M,hp,by rw[N];exact h3⟩
   .cases d
    .simp at L ⊢;omega
    .simp at L ⊢;omega
  .rintro⟨h1,h2,h3,h4,h5⟩
   obtain⟨t,q,rfl⟩:∃ t q,l=t++[q,p]:=by
    rcases eq_nil_or_concat l with rfl|⟨u,y,rfl⟩
    .simp at h1
    .rw[concat_eq_append]at h1 h4 ⊢
     have:y=p:=by simpa using h4
     subst this
     rcases eq_nil_or_concat u with rfl|⟨t,q,rfl⟩
     .simp at h1
     .exact⟨t,q,by rw[concat_eq_append,append_assoc];rfl⟩
   obtain⟨I,U,S,G⟩:=(A6 t true).mp h3
   have j:t.length=m:=by simpa using h1
   have N:dirA true t.length=d:=by
    unfold dirA
    rw[j]
    cases d
    .simp at h5;rw[if_neg (by omega)];rfl
    .simp at h5;rw[if_pos (by omega)]
   have hh:Hd fi (t++[q]):=by
    obtain⟨u,i⟩:=h2
    cases t with
    |nil=>
     have:q=fi:=by simp at i;exact i.1
     exact⟨[],by rw[this];rfl⟩
    |cons a t=>
     have:a=fi:=by simp at i;exact i.1
     exact⟨t++[q],by rw[this];rfl⟩
   have hq:fi<=q:=by
    obtain⟨u,i⟩:=hh
    rw[i]at I
    refine xq0 I q ?_
    rw[<-i];simp
   refine⟨q,t++[q],hq,by omega,by rw[<-N];exact G,?_,by simp⟩
   refine(zm2 O (m+1) (!d) q _ (by omega)).mpr ⟨by simp[j],hh,I,by simp,?_⟩
   cases d
   .simp at h5 ⊢;omega
   .simp at h5 ⊢;omega
end
section
open PySem L2
theorem yr8 {x:Nat->Int}{s:Int}{fi m:Nat}{d:Bool}{p:Nat}{l:List Nat}(h:l∈cl x s fi m d p):l.getLast? =some p:=by
 cases m with
 |zero=>cases h
 |succ m=>
  rw[cl,mem_append]at h
  rcases h with h|h
  .by_cases c:m=0/\p=fi/\d=false
   .rw[if_pos c,mem_singleton]at h
    rw[h,c.2.1];rfl
   .rw[if_neg c]at h;cases h
  .obtain⟨q,k,_,_,_,_,rfl⟩:=cj_mem.mp h
   simp
theorem G7 {xs:List Nat}{F:Nat->List (List Nat)}(i:xs.Nodup)(h1:∀ q∈xs,(F q).Nodup)(h2:∀ q l,l∈F q->l.getLast? =some q):(xs.flatMap F).Nodup:=by
 unfold List.Nodup
 rw[pairwise_flatMap]
 refine⟨h1,List.Pairwise.imp (fun{a b} h=>?_) i⟩
 intro x i y j e
 have:=h2 a x i
 rw[e,h2 b y j]at this
 exact h (Option.some.inj this).symm
theorem zf7 {p:Nat}{xs:List (List Nat)}(h:xs.Nodup):(xs.map (·++[p])).Nodup:=by
 unfold List.Nodup
 rw[pairwise_map]
 exact List.Pairwise.imp (fun{a b} h=>by simpa using h) h
theorem zh9 {x:Nat->Int}{s:Int}{fi:Nat}:∀(m:Nat)(d:Bool)(p:Nat),(cl x s fi m d p).Nodup
 |0,_,_=>nodup_nil
 |m+1,d,p=>by
  have i:(cj x s fi (cl x s fi m (!d)) (p-fi) d p).Nodup:=by
   unfold cj
   rw[<-map_flatMap]
   refine zf7 (G7 ?_ (fun q _=>zh9 m (!d) q) fun q l h=>yr8 h)
   refine List.Pairwise.filter _ ?_
   rw[pairwise_map]
   exact(nodup_range).imp fun h=>by omega
  rw[cl]
  by_cases c:m=0/\p=fi/\d=false
  .obtain⟨rfl,rfl,rfl⟩:=c
   rw[if_pos ⟨rfl,rfl,rfl⟩,Nat.sub_self]
   show ([[p]]++[]).Nodup
   simp
  .rw[if_neg c,nil_append];exact i
theorem xg7 {x:Nat->Int}{n:Nat}{s:Int}{fi:Nat}(i:fi<n){m p:Nat}(hp:p<n)(hm:m % 2=1):cl x s fi m true p=[]:=by
 cases h:cl x s fi m true p with
 |nil=>rfl
 |cons l j=>
  have:=((zm2 i m true p l hp).mp (by rw[h];simp)).2.2.2.2
  simp at this
  omega
theorem xc6 {ns:List Int}{s:Int}{fi k:Nat}(G:fi<ns.length){l:List Nat}:(∃ p∈abv ns s true fi,l∈cl (xr ns) s fi (2*k+2) true p)↔RaR ns s true fi 0 true fi l/\l.length=2*k+2:=by
 constructor
 .rintro⟨p,hp,h⟩
  have h1:=abv_mem.mp hp
  obtain⟨I,z,j,i,L⟩:=(zm2 G _ true p l h1.2.1).mp h
  exact⟨⟨j,z,by omega,p,i,hp⟩,I⟩
 .rintro⟨⟨j,z,I,p,i,hp⟩,g0⟩
  have h1:=abv_mem.mp hp
  exact⟨p,hp,(zm2 G _ true p l h1.2.1).mpr ⟨g0,z,j,i,by simp <;> omega⟩⟩
theorem xa5 {ns:List Int}{s:Int}{fi:Nat}(G:fi<ns.length){l:List Nat}:(∃ p∈abv ns s true fi,Ls (xr ns) s fi true p l)↔RaR ns s true fi 0 true fi l:=by
 constructor
 .rintro⟨p,hp,m,h⟩
  have h1:=abv_mem.mp hp
  obtain⟨I,z,j,i,L⟩:=(zm2 G m true p l h1.2.1).mp h
  exact⟨j,z,by rw[I];exact L.mpr rfl,p,i,hp⟩
 .rintro⟨j,z,I,p,i,hp⟩
  have h1:=abv_mem.mp hp
  exact⟨p,hp,l.length,(zm2 G _ true p l h1.2.1).mpr ⟨rfl,z,j,i,by simp <;> omega⟩⟩
noncomputable def cr (ns:List Int)(s:Int):Nat->Nat->Nat
 |0,_=>0
 |h+1,f=>rn ns s true h f
theorem xg6 {ns:List Int}{s:Int}{fi:Nat}(i:fi<ns.length)(h:Nat):((abv ns s true fi).map fun p=>(cl (xr ns) s fi (2*h) true p).length).sum=cr ns s h fi:=by
 cases h with
 |zero=>exact S8 fun q _=>rfl
 |succ h=>
  show _=rn ns s true h fi
  rw[<-za6,<-length_flatMap]
  refine zk9 (G7 (O7 _ _ _ _) (fun q _=>zh9 _ _ _) fun q l h=>yr8 h) (zz0 _ _ _ _ _) fun l=>?_
  rw[za5 i,mem_flatMap,<-xc6 i]
  rfl
theorem yt5 (c:Nat->Bool)(F:Nat->Nat):∀(xs:List Nat),((xs.filter c).map F).sum=(xs.map fun i=>if c i=true then F i else 0).sum
 |[]=>rfl
 |a::xs=>by
  by_cases h:c a=true
  .rw[filter_cons_of_pos h,map_cons,sum_cons,map_cons,sum_cons,if_pos h,yt5 c F xs]
  .rw[filter_cons_of_neg h,map_cons,sum_cons,if_neg h,Nat.zero_add,yt5 c F xs]
noncomputable def ng (η:List Int):List Int:=η.map fun x=>0-x
theorem zt1 (η:List Int):(ng η).length=η.length:=by unfold ng;simp
theorem ng_x (η:List Int)(p:Nat):xr (ng η) p= -xr η p:=by
 show (ng η).getD p 0= -η.getD p 0
 unfold ng
 rw[getD_eq_getElem?_getD,getElem?_map,getD_eq_getElem?_getD]
 cases η[p]? <;> simp
theorem yd5 {s:Int}{d:Bool}{η:List Int}{p q:Nat}:far s d (xr (ng η) p) (xr (ng η) q)↔far s (!d) (xr η p) (xr η q):=by
 rw[ng_x,ng_x]
 unfold far
 cases d <;> simp <;> omega
theorem xr9 {s:Int}{η:List Int}{n:Nat}:∀(l:List Nat)(d:Bool),Wd (xr (ng η)) n s d l↔Wd (xr η) n s (!d) l
 |[],d=>Iff.rfl
 |[p],d=>Iff.rfl
 |p::q::l,d=>by
  show (p<q/\far s d (xr (ng η) p) (xr (ng η) q)/\Wd (xr (ng η)) n s (!d) (q::l))↔(p<q/\far s (!d) (xr η p) (xr η q)/\Wd (xr η) n s (!!d) (q::l))
  rw[yd5,xr9 (q::l) (!d)]
theorem xf5 {s:Int}{η:List Int}{f q:Nat}:q∈abv (ng η) s true f↔q∈abv η s false f:=by
 rw[abv_mem,abv_mem,zt1,yd5]
 rfl
theorem ra_ng {s:Int}{η:List Int}{f:Nat}{l:List Nat}:RaR (ng η) s true f 0 true f l↔RaR η s false f 0 false f l:=by
 show (Wd (xr (ng η)) (ng η).length s true l/\Hd f l/\l.length % 2=0/\∃ z,l.getLast? =some z/\z∈abv (ng η) s true f)↔(Wd (xr η) η.length s false l/\Hd f l/\l.length % 2=0/\∃ z,l.getLast? =some z/\z∈abv η s false f)
 rw[xr9,zt1]
 refine and_congr Iff.rfl (and_congr Iff.rfl (and_congr Iff.rfl (exists_congr fun z=>and_congr Iff.rfl xf5)))
theorem xc5 {s:Int}{η:List Int}{f:Nat}(k:Nat)(i:f<η.length):rn (ng η) s true k f=rn η s false k f:=by
 rw[<-za6,<-za6]
 refine zk9 (zz0 _ _ _ _ _) (zz0 _ _ _ _ _) fun l=>?_
 rw[za5 (by rw[zt1];exact i),za5 i,ra_ng]
theorem xq4 (η:List Int)(s:Int)(h:Nat):tn η s h=(if h=0 then 1 else 0)+((List.range η.length).map (cr η s h)).sum+((List.range (ng η).length).map (cr (ng η) s h)).sum:=by
 cases h with
 |zero=>
  rw[S8 (F:=cr η s 0) fun q _=>rfl,S8 (F:=cr (ng η) s 0) fun q _=>rfl];rfl
 |succ h=>
  rw[if_neg (by omega),Nat.zero_add]
  show an η s h=_
  unfold an
  congr 1
  rw[zt1]
  congr 1
  refine map_congr_left fun f i=>?_
  exact(xc5 h (List.mem_range.mp i)).symm
end
section
open PySem L2
noncomputable def eT (η:List Int)(s:Int)(bs:List Nat)(t:List Nat)(o4 o5 o6 o7 o8 o9 o10:Option S):Ro:=[some (.sh (RI η)),k0c s,some (.own (bs.map dN)),some (.sh (Ky t)),o4,o5,o6,o7,o8,o9,o10]
theorem xu4 {m:ME}{ρ:Ro}{k:Nat}(h:m ρ=some (.int (k:Int))):m2 M1 m (mc (.int 2)) ρ=some (.int ((k / 2:Nat):Int)):=by
 rw[X7 h (b:=.int 2) rfl]
 show (if L4 (k:Int) 2=true then some (D.int ((k:Int) / 2))else none)=_
 rw[if_pos (E6 _ _ (by decide) (by decide))]
 rfl
theorem yb2 (η:List Int)(s:Int)(bs:List Nat)(t:List Nat)(G z j o7 i:Option S)(k v:Nat)(L:k / 2<bs.length):O6 (eT η s bs t G z j o7 i (k0b k) (some (.sh (dN v))))=some (.nx (eT η s (bs.set (k / 2) (bs.getD (k / 2) 0+v)) t G z j o7 i (k0b k) (some (.sh (dN v))))):=by
 unfold O6
 have I:=xu4 (m:=mvar 9) (ρ:=eT η s bs t G z j o7 i (k0b k) (some (.sh (dN v)))) (k:=k) rfl
 exact(zk8 (ns:=bs) (p:=k / 2) (v:=bs.getD (k / 2) 0+v) rfl I ((X7 (g6 (m:=bvar 2) (ds:=bs.map dN) rfl I (yg8 bs _ L)) (b:=dN v) rfl).trans rfl) L).trans rfl
def Ad (n:Nat)(bs bs':List Nat)(c:Nat->Nat):Prop:=bs'.length=n+1/\∀ h,h<=n->bs'.getD h 0=bs.getD h 0+c h
theorem Ad.refl {n:Nat}{bs:List Nat}(h:bs.length=n+1){c:Nat->Nat}(j:∀ h,h<=n->c h=0):Ad n bs bs c:=⟨h,fun k i=>by rw[j k i];rfl⟩
theorem Ad.trans {n:Nat}{a b e:List Nat}{c j c2:Nat->Nat}(h1:Ad n a b c)(h2:Ad n b e j)(z:∀ h,h<=n->c2 h=c h+j h):Ad n a e c2:=⟨h2.1,fun k i=>by rw[h2.2 k i,h1.2 k i,z k i];omega⟩
noncomputable def up2 (w:List Nat)(k h:Nat):Nat:=(if 2*h<k then w.getD (2*h) 0 else 0)+(if 2*h+1<k then w.getD (2*h+1) 0 else 0)
theorem yo5 (w:List Nat)(k h:Nat):up2 w (k+1) h=up2 w k h+(if h=k / 2 then w.getD k 0 else 0):=by
 unfold up2
 by_cases a:2*h<k
 .by_cases b:2*h+1<k
  .have c:¬ h=k / 2:=by omega
   rw[if_pos a,if_pos b,if_pos (by omega),if_pos (by omega),if_neg c];rfl
  .have c:h=k / 2:=by omega
   have e:2*h+1=k:=by omega
   rw[if_pos a,if_neg b,if_pos (by omega),if_pos (by omega),if_pos c,e];rfl
 .by_cases b:2*h=k
  .have c:h=k / 2:=by omega
   rw[if_neg a,if_neg (show ¬ 2*h+1<k by omega),if_pos (show 2*h<k+1 by omega),if_neg (show ¬ 2*h+1<k+1 by omega),if_pos c,b];omega
  .have c:¬ h=k / 2:=by omega
   rw[if_neg a,if_neg (show ¬ 2*h+1<k by omega),if_neg (show ¬ 2*h<k+1 by omega),if_neg (show ¬ 2*h+1<k+1 by omega),if_neg c]
theorem yc5 (w:List Nat)(h:Nat):up2 w w.length h=w.getD (2*h) 0+w.getD (2*h+1) 0:=by
 unfold up2
 have z:∀ i,(if i<w.length then w.getD i 0 else 0)=w.getD i 0:=fun i=>by
  by_cases c:i<w.length
  .rw[if_pos c]
  .rw[if_neg c,getD_eq_getElem?_getD,getElem?_eq_none (by omega)];rfl
 rw[z,z]
theorem xf4 {n:Nat}{bs:List Nat}{k v:Nat}(i:bs.length=n+1)(j:k<=n):Ad n bs (bs.set k (bs.getD k 0+v)) (fun h=>if h=k then v else 0):=by
 refine⟨by rw[length_set];exact i,fun h hh=>?_⟩
 show _=bs.getD h 0+(if h=k then v else 0)
 by_cases c:h=k
 .subst c
  rw[if_pos rfl,ys0 _ _ _ (by omega)]
 .rw[if_neg c,zo4 _ _ _ _ (fun z=>c z.symm),Nat.add_zero]
theorem yc9 (η:List Int)(s:Int)(bs:List Nat)(t:List Nat)(Y U O o7 N Z M:Option S)(n:Nat)(w:List Nat)(hb:bs.length=n+1)(hw:w.length<=n+1)(m:ME)(hm:m (eT η s bs t Y U O o7 N Z M)=some (L w)):
  ∃ j G z,Ad n bs j (fun h=>w.getD (2*h) 0+w.getD (2*h+1) 0)/\mfor (t4 C3 (z4 m anil)) (.tp [9,10]) O6 (eT η s bs t Y U O o7 N Z M)=some (.nx (eT η s j t Y U O o7 N G z)):=by
 have R:Run (mfor (t4 C3 (z4 m anil)) (.tp [9,10]) O6) (eT η s bs t Y U O o7 N Z M) (fun o=>∃ j G z,o= .nx (eT η s j t Y U O o7 N G z)/\Ad n bs j (up2 w w.length)):=by
  refine Z6 w.length (f:=fun(i:Nat)=>D.tup [.int (i:Int),dN (w.getD i 0)]) ?_ (I:=fun k ρ=>∃ j G z,ρ=eT η s j t Y U O o7 N G z/\Ad n bs j (up2 w k)) _ ⟨bs,Z,M,rfl,Ad.refl hb fun h _=>by unfold up2;rw[if_neg (by omega),if_neg (by omega)]⟩ ?_ ?_
  .unfold t4
   rw[z6 hm y4,Option.bind_some]
   show some (V4 0 (w.map dN))=_
   rw[zx5]
   congr 1
   apply map_congr_left
   intro i _
   rw[Nat.zero_add]
  .rintro k ρ hk ⟨j,G,z,rfl,hb'⟩
   have a0:k / 2<=n:=by omega
   have e2:=yb2 η s j t Y U O o7 N k (w.getD k 0) (by rw[hb'.1];omega)
   exact⟨eT η s j t Y U O o7 N (k0b k) (some (.sh (dN (w.getD k 0)))),rfl,_,e2,_,_,_,rfl,hb'.trans (xf4 hb'.1 a0) fun h _=>yo5 w k h⟩
  .rintro ρ ⟨j,G,z,rfl,hb'⟩
   exact⟨j,G,z,rfl,hb'⟩
 obtain⟨o,e,j,G,z,rfl,h⟩:=R
 exact⟨j,G,z,⟨h.1,fun k hk=>by rw[h.2 k hk,yc5]⟩,e⟩
theorem yj7 {c:MB}{x y:MS}{ρ:Ro}(h:c ρ=some true):mif c x y ρ=x ρ:=by unfold mif;rw[h]
theorem xj6 (t u:List Nat):yv0 [Ky t,Ky u]=some (Ky (if l5 u t=true then u else t)):=by
 show minP [Ky u] (Ky t)=_
 unfold minP
 rw[yu2]
 cases l5 u t
 .rw[if_neg (by decide)];rfl
 .rw[if_pos rfl];rfl
abbrev BN (P:List Nat->Prop)(t:List Nat):Prop:=Best (fun m=>m=[]\/P m) t
open Classical in
theorem yb1 (η ns:List Int)(s:Int)(hs:1<=s)(bs t:List Nat)(fi p:Nat)(P:List Nat->Prop)(M j:Option S)(I:Iv ns.length (d6 ns s fi).1 (d6 ns s fi).2)(hp:p<ns.length)(hf:fi<ns.length)(hb:bs.length=ns.length+1)(ht:BN P t):
  ∃ Z t' q9 N,Ad ns.length bs Z (fun h=>if far s true (xr ns fi) (xr ns p)then (cl (xr ns) s fi (2*h) true p).length else 0)/\BN (fun m=>P m\/(far s true (xr ns fi) (xr ns p)/\Ls (xr ns) s fi true p m)) t'/\J4 (eT η s bs t (some (.sh (RI ns))) (k0b fi) (some (.sh (.lst (DW L (d6 ns s fi).1)))) (some (.sh (.lst (DW OD (d6 ns s fi).2)))) (k0b p) M j)=some (.nx (eT η s Z t' (some (.sh (RI ns))) (k0b fi) (some (.sh (.lst (DW L (d6 ns s fi).1)))) (some (.sh (.lst (DW OD (d6 ns s fi).2)))) (k0b p) q9 N)):=by
 have dn:=xt5 (ns:=ns) (fi:=fi) hs hf
 generalize d6 ns s fi=AB at*
 obtain⟨A,B⟩:=AB
 simp only at*
 obtain⟨lA,lB,hI⟩:=I
 have w:=hI p hp true
 have O:∀ m,(pick true (A.getD p ([],[]))).getD m 0=(cl (xr ns) s fi m true p).length:=fun m=>dn.num p hp true m
 have G:=dn.some p hp true
 have i:=dn.best p hp true
 unfold gE at G
 unfold gB at i
 simp only at G i
 have Y:∀ bs t M j,mix (k0 (mix (bvar 6) (mvar 8))) (mc (.int 1)) (eT η s bs t (some (.sh (RI ns))) (k0b fi) (some (.sh (.lst (DW L A)))) (some (.sh (.lst (DW OD B)))) (k0b p) M j)=some (L (pick true (A.getD p ([],[])))):=fun bs t M j=>zs1 (f:=L) (A:=A) (b:=true) ([],[]) rfl rfl rfl (by omega)
 have a0:∀ bs t M j,mix (k0 (mix (bvar 7) (mvar 8))) (mc (.int 1)) (eT η s bs t (some (.sh (RI ns))) (k0b fi) (some (.sh (.lst (DW L A)))) (some (.sh (.lst (DW OD B)))) (k0b p) M j)=some (OD (pick true (B.getD p (none,none)))):=fun bs t M j=>zs1 (f:=OD) (A:=B) (b:=true) (none,none) rfl rfl rfl (by omega)
 have c1:=ys7 (U6 (ds:=(pick true (A.getD p ([],[]))).map dN) (Y bs t M j))
 rw[zs9]at c1
 have c2:l0 (m2 geD (m2 subD (mix (bvar 4) (mvar 8)) (mix (bvar 4) (mvar 5))) (mvar 1)) (eT η s bs t (some (.sh (RI ns))) (k0b fi) (some (.sh (.lst (DW L A)))) (some (.sh (.lst (DW OD B)))) (k0b p) M j)=some (decide (s<=ns.getD p 0-ns.getD fi 0)):=
  zi5 ((X7 (b:=.int s) ((X7 (g6 (ds:=ns.map .int) (k:=(p:Int)) rfl rfl (zq3 ns p hp)) (g6 (ds:=ns.map .int) (k:=(fi:Int)) rfl rfl (zq3 ns fi hf))).trans (show subD (.int (ns.getD p 0)) (.int (ns.getD fi 0))=some (.int (ns.getD p 0-ns.getD fi 0))from rfl)) rfl).trans rfl)
 have cc:=yq0 c1 c2
 have U:far s true (xr ns fi) (xr ns p)↔s<=ns.getD p 0-ns.getD fi 0:=Iff.rfl
 unfold J4
 cases hc:(!(pick true (A.getD p ([],[]))).isEmpty&&decide (s<=ns.getD p 0-ns.getD fi 0))with
 |false=>
  rw[hc]at cc
  have no:far s true (xr ns fi) (xr ns p)->¬ ∃ l,Ls (xr ns) s fi true p l:=fun f z=>by
   have h1:=G.mpr z
   rw[<-isEmpty_eq_false_iff]at h1
   rw[h1,decide_eq_true (U.mp f)]at hc
   cases hc
  refine⟨bs,t,M,j,Ad.refl hb fun h _=>?_,ht.iff fun m=>?_,zt5 cc⟩
  .by_cases f:far s true (xr ns fi) (xr ns p)
   .rw[if_pos f]
    cases e:cl (xr ns) s fi (2*h) true p with
    |nil=>rfl
    |cons l ls=>exact absurd ⟨l,2*h,by rw[e];simp⟩ (no f)
   .rw[if_neg f]
  .exact⟨fun z=>z.imp id .inl,fun z=>z.imp id fun y=>y.resolve_right fun⟨f,v⟩=>no f ⟨m,v⟩⟩
 |true=>
  rw[hc]at cc
  rw[Bool.and_eq_true,Bool.not_eq_true',isEmpty_eq_false_iff,decide_eq_true_eq]at hc
  have f:=U.mpr hc.2
  obtain⟨u,hu⟩:=Option.ne_none_iff_exists'.mp (w.2.1 hc.1)
  rw[hu]at i
  have i:Best (Ls (xr ns) s fi true p) u:=i
  obtain⟨b2,q9,N,h2,e2⟩:=yc9 η s bs t _ _ _ _ _ M j ns.length _ hb (by have:=w.1;omega) _ (Y bs t M j)
  refine⟨b2,if l5 u t=true then u else t,q9,N,⟨h2.1,fun h hh=>?_⟩,?_,?_⟩
  .show _=bs.getD h 0+(if far s true (xr ns fi) (xr ns p)then (cl (xr ns) s fi (2*h) true p).length else 0)
   rw[h2.2 h hh]
   show bs.getD h 0+((pick true (A.getD p ([],[]))).getD (2*h) 0+(pick true (A.getD p ([],[]))).getD (2*h+1) 0)=_
   rw[O,O,xg7 hf hp (show (2*h+1) % 2=1 by omega),if_pos f];rfl
  .refine zg1 ht i rfl fun l=>?_
   exact⟨fun z=>z.elim (fun z=>.inl (.inl z)) fun z=>z.elim (fun z=>.inl (.inr z)) fun z=>.inr z.2,fun z=>z.elim (fun z=>z.imp id .inl) fun z=>.inr (.inr ⟨f,z⟩)⟩
  rw[yj7 cc]
  refine seqI e2 ?_
  refine(f9 (d:=Ky (if l5 u t=true then u else t)) ?_).trans rfl
  have m3:=a0 b2 t q9 N
  rw[hu]at m3
  rw[J0 (z6 (x:=mvar 3) (d:=Ky t) rfl (z6 m3 y4))]
  exact xj6 t u
end
section
open PySem L2
theorem zk6 (F:Nat->Nat)(k:Nat):((List.range (k+1)).map F).sum=((List.range k).map F).sum+F k:=by
 rw[Z8,sum_append];simp
open Classical in
theorem yb0 (η ns:List Int)(s:Int)(hs:1<=s)(bs t:List Nat)(fi:Nat)(P:List Nat->Prop)(o6 o7 o8 Z N:Option S)(hn:ns.length<=40)(a0:η.length=ns.length)(hf:fi<ns.length)(hb:bs.length=ns.length+1)(ht:BN P t):
  ∃ j t' q6 q7 Y O G,Ad ns.length bs j (fun h=>cr ns s h fi)/\BN (fun m=>P m\/RaR ns s true fi 0 true fi m) t'/\J3 (eT η s bs t (some (.sh (RI ns))) (k0b fi) o6 o7 o8 Z N)=some (.nx (eT η s j t' (some (.sh (RI ns))) (k0b fi) q6 q7 Y O G)):=by
 obtain⟨I,ec⟩:=xt7 ns s fi hn hf
 let cf:Nat->Nat->Nat:=fun h p=>if far s true (xr ns fi) (xr ns p)then (cl (xr ns) s fi (2*h) true p).length else 0
 have R:Run (mfor (t4 rng2 (z4 (m2 addD (mvar 5) (mc (.int 1))) (z4 (mlen (bvar 0)) anil))) (.nm 8) J4) (eT η s bs t (some (.sh (RI ns))) (k0b fi) (some (.sh (.lst (DW L (d6 ns s fi).1)))) (some (.sh (.lst (DW OD (d6 ns s fi).2)))) o8 Z N) (fun o=>∃ j t' Y O G,o= .nx (eT η s j t' (some (.sh (RI ns))) (k0b fi) (some (.sh (.lst (DW L (d6 ns s fi).1)))) (some (.sh (.lst (DW OD (d6 ns s fi).2)))) Y O G)/\Ad ns.length bs j (fun h=>((List.range (ns.length-(fi+1))).map fun i=>cf h (fi+1+i)).sum)/\BN (fun m=>P m\/∃ i,i<ns.length-(fi+1)/\far s true (xr ns fi) (xr ns (fi+1+i))/\Ls (xr ns) s fi true (fi+1+i) m) t'):=by
  have eL:mlen (bvar 0) (eT η s bs t (some (.sh (RI ns))) (k0b fi) (some (.sh (.lst (DW L (d6 ns s fi).1)))) (some (.sh (.lst (DW OD (d6 ns s fi).2)))) o8 Z N)=some (.int (ns.length:Int)):=by rw[Z0 (ds:=η.map .int) rfl,length_map,a0]
  have e1:m2 addD (mvar 5) (mc (.int 1)) (eT η s bs t (some (.sh (RI ns))) (k0b fi) (some (.sh (.lst (DW L (d6 ns s fi).1)))) (some (.sh (.lst (DW OD (d6 ns s fi).2)))) o8 Z N)=some (.int ((fi+1:Nat):Int)):=(X7 (a:=.int (fi:Int)) (b:=.int 1) rfl rfl).trans rfl
  refine Z6 (ns.length-(fi+1)) (f:=fun i=>dN (fi+1+i)) ((za2 e1 eL (by omega) (by omega)).trans (by rw[map_map];rfl)) (I:=fun k ρ=>∃ j t' Y O G,ρ=eT η s j t' (some (.sh (RI ns))) (k0b fi) (some (.sh (.lst (DW L (d6 ns s fi).1)))) (some (.sh (.lst (DW OD (d6 ns s fi).2)))) Y O G/\Ad ns.length bs j (fun h=>((List.range k).map fun i=>cf h (fi+1+i)).sum)/\BN (fun m=>P m\/∃ i,i<k/\far s true (xr ns fi) (xr ns (fi+1+i))/\Ls (xr ns) s fi true (fi+1+i) m) t') _ ⟨bs,t,o8,Z,N,rfl,Ad.refl hb fun _ _=>rfl,ht.iff fun m=>?_⟩ ?_ ?_
  .exact⟨fun z=>z.imp id .inl,fun z=>z.imp id fun y=>y.resolve_right fun a1=>by obtain⟨i,v,_⟩:=a1;omega⟩
  .rintro k ρ hk ⟨j,t',Y,O,G,rfl,M,U⟩
   obtain⟨b2,t2,r9,a2,h2,h3,e2⟩:=yb1 η ns s hs j t' fi (fi+1+k) _ O G I (by omega) hf M.1 U
   refine⟨eT η s j t' (some (.sh (RI ns))) (k0b fi) (some (.sh (.lst (DW L (d6 ns s fi).1)))) (some (.sh (.lst (DW OD (d6 ns s fi).2)))) (some (.sh (.int ((fi+1+k:Nat):Int)))) O G,rfl,_,e2,b2,t2,_,_,_,rfl,M.trans h2 fun h _=>zk6 _ k,h3.iff fun m=>?_⟩
   refine or_congr Iff.rfl ?_
   constructor
   .rintro((z|⟨i,z1,z2⟩)|z)
    .exact .inl z
    .exact .inr ⟨i,by omega,z2⟩
    .exact .inr ⟨k,by omega,z⟩
   .rintro(z|⟨i,z1,z2⟩)
    .exact .inl (.inl z)
    .rcases Nat.lt_or_ge i k with y|y
     .exact .inl (.inr ⟨i,y,z2⟩)
     .have:i=k:=by omega
      subst this
      exact .inr z2
  .rintro ρ ⟨j,t',Y,O,G,rfl,M,U⟩
   exact⟨j,t',Y,O,G,rfl,M,U⟩
 obtain⟨o,e,j,t',Y,O,G,rfl,M,U⟩:=R
 refine⟨j,t',some (.sh (.lst (DW L (d6 ns s fi).1))),some (.sh (.lst (DW OD (d6 ns s fi).2))),Y,O,G,⟨M.1,fun h hh=>?_⟩,U.iff fun m=>?_,?_⟩
 .show _=bs.getD h 0+cr ns s h fi
  rw[M.2 h hh,<-xg6 hf h]
  congr 1
  unfold abv
  rw[yt5,map_map]
  refine congrArg List.sum ?_
  refine map_congr_left fun i _=>?_
  show (if far s true (xr ns fi) (xr ns (fi+1+i))then _ else 0)=if decide (far s true (xr ns fi) (xr ns (fi+1+i)))=true then _ else 0
  by_cases c:far s true (xr ns fi) (xr ns (fi+1+i))
  .rw[if_pos c,if_pos (decide_eq_true c)]
  .rw[if_neg c,if_neg (by rw[decide_eq_false c];decide)]
 .refine or_congr Iff.rfl (or_congr Iff.rfl ?_)
  rw[<-xa5 hf]
  constructor
  .rintro⟨i,h1,h2,h3⟩
   exact⟨_,abv_mem.mpr ⟨by omega,by omega,h2⟩,h3⟩
  .rintro⟨p,h1,h2⟩
   obtain⟨a,b,c⟩:=abv_mem.mp h1
   refine⟨p-(fi+1),by omega,?_⟩
   rw[show fi+1+(p-(fi+1))=p by omega]
   exact⟨c,h2⟩
 unfold J3
 refine seqI (ρ':=eT η s bs t (some (.sh (RI ns))) (k0b fi) (some (.sh (.lst (DW L (d6 ns s fi).1)))) (some (.sh (.lst (DW OD (d6 ns s fi).2)))) o8 Z N) ?_ e
 unfold masg
 rw[i5 (z6 (x:=mvar 4) (d:=RI ns) rfl (z6 (x:=mvar 1) (d:=.int s) rfl (z6 (x:=mvar 5) (d:=.int (fi:Int)) rfl y4))) ec,Option.bind_some]
 rfl
theorem zb1 (η ns:List Int)(s:Int)(hs:1<=s)(bs t:List Nat)(P:List Nat->Prop)(o5 o6 o7 o8 o9 a0:Option S)(hn:ns.length<=40)(a1:η.length=ns.length)(hb:bs.length=ns.length+1)(ht:BN P t):
  ∃ j t' Z U O N M G,Ad ns.length bs j (fun h=>((List.range ns.length).map (cr ns s h)).sum)/\BN (fun m=>P m\/∃ f,f<ns.length/\RaR ns s true f 0 true f m) t'/\zg4 (eT η s bs t (some (.sh (RI ns))) o5 o6 o7 o8 o9 a0)=some (.nx (eT η s j t' (some (.sh (RI ns))) Z U O N M G)):=by
 have R:Run (mfor (t4 rng1 (z4 (mlen (bvar 0)) anil)) (.nm 5) J3) (eT η s bs t (some (.sh (RI ns))) o5 o6 o7 o8 o9 a0) (fun o=>∃ j t' Z U O N M G,o= .nx (eT η s j t' (some (.sh (RI ns))) Z U O N M G)/\Ad ns.length bs j (fun h=>((List.range ns.length).map (cr ns s h)).sum)/\BN (fun m=>P m\/∃ f,f<ns.length/\RaR ns s true f 0 true f m) t'):=by
  have eL:mlen (bvar 0) (eT η s bs t (some (.sh (RI ns))) o5 o6 o7 o8 o9 a0)=some (.int (ns.length:Int)):=by rw[Z0 (ds:=η.map .int) rfl,length_map,a1]
  refine Z6 ns.length (f:=dN) ?_ (I:=fun k ρ=>∃ j t' Z U O N M G,ρ=eT η s j t' (some (.sh (RI ns))) Z U O N M G/\Ad ns.length bs j (fun h=>((List.range k).map (cr ns s h)).sum)/\BN (fun m=>P m\/∃ f,f<k/\RaR ns s true f 0 true f m) t') _ ⟨bs,t,o5,o6,o7,o8,o9,a0,rfl,Ad.refl hb fun _ _=>rfl,ht.iff fun m=>?_⟩ ?_ ?_
  .unfold t4
   rw[z6 eL y4,Option.bind_some,N1 (T4 (by omega) (by omega)),S9,Int.toNat_natCast]
   congr 1
   apply map_congr_left
   intro i _
   show D.int (0+(i:Int))=D.int (i:Int)
   rw[Int.zero_add]
  .exact⟨fun z=>z.imp id .inl,fun z=>z.imp id fun y=>y.resolve_right fun a2=>by obtain⟨i,v,_⟩:=a2;omega⟩
  .rintro k ρ hk ⟨j,t',Z,U,O,N,M,G,rfl,L,Y⟩
   obtain⟨b2,t2,r6,r7,r8,r9,a3,h2,h3,e2⟩:=yb0 η ns s hs j t' k _ U O N M G hn a1 hk L.1 Y
   refine⟨eT η s j t' (some (.sh (RI ns))) (k0b k) U O N M G,rfl,_,e2,b2,t2,_,_,_,_,_,_,rfl,L.trans h2 fun h _=>zk6 _ k,h3.iff fun m=>?_⟩
   refine or_congr Iff.rfl ?_
   constructor
   .rintro((z|⟨i,z1,z2⟩)|z)
    .exact .inl z
    .exact .inr ⟨i,by omega,z2⟩
    .exact .inr ⟨k,by omega,z⟩
   .rintro(z|⟨i,z1,z2⟩)
    .exact .inl (.inl z)
    .rcases Nat.lt_or_ge i k with y|y
     .exact .inl (.inr ⟨i,y,z2⟩)
     .have:i=k:=by omega
      subst this
      exact .inr z2
  .rintro ρ ⟨j,t',Z,U,O,N,M,G,rfl,L,Y⟩
   exact⟨j,t',Z,U,O,N,M,G,rfl,L,Y⟩
 obtain⟨o,e,j,t',Z,U,O,N,M,G,rfl,L,Y⟩:=R
 exact⟨j,t',Z,U,O,N,M,G,L,Y,e⟩
theorem pops (i η:List Int)(s:Int)(t:List Nat)(O N L o7 I G j:Option S):∀(m u:Nat),m<u->∃ M,M<=m/\tn η s M≠0/\(∀ h,M<h->h<=m->tn η s h=0)/\
  Y6 (l0 (m2 eqSD (mix (bvar 2) (m1 negD (mc (.int 1)))) (mc (.int 0)))) J1 u (eT i s ((List.range (m+1)).map (tn η s)) t O N L o7 I G j)=some (.nx (eT i s ((List.range (M+1)).map (tn η s)) t O N L o7 I G j))
 |m,0,h=>by omega
 |m,u+1,h=>by
  have c:l0 (m2 eqSD (mix (bvar 2) (m1 negD (mc (.int 1)))) (mc (.int 0))) (eT i s ((List.range (m+1)).map (tn η s)) t O N L o7 I G j)=some (decide (tn η s m=0)):=by
   have e:mix (bvar 2) (m1 negD (mc (.int 1))) (eT i s ((List.range (m+1)).map (tn η s)) t O N L o7 I G j)=some (dN (tn η s m)):=by
    refine g6 (ds:=((List.range (m+1)).map (tn η s)).map dN) (k:=-1) rfl rfl ?_
    rw[Z8]
    exact atI_last dN _ _
   unfold l0
   rw[B3 e (b:=.int 0) rfl]
   show (match (some (D.bl (((tn η s m:Nat):Int)==0)):Option D)with |some (.bl b)=>some b|_=>none)=_
   simp only
   congr 1
   rw[Bool.eq_iff_iff,beq_iff_eq,decide_eq_true_eq]
   omega
  unfold Y6
  rw[c]
  by_cases z:tn η s m=0
  .rw[decide_eq_true z]
   cases m with
   |zero=>cases z
   |succ m=>
    have e:J1 (eT i s ((List.range (m+1+1)).map (tn η s)) t O N L o7 I G j)=some (.nx (eT i s ((List.range (m+1)).map (tn η s)) t O N L o7 I G j)):=by
     unfold J1 zf9
     show (if 0<(((List.range (m+1+1)).map (tn η s)).map dN).length then some (Out.nx ((eT i s ((List.range (m+1+1)).map (tn η s)) t O N L o7 I G j).set 2 (some (.own (((List.range (m+1+1)).map (tn η s)).map dN).dropLast))))else none)=_
     rw[if_pos (by simp),Z8,map_append]
     rw[show (List.map dN (List.map (tn η s) (List.range (m+1)))++List.map dN [tn η s (m+1)]).dropLast=List.map dN (List.map (tn η s) (List.range (m+1)))from dropLast_concat]
     rfl
    simp only[e]
    obtain⟨M,h1,h2,Y,U⟩:=pops i η s t O N L o7 I G j m u (by omega)
    refine⟨M,by omega,h2,fun h a b=>?_,U⟩
    rcases Nat.lt_or_ge h (m+1)with w|w
    .exact Y h a (by omega)
    .rw[show h=m+1 by omega];exact z
  .rw[decide_eq_false z]
   exact⟨m,Nat.le_refl _,z,fun h a b=>by omega,rfl⟩
theorem yb3 (η:List Int)(s:Int)(hs:1<=s)(hn:η.length<=40):∃(M:Nat)(l:List Nat),M<=η.length/\tn η s M≠0/\(∀ h,M<h->h<=η.length->tn η s h=0)/\Best (fun m=>m=[]\/Rg η s m) l/\yv6 [RI η,.int s]=some (.sh (.tup [L ((List.range (M+1)).map (tn η s)),L l])):=by
 have a2:=n4
 have e0:mcat (w5 (z4 (mc (.int 1)) anil)) (mrep (w5 (z4 (mc (.int 0)) anil)) (mlen (bvar 0))) (j1 11 [RI η,.int s])=some ((1::List.replicate η.length 0).map dN):=by
  have i1:1<=sizeLine:=w4 (by decide)
  have rk:J8 1 (η.length:Int)=true:=by
   unfold J8
   rw[decide_eq_true (by omega),decide_eq_true (by omega),decide_eq_true (by omega)];rfl
  have eL:mlen (bvar 0) (j1 11 [RI η,.int s])=some (.int (η.length:Int)):=by rw[Z0 (ds:=η.map .int) rfl,length_map]
  have rp:=zy5 (x:=w5 (z4 (mc (.int 0)) anil)) (w9 (z6 (d:=.int 0) rfl y4) i1) eL rk
  have e1:(List.replicate (η.length:Int).toNat [D.int 0]).flatten=(List.replicate η.length 0).map dN:=by
   rw[Int.toNat_natCast,map_replicate]
   generalize η.length=n
   induction n with
   |zero=>rfl
   |succ n ih=>rw[replicate_succ,flatten_cons,ih,replicate_succ];rfl
  rw[e1]at rp
  exact(F9 (w9 (z6 (d:=.int 1) rfl y4) i1) rp (w4 (by simp;omega))).trans rfl
 have e1:mtup (z4 (mc (.int 0)) (z4 (mlst (w5 anil)) anil)) (eT η s (1::List.replicate η.length 0) [] none none none none none none none |>.set 3 none)=some (Ky []):=W4 (z6 (d:=.int 0) rfl (z6 (j9 (w9 y4 (Nat.zero_le _))) y4)) (w4 (by simp))
 have i0:(1::List.replicate η.length 0).length=η.length+1:=by simp
 have b0:BN (fun _=>False) []:=⟨.inl rfl,fun m hm=>by
  rcases hm with rfl|h
  .exact V6 _
  .exact h.elim⟩
 have eg:Z1 [none] (k0 (mvar 0)) (.nm 0) cyes (m2 subD (mc (.int 0)) (mvar 0)) (eT η s (1::List.replicate η.length 0) [] none none none none none none none)=some ((ng η).map .int):=by
  unfold Z1
  rw[U6 (ds:=η.map .int) rfl,Option.bind_some]
  refine(X1 (f:=D.int) (G:=fun x=>D.int (0-x)) (fun _ ρ=>∃ x,ρ=[x]) (by
   rintro x xs ρ ⟨y,rfl⟩
   exact⟨[k0c x],rfl,rfl,(X7 (f:=subD) (a:=.int 0) (b:=.int x) rfl rfl).trans rfl,_,rfl⟩) η _ [] ⟨none,rfl⟩ (by simp;omega)).trans ?_
  unfold ng
  rw[nil_append,map_map]
  rfl
 have I:=zt1 η
 obtain⟨b1,t1,r5,r6,r7,r8,r9,N,h1,h2,e2⟩:=zb1 η η s hs _ [] _ none none none none none none hn rfl i0 b0
 obtain⟨b2,j,Z,Y,U,S,O,i,h3,h4,e3⟩:=zb1 η (ng η) s hs b1 t1 _ r5 r6 r7 r8 r9 N (by omega) I.symm (by rw[I];exact h1.1) h2
 have a1:b2=(List.range (η.length+1)).map (tn η s):=by
  refine ext_getElem? fun h=>?_
  by_cases c:h<η.length+1
  .have g1:=h3.2 h (by omega)
   rw[h1.2 h (by omega)]at g1
   have g0:(1::List.replicate η.length 0).getD h 0=if h=0 then 1 else 0:=by
    cases h with
    |zero=>rfl
    |succ h=>
     rw[if_neg (by omega)]
     show (List.replicate η.length 0).getD h 0=0
     rw[getD_eq_getElem?_getD,getElem?_replicate]
     split <;> rfl
   rw[g0,<-xq4]at g1
   have a0:h<b2.length:=by rw[h3.1,I];exact c
   rw[getElem?_map,getElem?_range c]
   show b2[h]? =some (tn η s h)
   rw[<-g1,getD_eq_getElem?_getD,getElem?_eq_getElem a0]
   rfl
  .rw[getElem?_eq_none (by rw[h3.1,I];omega),getElem?_eq_none (by simp;omega)]
 have hB:Best (fun m=>m=[]\/Rg η s m) j:=h4.iff fun m=>by
  refine or_congr Iff.rfl ?_
  unfold Rg
  constructor
  .rintro((z|⟨f,z1,z2⟩)|⟨f,z1,z2⟩)
   .exact z.elim
   .exact⟨true,f,z1,z2⟩
   .exact⟨false,f,by rw[I]at z1;exact z1,ra_ng.mp z2⟩
  .rintro⟨d,f,z1,z2⟩
   cases d
   .exact .inr ⟨f,by rw[I];exact z1,ra_ng.mpr z2⟩
   .exact .inl (.inr ⟨f,z1,z2⟩)
 rw[a1]at e3
 obtain⟨M,m1,m2,m3,ew⟩:=pops η η s j (some (.sh (RI (ng η)))) Z Y U S O i η.length 1000 (by omega)
 refine⟨M,j,m1,m2,m3,hB,?_⟩
 unfold yv6 xr4
 refine Y7 ?_
 refine seqI (ρ':=eT η s (1::List.replicate η.length 0) [] none none none none none none none |>.set 3 none) ((V2 e0).trans rfl) ?_
 refine seqI (ρ':=eT η s (1::List.replicate η.length 0) [] none none none none none none none) ((f9 e1).trans rfl) ?_
 refine seqI (ρ':=eT η s ((List.range (η.length+1)).map (tn η s)) j (some (.sh (RI (ng η)))) Z Y U S O i) ?_ ?_
 .unfold mfor
  rw[U6 (j9 (w9 (z6 (x:=mvar 0) (d:=RI η) rfl (z6 (j9 eg) y4)) (w4 (by simp)))),Option.bind_some]
  exact zx3 (g:=.nm 4) (ρ1:=eT η s (1::List.replicate η.length 0) [] (some (.sh (RI η))) none none none none none none) (ρ3:=eT η s b1 t1 (some (.sh (RI (ng η)))) r5 r6 r7 r8 r9 N) rfl e2 rfl e3
 unfold zg2
 refine seqI ew ?_
 unfold zg3 W5
 show mret _ ((eT η s ((List.range (M+1)).map (tn η s)) j (some (.sh (RI (ng η)))) Z Y U S O i).set 2 (some (.sh (L ((List.range (M+1)).map (tn η s))))))=_
 refine N7 (W4 (z6 (x:=mvar 2) (d:=L ((List.range (M+1)).map (tn η s))) rfl (z6 (d:=L j) ?_ y4)) (w4 (by simp)))
 exact(X7 (a:=Ky j) (b:=.int 1) rfl rfl).trans rfl
end
section
open PySem L2
theorem yb5 (c:Int):∃ s:Int,1<=s/\yi0 [.int c]=some (.sh (.int s)):=by
 unfold yi0 yp3
 have n5:=Q2 c 5
 have n6:=Q2 c 6
 have n7:=Q2 c 7
 have M:=W3 c 5 (by decide)
 have L:=W3 c 6 (by decide)
 have N:=W3 c 7 (by decide)
 have g3:0+1+1+1<=sizeLine:=w4 (by decide)
 have g1:0+1<=sizeLine:=w4 (by decide)
 have Z:0+1+1+1+(0+1)<=sizeLine:=w4 (by decide)
 have O:(10:Int)^(6:Int).toNat=1000000:=by decide
 have G:(10:Int)^(23:Int).toNat=100000000000000000000000:=by decide
 have S:zu1 10 6=true:=by decide
 have I:zu1 10 23=true:=by decide
 have mo:∀ i j:Int,0<j->zy6 i j=true:=t6
 have b6:=j6 (x:=stir c 6) (show (0:Int)<1000000 by decide)
 have U:P6 (stir c 6 % 1000000) 100000000000000000000000=true:=N6 _ _ (by omega) (by omega)
 have b7:=j6 (x:=stir c 7) (show (0:Int)<4 by decide)
 have b5:=j6 (x:=stir c 5) (show (0:Int)<9 by decide)
 have a0:=j6 (x:=stir c 6) (show (0:Int)<1000 by decide)
 have z:∀ k:Int,stir c 7 % 4=k->∀ s:D,atI [D.int 1,.int (1+stir c 5 % 9),.int (1+stir c 6 % 1000),.int (1+stir c 6 % 1000000*100000000000000000000000)] k=some s->yp3 (j1 2 [.int c])=some (.rt s):=by
  intro k Y s hs
  unfold yp3
  ((apply seqI;focus (simp_arith [M,L,g3,if_true,mo 0 9,t6 (stir c 5) 9 (by decide),t6 (stir c 6) 1000 (by decide)];rfl)))
  simp_arith [M,L,N,g1,Z,if_true,t6 (stir c 6) 1000000 (by decide),t6 (stir c 7) 4 (by decide),O,G,S,I,U,Y,hs]
 have:stir c 7 % 4=0\/stir c 7 % 4=1\/stir c 7 % 4=2\/stir c 7 % 4=3:=by omega
 rcases this with h|h|h|h
 .exact⟨_,by decide,Y7 (z _ h _ rfl)⟩
 .exact⟨_,by omega,Y7 (z _ h _ rfl)⟩
 .exact⟨_,by omega,Y7 (z _ h _ rfl)⟩
 .exact⟨_,by omega,Y7 (z _ h _ rfl)⟩
noncomputable def NI (l:List Nat):List Int:=l.map fun(k:Nat)=>(k:Int)
theorem L_NI (l:List Nat):D.lst ((NI l).map .int)=L l:=by unfold NI L dN;rw[map_map];rfl
theorem wx0 (l:List Nat):l.map dN=(NI l).map .int:=by unfold NI;rw[map_map];rfl
theorem yo8 (η:List Int)(s:Int)(hs:1<=s)(I:η.length<=40):∃ a b:List Int,a.length<=50/\b.length<=50/\yv6 [RI η,.int s]=some (.sh (.tup [RI b,RI a]))/\e6 [RI η,.int s]=some (.fr (a.map .int))/\c7 [RI η,.int s]=some (.fr (b.map .int)):=by
 obtain⟨M,l,L,h1,h2,hB,U⟩:=yb3 η s hs I
 have Y:l.length<=40:=by
  rcases hB.1 with z|z
  .rw[z];simp
  .have:=xp7 z;omega
 refine⟨NI l,NI ((List.range (M+1)).map (tn η s)),by unfold NI;simp;omega,by unfold NI;simp;omega,?_,?_,?_⟩
 .rw[U]
  unfold RI
  rw[L_NI,L_NI]
 .refine yu3 ⟨⟨η,rfl⟩,fun q=>.inl ?_⟩
  obtain⟨l',j,i⟩:=K1 q η s hs (by omega)
  rw[j,i.unique hB,L_NI]
 .refine yu3 ⟨⟨η,rfl⟩,fun q=>.inr ?_⟩
  obtain⟨G,S,O,N,e⟩:=E8 q η s hs (by omega)
  have:G=M:=by
   rcases Nat.lt_trichotomy G M with z|z|z
   .exact absurd (N M z L) h1
   .exact z
   .exact absurd (h2 G z S) O
  rw[e,this,wx0]
theorem zt6 {f:MF}{m:ML}{ρ:Ro}{ds es:List D}(h:m ρ=some ds)(h2:f ds=some (.fr es)):S5 f m ρ=some es:=by
 unfold S5;rw[h,Option.bind_some,h2]
noncomputable def eL (scr:D)(k c:Int)(η:List Int)(s:Int)(b a:List Int)(o8 o9 o10:Option S):Ro:=[some (.sh scr),k0c k,k0c c,some (.sh (RI η)),k0c s,some (.sh (RI b)),some (.sh (RI a)),some (.sh (RI η)),o8,o9,o10]
theorem zc8 (j:D)(k c:Int)(η:List Int)(s:Int)(a b:List Int)(ha:a.length<=50)(Z:b.length<=50)(O:e6 [RI η,.int s]=some (.fr (a.map .int)))(U:c7 [RI η,.int s]=some (.fr (b.map .int)))(z N G:Option S):
  ∃ M L,zw3 (eL j k c η s b a z N G)=some (.nx (eL j k c η s b a z M L)):=by
 have Y:=n4
 refine⟨some (.own (a.map .int++[.int 0])),some (.own (b.map .int++[.int 0])),?_⟩
 unfold zw3
 refine seqI (ρ':=eL j k c η s b a z (some (.own (a.map .int))) G) ((V2 (zt6 (z6 (d:=RI η) rfl (z6 (d:=.int s) rfl y4)) O)).trans rfl) ?_
 refine seqI (ρ':=eL j k c η s b a z (some (.own (a.map .int))) (some (.own (b.map .int)))) ((V2 (zt6 (z6 (d:=RI η) rfl (z6 (d:=.int s) rfl y4)) U)).trans rfl) ?_
 refine seqI (ρ':=eL j k c η s b a z (some (.own (a.map .int))) (some (.own (b.map .int)))) (zt5 ((yr2 (a:=false) (b:=false) ?_ ((yr2 (a:=false) (b:=false) ?_ ?_).trans rfl)).trans rfl)) ?_
 .refine(yr7 (b:=true) (yw5 (zi9 (ds:=a.map .int) rfl ?_ rfl))).trans rfl
  exact i5 (z6 (d:=.lst (a.map .int)) rfl (z6 (d:=RI a) rfl y4)) (zv3 a (by omega))
 .refine(yr7 (b:=true) (yw5 (zi9 (ds:=b.map .int) rfl ?_ rfl))).trans rfl
  exact i5 (z6 (d:=.lst (b.map .int)) rfl (z6 (d:=RI b) rfl y4)) (zv3 b (by omega))
 .unfold l0 meqB
  rw[show bvar 7 (eL j k c η s b a z (some (.own (a.map .int))) (some (.own (b.map .int))))=some (η.map .int)from rfl,show bvar 3 (eL j k c η s b a z (some (.own (a.map .int))) (some (.own (b.map .int))))=some (η.map .int)from rfl]
  simp only[Option.bind_some,xh4]
 have I:∀(ρ:Ro)(i:Nat)(ds:List D),ρ[i]? =some (some (.own ds))->ds.length<=1000->mapp i (mc (.int 0)) ρ=some (.nx (ρ.set i (some (.own (ds++[.int 0]))))):=fun ρ i ds h1 h2=>by
  unfold mapp
  rw[h1]
  show (some (D.int 0)).bind (fun d=>if ds.length<sizeLine then some (Out.nx (ρ.set i (some (.own (ds++[d])))))else none)=_
  rw[Option.bind_some,if_pos (by omega)]
 refine seqI (I _ 9 (a.map .int) rfl (by rw[length_map];omega)) ?_
 exact(I _ 10 (b.map .int) rfl (by rw[length_map];omega)).trans rfl
noncomputable def eZ (scr:D)(k c:Int)(o3 o4 o5 o6 o7 o8 o9 o10:Option S):Ro:=[some (.sh scr),k0c k,k0c c,o3,o4,o5,o6,o7,o8,o9,o10]
theorem xt8 (i:D)(k c:Int)(N M L I o7 G z j:Option S):∃ p3 p4 p5 p6 p7 p8 p9 Y,zw2 (eZ i k c N M L I o7 G z j)=some (.nx (eZ i k c p3 p4 p5 p6 p7 p8 p9 Y)):=by
 have a0:=n4
 have e1:∃ g:Bool,mand (m2 eqSD (mvar 1) (mc (.int 0))) (m2 eqSD (m2 modD (t8 W6 (z4 (mvar 2) (z4 (mc (.int 320)) anil))) (mc (.int 4))) (mc (.int 0))) (eZ i k c N M L I o7 G z j)=some (.bl g):=by
  have a1:m2 eqSD (mvar 1) (mc (.int 0)) (eZ i k c N M L I o7 G z j)=some (.bl (k==0)):=(X7 (a:=.int k) (b:=.int 0) rfl rfl).trans rfl
  have a2:t8 W6 (z4 (mvar 2) (z4 (mc (.int 320)) anil)) (eZ i k c N M L I o7 G z j)=some (.int (stir c 320)):=i5 (z6 (d:=.int c) rfl (z6 (d:=.int 320) rfl y4)) (W3 c 320 (by decide))
  have a3:m2 modD (t8 W6 (z4 (mvar 2) (z4 (mc (.int 320)) anil))) (mc (.int 4)) (eZ i k c N M L I o7 G z j)=some (.int (stir c 320 % 4)):=by
   rw[X7 a2 (b:=.int 4) rfl]
   show (if zy6 (stir c 320) 4=true then some (D.int (stir c 320 % 4))else none)=_
   rw[if_pos (t6 _ _ (by decide))]
  have a4:m2 eqSD (m2 modD (t8 W6 (z4 (mvar 2) (z4 (mc (.int 320)) anil))) (mc (.int 4))) (mc (.int 0)) (eZ i k c N M L I o7 G z j)=some (.bl (stir c 320 % 4==0)):=(X7 a3 (b:=.int 0) rfl).trans rfl
  exact⟨_,xv1 a1 a4⟩
 obtain⟨g,e1⟩:=e1
 have e2:c6 intF (z4 (mand (m2 eqSD (mvar 1) (mc (.int 0))) (m2 eqSD (m2 modD (t8 W6 (z4 (mvar 2) (z4 (mc (.int 320)) anil))) (mc (.int 4))) (mc (.int 0)))) anil) (eZ i k c N M L I o7 G z j)=some (.int (if g then 1 else 0)):=(J0 (z6 e1 y4)).trans rfl
 have e3:mix (w5 (z4 (mc (.int 16)) (z4 (mc (.int 40)) anil))) (c6 intF (z4 (mand (m2 eqSD (mvar 1) (mc (.int 0))) (m2 eqSD (m2 modD (t8 W6 (z4 (mvar 2) (z4 (mc (.int 320)) anil))) (mc (.int 4))) (mc (.int 0)))) anil)) (eZ i k c N M L I o7 G z j)=some (.int ((if g then 40 else 16:Nat):Int)):=by
  refine g6 (w9 (z6 (d:=.int 16) rfl (z6 (d:=.int 40) rfl y4)) (w4 (by simp))) e2 ?_
  cases g <;> rfl
 have hm:(if g then 40 else 16:Nat)<=40:=by cases g <;> decide
 generalize (if g then 40 else 16:Nat)=most at e3 hm
 obtain⟨η,hr,er⟩:=xp6 c most (by omega)
 obtain⟨s,hs,es⟩:=yb5 c
 obtain⟨a,b,ha,Z,et,el,ec⟩:=yo8 η s hs (by omega)
 obtain⟨x9,U,f1⟩:=zc8 i k c η s a b ha Z el ec (some (.sh (.int 0))) z j
 obtain⟨y9,O,f2⟩:=zc8 i k c η s a b ha Z el ec (some (.sh (.int 1))) x9 U
 refine⟨some (.sh (RI η)),k0c s,some (.sh (RI b)),some (.sh (RI a)),some (.sh (RI η)),some (.sh (.int 1)),y9,O,?_⟩
 unfold zw2
 refine seqI (ρ':=eZ i k c (some (.sh (RI η))) M L I o7 G z j) ((f9 (P8 (z6 (x:=mvar 2) (d:=.int c) rfl (z6 e3 y4)) er)).trans rfl) ?_
 refine seqI (ρ':=eZ i k c (some (.sh (RI η))) (k0c s) L I o7 G z j) ((f9 (i5 (z6 (x:=mvar 2) (d:=.int c) rfl y4) es)).trans rfl) ?_
 refine seqI (ρ':=eZ i k c (some (.sh (RI η))) (k0c s) (some (.sh (RI b))) (some (.sh (RI a))) o7 G z j) ?_ ?_
 .unfold masg
  rw[i5 (z6 (x:=mvar 3) (d:=RI η) rfl (z6 (x:=mvar 4) (d:=.int s) rfl y4)) et,Option.bind_some]
  rfl
 refine seqI (ρ':=eL i k c η s b a G z j) ((f9 (j9 (ds:=η.map .int) rfl)).trans rfl) ?_
 unfold mfor
 have ei:t4 rng1 (z4 (mc (.int 2)) anil) (eL i k c η s b a G z j)=some [.int 0,.int 1]:=by
  unfold t4
  rw[z6 (d:=.int 2) rfl y4,Option.bind_some,N1 (T4 (by decide) (by decide))]
  rfl
 rw[ei,Option.bind_some]
 exact zx3 (g:=.nm 8) rfl f1 rfl f2
theorem law_true (ns:List Int)(hn:ns.length<=63):zo0 [.lst (ns.map .int)]=some (.sh (.bl true)):=by
 obtain⟨U,Z⟩:=yg1 ns 2 hn
 unfold zo0 xs9
 refine Y7 ?_
 have hi:t4 C3 (z4 (t8 yv7 (z4 (mvar 0) (z4 (mc (.int 2)) anil))) anil) (j1 11 [.lst (ns.map .int)])=some ((List.range U.length).map fun(i:Nat)=>D.tup [.int ((0+i:Nat):Int),.int (U.getD i 0)]):=by
  unfold t4
  rw[z6 (d:=.lst (U.map .int)) (P8 (z6 (d:=.lst (ns.map .int)) rfl (z6 (d:=.int ((2:Nat):Int)) rfl y4)) Z) y4,Option.bind_some]
  show some (V4 0 (U.map .int))=_
  rw[E7]
 refine ya1 (List.range U.length) (f:=fun(i:Nat)=>D.tup [.int ((0+i:Nat):Int),.int (U.getD i 0)]) hi (I:=fun _ ρ=>∃ p1 p2 S O N M L G z j,ρ=[k0a ns,p1,p2,S,O,N,M,L,G,z,j]) (Q:=fun o=>∃ p1 p2 S O N M L G z j,o= .nx [k0a ns,p1,p2,S,O,N,M,L,G,z,j]) ⟨none,none,none,none,none,none,none,none,none,none,rfl⟩ ?_ ?_ ?_
 .rintro i ks ρ ⟨p1,p2,S,O,N,M,L,G,z,j,rfl⟩
  obtain⟨q3,q4,q5,q6,q7,q8,q9,Y,e⟩:=xt8 (.lst (ns.map .int)) ((0+i:Nat):Int) (U.getD i 0) S O N M L G z j
  exact⟨_,_,rfl,e,_,_,_,_,_,_,_,_,_,_,rfl⟩
 .rintro ρ ⟨p1,p2,S,O,N,M,L,G,z,j,rfl⟩
  exact⟨_,_,_,_,_,_,_,_,_,_,rfl⟩
 .rintro o ⟨p1,p2,S,O,N,M,L,G,z,j,rfl⟩
  rfl
end
end
end Lw
namespace Lw
open List
open PySem L2
open PyProof.Rows
section
noncomputable def top (i:Nat):Stmt:=PySem.Challenge.pw_wavyrow_k49_long_rings.main.body.getD i (.Pass ⟨0,0,0,0⟩)
section
variable (P:Program)(w:World)(K:W.Frag)(mg:Str->Option Value)(base:Heap)
abbrev T_Z8:Prop:=QHd P w K mg base 1 "refuse_step" ["step"] (spR K 1 m_Z8)
abbrev T_Z2:Prop:=QHd P w K mg base 1 "later_steps" ["row","step"] (spK K 2 m_Z2)
abbrev xf9:Prop:=QHd P w K mg base 1 "added_up" ["tails","laters"] (spR K 2 ze8)
abbrev T_Z5:Prop:=QHd P w K mg base 1 "longer_first" ["places"] (spR K 1 m_Z5)
abbrev T_Z3:Prop:=QHd P w K mg base 1 "longest_behind" ["tails","laters"] (spR K 2 m_Z3)
abbrev T_Z6:Prop:=QHd P w K mg base 2 "both_ways" ["row","step"] (spK K 2 m_Z6)
abbrev T_Z4:Prop:=QHd P w K mg base 2 "longest_begun" ["first","nexts","backs"] (spR K 3 m_Z4)
abbrev T_Z0:Prop:=QHd P w K mg base 3 "longest_round" ["row","step"] (spK K 2 m_Z0)
abbrev S7:Prop:=QHd P w K mg base 3 "longest_round" ["row","step"] (spR K 2 e6)
abbrev T_Z7:Prop:=QHd P w K mg base 2 "counts_begun" ["first","nexts","backs"] (spR K 3 m_Z7)
abbrev T_Z1:Prop:=QHd P w K mg base 3 "counts_round" ["row","step"] (spK K 2 m_Z1)
abbrev Q1:Prop:=QHd P w K mg base 3 "counts_round" ["row","step"] (spR K 2 c7)
abbrev yf0:Prop:=QHd P w K mg base 1 "_law_stir" ["cell","k"] (spR K 2 W6)
abbrev xe2:Prop:=QHd P w K mg base 1 "_law_cells" ["script","many"] (spR K 2 yv7)
abbrev xf7:Prop:=QHd P w K mg base 2 "_law_row" ["cell","most"] (spR K 2 yv4)
abbrev xe0:Prop:=QHd P w K mg base 2 "_law_step" ["cell"] (spR K 1 yi0)
abbrev T_Z9:Prop:=QHd P w K mg base 1 "_law_same" ["found","due"] (spR K 2 m_Z9)
abbrev xe3:Prop:=QHd P w K mg base 2 "_law_same" ["found","due"] (spR K 2 yv8)
abbrev xf8:Prop:=QHd P w K mg base 1 "_law_put" ["some","others"] (spR K 2 yv5)
abbrev A3:Prop:=QHd P w K mg base 2 "_law_come" ["numbers","step","first"] (spR K 3 R0)
abbrev xe1:Prop:=QHd P w K mg base 3 "_law_told" ["row","step"] (spR K 2 yv6)
end
abbrev Zs (mg:Str->Option Value):Prop:=mg "abs"=none/\mg "any"=none/\mg "bool"=none/\mg "enumerate"=none/\mg "int"=none/\mg "isinstance"=none/\mg "len"=none/\mg "list"=none/\mg "max"=none/\mg "min"=none/\mg "range"=none/\mg "reversed"=none/\mg "str"=none/\mg "sum"=none/\mg "tuple"=none/\mg "zip"=none/\True
theorem xd1 {mg:Str->Option Value}(Z:Zs mg):mg "abs"=none:=Z.1
theorem xd0 {mg:Str->Option Value}(Z:Zs mg):mg "any"=none:=Z.2.1
theorem yf2 {mg:Str->Option Value}(Z:Zs mg):mg "bool"=none:=Z.2.2.1
theorem Y5 {mg:Str->Option Value}(Z:Zs mg):mg "enumerate"=none:=Z.2.2.2.1
theorem yo4 {mg:Str->Option Value}(Z:Zs mg):mg "int"=none:=Z.2.2.2.2.1
theorem w6 {mg:Str->Option Value}(Z:Zs mg):mg "isinstance"=none:=Z.2.2.2.2.2.1
theorem Z4 {mg:Str->Option Value}(Z:Zs mg):mg "len"=none:=Z.2.2.2.2.2.2.1
theorem Q7 {mg:Str->Option Value}(Z:Zs mg):mg "list"=none:=Z.2.2.2.2.2.2.2.1
theorem xr8 {mg:Str->Option Value}(Z:Zs mg):mg "max"=none:=Z.2.2.2.2.2.2.2.2.1
theorem zc5 {mg:Str->Option Value}(Z:Zs mg):mg "min"=none:=Z.2.2.2.2.2.2.2.2.2.1
theorem g8 {mg:Str->Option Value}(Z:Zs mg):mg "range"=none:=Z.2.2.2.2.2.2.2.2.2.2.1
theorem zg7 {mg:Str->Option Value}(Z:Zs mg):mg "reversed"=none:=Z.2.2.2.2.2.2.2.2.2.2.2.1
theorem yo3 {mg:Str->Option Value}(Z:Zs mg):mg "str"=none:=Z.2.2.2.2.2.2.2.2.2.2.2.2.1
theorem yc3 {mg:Str->Option Value}(Z:Zs mg):mg "sum"=none:=Z.2.2.2.2.2.2.2.2.2.2.2.2.2.1
theorem A5 {mg:Str->Option Value}(Z:Zs mg):mg "tuple"=none:=Z.2.2.2.2.2.2.2.2.2.2.2.2.2.2.1
theorem xe9 {mg:Str->Option Value}(Z:Zs mg):mg "zip"=none:=Z.2.2.2.2.2.2.2.2.2.2.2.2.2.2.2.1
variable {P:Program}{w:World}{K:W.Frag}{mg:Str->Option Value}{base:Heap}
noncomputable abbrev s_Z8:Stmt:=top 4
noncomputable abbrev N_Z8:List Str:=["step"]
theorem xc1:FnScope N_Z8 ["step"] (y0 s_Z8):=qsc
theorem xb6 (D:QDf K mg "refuse_step" s_Z8 ["step"]):T_Z8 P w K mg base:=
 D.mk fun f fd i=>i.okD (k:=0) (m:=b_Z8) xc1 fun cdv A outer s H E j=>(y6 (X9 (Z3 xb3 xm4 (z3 0 (pv 0)) z8 (j5 _)) (y6 zu0) j7))
noncomputable abbrev A8:Stmt:=top 5
noncomputable abbrev s_Z2:Stmt:=top 5
noncomputable abbrev N_Z2:List Str:=["row","step","above","below","place","number"]
theorem sc_Z2:FnScope N_Z2 ["row","step"] (y0 s_Z2):=qsc
theorem Y9:List.Nodup (["later","step","number","row"]:List Str):=by decide +kernel
theorem Y8:List.Nodup (["later","step","number","row"]:List Str):=by decide +kernel
theorem xa2 (D:QDf K mg "later_steps" s_Z2 ["row","step"])(Z:Zs mg):T_Z2 P w K mg base:=
 D.mk fun f fd z=>z.okK (k:=0) (m:=b_Z2) sc_Z2 fun cdv A outer s H E G=>(z7 (g9 (i:=2) sc_Z2.nd rfl (Or.inl rfl) (w8 z5)) (z7 (g9 (i:=3) sc_Z2.nd rfl (Or.inl rfl) (w8 z5)) (z7 (ym6 PassesOwn.never rfl (ym9 rfl (Y5 Z) (pv 0)) (a9 (is:=[4,5]) (T0 rfl (v7 (y7 (i:=4) sc_Z2.nd rfl (Or.inl rfl)) (v7 (y7 (i:=5) sc_Z2.nd rfl (Or.inr rfl)) a8)))) (z7 (Y2 (i:=2) (pv 2) (b9 (K6 (Q9 (by decide)) (X4 (N:=["later","step","number","row"]) (src:=[none,some 1,some 5,some 0]) (y0 s_Z2) N_Z2 rfl rfl (by decide +kernel)) rfl (c4 rfl (g8 Z) (z0 (j4 (z3 4 (pv 4)) z8) (z0 (k3 rfl (Z4 Z) (y8 0 (pv 0))) z5))) (fun C fp j H0=>(u0 (i:=0) (y7 Y9 rfl (Or.inl rfl)))) (fun C fp j H0=>(P4 (Z3 zp3 G5 (f7 (l7 (y8 3 (pv 3)) (z3 0 (pv 0))) (z3 2 (pv 2))) (z3 1 (pv 1)) (j5 _)))) (fun C fp j H0=>(z3 0 (pv 0))))) (fun t ha=>qap (pv 2) ha) (z0 (b9 (K6 (Q9 (by decide)) (X4 (N:=["later","step","number","row"]) (src:=[none,some 1,some 5,some 0]) (y0 s_Z2) N_Z2 rfl rfl (by decide +kernel)) rfl (c4 rfl (g8 Z) (z0 (j4 (z3 4 (pv 4)) z8) (z0 (k3 rfl (Z4 Z) (y8 0 (pv 0))) z5))) (fun C fp j H0=>(u0 (i:=0) (y7 Y9 rfl (Or.inl rfl)))) (fun C fp j H0=>(P4 (Z3 zp3 G5 (f7 (l7 (y8 3 (pv 3)) (z3 0 (pv 0))) (z3 2 (pv 2))) (z3 1 (pv 1)) (j5 _)))) (fun C fp j H0=>(z3 0 (pv 0))))) z5)) (y6 (Y2 (i:=3) (pv 3) (b9 (K6 (Q9 (by decide)) (X4 (N:=["later","step","number","row"]) (src:=[none,some 1,some 5,some 0]) (y0 s_Z2) N_Z2 rfl rfl (by decide +kernel)) rfl (c4 rfl (g8 Z) (z0 (j4 (z3 4 (pv 4)) z8) (z0 (k3 rfl (Z4 Z) (y8 0 (pv 0))) z5))) (fun C fp j H0=>(u0 (i:=0) (y7 Y8 rfl (Or.inl rfl)))) (fun C fp j H0=>(P4 (Z3 zp3 G5 (f7 (z3 2 (pv 2)) (l7 (y8 3 (pv 3)) (z3 0 (pv 0)))) (z3 1 (pv 1)) (j5 _)))) (fun C fp j H0=>(z3 0 (pv 0))))) (fun t ha=>qap (pv 3) ha) (z0 (b9 (K6 (Q9 (by decide)) (X4 (N:=["later","step","number","row"]) (src:=[none,some 1,some 5,some 0]) (y0 s_Z2) N_Z2 rfl rfl (by decide +kernel)) rfl (c4 rfl (g8 Z) (z0 (j4 (z3 4 (pv 4)) z8) (z0 (k3 rfl (Z4 Z) (y8 0 (pv 0))) z5))) (fun C fp j H0=>(u0 (i:=0) (y7 Y8 rfl (Or.inl rfl)))) (fun C fp j H0=>(P4 (Z3 zp3 G5 (f7 (z3 2 (pv 2)) (l7 (y8 3 (pv 3)) (z3 0 (pv 0)))) (z3 1 (pv 1)) (j5 _)))) (fun C fp j H0=>(z3 0 (pv 0))))) z5))))) (V9 3 (V9 2 (y6 (l6 (S1 (z0 (z3 2 (pv 2)) (z0 (z3 3 (pv 3)) z5))))))))))
noncomputable abbrev za0:Stmt:=top 7
noncomputable abbrev xe4:List Str:=["tails","laters"]
theorem xp1:FnScope xe4 ["tails","laters"] (y0 za0):=qsc
theorem zy4:List.Nodup (["each","tails"]:List Str):=by decide +kernel
theorem zy3:List.Nodup (["later","tails"]:List Str):=by decide +kernel
theorem xk7 (D:QDf K mg "added_up" za0 ["tails","laters"])(Z:Zs mg):xf9 P w K mg base:=
 D.mk fun f fd z=>z.okD (k:=0) (m:=xr2) xp1 fun cdv A outer s H E G=>(y6 (zj5 (S0 (X4 (N:=["each","tails"]) (src:=[none,some 0]) (y0 za0) xe4 rfl rfl (by decide +kernel)) rfl (U0 (z3 1 (pv 1))) (fun C fp j H0=>(u0 (i:=0) (y7 zy4 rfl (Or.inl rfl)))) (fun C fp j H0=>Z7) (fun C fp j H0=>(yy8 rfl rfl (yc3 Z) (i6 (S0 (xs6 (N:=["later","tails"]) (src:=[none,some 1]) (y0 za0) rfl (by decide +kernel)) rfl (U0 (z3 0 (pv 0))) (fun C fp j H0=>(u0 (i:=0) (y7 zy3 rfl (Or.inl rfl)))) (fun C fp j H0=>Z7) (fun C fp j H0=>(l7 (y8 1 (pv 1)) (z3 0 (pv 0)))))) PyProof.Rows.boot_sum)))))
noncomputable abbrev s_Z5:Stmt:=top 9
noncomputable abbrev N_Z5:List Str:=["places"]
theorem xc2:FnScope N_Z5 ["places"] (y0 s_Z5):=qsc
theorem xb9 (D:QDf K mg "longer_first" s_Z5 ["places"])(Z:Zs mg):T_Z5 P w K mg base:=
 D.mk fun f fd i=>i.okD (k:=0) (m:=b_Z5) xc2 fun cdv A outer s H E j=>(y6 (l6 (S1 (z0 (zi2 (k3 rfl (Z4 Z) (y8 0 (pv 0)))) (z0 (z3 0 (pv 0)) z5)))))
noncomputable abbrev s_Z3:Stmt:=top 11
noncomputable abbrev N_Z3:List Str:=["tails","laters"]
theorem xc3:FnScope N_Z3 ["tails","laters"] (y0 s_Z3):=qsc
theorem Q3:List.Nodup (["later","tails"]:List Str):=by decide +kernel
theorem xa1 (D:QDf K mg "longest_behind" s_Z3 ["tails","laters"])(Z:Zs mg):T_Z3 P w K mg base:=
 D.mk fun f fd G=>G.okD (k:=0) (m:=b_Z3) xc3 fun cdv A outer s H E z=>(y6 (l6 (yx0 rfl z.units rfl (xr8 Z) rfl (Z4 Z) (i6 (S0 (X4 (N:=["later","tails"]) (src:=[none,some 0]) (y0 s_Z3) N_Z3 rfl rfl (by decide +kernel)) rfl (U0 (z3 1 (pv 1))) (fun C fp j H0=>(u0 (i:=0) (y7 Q3 rfl (Or.inl rfl)))) (fun C fp j H0=>Z7) (fun C fp j H0=>(l7 (y8 1 (pv 1)) (z3 0 (pv 0)))))) (b9 (w8 z5)))))
noncomputable abbrev zq5:Stmt:=top 13
noncomputable abbrev s_Z6:Stmt:=top 13
noncomputable abbrev N_Z6:List Str:=["row","step","above","below"]
theorem sc_Z6:FnScope N_Z6 ["row","step"] (y0 s_Z6):=qsc
theorem xb8 (D:QDf K mg "both_ways" s_Z6 ["row","step"])(j:T_Z2 P w K mg base):T_Z6 P w K mg base:=
 D.mk fun f fd G=>G.okK (k:=1) (m:=b_Z6) sc_Z6 fun cdv A outer s H E z=>(z7 (zq7 (U9 (zz6 (fun t ha=>qcl j z ha) rfl (yx6 (pv 0) (zz7 (z3 1 (pv 1)) zp2)) (zo2 (E2 zx0))) (a9 (is:=[2,3]) (T0 rfl (v7 (y7 (i:=2) sc_Z6.nd rfl (Or.inl rfl)) (v7 (y7 (i:=3) sc_Z6.nd rfl (Or.inl rfl)) a8)))))) (y6 (l6 (S1 (z0 (S1 (z0 (z3 2 (pv 2)) (z0 (z3 3 (pv 3)) z5))) (z0 (S1 (z0 (z3 3 (pv 3)) (z0 (z3 2 (pv 2)) z5))) z5))))))
noncomputable abbrev s_Z4:Stmt:=top 14
noncomputable abbrev N_Z4:List Str:=["first","nexts","backs","lasts","gone","back","place","behind"]
theorem sc_Z4:FnScope N_Z4 ["first","nexts","backs"] (y0 s_Z4):=qsc
theorem xa0 (D:QDf K mg "longest_begun" s_Z4 ["first","nexts","backs"])(j:T_Z3 P w K mg base)(Z:Zs mg):T_Z4 P w K mg base:=
 D.mk fun f fd G=>G.okD (k:=1) (m:=b_Z4) sc_Z4 fun cdv A outer s H E z=>(z7 (t5 (i:=3) sc_Z4.nd rfl (Or.inl rfl) (l7 (y8 1 (pv 1)) (z3 0 (pv 0)))) (z7 (g9 (i:=4) sc_Z4.nd rfl (Or.inl rfl) (zu2 (w8 (z0 (b9 (w8 z5)) z5)) (k3 rfl (Z4 Z) (y8 1 (pv 1))))) (z7 (g9 (i:=5) sc_Z4.nd rfl (Or.inl rfl) (zu2 (w8 (z0 (b9 (w8 z5)) z5)) (k3 rfl (Z4 Z) (y8 1 (pv 1))))) (z7 (a0 PassesOwn.never rfl (yy0 rfl (zg7 Z) rfl (g8 Z) (z0 (j4 (z3 0 (pv 0)) z8) (z0 (k3 rfl (Z4 Z) (y8 1 (pv 1))) z5))) (u0 (i:=6) (y7 sc_Z4.nd rfl (Or.inl rfl))) (z7 (t5 (i:=7) sc_Z4.nd rfl (Or.inl rfl) (yx3 5 (t3 (fun t ha=>qcl j z ha) rfl (z0 (z3 5 (pv 5)) (z0 (l7 (y8 2 (pv 2)) (z3 6 (pv 6))) z5)) qal2))) (z7 (X9 (pc_w (zu5 (V0 (z3 7 (pv 7))) (zj4 (Z3 zu8 ye6 (z3 6 (pv 6)) (z3 3 (pv 3)) rfl)))) (y6 (P5 (i:=4) (U9 (b9 (T1 (i6 (w8 (z0 (z3 6 (pv 6)) z5))) (y8 7 (pv 7)))) (M6 (pv 4) (z3 6 (pv 6)) Z5)))) j7) (z7 (t5 (i:=7) sc_Z4.nd rfl (Or.inl rfl) (yx3 4 (t3 (fun t ha=>qcl j z ha) rfl (z0 (z3 4 (pv 4)) (z0 (l7 (y8 1 (pv 1)) (z3 6 (pv 6))) z5)) qal2))) (y6 (X9 (V0 (z3 7 (pv 7))) (y6 (P5 (i:=5) (U9 (b9 (T1 (i6 (w8 (z0 (z3 6 (pv 6)) z5))) (y8 7 (pv 7)))) (M6 (pv 5) (z3 6 (pv 6)) Z5)))) j7)))))) (V9 4 (z7 (t5 (i:=7) sc_Z4.nd rfl (Or.inl rfl) (t3 (fun t ha=>qcl j z ha) rfl (z0 (z3 4 (pv 4)) (z0 (z3 3 (pv 3)) z5)) qal2)) (y6 (l6 (ye5 (V0 (z3 7 (pv 7))) (b9 (T1 (i6 (w8 (z0 (z3 0 (pv 0)) z5))) (y8 7 (pv 7)))) (b9 (w8 z5)))))))))))
noncomputable abbrev s_Z0:Stmt:=top 15
noncomputable abbrev N_Z0:List Str:=["row","step","lists"]
theorem sc_Z0:FnScope N_Z0 ["row","step"] (y0 s_Z0):=qsc
theorem j8:List.Nodup (["nexts","backs","first","row"]:List Str):=by decide +kernel
theorem xa4 (D:QDf K mg "longest_round" s_Z0 ["row","step"])(I:T_Z6 P w K mg base)(L:T_Z5 P w K mg base)(M:T_Z4 P w K mg base)(G:T_Z8 P w K mg base)(Z:Zs mg):T_Z0 P w K mg base:=by
 obtain⟨U,d_Z5,O,b_Z5,Y,z⟩:=L
 exact D.mk fun f fd Fn=>Fn.okK (k:=2) (m:=b_Z0) sc_Z0 fun cdv A outer s H E j=>(z7 (zj7 (t3 (fun t ha=>qcl G j ha) rfl (z0 (z3 1 (pv 1)) z5) qal1)) (z7 (zf4 (Q9 (by decide)) (ym8 (i:=2) sc_Z0.nd rfl (Or.inl rfl) (X4 (N:=["nexts","backs","first","row"]) (src:=[none,none,none,some 0]) (y0 s_Z0) N_Z0 rfl rfl (by decide +kernel)) rfl (yz9 (zz6 (fun t ha=>qcl I j ha) rfl (yx6 (pv 0) (zz7 (z3 1 (pv 1)) zp2)) (zo2 (E2 zx0)))) (fun C fp S H0=>(a9 (is:=[0,1]) (T0 rfl (v7 (y7 (i:=0) j8 rfl (Or.inl rfl)) (v7 (y7 (i:=1) j8 rfl (Or.inl rfl)) a8))))) (fun C fp S H0=>(Y3 rfl (g8 Z) (z0 (k3 rfl (Z4 Z) (y8 3 (pv 3))) z5))) (fun C fp S H0=>(u0 (i:=2) (y7 j8 rfl (Or.inl rfl)))) (fun C fp S H0=>(t3 (fun t ha=>qcl M j ha) rfl (z0 (z3 2 (pv 2)) (z0 (z3 0 (pv 0)) (z0 (z3 1 (pv 1)) z5))) qal3)))) (y6 (l6 (xx0 (yi5 (O.mono (by decide)) j.in1 b_Z5) rfl j.units rfl (zc5 Z) rfl z (y8 2 (pv 2)) (b9 (w8 z5)))))))
noncomputable abbrev T8:Stmt:=top 15
theorem K0 (D:QDf K mg "longest_round" T8 ["row","step"])(i:T_Z0 P w K mg base)(nl:NoL K):S7 P w K mg base:=QHd.lsn8 nl i
noncomputable abbrev s_Z7:Stmt:=top 16
noncomputable abbrev N_Z7:List Str:=["first","nexts","backs","lasts","gone","told"]
theorem sc_Z7:FnScope N_Z7 ["first","nexts","backs"] (y0 s_Z7):=qsc
theorem N5:List.Nodup (["place","lasts"]:List Str):=by decide +kernel
theorem V1:List.Nodup (["place","gone"]:List Str):=by decide +kernel
theorem xb7 (D:QDf K mg "counts_begun" s_Z7 ["first","nexts","backs"])(j:xf9 P w K mg base)(Z:Zs mg):T_Z7 P w K mg base:=
 D.mk fun f fd I=>I.okD (k:=1) (m:=b_Z7) sc_Z7 fun cdv A outer s H E G=>(z7 (t5 (i:=3) sc_Z7.nd rfl (Or.inr rfl) (l7 (y8 1 (pv 1)) (z3 0 (pv 0)))) (z7 (t5 (i:=4) sc_Z7.nd rfl (Or.inr rfl) (b9 (S0 (X4 (N:=["place","lasts"]) (src:=[none,some 3]) (y0 s_Z7) N_Z7 rfl rfl (by decide +kernel)) rfl (Y3 rfl (g8 Z) (z0 (k3 rfl (Z4 Z) (y8 1 (pv 1))) z5)) (fun C fp z H0=>(u0 (i:=0) (y7 N5 rfl (Or.inl rfl)))) (fun C fp z H0=>Z7) (fun C fp z H0=>(ye5 (Z3 zu8 ye6 (z3 0 (pv 0)) (z3 1 (pv 1)) rfl) z8 z8))))) (z7 (g9 (i:=5) sc_Z7.nd rfl (Or.inl rfl) (w8 z5)) (z7 (J9 1000 PassesOwn.never (V0 (xm2 rfl rfl (xd0 Z) (y8 4 (pv 4)) PyProof.Rows.boot_any)) (z7 (Y2 (i:=5) (pv 5) (yy8 rfl rfl (yc3 Z) (i6 (S0 (X4 (N:=["place","gone"]) (src:=[none,some 4]) (y0 s_Z7) N_Z7 rfl rfl (by decide +kernel)) rfl (U0 (z3 3 (pv 3))) (fun C fp z H0=>(u0 (i:=0) (y7 V1 rfl (Or.inl rfl)))) (fun C fp z H0=>Z7) (fun C fp z H0=>(l7 (y8 1 (pv 1)) (z3 0 (pv 0)))))) PyProof.Rows.boot_sum) (fun t ha=>qap (pv 5) ha) (z0 (yy8 rfl rfl (yc3 Z) (i6 (S0 (X4 (N:=["place","gone"]) (src:=[none,some 4]) (y0 s_Z7) N_Z7 rfl rfl (by decide +kernel)) rfl (U0 (z3 3 (pv 3))) (fun C fp z H0=>(u0 (i:=0) (y7 V1 rfl (Or.inl rfl)))) (fun C fp z H0=>Z7) (fun C fp z H0=>(l7 (y8 1 (pv 1)) (z3 0 (pv 0)))))) PyProof.Rows.boot_sum) z5)) (y6 (t5 (i:=4) sc_Z7.nd rfl (Or.inr rfl) (t3 (fun t ha=>qcl j G ha) rfl (z0 (t3 (fun t ha=>qcl j G ha) rfl (z0 (z3 4 (pv 4)) (z0 (z3 1 (pv 1)) z5)) qal2) (z0 (z3 2 (pv 2)) z5)) qal2))))) (y6 (K5 5 (pv 5)))))))
noncomputable abbrev s_Z1:Stmt:=top 17
noncomputable abbrev N_Z1:List Str:=["row","step","told","nexts","backs","first","half","many"]
theorem sc_Z1:FnScope N_Z1 ["row","step"] (y0 s_Z1):=qsc
theorem xa3 (D:QDf K mg "counts_round" s_Z1 ["row","step"])(G:T_Z6 P w K mg base)(z:T_Z7 P w K mg base)(j:T_Z8 P w K mg base)(Z:Zs mg):T_Z1 P w K mg base:=
 D.mk fun f fd L=>L.okK (k:=2) (m:=b_Z1) sc_Z1 fun cdv A outer s H E I=>(z7 (zj7 (t3 (fun t ha=>qcl j I ha) rfl (z0 (z3 1 (pv 1)) z5) qal1)) (z7 (g9 (i:=2) sc_Z1.nd rfl (Or.inl rfl) (T1 (i6 (w8 (z0 z8 z5))) (i6 (zu2 (w8 (z0 z8 z5)) (k3 rfl (Z4 Z) (y8 0 (pv 0))))))) (z7 (a0 PassesOwn.never rfl (yz9 (zz6 (fun t ha=>qcl G I ha) rfl (yx6 (pv 0) (zz7 (z3 1 (pv 1)) zp2)) (zo2 (E2 zx0)))) (a9 (is:=[3,4]) (T0 rfl (v7 (y7 (i:=3) sc_Z1.nd rfl (Or.inl rfl)) (v7 (y7 (i:=4) sc_Z1.nd rfl (Or.inl rfl)) a8)))) (y6 (a0 PassesOwn.never rfl (Y3 rfl (g8 Z) (z0 (k3 rfl (Z4 Z) (y8 0 (pv 0))) z5)) (u0 (i:=5) (y7 sc_Z1.nd rfl (Or.inl rfl))) (y6 (a0 PassesOwn.never rfl (xy2 rfl (Y5 Z) (t3 (fun t ha=>qcl z I ha) rfl (z0 (z3 5 (pv 5)) (z0 (z3 3 (pv 3)) (z0 (z3 4 (pv 4)) z5))) qal3)) (a9 (is:=[6,7]) (T0 rfl (v7 (y7 (i:=6) sc_Z1.nd rfl (Or.inl rfl)) (v7 (y7 (i:=7) sc_Z1.nd rfl (Or.inl rfl)) a8)))) (y6 (yz3 (i:=2) (pv 2) (z3 6 (pv 6)) (z3 7 (pv 7))))))))) (z7 (J9 1000 PassesOwn.never (Z3 zu9 S2 (l7 (y8 2 (pv 2)) (zi2 z8)) z8 (j5 _)) (y6 (zj6 (i:=2) (pv 2) (ye2 PySem.F.plainAttrs_list PySem.F.slot_list_pop PySem.F.type_list_pop ye9 (pv 2))))) (y6 (K5 2 (pv 2)))))))
noncomputable abbrev R9:Stmt:=top 17
theorem G6 (D:QDf K mg "counts_round" R9 ["row","step"])(i:T_Z1 P w K mg base)(nl:NoL K):Q1 P w K mg base:=QHd.lsn8 nl i
noncomputable abbrev ya4:Stmt:=top 19
noncomputable abbrev wy7:List Str:=["cell","k","number"]
theorem sc_Z14:FnScope wy7 ["cell","k"] (y0 ya4):=qsc
theorem xk8 (D:QDf K mg "_law_stir" ya4 ["cell","k"]):yf0 P w K mg base:=
 D.mk fun f fd j=>j.okD (k:=0) (m:=xr3) sc_Z14 fun cdv A outer s H E z=>(z7 (X9 (Z3 zp3 G5 (z3 0 (pv 0)) (G2 z8 z8) (j5 _)) (y6 (l6 (d9 (xn9 (f7 (z3 0 (pv 0)) (G2 z8 z8)) (M7 z8 (z3 1 (pv 1)))) (G2 z8 z8)))) j7) (z7 (t5 (i:=2) sc_Z14.nd rfl (Or.inl rfl) (d9 (M7 (j4 (j4 (z3 0 (pv 0)) (M7 z8 (z3 1 (pv 1)))) z8) z8) z8)) (z7 (t5 (i:=2) sc_Z14.nd rfl (Or.inl rfl) (d9 (M7 (z3 2 (pv 2)) (z3 2 (pv 2))) z8)) (y6 (l6 (U1 (d9 (M7 (z3 2 (pv 2)) z8) z8) z8))))))
noncomputable abbrev ya6:Stmt:=top 20
noncomputable abbrev wy9:List Str:=["script","many"]
theorem xp2:FnScope wy9 ["script","many"] (y0 ya6):=qsc
theorem xj1 (D:QDf K mg "_law_cells" ya6 ["script","many"])(Z:Zs mg):xe2 P w K mg base:=
 D.mk fun f fd i=>i.okD (k:=0) (m:=xr5) xp2 fun cdv A outer s H E j=>(y6 (zj5 (xn0 (i6 (T1 (i6 (xn0 (y8 0 (pv 0)) zi0 (zj9 (z3 1 (pv 1))))) (i6 (w8 (z0 z8 z5))))) zi0 (zj9 (xx1 rfl rfl (xr8 Z) (z0 z8 (z0 (yy9 rfl rfl (zc5 Z) (z0 (z3 1 (pv 1)) (z0 (k3 rfl (Z4 Z) (y8 0 (pv 0))) z5))) z5)))))))
noncomputable abbrev ya2:Stmt:=top 21
noncomputable abbrev wy5:List Str:=["cell","most","size","kind","wide","block","found","last","k","one","some"]
theorem sc_Z17:FnScope wy5 ["cell","most"] (y0 ya2):=qsc
theorem xk5 (D:QDf K mg "_law_row" ya2 ["cell","most"])(j:yf0 P w K mg base)(Z:Zs mg):xf7 P w K mg base:=
 D.mk fun f fd G=>G.okD (k:=1) (m:=xr0) sc_Z17 fun cdv A outer s H E z=>(z7 (t5 (i:=2) sc_Z17.nd rfl (Or.inl rfl) (d9 (t3 (fun t ha=>qcl j z ha) rfl (z0 (z3 0 (pv 0)) (z0 z8 z5)) qal2) (l7 (i6 (w8 (z0 z8 (z0 z8 (z0 z8 (z0 (j4 (z3 1 (pv 1)) z8) z5)))))) (d9 (t3 (fun t ha=>qcl j z ha) rfl (z0 (z3 0 (pv 0)) (z0 z8 z5)) qal2) z8)))) (z7 (t5 (i:=3) sc_Z17.nd rfl (Or.inl rfl) (d9 (t3 (fun t ha=>qcl j z ha) rfl (z0 (z3 0 (pv 0)) (z0 z8 z5)) qal2) z8)) (z7 (t5 (i:=4) sc_Z17.nd rfl (Or.inl rfl) (l7 (i6 (w8 (z0 z8 (z0 z8 (z0 z8 (z0 (G2 z8 z8) z5)))))) (d9 (t3 (fun t ha=>qcl j z ha) rfl (z0 (z3 0 (pv 0)) (z0 z8 z5)) qal2) z8))) (z7 (t5 (i:=5) sc_Z17.nd rfl (Or.inl rfl) (j4 z8 (d9 (t3 (fun t ha=>qcl j z ha) rfl (z0 (z3 0 (pv 0)) (z0 z8 z5)) qal2) z8))) (z7 (g9 (i:=6) sc_Z17.nd rfl (Or.inl rfl) (w8 z5)) (z7 (t5 (i:=7) sc_Z17.nd rfl (Or.inl rfl) z8) (z7 (a0 PassesOwn.never rfl (Y3 rfl (g8 Z) (z0 (yy9 rfl rfl (zc5 Z) (z0 (z3 2 (pv 2)) (z0 (z3 1 (pv 1)) z5))) z5)) (u0 (i:=8) (y7 sc_Z17.nd rfl (Or.inl rfl))) (z7 (t5 (i:=9) sc_Z17.nd rfl (Or.inl rfl) (d9 (t3 (fun t ha=>qcl j z ha) rfl (z0 (z3 0 (pv 0)) (z0 (j4 z8 (z3 8 (pv 8))) z5)) qal2) (z3 4 (pv 4)))) (z7 (t5 (i:=7) sc_Z17.nd rfl (Or.inl rfl) (f7 (j4 (z3 7 (pv 7)) (z3 9 (pv 9))) (U1 (z3 4 (pv 4)) z8))) (z7 (t5 (i:=10) sc_Z17.nd rfl (Or.inl rfl) (b9 (w8 (z0 (f7 (z3 9 (pv 9)) (U1 (z3 4 (pv 4)) z8)) (z0 (j4 (z3 8 (pv 8)) (U1 (z3 9 (pv 9)) z8)) (z0 (f7 (f7 z8 (z3 8 (pv 8))) (U1 (z3 9 (pv 9)) z8)) (z0 (l7 (i6 (w8 (z0 (z3 9 (pv 9)) (z0 (f7 z8 (z3 9 (pv 9))) z5)))) (d9 (z3 8 (pv 8)) z8)) z5))))))) (z7 (t5 (i:=10) sc_Z17.nd rfl (Or.inl rfl) (b9 (T1 (y8 10 (pv 10)) (i6 (w8 (z0 (j4 (z3 9 (pv 9)) (M7 (d9 (U1 (z3 8 (pv 8)) (z3 5 (pv 5))) z8) (z3 4 (pv 4)))) (z0 (z3 4 (pv 4)) (z0 (j4 (M7 (f7 (z3 9 (pv 9)) (U1 (z3 4 (pv 4)) z8)) (G2 z8 z8)) (d9 (t3 (fun t ha=>qcl j z ha) rfl (z0 (z3 0 (pv 0)) (z0 (j4 z8 (z3 8 (pv 8))) z5)) qal2) z8)) z5)))))))) (y6 (Y2 (i:=6) (pv 6) (l7 (i6 (T1 (y8 10 (pv 10)) (i6 (w8 (z0 (z3 7 (pv 7)) z5))))) (z3 3 (pv 3))) (fun t ha=>qap (pv 6) ha) (z0 (l7 (i6 (T1 (y8 10 (pv 10)) (i6 (w8 (z0 (z3 7 (pv 7)) z5))))) (z3 3 (pv 3))) z5)))))))) (y6 (K5 6 (pv 6))))))))))
noncomputable abbrev ya5:Stmt:=top 22
noncomputable abbrev wy8:List Str:=["cell","some"]
theorem sc_Z13:FnScope wy8 ["cell"] (y0 ya5):=qsc
theorem xk9 (D:QDf K mg "_law_step" ya5 ["cell"])(j:yf0 P w K mg base):xe0 P w K mg base:=
 D.mk fun f fd G=>G.okD (k:=1) (m:=yp3) sc_Z13 fun cdv A outer s H E z=>(z7 (t5 (i:=1) sc_Z13.nd rfl (Or.inl rfl) (b9 (w8 (z0 z8 (z0 (j4 z8 (d9 (t3 (fun t ha=>qcl j z ha) rfl (z0 (z3 0 (pv 0)) (z0 z8 z5)) qal2) z8)) (z0 (j4 z8 (d9 (t3 (fun t ha=>qcl j z ha) rfl (z0 (z3 0 (pv 0)) (z0 z8 z5)) qal2) z8)) z5)))))) (y6 (l6 (l7 (i6 (T1 (y8 1 (pv 1)) (i6 (w8 (z0 (j4 z8 (M7 (d9 (t3 (fun t ha=>qcl j z ha) rfl (z0 (z3 0 (pv 0)) (z0 z8 z5)) qal2) (G2 z8 z8)) (G2 z8 z8))) z5))))) (d9 (t3 (fun t ha=>qcl j z ha) rfl (z0 (z3 0 (pv 0)) (z0 z8 z5)) qal2) z8)))))
noncomputable abbrev zf2:Stmt:=top 23
noncomputable abbrev s_Z9:Stmt:=top 23
noncomputable abbrev N_Z9:List Str:=["found","due"]
theorem xc0:FnScope N_Z9 ["found","due"] (y0 s_Z9):=qsc
theorem xb5 (D:QDf K mg "_law_same" s_Z9 ["found","due"])(Z:Zs mg):T_Z9 P w K mg base:=
 D.mk fun f fd i=>i.okD (k:=0) (m:=b_Z9) xc0 fun cdv A outer s H E j=>(z7 (X9 (V0 (T3 (C:="str") rfl (w6 Z) rfl (yo3 Z) PyProof.Rows.boot_str (z3 1 (pv 1)))) (y6 (l6 (G4 (T3 (C:="str") rfl (w6 Z) rfl (yo3 Z) PyProof.Rows.boot_str (z3 0 (pv 0))) (zu4 (G3 zu9 S2 (z3 0 (pv 0)) (z3 1 (pv 1)) (j5 _)))))) j7) (z7 (X9 (V0 (zz5 (C1:="list") (C2:="tuple") rfl (w6 Z) rfl (Q7 Z) PyProof.Rows.boot_list rfl (A5 Z) PyProof.Rows.boot_tuple (z3 1 (pv 1)))) (z7 (X9 (pc_w (zu5 (Z3 yk8 zz9 (T3 (C:="list") rfl (w6 Z) rfl (Q7 Z) PyProof.Rows.boot_list (z3 0 (pv 0))) (T3 (C:="list") rfl (w6 Z) rfl (Q7 Z) PyProof.Rows.boot_list (z3 1 (pv 1))) (j5 _)) (zj4 (zu6 (V0 (zz5 (C1:="list") (C2:="tuple") rfl (w6 Z) rfl (Q7 Z) PyProof.Rows.boot_list rfl (A5 Z) PyProof.Rows.boot_tuple (z3 0 (pv 0)))))))) (y6 (l6 zf5)) j7) (z7 (X9 (Z3 yk8 zz9 (zi3 rfl (Z4 Z) (z0 (z3 0 (pv 0)) z5)) (zi3 rfl (Z4 Z) (z0 (z3 1 (pv 1)) z5)) (j5 _)) (y6 (l6 zf5)) j7) (y6 zu0))) j7) (y6 (l6 (G4 (T3 (C:="int") rfl (w6 Z) rfl (yo4 Z) PyProof.Rows.boot_int (z3 0 (pv 0))) (G4 (ye3 (T3 (C:="bool") rfl (w6 Z) rfl (yf2 Z) PyProof.Rows.boot_bool (z3 0 (pv 0)))) (zu4 (G3 zu9 S2 (z3 0 (pv 0)) (z3 1 (pv 1)) (j5 _)))))))))
noncomputable abbrev ya7:Stmt:=top 23
noncomputable abbrev xe7:List Str:=["found","due"]
theorem xp3:FnScope xe7 ["found","due"] (y0 ya7):=qsc
theorem T5:List.Nodup (["one","other"]:List Str):=by decide +kernel
theorem xj2 (D:QDf K mg "_law_same" ya7 ["found","due"])(j:T_Z9 P w K mg base)(Z:Zs mg):xe3 P w K mg base:=
 D.mk fun f fd I=>I.okD (k:=1) (m:=xr6) xp3 fun cdv A outer s H E G=>(z7 (X9 (V0 (T3 (C:="str") rfl (w6 Z) rfl (yo3 Z) PyProof.Rows.boot_str (z3 1 (pv 1)))) (y6 (l6 (G4 (T3 (C:="str") rfl (w6 Z) rfl (yo3 Z) PyProof.Rows.boot_str (z3 0 (pv 0))) (zu4 (G3 zu9 S2 (z3 0 (pv 0)) (z3 1 (pv 1)) (j5 _)))))) j7) (z7 (X9 (V0 (zz5 (C1:="list") (C2:="tuple") rfl (w6 Z) rfl (Q7 Z) PyProof.Rows.boot_list rfl (A5 Z) PyProof.Rows.boot_tuple (z3 1 (pv 1)))) (z7 (X9 (pc_w (zu5 (Z3 yk8 zz9 (T3 (C:="list") rfl (w6 Z) rfl (Q7 Z) PyProof.Rows.boot_list (z3 0 (pv 0))) (T3 (C:="list") rfl (w6 Z) rfl (Q7 Z) PyProof.Rows.boot_list (z3 1 (pv 1))) (j5 _)) (zj4 (zu6 (V0 (zz5 (C1:="list") (C2:="tuple") rfl (w6 Z) rfl (Q7 Z) PyProof.Rows.boot_list rfl (A5 Z) PyProof.Rows.boot_tuple (z3 0 (pv 0)))))))) (y6 (l6 zf5)) j7) (z7 (X9 (Z3 yk8 zz9 (zi3 rfl (Z4 Z) (z0 (z3 0 (pv 0)) z5)) (zi3 rfl (Z4 Z) (z0 (z3 1 (pv 1)) z5)) (j5 _)) (y6 (l6 zf5)) j7) (y6 (l6 (xm1 (xk2 G.units) (i6 (S0 (X4 (N:=["one","other"]) (src:=[none,none]) (y0 ya7) xe7 rfl rfl (by decide +kernel)) rfl (yk0 rfl (xe9 Z) (z0 (z3 0 (pv 0)) (z0 (z3 1 (pv 1)) z5))) (fun C fp z H0=>(a9 (is:=[0,1]) (T0 rfl (v7 (y7 (i:=0) T5 rfl (Or.inl rfl)) (v7 (y7 (i:=1) T5 rfl (Or.inl rfl)) a8))))) (fun C fp z H0=>(P4 (zu6 (V0 (t3 (fun t ha=>qcl j G ha) rfl (z0 (z3 0 (pv 0)) (z0 (z3 1 (pv 1)) z5)) qal2))))) (fun C fp z H0=>z8))) (i6 (w8 z5)) (j5 _)))))) j7) (y6 (l6 (G4 (T3 (C:="int") rfl (w6 Z) rfl (yo4 Z) PyProof.Rows.boot_int (z3 0 (pv 0))) (G4 (ye3 (T3 (C:="bool") rfl (w6 Z) rfl (yf2 Z) PyProof.Rows.boot_bool (z3 0 (pv 0)))) (zu4 (G3 zu9 S2 (z3 0 (pv 0)) (z3 1 (pv 1)) (j5 _)))))))))
noncomputable abbrev ya3:Stmt:=top 24
noncomputable abbrev wy6:List Str:=["some","others","found","many","number"]
theorem sc_Z16:FnScope wy6 ["some","others"] (y0 ya3):=qsc
theorem xk6 (D:QDf K mg "_law_put" ya3 ["some","others"])(Z:Zs mg):xf8 P w K mg base:=
 D.mk fun f fd j=>j.okD (k:=0) (m:=xr1) sc_Z16 fun cdv A outer s H E z=>(z7 (g9 (i:=2) sc_Z16.nd rfl (Or.inl rfl) (T1 (y8 0 (pv 0)) (i6 (zu2 (w8 (z0 z8 z5)) (f7 (j4 (k3 rfl (Z4 Z) (y8 1 (pv 1))) z8) (k3 rfl (Z4 Z) (y8 0 (pv 0)))))))) (z7 (a0 PassesOwn.never rfl (zz4 rfl (Y5 Z) (z0 (z3 1 (pv 1)) z5)) (a9 (is:=[3,4]) (T0 rfl (v7 (y7 (i:=3) sc_Z16.nd rfl (Or.inl rfl)) (v7 (y7 (i:=4) sc_Z16.nd rfl (Or.inl rfl)) a8)))) (y6 (P5 (i:=2) (U9 (j4 (l7 (y8 2 (pv 2)) (j4 (z3 3 (pv 3)) z8)) (z3 4 (pv 4))) (M6 (pv 2) (j4 (z3 3 (pv 3)) z8) Z5))))) (y6 (K5 2 (pv 2)))))
noncomputable abbrev W8:Stmt:=top 25
noncomputable abbrev M3:List Str:=["numbers","step","first","ways","lists","place","other","side","less","one"]
theorem sc_law_come:FnScope M3 ["numbers","step","first"] (y0 W8):=qsc
theorem zy2:List.Nodup (["number"]:List Str):=by decide +kernel
theorem zy1:List.Nodup (["number"]:List Str):=by decide +kernel
theorem zp4 (D:QDf K mg "_law_come" W8 ["numbers","step","first"])(j:xf8 P w K mg base)(Z:Zs mg):A3 P w K mg base:=
 D.mk fun f fd I=>(I.okW (k:=1) (m:=M2) sc_law_come fun cdv A outer s H E G=>(zv9 (yz4 (i:=3) sc_law_come.nd rfl (Or.inl rfl) (X4 (N:=["number"]) (src:=[none]) (y0 W8) M3 rfl rfl (by decide +kernel)) rfl (U0 (z3 0 (pv 0))) (fun C fp z H0=>(u0 (i:=0) (y7 zy2 rfl (Or.inl rfl)))) (fun C fp z H0=>Z7) (fun C fp z H0=>(w8 (z0 (b9 (w8 z5)) (z0 (b9 (w8 z5)) z5))))) (zv9 (yz4 (i:=4) sc_law_come.nd rfl (Or.inl rfl) (X4 (N:=["number"]) (src:=[none]) (y0 W8) M3 rfl rfl (by decide +kernel)) rfl (U0 (z3 0 (pv 0))) (fun C fp z H0=>(u0 (i:=0) (y7 zy1 rfl (Or.inl rfl)))) (fun C fp z H0=>Z7) (fun C fp z H0=>(w8 (z0 ye4 (z0 ye4 z5))))) (W9 (K3 (U9 (pdw (b9 (w8 (z0 z8 (z0 z8 z5))))) (M6 (D5 U3 (pv 3) (z3 2 (pv 2)) (fun _ _=>rfl)) z8 Z5))) (W9 (K3 (U9 (pdw (S1 (z0 (zi2 z8) (z0 (b9 (w8 (z0 (z3 2 (pv 2)) z5))) z5)))) (M6 (D5 U3 (pv 4) (z3 2 (pv 2)) (fun _ _=>rfl)) z8 Z5))) (W9 (yz1 PassesOwn.never rfl (c4 rfl (g8 Z) (z0 (j4 (z3 2 (pv 2)) z8) (z0 (k3 rfl (Z4 Z) (y8 0 (pv 0))) z5))) (u0 (i:=5) (y7 sc_law_come.nd rfl (Or.inl rfl))) (K4 (yz1 PassesOwn.never rfl (c4 rfl (g8 Z) (z0 (z3 2 (pv 2)) (z0 (z3 5 (pv 5)) z5))) (u0 (i:=6) (y7 sc_law_come.nd rfl (Or.inl rfl))) (W9 (psw (t5 (i:=7) sc_law_come.nd rfl (Or.inl rfl) (yx1 rfl (yo4 Z) (z0 (G3 xb4 xm5 (l7 (y8 0 (pv 0)) (z3 5 (pv 5))) (l7 (y8 0 (pv 0)) (z3 6 (pv 6))) (j5 _)) z5) PyProof.Rows.boot_int))) (K4 (xo7 (yk6 (pc_w (yx4 (Z3 zp3 G5 (xm3 rfl (xd1 Z) (z0 (f7 (l7 (y8 0 (pv 0)) (z3 5 (pv 5))) (l7 (y8 0 (pv 0)) (z3 6 (pv 6)))) z5)) (z3 1 (pv 1)) (j5 _)) (za8 (yx5 (yx8 G.units) (zu3 (l7 (zu3 (l7 (y8 3 (pv 3)) (z3 6 (pv 6)))) (f7 z8 (z3 7 (pv 7))))) (i6 (w8 z5)) (j5 _)))))) (W9 (K3 (U9 (yy6 (zq9 (fun t ha=>qcl j G ha) rfl (z0 (l7 (zu3 (l7 (y8 3 (pv 3)) (z3 5 (pv 5)))) (z3 7 (pv 7))) (z0 (l7 (zu3 (l7 (y8 3 (pv 3)) (z3 6 (pv 6)))) (f7 z8 (z3 7 (pv 7)))) z5)) qal2)) (M6 (D5 U3 (pv 3) (z3 5 (pv 5)) (fun _ _=>rfl)) (z3 7 (pv 7)) Z5))) (W9 (ym4 (U9 (yy7 (D5 U3 (D5 U3 (pv 4) (z3 6 (pv 6)) (fun _ _=>rfl)) (f7 z8 (z3 7 (pv 7))) (fun _ _=>rfl))) (a9 (is:=[8,9]) (T0 rfl (v7 (y7 (i:=8) sc_law_come.nd rfl (Or.inl rfl)) (v7 (y7 (i:=9) sc_law_come.nd rfl (Or.inl rfl)) a8)))))) (K4 (K3 (U9 (yk4 rfl G.units rfl (zc5 Z) (xn8 (yy7 (D5 U3 (D5 U3 (pv 4) (z3 5 (pv 5)) (fun _ _=>rfl)) (z3 7 (pv 7)) (fun _ _=>rfl))) (xy9 (pdw (S1 (z0 z8 (z0 (b9 (w8 z5)) z5)))))) (pdw (S1 (z0 (f7 (z3 8 (pv 8)) z8) (z0 (b9 (T1 (y8 9 (pv 9)) (i6 (w8 (z0 (z3 5 (pv 5)) z5))))) z5))))) (M6 (D5 U3 (pv 4) (z3 5 (pv 5)) (fun _ _=>rfl)) (z3 7 (pv 7)) Z5)))))) ym5)))))) (M5 4 (M5 3 (K4 (xz8 (zj8 (pdw (S1 (z0 (z3 3 (pv 3)) (z0 (z3 4 (pv 4)) z5))))))))))))))).plainW
noncomputable abbrev yn4:Stmt:=top 26
noncomputable abbrev xe6:List Str:=["row","step","by_size","best","numbers","first","ways","lists","place","many","number"]
theorem sc_Z12:FnScope xe6 ["row","step"] (y0 yn4):=qsc
theorem zy0:List.Nodup (["number"]:List Str):=by decide +kernel
theorem xj0 (D:QDf K mg "_law_told" yn4 ["row","step"])(j:A3 P w K mg base)(Z:Zs mg):xe1 P w K mg base:=
 D.mk fun f fd I=>I.okD (k:=2) (m:=xr4) sc_Z12 fun cdv A outer s H E z=>(z7 (g9 (i:=2) sc_Z12.nd rfl (Or.inl rfl) (T1 (i6 (w8 (z0 z8 z5))) (i6 (zu2 (w8 (z0 z8 z5)) (k3 rfl (Z4 Z) (y8 0 (pv 0))))))) (z7 (t5 (i:=3) sc_Z12.nd rfl (Or.inl rfl) (S1 (z0 z8 (z0 (b9 (w8 z5)) z5)))) (z7 (a0 PassesOwn.never rfl (U0 (b9 (w8 (z0 (z3 0 (pv 0)) (z0 (b9 (S0 (X4 (N:=["number"]) (src:=[none]) (y0 yn4) xe6 rfl rfl (by decide +kernel)) rfl (U0 (z3 0 (pv 0))) (fun C fp G H0=>(u0 (i:=0) (y7 zy0 rfl (Or.inl rfl)))) (fun C fp G H0=>Z7) (fun C fp G H0=>(f7 z8 (z3 0 (pv 0)))))) z5))))) (u0 (i:=4) (y7 sc_Z12.nd rfl (Or.inl rfl))) (y6 (a0 PassesOwn.never rfl (Y3 rfl (g8 Z) (z0 (k3 rfl (Z4 Z) (y8 0 (pv 0))) z5)) (u0 (i:=5) (y7 sc_Z12.nd rfl (Or.inl rfl))) (z7 (zq7 (U9 (t3 (fun t ha=>qcl j z ha) rfl (z0 (z3 4 (pv 4)) (z0 (z3 1 (pv 1)) (z0 (z3 5 (pv 5)) z5))) qal3) (a9 (is:=[6,7]) (T0 rfl (v7 (y7 (i:=6) sc_Z12.nd rfl (Or.inl rfl)) (v7 (y7 (i:=7) sc_Z12.nd rfl (Or.inl rfl)) a8)))))) (y6 (a0 PassesOwn.never rfl (c4 rfl (g8 Z) (z0 (j4 (z3 5 (pv 5)) z8) (z0 (k3 rfl (Z4 Z) (y8 0 (pv 0))) z5))) (u0 (i:=8) (y7 sc_Z12.nd rfl (Or.inl rfl))) (y6 (X9 (pc_w (yx4 (yx5 (yx8 z.units) (zu3 (l7 (zu3 (l7 (y8 6 (pv 6)) (z3 8 (pv 8)))) z8)) (i6 (w8 z5)) (j5 _)) (za8 (Z3 zp3 G5 (f7 (l7 (y8 4 (pv 4)) (z3 8 (pv 8))) (l7 (y8 4 (pv 4)) (z3 5 (pv 5)))) (z3 1 (pv 1)) (j5 _))))) (z7 (a0 PassesOwn.never rfl (zz4 rfl (Y5 Z) (z0 (l7 (zu3 (l7 (y8 6 (pv 6)) (z3 8 (pv 8)))) z8) z5)) (a9 (is:=[9,10]) (T0 rfl (v7 (y7 (i:=9) sc_Z12.nd rfl (Or.inl rfl)) (v7 (y7 (i:=10) sc_Z12.nd rfl (Or.inl rfl)) a8)))) (y6 (P5 (i:=2) (U9 (j4 (l7 (y8 2 (pv 2)) (U1 (z3 9 (pv 9)) z8)) (z3 10 (pv 10))) (M6 (pv 2) (U1 (z3 9 (pv 9)) z8) Z5))))) (y6 (t5 (i:=3) sc_Z12.nd rfl (Or.inl rfl) (yk5 rfl z.units rfl (zc5 Z) (z0 (z3 3 (pv 3)) (z0 (l7 (zu3 (l7 (y8 7 (pv 7)) (z3 8 (pv 8)))) z8) z5)))))) j7)))))))) (z7 (J9 1000 PassesOwn.never (Z3 zu9 S2 (l7 (y8 2 (pv 2)) (zi2 z8)) z8 (j5 _)) (y6 (zj6 (i:=2) (pv 2) (ye2 PySem.F.plainAttrs_list PySem.F.slot_list_pop PySem.F.type_list_pop ye9 (pv 2))))) (V9 2 (y6 (l6 (S1 (z0 (z3 2 (pv 2)) (z0 (xm0 (z3 3 (pv 3)) z8) z5))))))))))
noncomputable abbrev zf3:Stmt:=top 27
noncomputable abbrev wy4:List Str:=["script","k","cell","row","step","by_size","most_round","handed","turn","found","told"]
theorem sc_Z18:FnScope wy4 ["script"] (y0 zf3):=qsc
theorem xk4 {f:Addr}{fd:FuncData}(U:Fun K "law" "law" zf3 f fd)(S:xe2 P w K mg base)(L:xf7 P w K mg base)(G:xe3 P w K mg base)(N:xe0 P w K mg base)(M:yf0 P w K mg base)(O:xe1 P w K mg base)(z:Q1 P w K mg base)(j:S7 P w K mg base)(Z:Zs mg):FnOk P w K mg base CX0 4 f fd ["script"] (spR K 1 zo0):=
 U.okD (k:=3) (m:=xs9) sc_Z18 fun cdv A outer s H E I=>(z7 (a0 PassesOwn.never rfl (zz4 rfl (Y5 Z) (z0 (t3 (fun t ha=>qcl S I ha) rfl (z0 (z3 0 (pv 0)) (z0 z8 z5)) qal2) z5)) (a9 (is:=[1,2]) (T0 rfl (v7 (y7 (i:=1) sc_Z18.nd rfl (Or.inl rfl)) (v7 (y7 (i:=2) sc_Z18.nd rfl (Or.inl rfl)) a8)))) (z7 (t5 (i:=3) sc_Z18.nd rfl (Or.inl rfl) (t3 (fun t ha=>qcl L I ha) rfl (z0 (z3 2 (pv 2)) (z0 (l7 (i6 (w8 (z0 z8 (z0 z8 z5)))) (yx1 rfl (yo4 Z) (z0 (G4 (G3 zu9 S2 (z3 1 (pv 1)) z8 (j5 _)) (zu4 (G3 zu9 S2 (d9 (t3 (fun t ha=>qcl M I ha) rfl (z0 (z3 2 (pv 2)) (z0 z8 z5)) qal2) z8) z8 (j5 _)))) z5) PyProof.Rows.boot_int)) z5)) qal2)) (z7 (t5 (i:=4) sc_Z18.nd rfl (Or.inl rfl) (t3 (fun t ha=>qcl N I ha) rfl (z0 (z3 2 (pv 2)) z5) qal1)) (z7 (zq7 (U9 (t3 (fun t ha=>qcl O I ha) rfl (z0 (z3 3 (pv 3)) (z0 (z3 4 (pv 4)) z5)) qal2) (a9 (is:=[5,6]) (T0 rfl (v7 (y7 (i:=5) sc_Z18.nd rfl (Or.inl rfl)) (v7 (y7 (i:=6) sc_Z18.nd rfl (Or.inl rfl)) a8)))))) (z7 (t5 (i:=7) sc_Z18.nd rfl (Or.inl rfl) (b9 (xy5 rfl (Q7 Z) (y8 3 (pv 3)) PyProof.Rows.boot_list))) (y6 (a0 PassesOwn.never rfl (Y3 rfl (g8 Z) (z0 z8 z5)) (u0 (i:=8) (y7 sc_Z18.nd rfl (Or.inl rfl))) (z7 (g9 (i:=9) sc_Z18.nd rfl (Or.inl rfl) (zq9 (fun t ha=>qcl j I ha) rfl (z0 (z3 7 (pv 7)) (z0 (z3 4 (pv 4)) z5)) qal2)) (z7 (g9 (i:=10) sc_Z18.nd rfl (Or.inl rfl) (zq9 (fun t ha=>qcl z I ha) rfl (z0 (z3 7 (pv 7)) (z0 (z3 4 (pv 4)) z5)) qal2)) (z7 (X9 (pc_w (zu5 (zu6 (V0 (yx2 9 (t3 (fun t ha=>qcl G I ha) rfl (z0 (z3 9 (pv 9)) (z0 (z3 6 (pv 6)) z5)) qal2)))) (zu5 (zu6 (V0 (yx2 10 (t3 (fun t ha=>qcl G I ha) rfl (z0 (z3 10 (pv 10)) (z0 (z3 5 (pv 5)) z5)) qal2)))) (zj4 (yx5 (yx8 I.units) (y8 7 (pv 7)) (y8 3 (pv 3)) (j5 _)))))) (y6 (l6 zf5)) j7) (z7 (Y2 (i:=9) (pv 9) z8 (fun t ha=>qap (pv 9) ha) (z0 z8 z5)) (y6 (Y2 (i:=10) (pv 10) z8 (fun t ha=>qap (pv 10) ha) (z0 z8 z5)))))))))))))) (y6 (l6 zf5)))
theorem all_mk {l:W.OpenLaw}{h:Heap}{fa:Addr}(X:K.In h)(G:h.Ns mainGlobals mg)(aa:mg "law"=some (.ref fa))(d_Z8:QDn K "refuse_step" s_Z8)(d_later_steps:QDn K "later_steps" A8)(d_Z15:QDn K "added_up" za0)(d_Z5:QDn K "longer_first" s_Z5)(d_Z3:QDn K "longest_behind" s_Z3)(d_both_ways:QDn K "both_ways" zq5)(d_Z4:QDn K "longest_begun" s_Z4)(d_longest_round:QDn K "longest_round" T8)(d_Z7:QDn K "counts_begun" s_Z7)(d_counts_round:QDn K "counts_round" R9)(d_Z14:QDn K "_law_stir" ya4)(d_Z11:QDn K "_law_cells" ya6)(d_Z17:QDn K "_law_row" ya2)(d_Z13:QDn K "_law_step" ya5)(d_law_same:QDn K "_law_same" zf2)(d_Z16:QDn K "_law_put" ya3)(d_law_come:QDn K "_law_come" W8)(d_Z12:QDn K "_law_told" yn4)(d_Z18:QDn K "law" zf3)(nl:NoL K)(y_abs:W.nsIn K mainGlobals "abs"=some none)(y_any:W.nsIn K mainGlobals "any"=some none)(y_bool:W.nsIn K mainGlobals "bool"=some none)(y_enumerate:W.nsIn K mainGlobals "enumerate"=some none)(y_int:W.nsIn K mainGlobals "int"=some none)(y_isinstance:W.nsIn K mainGlobals "isinstance"=some none)(y_len:W.nsIn K mainGlobals "len"=some none)(y_list:W.nsIn K mainGlobals "list"=some none)(y_max:W.nsIn K mainGlobals "max"=some none)(y_min:W.nsIn K mainGlobals "min"=some none)(y_range:W.nsIn K mainGlobals "range"=some none)(y_reversed:W.nsIn K mainGlobals "reversed"=some none)(y_str:W.nsIn K mainGlobals "str"=some none)(y_sum:W.nsIn K mainGlobals "sum"=some none)(y_tuple:W.nsIn K mainGlobals "tuple"=some none)(y_zip:W.nsIn K mainGlobals "zip"=some none):
  ∃ fd:FuncData,(∀(s:Shared)(v:Value),BindsTo s fd ⟨[v],[]⟩ [("script",v)])/\∀ base:Heap,K.In base->base.Ns mainGlobals mg->FnOk l.prog w K mg base CX0 4 fa fd ["script"] (spR K 1 zo0):=by
 obtain⟨x,e,oc,o1,kV,dc,pm,o2,cd,ct,sl,l',c,k⟩:=d_Z18
 have e:=aa.symm.trans (W.mg_of X G e)
 cases e
 have Z:Zs mg:=⟨W.mg_none_of X G y_abs,W.mg_none_of X G y_any,W.mg_none_of X G y_bool,W.mg_none_of X G y_enumerate,W.mg_none_of X G y_int,W.mg_none_of X G y_isinstance,W.mg_none_of X G y_len,W.mg_none_of X G y_list,W.mg_none_of X G y_max,W.mg_none_of X G y_min,W.mg_none_of X G y_range,W.mg_none_of X G y_reversed,W.mg_none_of X G y_str,W.mg_none_of X G y_sum,W.mg_none_of X G y_tuple,W.mg_none_of X G y_zip,True.intro⟩
 refine⟨W.fnOf "law" "law" (U4 zf3) (c5 zf3) (y0 zf3) .none kV dc pm o2 cd ct,fun s v=>.of_eq rfl,fun base _ _=>?_⟩
 have L:=xb6 (P:=l.prog) (w:=w) (mg:=mg) (base:=base) (d_Z8.df X G (qbd1 fun _ _ _ _ _ _ _=>rfl))
 have a7:=xa2 (P:=l.prog) (w:=w) (mg:=mg) (base:=base) (d_later_steps.df X G (qbd2 fun _ _ _ _ _ _ _ _=>rfl)) Z
 have S:=xk7 (P:=l.prog) (w:=w) (mg:=mg) (base:=base) (d_Z15.df X G (qbd2 fun _ _ _ _ _ _ _ _=>rfl)) Z
 have a4:=xb9 (P:=l.prog) (w:=w) (mg:=mg) (base:=base) (d_Z5.df X G (qbd1 fun _ _ _ _ _ _ _=>rfl)) Z
 have a6:=xa1 (P:=l.prog) (w:=w) (mg:=mg) (base:=base) (d_Z3.df X G (qbd2 fun _ _ _ _ _ _ _ _=>rfl)) Z
 have M:=xb8 (P:=l.prog) (w:=w) (mg:=mg) (base:=base) (d_both_ways.df X G (qbd2 fun _ _ _ _ _ _ _ _=>rfl)) a7
 have a5:=xa0 (P:=l.prog) (w:=w) (mg:=mg) (base:=base) (d_Z4.df X G (qbd3 fun _ _ _ _ _ _ _ _ _=>rfl)) a6 Z
 have a9:=xa4 (P:=l.prog) (w:=w) (mg:=mg) (base:=base) (d_longest_round.df X G (qbd2 fun _ _ _ _ _ _ _ _=>rfl)) M a4 a5 L Z
 have i:=K0 (P:=l.prog) (w:=w) (mg:=mg) (base:=base) (d_longest_round.df X G (qbd2 fun _ _ _ _ _ _ _ _=>rfl)) a9 nl
 have a3:=xb7 (P:=l.prog) (w:=w) (mg:=mg) (base:=base) (d_Z7.df X G (qbd3 fun _ _ _ _ _ _ _ _ _=>rfl)) S Z
 have a8:=xa3 (P:=l.prog) (w:=w) (mg:=mg) (base:=base) (d_counts_round.df X G (qbd2 fun _ _ _ _ _ _ _ _=>rfl)) M a3 L Z
 have j:=G6 (P:=l.prog) (w:=w) (mg:=mg) (base:=base) (d_counts_round.df X G (qbd2 fun _ _ _ _ _ _ _ _=>rfl)) a8 nl
 have I:=xk8 (P:=l.prog) (w:=w) (mg:=mg) (base:=base) (d_Z14.df X G (qbd2 fun _ _ _ _ _ _ _ _=>rfl))
 have a0:=xj1 (P:=l.prog) (w:=w) (mg:=mg) (base:=base) (d_Z11.df X G (qbd2 fun _ _ _ _ _ _ _ _=>rfl)) Z
 have N:=xk5 (P:=l.prog) (w:=w) (mg:=mg) (base:=base) (d_Z17.df X G (qbd2 fun _ _ _ _ _ _ _ _=>rfl)) I Z
 have U:=xk9 (P:=l.prog) (w:=w) (mg:=mg) (base:=base) (d_Z13.df X G (qbd1 fun _ _ _ _ _ _ _=>rfl)) I
 have a2:=xb5 (P:=l.prog) (w:=w) (mg:=mg) (base:=base) (d_law_same.df X G (qbd2 fun _ _ _ _ _ _ _ _=>rfl)) Z
 have a1:=xj2 (P:=l.prog) (w:=w) (mg:=mg) (base:=base) (d_law_same.df X G (qbd2 fun _ _ _ _ _ _ _ _=>rfl)) a2 Z
 have O:=xk6 (P:=l.prog) (w:=w) (mg:=mg) (base:=base) (d_Z16.df X G (qbd2 fun _ _ _ _ _ _ _ _=>rfl)) Z
 have z:=zp4 (P:=l.prog) (w:=w) (mg:=mg) (base:=base) (d_law_come.df X G (qbd3 fun _ _ _ _ _ _ _ _ _=>rfl)) O Z
 have Y:=xj0 (P:=l.prog) (w:=w) (mg:=mg) (base:=base) (d_Z12.df X G (qbd2 fun _ _ _ _ _ _ _ _=>rfl)) z Z
 exact xk4 (ys2 l' c k) a0 N a1 U I Y j i Z
theorem walk {l:W.OpenLaw}{q:Program}{i:List Str}{S:(Str->Option Value)->Heap->Prop}{L:World->Heap->Prop}{d:DefRec}{K:Params->W.Frag}(hn:l.most=some 63)(G:d.params.defaults=[])
  (j:∀ ns:List Int,ns.length<=63->zo0 [.lst (ns.map .int)]=some (.sh (.bl true)))
  (N:∀(w:World)(h:Heap),L w h->(K w.params).In h)
  (F:∀(w:World)(mg:Str->Option Value)(I:Addr)(h:Heap),(K w.params).In h->h.Ns mainGlobals mg->mg d.name=some (.ref I)->
   ∃ fd:FuncData,(∀(s:Shared)(u:Value),BindsTo s fd ⟨[u],[]⟩ [("script",u)])/\∀ base:Heap,(K w.params).In base->base.Ns mainGlobals mg->FnOk l.prog w (K w.params) mg base CX0 4 I fd ["script"] (spR (K w.params) 1 zo0)):
  W.WalkO q i S L l.row.toRowW d [] (fun f vs=>PySem.call f vs):=
 L2.walk_of (n:=63) (k:=4) (x:="script") (CX:=fun _=>CX0) (sp:=fun w=>spR (K w.params) 1 zo0) hn (by decide) G ⟨rfl,by decide,by decide⟩ N F (fun w H a ns M _ O=>xp0 j H a ns M O _) fun _ _ _ _ _ z=>z
end
end Lw
open PySem PySem.W PyProof.Rows L2
set_option maxRecDepth 100000 in
set_option maxHeartbeats 0 in
theorem PySem.Challenge.cw_wavyrow_k49_long_rings_holds : PySem.Challenge.rw_wavyrow_k49_long_rings.Holds := by
 w_on;o_law;k_head;(case hw=>w_witness2)
 k_fill
 refine Lw.walk (l:=PySem.Challenge.rw_wavyrow_k49_long_rings) rfl rfl Lw.law_true (fun w h Y=>PySem.W.kIn_of Y) ?F
 case F=>
  intro w mg fa h KX G hmg
  refine' Lw.all_mk KX G hmg  ?d_Z8 ?d_later_steps ?d_Z15 ?d_Z5 ?d_Z3 ?d_both_ways ?d_Z4 ?d_longest_round ?d_Z7 ?d_counts_round ?d_Z14 ?d_Z11 ?d_Z17 ?d_Z13 ?d_law_same ?d_Z16 ?d_law_come ?d_Z12 ?d_Z18    ?nl ?y_abs ?y_any ?y_bool ?y_enumerate ?y_int ?y_isinstance ?y_len ?y_list ?y_max ?y_min ?y_range ?y_reversed ?y_str ?y_sum ?y_tuple ?y_zip
  (case nl=>exact L2.NoL.of (by rfl))
  all_goals first| (refine' QDn.of ?e ?l ?c ?k;(case e=>k_is);(case l=>k_is);(case c=>k_is);(case k=>k_is))| (refine' QMn.of ?e ?i ?l ?c ?k;(case e=>k_is);(case i=>k_is);(case l=>k_is);(case c=>k_is);(case k=>k_is))|k_is|skip
