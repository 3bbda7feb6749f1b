import PyProof.Rows.All
import Wide.All
import OpenK.AllK
import Wide.FinOn
import Lean
import PyProof.EqAt
import PyProof.EqKinds
import PyProof.TupleCall
import PyProof.NeKinds
import KE.IntBitsLaws
import PyProof.FitsBits
import PySem.Challenge.RW_wavyrow_k26_few_turns_of_long_rows
set_option Elab.async false
set_option linter.all false
set_option maxRecDepth 100000
namespace L2
open List
open PySem PySem.Spec PyProof.Rows
section
noncomputable abbrev Key:=Sum Int Str
noncomputable def xt9:Key->Value->Bool
 | .inl k,v=>Value.isInt k v
 | .inr x,v=>Value.isStrOf x v
noncomputable def keyH (w:World):Key->Int
 | .inl k=>hashInt k
 | .inr x=>hashStr w x
theorem r6:∀{k:Key}{v:Value},xt9 k v=true->(∃ i t,k=Sum.inl i/\v=Value.int i t)\/(∃ x t,k=Sum.inr x/\v=Value.str x t)
 | .inl i,v,h=>by
  obtain⟨t,e⟩:=Value.isInt_shape (k:=i) (v:=v) h
  exact .inl ⟨i,t,rfl,e⟩
 | .inr x,v,h=>by
  obtain⟨t,e⟩:=Value.isStrOf_shape (x:=x) (v:=v) h
  exact .inr ⟨x,t,rfl,e⟩
theorem xt7 (a b:Int):decide ((Sum.inl a:Key)=Sum.inl b)=(a==b):=by
 by_cases e:a=b
 .subst e;simp
 .have h:¬ (Sum.inl a:Key)=Sum.inl b:=fun q=>e (Sum.inl.inj q)
  rw[decide_eq_false h]
  exact(beq_eq_false_iff_ne.mpr e).symm
theorem xt3 (a b:Str):decide ((Sum.inr a:Key)=Sum.inr b)=decide (a=b):=by
 by_cases e:a=b
 .subst e;simp
 .have h:¬ (Sum.inr a:Key)=Sum.inr b:=fun q=>e (Sum.inr.inj q)
  rw[decide_eq_false h,decide_eq_false e]
theorem xt6 (a:Int)(b:Str):decide ((Sum.inl a:Key)=Sum.inr b)=false:=decide_eq_false (fun q=>nomatch q)
theorem xt4 (a:Str)(b:Int):decide ((Sum.inr a:Key)=Sum.inl b)=false:=decide_eq_false (fun q=>nomatch q)
noncomputable def zs7 (prog:Program)(w:World):PySem.KeyKind prog w Key where
 is:=xt9
 hash:=keyH w
 inj:=fun v a b ha hb=>by
  rcases r6 ha with⟨i,t,rfl,rfl⟩|⟨x,t,rfl,rfl⟩
  .rcases r6 hb with⟨j,u,rfl,e⟩|⟨y,u,rfl,e⟩
   .injection e with e1 _;rw[e1]
   .exact nomatch e
  .rcases r6 hb with⟨j,u,rfl,e⟩|⟨y,u,rfl,e⟩
   .exact nomatch e
   .injection e with e1 _;rw[e1]
 byValue:=fun k v h=>by
  rcases r6 h with⟨i,t,rfl,rfl⟩|⟨x,t,rfl,rfl⟩ <;> rfl
 pyHash:=fun hv h=>by
  rcases r6 hv with⟨i,t,rfl,rfl⟩|⟨x,t,rfl,rfl⟩
  .exact wpAny_pyHash_int h
  .exact wpAny_pyHash_str h
 eqBool:=fun hu hv h=>by
  rcases r6 hu with⟨i,t,rfl,rfl⟩|⟨x,t,rfl,rfl⟩
  .rcases r6 hv with⟨j,u,rfl,rfl⟩|⟨y,u,rfl,rfl⟩
   .rw[xt7]at h;exact wpAny_eqBool_int h
   .rw[xt6]at h;exact SeqAt.EqAt.int_str i t y u _ _ _ _ h
  .rcases r6 hv with⟨j,u,rfl,rfl⟩|⟨y,u,rfl,rfl⟩
   .rw[xt4]at h;exact SeqAt.EqAt.str_int x t j u _ _ _ _ h
   .rw[xt3]at h;exact wpAny_eqBool_str h
 «strs»:=fun k x t v h=>by
  rcases r6 h with⟨i,u,rfl,e⟩|⟨y,u,rfl,e⟩
  .exact nomatch e
  .injection e with e1 _
   subst e1
   cases v <;> rfl
end
section
inductive V where
 |non|bl (b:Bool)|int (i:Int)|str (x:Str)|byt (b:Array UInt8)|flt (b:UInt64)|ref (a:Addr)|ty (n:String)
 deriving DecidableEq
noncomputable def RelV:V->Value->Prop
 | .non,u=>u=Value.none
 | .bl b,u=>u=Value.bool b
 | .int i,u=>∃ t,u=Value.int i t
 | .str x,u=>∃ t,u=Value.str x t
 | .byt b,u=>∃ t,u=Value.bytes b t
 | .flt b,u=>∃ t,u=Value.float b t
 | .ref a,u=>u=Value.ref a
 | .ty n,u=>u=Value.type n
abbrev Vals:List V->List Value->Prop:=Paired RelV
theorem Vals.length {xs:List V}{us:List Value}(r:Vals xs us):xs.length=us.length:=Paired.length r
theorem Vals.get:∀{xs:List V}{us:List Value}{i:Nat}{x:V},Vals xs us->xs[i]? =some x->∃ u,us[i]? =some u/\RelV x u
 |_,_,_,_,.nil,e=>by simp at e
 |_,_,0,_,.cons r _,e=>by simp at e;subst e;exact⟨_,rfl,r⟩
 |_,_,i+1,x,.cons _ t,e=>by
  obtain⟨u,h1,h2⟩:=Vals.get (i:=i) (x:=x) t (by simpa using e)
  exact⟨u,by simpa using h1,h2⟩
theorem Vals.set {x:V}{u:Value}(r:RelV x u):∀{xs:List V}{us:List Value}(i:Nat),Vals xs us->Vals (xs.set i x) (us.set i u)
 |_,_,_,.nil=>.nil
 |_,_,0,.cons _ t=>.cons r t
 |_,_,i+1,.cons q t=>.cons q (Vals.set r i t)
theorem Vals.append:∀{xs ys:List V}{us ws:List Value},Vals xs us->Vals ys ws->Vals (xs++ys) (us++ws)
 |_,_,_,_,.nil,s=>s
 |_,_,_,_,.cons r t,s=>.cons r (Vals.append t s)
theorem Vals.take:∀{xs:List V}{us:List Value}(n:Nat),Vals xs us->Vals (xs.take n) (us.take n)
 |_,_,0,_=>.nil
 |_,_,_+1,.nil=>.nil
 |_,_,n+1,.cons r t=>.cons r (Vals.take n t)
theorem Vals.drop:∀{xs:List V}{us:List Value}(n:Nat),Vals xs us->Vals (xs.drop n) (us.drop n)
 |_,_,0,r=>r
 |_,_,_+1,.nil=>.nil
 |_,_,n+1,.cons _ t=>Vals.drop n t
noncomputable def RelO:Option V->Option Value->Prop
 |some v,some u=>RelV v u
 |none,none=>True
 |_,_=>False
def KV {κ:Type}:List (κ×V)->List (κ×Value)->Prop:=Paired fun(p:κ×V)(q:κ×Value)=>p.1=q.1/\RelV p.2 q.2
noncomputable def kV:Key->V
 | .inl i=>.int i
 | .inr x=>.str x
inductive HO where
 |lst (xs:List V)
 |tup (xs:List V)
 |dK (kvs:List (Key×V))|dT (kvs:List (List Key×V))
 |set (S:Int->Bool) (n:Nat)
 |ins (C dx:Addr) (fs:List (Str×V))
 |own (x:Addr)
 |xd (fs:List (Str×V))
 |met (f x:Addr)
 |rng (lo hi:Int)
 |frz (o:Obj) (u:HO)
 |tbl (ps:Array Value)
 |ext (φ:Heap->Prop)
noncomputable abbrev Hp:=Addr->Option HO
noncomputable def upd (H:Hp)(a:Addr)(o:HO):Hp:=fun b=>if b=a then some o else H b
theorem y2 {H:Hp}{a:Addr}{o:HO}:upd H a o a=some o:=by unfold upd;rw[if_pos rfl]
theorem y3 {H:Hp}{a b:Addr}{o:HO}(h:b≠a):upd H a o b=H b:=by unfold upd;rw[if_neg h]
theorem t7 {H:Hp}{a b:Addr}{o:HO}(h:H a=some o)(h':H b=none):a≠b:=by
 intro e;subst e;rw[h]at h';cases h'
section
variable (P:Program)(w:World)
noncomputable def ObjOk (H:Hp)(h:Heap)(a:Addr):HO->Prop
 | .lst xs=>xs.length<=sizeLine/\∃(its:List Value)(n:Nat),Vals xs its/\h.get? a=some { cls:=.type "list",data:=.seq its.toArray n }
 | .tup xs=>xs.length<=sizeLine/\∃ its:List Value,Vals xs its/\IsTup h a its.toArray
 | .dK kvs=>kvs.length<=sizeLine/\(a==sysModules)=false/\∃ vs,KV kvs vs/\h.DictOf (zs7 P w) a vs
 | .dT kvs=>kvs.length<=sizeLine/\(a==sysModules)=false/\∃ xs:List (List Key×Addr×Value),
   Paired (fun(p:List Key×V)(q:List Key×Addr×Value)=>p.1=q.1/\H q.2.1=some (.tup (p.1.map kV))/\RelV p.2 q.2.2) kvs xs/\
   ∃ o es ep,h.get? a=some o/\o.ExactDict/\o.data= .dict es ep/\es.toList=xs.map (entryOfKey (tupleKind (zs7 P w)))/\(xs.map (·.1)).Nodup
 | .set S n=>h.SetOf (intKind P w) a S n
 | .ins C dx fs=>H dx=some (.own a)/\fs.length<=1000/\dx≠a/\h.get? a=some (W.instObj C dx)/\
   ∃ mA,h.Ns1 dx mA/\(∀ f,RelO (fs.lookup f) (mA f))/\PySem.Within mA (fs.map (·.1))
 | .own _=>∃ o,h.get? a=some o
 | .xd fs=>∃ mA,h.Ns1 a mA/\∀ f,RelO (fs.lookup f) (mA f)
 | .rng lo hi=>∃ t u v,h.get? a=some { cls:=.type "range",data:=.fields #[.int lo t,.int hi u,.int 1 v] }
 | .frz o u=>h.get? a=some o/\ObjOk H h a u
 | .tbl ps=>h.get? a=some { cls:=.none,data:=.fields ps }
 | .met f x=>h.get? a=some (W.methodObj (.ref f) (.ref x))
 | .ext φ=>φ h/\(∃ o,h.get? a=some o)/\∀ h1 h2:Heap,φ h1->(∀ o,h1.get? a=some o->h2.get? a=some o)->φ h2
def HOk (H:Hp)(h:Heap):Prop:=∀ a o,H a=some o->ObjOk P w H h a o
end
section
variable {P:Program}{w:World}{H H':Hp}{h h':Heap}{a:Addr}{o:HO}
theorem ObjOk.lt (x:ObjOk P w H h a o):a<h.objs.size:=by
 cases o with
 |lst xs=>obtain⟨_,_,_,_,e⟩:=x;exact Heap.lt_size e
 |tup xs=>obtain⟨_,_,_,p⟩:=x;exact p.lt
 |dK kvs=>obtain⟨_,_,_,_,o,_,_,e,_⟩:=x;exact Heap.lt_size e
 |dT kvs=>obtain⟨_,_,_,_,o,_,_,e,_⟩:=x;exact Heap.lt_size e
 |set S n=>obtain⟨o,_,_,_,e,_⟩:=x;exact Heap.lt_size e
 |ins C dx fs=>obtain⟨_,_,_,e,_⟩:=x;exact Heap.lt_size e
 |own y=>obtain⟨_,e⟩:=x;exact Heap.lt_size e
 |xd fs=>obtain⟨_,⟨_,_,_,e,_⟩,_⟩:=x;exact Heap.lt_size e
 |rng lo hi=>obtain⟨_,_,_,e⟩:=x;exact Heap.lt_size e
 |frz ob u=>obtain⟨e,_⟩:=x;exact Heap.lt_size e
 |tbl ps=>exact Heap.lt_size (show h.get? a=some _ from x)
 |met f y=>exact Heap.lt_size (show h.get? a=some _ from x)
 |ext φ=>obtain⟨_,⟨_,e⟩,_⟩:=x;exact Heap.lt_size e
theorem Paired.mapP {α β:Type}{F G:α->β->Prop}:∀{z:List α}{j:List β},Paired F z j->(∀ a b,F a b->G a b)->Paired G z j
 |_,_,.nil,_=>.nil
 |_,_,.cons r t,f=>.cons (f _ _ r) (Paired.mapP t f)
theorem ObjOk.stay (x:ObjOk P w H h a o)(k:∀ b u,(b=a\/H b=some (.own a))->h.get? b=some u->h'.get? b=some u)
  (N:∀ b,H b=some (.own a)->H' b=some (.own a)) (G:∀ b xs,H b=some (.tup xs)->H' b=some (.tup xs)):ObjOk P w H' h' a o:=by
 induction o with
 |lst xs=>obtain⟨z,its,n,r,e⟩:=x;exact⟨z,its,n,r,k _ _ (.inl rfl) e⟩
 |tup xs=>obtain⟨z,its,r,ob,e,c⟩:=x;exact⟨z,its,r,ob,k _ _ (.inl rfl) e,c⟩
 |dK kvs=>obtain⟨z,y,vs,r,ob,es,ep,e,c⟩:=x;exact⟨z,y,vs,r,ob,es,ep,k _ _ (.inl rfl) e,c⟩
 |dT kvs=>
  obtain⟨z,y,xs,r,ob,es,ep,e,c⟩:=x
  exact⟨z,y,xs,Paired.mapP r fun p q z=>⟨z.1,G _ _ z.2.1,z.2.2⟩,ob,es,ep,k _ _ (.inl rfl) e,c⟩
 |set S n=>obtain⟨ob,es,ep,t,e,c⟩:=x;exact⟨ob,es,ep,t,k _ _ (.inl rfl) e,c⟩
 |ins C dx fs=>
  obtain⟨d,z,ne,e,mA,⟨od,es,ep,e2,c⟩,r⟩:=x
  exact⟨N _ d,z,ne,k _ _ (.inl rfl) e,mA,⟨od,es,ep,k _ _ (.inr d) e2,c⟩,r⟩
 |own y=>obtain⟨ob,e⟩:=x;exact⟨ob,k _ _ (.inl rfl) e⟩
 |xd fs=>obtain⟨mA,⟨od,es,ep,e,c⟩,r⟩:=x;exact⟨mA,⟨od,es,ep,k _ _ (.inl rfl) e,c⟩,r⟩
 |rng lo hi=>obtain⟨t,u,v,e⟩:=x;exact⟨t,u,v,k _ _ (.inl rfl) e⟩
 |frz ob u j=>obtain⟨e,q⟩:=x;exact⟨k _ _ (.inl rfl) e,j q⟩
 |tbl ps=>
  have e:h.get? a=some { cls:=.none,data:=.fields ps }:=x
  show h'.get? a=some { cls:=.none,data:=.fields ps }
  exact k a _ (.inl rfl) e
 |met f y=>
  have e:h.get? a=some (W.methodObj (.ref f) (.ref y)):=x
  show h'.get? a=some (W.methodObj (.ref f) (.ref y))
  exact k a _ (.inl rfl) e
 |ext φ=>obtain⟨p,⟨o,e⟩,st⟩:=x;exact⟨st _ _ p fun o q=>k _ _ (.inl rfl) q,⟨o,k _ _ (.inl rfl) e⟩,st⟩
theorem HOk.lt (x:HOk P w H h)(e:H a=some o):a<h.objs.size:=(x a o e).lt
theorem HOk.fresh (x:HOk P w H h)(e:h.objs.size<=a):H a=none:=by
 cases q:H a with
 |none=>rfl
 |some u=>exact absurd (Nat.lt_of_lt_of_le (x.lt q) e) (Nat.lt_irrefl _)
theorem HOk.kept (x:HOk P w H h)(k:∀ b u,h.get? b=some u->h'.get? b=some u):HOk P w H h':=fun a o e=>
 (x a o e).stay (fun b u _ q=>k b u q) (fun _ q=>q) fun _ _ q=>q
theorem HOk.laid (x:HOk P w H h)(k:∀ b u,h.get? b=some u->h'.get? b=some u)(hp:h.objs.size<=a)(new:ObjOk P w (upd H a o) h' a o):HOk P w (upd H a o) h':=fun b u e=>by
 have hn:=x.fresh hp
 by_cases j:b=a
 .subst j;rw[y2]at e;cases e;exact new
 .rw[y3 j]at e
  exact(x b u e).stay (fun c v _ q=>k c v q) (fun c q=>by rw[y3 (t7 q hn)];exact q) fun c xs q=>by rw[y3 (t7 q hn)];exact q
end
def Rd (H:Hp)(a:Addr)(u:HO):Prop:=H a=some u\/∃ o,H a=some (.frz o u)
theorem Rd.ok {P:Program}{w:World}{H:Hp}{h:Heap}{a:Addr}{u:HO}(r:Rd H a u)(x:HOk P w H h):ObjOk P w H h a u:=by
 rcases r with r|⟨o,r⟩
 .exact x a u r
 .obtain⟨_,q⟩:=x a _ r
  exact q
noncomputable def Mut:Option HO->Prop
 |some (.lst _)=>True
 |some (.dK _)=>True
 |some (.dT _)=>True
 |some (.set _ _)=>True
 |some (.ins _ _ _)=>True
 |some (.ext _)=>True
 |_=>False
section
variable {P:Program}{w:World}{H:Hp}{h h':Heap}{x e:Addr}{o':HO}
theorem HOk.write (ok:HOk P w H h)(O:Mut (H x))(he:e=x\/H e=some (.own x))(k:∀ b u,b≠e->h.get? b=some u->h'.get? b=some u)(Z:∃ u,h'.get? e=some u)
  (new:ObjOk P w (upd H x o') h' x o'):HOk P w (upd H x o') h':=fun b u q=>by
 have G:∀ c y,H c=some (.own y)->c≠x:=fun c y r z=>by subst z;rw[r]at O;exact O
 have N:∀ c xs,H c=some (.tup xs)->c≠x:=fun c xs r z=>by subst z;rw[r]at O;exact O
 by_cases Y:b=x
 .subst Y;rw[y2]at q;cases q;exact new
 .rw[y3 Y]at q
  by_cases j:b=e
  .have q':H b=some (.own x):=by
    rcases he with z|z
    .exact absurd (j.trans z) Y
    .rw[j];exact z
   rw[q]at q';cases q'
   obtain⟨v,hv⟩:=Z
   exact⟨v,by rw[j];exact hv⟩
  .refine(ok b u q).stay (fun c v U r=>k c v ?_ r) (fun c r=>by rw[y3 (G c b r)];exact r) fun c xs r=>by rw[y3 (N c xs r)];exact r
   rcases U with rfl|U
   .exact j
   .rintro rfl
    rcases he with z|z
    .exact G c b U z
    .rw[U]at z;cases z;exact Y rfl
end
structure Un (fs ex:List Addr)(H H':Hp)(h h':Heap):Prop where
 keep:∀ b o,h.get? b=some o->H b=none->b∉fs->b∉ex->h'.get? b=some o
 slot:∀ b o,h.get? b=some o->H b=none->b∈fs->b∉ex->∃ sl,h'.get? b=some { o with slots:=sl }
 free:∀ b o,h.get? b=some o->H b=none->b∉ex->H' b=none
 there:∀ b o,h.get? b=some o->b∉ex->∃ o',h'.get? b=some o'
 tups:∀ b xs,H b=some (.tup xs)->H' b=some (.tup xs)
 frzs:∀ b o u,H b=some (.frz o u)->H' b=some (.frz o u)
 tbls:∀ b ps,H b=some (.tbl ps)->∃ more,H' b=some (.tbl (ps++more))
section
variable {fs fs' ex ex':List Addr}{H H1 H2:Hp}{h h1 h2 h':Heap}{a x e:Addr}{o:HO}
theorem Un.any (u:Un fs ex H H1 h h1){b:Addr}{ob:Obj}(q:h.get? b=some ob)(n:H b=none)(j:b∉ex):∃ sl,h1.get? b=some { ob with slots:=sl }:=by
 by_cases z:b∈fs
 .exact u.slot b ob q n z j
 .exact⟨ob.slots,u.keep b ob q n z j⟩
theorem Un.kept (k:∀ b u,h.get? b=some u->h'.get? b=some u):Un fs ex H H h h':=
 ⟨fun b ob q _ _ _=>k b ob q,fun b ob q _ _ _=>⟨ob.slots,k b ob q⟩,fun _ _ _ n _=>n,fun b ob q _=>⟨ob,k b ob q⟩,fun _ _ q=>q,fun _ _ _ q=>q,fun _ ps q=>⟨#[],by rw[q];simp⟩⟩
theorem Un.refl:Un fs ex H H h h:=Un.kept fun _ _ q=>q
theorem Un.laid (k:∀ b u,h.get? b=some u->h'.get? b=some u)(hp:h.objs.size<=a)(hn:H a=none):Un fs ex H (upd H a o) h h' where
 keep:=fun b u q _ _ _=>k b u q
 slot:=fun b u q _ _ _=>⟨u.slots,k b u q⟩
 free:=fun b u q n _=>by rw[y3 (Nat.ne_of_lt (Nat.lt_of_lt_of_le (Heap.lt_size q) hp))];exact n
 there:=fun b u q _=>⟨u,k b u q⟩
 tups:=fun b xs q=>by rw[y3 (t7 q hn)];exact q
 frzs:=fun b u xs q=>by rw[y3 (t7 q hn)];exact q
 tbls:=fun b ps q=>⟨#[],by rw[y3 (t7 q hn),q];simp⟩
theorem Un.write (G:Mut (H x))(Y:e=x\/H e=some (.own x))(k:∀ b u,b≠e->h.get? b=some u->h'.get? b=some u)(N:∃ u,h'.get? e=some u):Un fs ex H (upd H x o) h h':=by
 have O:∀ b,H b=none->b≠x:=fun b n z=>by subst z;rw[n]at G;exact G
 have U:∀ b,H b=none->b≠e:=fun b n z=>by
  subst z
  rcases Y with r|r
  .exact O b n r
  .rw[n]at r;cases r
 have hm:∀ b u,H b=some u->¬ Mut (some u)->b≠x:=fun b u q nm z=>by subst z;rw[q]at G;exact nm G
 refine⟨fun b u q n _ _=>k b u (U b n) q,fun b u q n _ _=>⟨u.slots,k b u (U b n) q⟩,fun b u q n _=>by rw[y3 (O b n)];exact n,fun b u q _=>?_,
  fun b xs q=>by rw[y3 (hm b _ q fun z=>z)];exact q,fun b u xs q=>by rw[y3 (hm b _ q fun z=>z)];exact q,fun b ps q=>⟨#[],by rw[y3 (hm b _ q fun z=>z),q];simp⟩⟩
 by_cases j:b=e
 .subst j;exact N
 .exact⟨u,k b u j q⟩
end
noncomputable def trk (h:Heap)(H:Hp):List Addr:=(List.range h.objs.size).filter fun a=>(H a).isSome
noncomputable def hidT (h:Heap)(H:Hp):Heap:=W.hideAll h (trk h H)
theorem yw0 (h:Heap)(H:Hp):(hidT h H).objs.size=h.objs.size:=W.hideAll_size _ _
theorem yn2 {h:Heap}{H:Hp}{b:Addr}{o:Obj}(e:h.get? b=some o)(n:H b=none):(hidT h H).get? b=some o:=
 W.hideAll_get _ e fun hm=>by
  have q:(H b).isSome=true:=(List.mem_filter.mp hm).2
  rw[n]at q;simp at q
theorem ye9 {h:Heap}{H:Hp}{b:Addr}{o:Obj}(e:(hidT h H).get? b=some o):h.get? b=some o/\H b=none:=by
 have j:h.get? b=some o:=W.of_hideAll (trk h H) e
 refine⟨j,?_⟩
 cases q:H b with
 |none=>rfl
 |some x=>
  have hm:b∈trk h H:=List.mem_filter.mpr ⟨List.mem_range.mpr (Heap.lt_size j),by simp[q]⟩
  have z:(hidT h H).get? b=none:=W.hideAll_none (trk h H) hm
  rw[z]at e;cases e
noncomputable def xz2 (g h:Heap)(L:Addr):List (Addr×Obj):=(List.range h.objs.size).filterMap fun a=>if a=L\/(g.get? a).isSome=true then none else (h.get? a).map fun o=>(a,o)
noncomputable def rest (g h:Heap)(L d:Addr):List (Addr×Obj):=(xz2 g h L).filter fun p=>decide (p.1≠d)
end
section
structure Mod (K:W.Frag)(mg:Str->Option Value)(base:Heap):Prop where
 kin:K.In base
 glob:base.Ns mainGlobals mg
 blt:∃ mb,base.Ns builtinsNs mb/\∀ x:Str,x≠"__name__"->mb x=bootBuiltins x
 nolimit:base.NoLimit
structure Cx where
 prog:Program
 w:World
 K:W.Frag
 mg:Str->Option Value
 base:Heap
 A:Around
 N:List Str
 s₀:Shared
 H₀:Hp
 env:Env
 outer:List Env
 stack:List Env
 ex:List Addr
 fn:Str->Bool
 calm:Bool
 pn:List (Addr×Obj)
 xe:Value->Shared->Prop
noncomputable def frs (l:List Env):List Addr:=l.filterMap (·.frame)
noncomputable abbrev Cx.fs (X:Cx):List Addr:=frs X.outer
def Vis (sc:Scope)(x:Str):Prop:=sc.names.lookup x=some .local\/sc.names.lookup x=some .cell\/sc.names.lookup x=some .free
def Loc (sc:Scope)(x:Str):Prop:=sc.names.lookup x=some .local\/sc.names.lookup x=some .cell
def Look (env:Env)(h:Heap)(m:Str->Option Value)(x:Str)(u:Value):Prop:=
 (env.kindOf x=some .local/\m x=some u)\/((env.kindOf x=some .cell\/env.kindOf x=some .free)/\∃ c,env.cells.lookup x=some c/\h.IsCell c (some u))
structure Cx.Ok (X:Cx):Prop where
 mod:Mod X.K X.mg X.base
 kind:X.env.scope.kind= .function
 glob:X.env.globals=mainGlobals
 blt:X.env.builtins=builtinsNs
 above:X.s₀.heap.objs.size<=X.env.locals
 inj:∀ x y c,X.env.cells.lookup x=some c->X.env.cells.lookup y=some c->x=y
 has:∀ x,(X.env.kindOf x=some .cell\/X.env.kindOf x=some .free)->∃ c,X.env.cells.lookup x=some c
 cab:∀ x c,X.fn x=true->X.env.cells.lookup x=some c->X.s₀.heap.objs.size<=c
 hd:X.calm=true->X.A.handled=none
 frames:X.A.frames=some X.stack
 stk:X.stack=X.outer\/(X.stack=X.env::X.outer/\X.env.frame=some X.env.locals)
 exf:∀ b∈X.ex,b≠X.env.locals/\∀ x c,X.env.cells.lookup x=some c->c≠b
 bs:∀ b o,X.base.get? b=some o->X.s₀.heap.get? b=some o/\X.H₀ b=none
 bsz:X.base.objs.size<=X.s₀.heap.objs.size
 noex:∀ b o,X.base.get? b=some o->b∉X.ex
 exfs:∀ b∈X.ex,b∉X.fs
 funs:X.s₀.heap.FunFrames X.base X.outer
 frf:∀ b∈X.fs,X.H₀ b=none
structure Inv (X:Cx)(pins:List (Addr×Obj))(σ:List (Option V))(H:Hp)(s:Shared):Prop where
 ok:X.Ok
 os:s.os=X.s₀.os
 bare:AllBare s.gens
 base:Un X.fs X.ex X.H₀ H X.s₀.heap s.heap
 loc:∃ m,s.heap.Ns X.env.locals m/\∀(i:Nat)(x:Str)(v:V),X.N[i]? =some x->σ[i]? =some (some v)->Vis X.env.scope x->∃ u,RelV v u/\Look X.env s.heap m x u
 cell:∀ x c,X.env.cells.lookup x=some c->∃ v,s.heap.IsCell c v
 free:H X.env.locals=none
 freeC:∀ x c,X.env.cells.lookup x=some c->H c=none
 pin:∀ p∈X.pn++pins,s.heap.get? p.1=some p.2/\H p.1=none/\p.1≠X.env.locals/\p.1∉X.fs/\∀ v,p.2.data≠ .cell v
 hok:HOk X.prog X.w H s.heap
 len:σ.length=X.N.length
section
variable {X:Cx}{pins:List (Addr×Obj)}{σ:List (Option V)}{H H':Hp}{s:Shared}{h':Heap}
theorem Cx.Ok.nofr (ok:X.Ok){b:Addr}{o:Obj}(e:X.base.get? b=some o):b∉X.fs:=fun j=>by
 have:=(ok.funs.mem j).1
 rw[e]at this;cases this
theorem Inv.bs (I:Inv X pins σ H s):∀ b o,X.base.get? b=some o->s.heap.get? b=some o/\H b=none:=fun b o e=>
 ⟨I.base.keep b o (I.ok.bs b o e).1 (I.ok.bs b o e).2 (I.ok.nofr e) (I.ok.noex b o e),I.base.free b o (I.ok.bs b o e).1 (I.ok.bs b o e).2 (I.ok.noex b o e)⟩
theorem Inv.bk (I:Inv X pins σ H s):∀ b o,X.base.get? b=some o->s.heap.get? b=some o:=fun b o e=>(I.bs b o e).1
theorem Inv.mod (I:Inv X pins σ H s):Mod X.K X.mg X.base:=I.ok.mod
theorem Inv.kIn (I:Inv X pins σ H s):X.K.In s.heap:=I.ok.mod.kin.keeps I.bk
theorem Inv.lt (I:Inv X pins σ H s):X.env.locals<s.heap.objs.size:=let ⟨_,hn,_⟩:=I.loc;hn.lt
theorem Inv.sz (I:Inv X pins σ H s):X.s₀.heap.objs.size<=s.heap.objs.size:=Nat.le_trans I.ok.above (Nat.le_of_lt I.lt)
theorem Inv.nofs (I:Inv X pins σ H s){a:Addr}(h:s.heap.objs.size<=a):a∉X.fs:=fun z=>by
 obtain⟨_,o,j,_⟩:=I.ok.funs.mem z
 exact absurd (Nat.lt_of_lt_of_le (Heap.lt_size j) (Nat.le_trans I.sz h)) (Nat.lt_irrefl _)
theorem Inv.cne (I:Inv X pins σ H s):∀ x c,X.env.cells.lookup x=some c->c≠X.env.locals:=fun x c e z=>by
 obtain⟨v,o,N,hd⟩:=I.cell x c e
 obtain⟨m,⟨o',es,ep,j,G,_⟩,_⟩:=I.loc
 rw[z,j]at N;cases N;rw[G]at hd;cases hd
theorem Inv.funs (I:Inv X pins σ H s):s.heap.FunFrames X.base X.outer:=by
 have all:∀(l:List Env),(∀ b∈frs l,b∈X.fs)->X.s₀.heap.FunFrames X.base l->s.heap.FunFrames X.base l:=by
  intro l
  induction l with
  |nil=>intro _ _;trivial
  |cons env r O=>
   intro hs Y
   obtain⟨Z,⟨L,o,j,hn,U,hd⟩,hr⟩:=Y
   have N:L∈X.fs:=hs L (by unfold frs;rw[filterMap_cons,j];exact mem_cons_self)
   obtain⟨sl,e⟩:=I.base.slot L o U (I.ok.frf L N) N fun z=>I.ok.exfs L z N
   exact⟨Z,⟨L,_,j,hn,e,hd⟩,O (fun b G=>hs b (by unfold frs;rw[filterMap_cons,j];exact mem_cons_of_mem _ G)) hr⟩
 exact all X.outer (fun _ G=>G) I.ok.funs
theorem Inv.stack (I:Inv X pins σ H s):s.heap.FunFrames X.base X.stack:=by
 rcases I.ok.stk with e|⟨e,j⟩
 .rw[e];exact I.funs
 .rw[e]
  obtain⟨m,hn,_⟩:=I.loc
  refine .cons (by rw[I.ok.kind];decide) j hn ?_ I.funs
  exact Heap.get?_none_of_le (Nat.le_trans I.ok.bsz I.ok.above)
theorem Inv.stkSub (I:Inv X pins σ H s):∀ b∈frs X.stack,b∈X.env.locals::X.fs:=fun b j=>by
 rcases I.ok.stk with e|⟨e,z⟩
 .rw[e]at j;exact mem_cons_of_mem _ j
 .rw[e]at j
  unfold frs at j
  rw[filterMap_cons,z]at j
  exact j
theorem Inv.stkFree (I:Inv X pins σ H s):∀ b∈frs X.stack,H b=none:=fun b j=>by
 rcases List.mem_cons.mp (I.stkSub b j)with e|j
 .rw[e];exact I.free
 .obtain⟨_,o,ho,_⟩:=I.ok.funs.mem j
  exact I.base.free b o ho (I.ok.frf b j) fun z=>I.ok.exfs b z j
theorem Inv.step {g':Array GenState}{t':Nat}{d':Drawn}{ch:List Addr}(I:Inv X pins σ H s)
  (N:∀ b∈ch,(b∈X.ex\/X.s₀.heap.objs.size<=b)/\b≠X.env.locals/\(∀ x c,X.env.cells.lookup x=some c->c≠b)/\∀ p∈X.pn++pins,p.1≠b)
  (keep:∀ b o,b≠X.env.locals->b∉X.fs->b∉ch->s.heap.get? b=some o->H b=none->h'.get? b=some o)
  (slot:∀ b o,b≠X.env.locals->b∈X.fs->b∉ch->s.heap.get? b=some o->H b=none->∃ sl,h'.get? b=some { o with slots:=sl }) (free:∀ b o,b∉ch->s.heap.get? b=some o->H b=none->H' b=none)
  (there:∀ b o,b∉ch->s.heap.get? b=some o->∃ o',h'.get? b=some o')
  (tups:∀ b xs,H b=some (.tup xs)->H' b=some (.tup xs)) (frzs:∀ b o u,H b=some (.frz o u)->H' b=some (.frz o u)) (tbls:∀ b ps,H b=some (.tbl ps)->∃ more,H' b=some (.tbl (ps++more)))
  (ns:∀ m,s.heap.Ns X.env.locals m->h'.Ns X.env.locals m) (hok:HOk X.prog X.w H' h') (hg:AllBare g'):
  Inv X pins σ H' { s with heap:=h',gens:=g',drawn:=d',toks:=t' }:=by
 have a1:∀ b o,X.s₀.heap.get? b=some o->b≠X.env.locals:=fun b o e=>Nat.ne_of_lt (Nat.lt_of_lt_of_le (Heap.lt_size e) I.ok.above)
 have U:∀ b o,X.s₀.heap.get? b=some o->b∉X.ex->b∉ch:=fun b o e j Y=>by
  rcases (N b Y).1 with z|z
  .exact j z
  .exact absurd (Nat.lt_of_lt_of_le (Heap.lt_size e) z) (Nat.lt_irrefl _)
 have O:∀ x c,X.env.cells.lookup x=some c->∀ v,s.heap.IsCell c v->h'.IsCell c v:=fun x c e v a2=>by
  obtain⟨o,Z,hd⟩:=a2
  have G:c∉ch:=fun z=>(N c z).2.2.1 x c e rfl
  by_cases hc:c∈X.fs
  .obtain⟨sl,q⟩:=slot c o (I.cne x c e) hc G Z (I.freeC x c e)
   exact⟨_,q,hd⟩
  .exact⟨o,keep c o (I.cne x c e) hc G Z (I.freeC x c e),hd⟩
 refine⟨I.ok,I.os,hg,⟨fun b o e n Y j=>?_,fun b o e n Y j=>?_,fun b o e n j=>?_,fun b o e j=>?_,fun b xs e=>tups b xs (I.base.tups b xs e),fun b o xs e=>frzs b o xs (I.base.frzs b o xs e),fun b ps e=>?_⟩,?_,fun x c e=>?_,?_,fun x c e=>?_,fun p hp=>?_,hok,I.len⟩
 .exact keep b o (a1 b o e) Y (U b o e j) (I.base.keep b o e n Y j) (I.base.free b o e n j)
 .obtain⟨sl,e1⟩:=I.base.slot b o e n Y j
  obtain⟨a3,e2⟩:=slot b _ (a1 b o e) Y (U b o e j) e1 (I.base.free b o e n j)
  exact⟨a3,e2⟩
 .obtain⟨o',e1⟩:=I.base.there b o e j
  exact free b o' (U b o e j) e1 (I.base.free b o e n j)
 .obtain⟨o',e1⟩:=I.base.there b o e j
  exact there b o' (U b o e j) e1
 .obtain⟨m1,e1⟩:=I.base.tbls b ps e
  obtain⟨m2,e2⟩:=tbls b _ e1
  exact⟨m1++m2,by rw[e2,Array.append_assoc]⟩
 .obtain⟨m,hn,hl⟩:=I.loc
  refine⟨m,ns m hn,fun i x v e1 e2 e3=>?_⟩
  obtain⟨u,r,l⟩:=hl i x v e1 e2 e3
  refine⟨u,r,?_⟩
  rcases l with l|⟨k,c,e,z⟩
  .exact .inl l
  .exact .inr ⟨k,c,e,O x c e _ z⟩
 .obtain⟨v,z⟩:=I.cell x c e
  exact⟨v,O x c e v z⟩
 .obtain⟨m,⟨o,_,_,Z,_⟩,_⟩:=I.loc
  exact free _ o (fun z=>(N _ z).2.1 rfl) Z I.free
 .obtain⟨v,o,Z,hd⟩:=I.cell x c e
  exact free c o (fun z=>(N c z).2.2.1 x c e rfl) Z (I.freeC x c e)
 .obtain⟨e,n,ne,nf,d⟩:=I.pin p hp
  have G:p.1∉ch:=fun z=>(N p.1 z).2.2.2 p hp rfl
  exact⟨keep p.1 p.2 ne nf G e n,free p.1 p.2 G e n,ne,nf,d⟩
theorem Inv.un {t':Nat}(I:Inv X pins σ H s)(u:Un X.fs [] H H' s.heap h')(hok:HOk X.prog X.w H' h'):Inv X pins σ H' { s with heap:=h',toks:=t' }:=by
 obtain⟨m,⟨o,es,ep,U,r⟩,_⟩:=id I.loc
 obtain⟨sl,Z⟩:=u.any U I.free (by simp)
 exact I.step (g':=s.gens) (d':=s.drawn) (ch:=[]) (fun _ z=>nomatch z) (fun b o _ G _ e n=>u.keep b o e n G (by simp)) (fun b o _ G _ e n=>u.slot b o e n G (by simp)) (fun b o _ e n=>u.free b o e n (by simp)) (fun b o _ e=>u.there b o e (by simp)) u.tups u.frzs u.tbls (fun m' hm=>by
  obtain⟨o',N,O,j,Y⟩:=hm
  rw[U]at j;cases j
  exact⟨_,N,O,Z,Y⟩) hok I.bare
theorem Inv.call {g':Array GenState}{t':Nat}{d':Drawn}{ch:List Addr}(I:Inv X pins σ H s)(u:Un (frs X.stack) ch H H' s.heap h')(hok:HOk X.prog X.w H' h')(hg:AllBare g')
  (N:∀ b∈ch,(b∈X.ex\/X.s₀.heap.objs.size<=b)/\b≠X.env.locals/\(∀ x c,X.env.cells.lookup x=some c->c≠b)/\∀ p∈X.pn++pins,p.1≠b):
  Inv X pins σ H' { s with heap:=h',gens:=g',drawn:=d',toks:=t' }:=by
 obtain⟨m,⟨o,es,ep,Z,r⟩,_⟩:=id I.loc
 obtain⟨sl,O⟩:=u.any Z I.free fun z=>(N _ z).2.1 rfl
 exact I.step (ch:=ch) N (fun b o O hb j e n=>u.keep b o e n (fun z=>(List.mem_cons.mp (I.stkSub b z)).elim O hb) j) (fun b o _ _ j e n=>u.any e n j) (fun b o j e n=>u.free b o e n j) (fun b o j e=>u.there b o e j) u.tups u.frzs u.tbls (fun m' hm=>by
  obtain⟨o',U,Y,G,r'⟩:=hm
  rw[Z]at G;cases G
  exact⟨_,U,Y,O,r'⟩) hok hg
theorem Inv.turned {t':Nat}{it:Addr}(I:Inv X pins σ H s)(k:∀ b o,b≠it->s.heap.get? b=some o->h'.get? b=some o)(hn:H it=none)(N:it≠X.env.locals)
  (h1:it∈X.ex\/X.s₀.heap.objs.size<=it) (h2:∀ x c,X.env.cells.lookup x=some c->c≠it) (U:∀ p∈X.pn++pins,p.1≠it):Inv X pins σ H { s with heap:=h',toks:=t' }:=by
 have G:∀ b u,H b=some u->b≠it:=fun b u e z=>by rw[z,hn]at e;cases e
 refine I.step (g':=s.gens) (d':=s.drawn) (ch:=[it]) (fun b O=>?_) (fun b o _ _ j e _=>k b o (fun z=>j (by simp[z])) e) (fun b o _ _ j e _=>⟨o.slots,k b o (fun z=>j (by simp[z])) e⟩) (fun _ _ _ _ n=>n)
  (fun b o j e=>⟨o,k b o (fun z=>j (by simp[z])) e⟩) (fun _ _ e=>e) (fun _ _ _ e=>e) (fun b ps e=>⟨#[],by rw[e];simp⟩) (fun m hm=>?_) (fun b u e=>?_) I.bare
 .have e:b=it:=by simpa using O
  subst e
  exact⟨h1,N,h2,U⟩
 .obtain⟨o,es,ep,ho,r⟩:=hm
  exact⟨o,es,ep,k _ o (Ne.symm N) ho,r⟩
 .refine(I.hok b u e).stay (fun c v j q=>k c v ?_ q) (fun _ q=>q) fun _ _ q=>q
  rcases j with z|z
  .rw[z];exact G b u e
  .exact G c _ z
theorem Inv.tok (I:Inv X pins σ H s)(t:Nat):Inv X pins σ H { s with toks:=t }:=I.un (h':=s.heap) (t':=t) Un.refl I.hok
theorem Inv.kept {t':Nat}(I:Inv X pins σ H s)(k:∀ b u,s.heap.get? b=some u->h'.get? b=some u):Inv X pins σ H { s with heap:=h',toks:=t' }:=I.un (Un.kept k) (I.hok.kept k)
theorem Inv.laid {a:Addr}{o:HO}{t':Nat}(I:Inv X pins σ H s)(k:∀ b u,s.heap.get? b=some u->h'.get? b=some u)(hp:s.heap.objs.size<=a)(new:ObjOk X.prog X.w (upd H a o) h' a o):
  Inv X pins σ (upd H a o) { s with heap:=h',toks:=t' }:=I.un (Un.laid k hp (I.hok.fresh hp)) (I.hok.laid k hp new)
theorem Inv.write {x e:Addr}{o:HO}{t':Nat}(I:Inv X pins σ H s)(z:Mut (H x))(G:e=x\/H e=some (.own x))(k:∀ b u,b≠e->s.heap.get? b=some u->h'.get? b=some u)(j:∃ u,h'.get? e=some u)
  (new:ObjOk X.prog X.w (upd H x o) h' x o):Inv X pins σ (upd H x o) { s with heap:=h',toks:=t' }:=I.un (Un.write z G k j) (I.hok.write z G k j new)
theorem Inv.pins_of {pins':List (Addr×Obj)}(I:Inv X pins σ H s)(h:∀ p∈pins',s.heap.get? p.1=some p.2/\H p.1=none/\p.1≠X.env.locals/\p.1∉X.fs/\∀ v,p.2.data≠ .cell v):Inv X pins' σ H s:=
 ⟨I.ok,I.os,I.bare,I.base,I.loc,I.cell,I.free,I.freeC,fun p hp=>(List.mem_append.mp hp).elim (fun z=>I.pin p (mem_append_left _ z)) (h p),I.hok,I.len⟩
theorem zm1 {N:List Str}(z:N.Nodup){i j:Nat}{x:Str}(a:N[i]? =some x)(b:N[j]? =some x):i=j:=by
 obtain⟨h1,e1⟩:=List.getElem?_eq_some_iff.mp a
 obtain⟨h2,e2⟩:=List.getElem?_eq_some_iff.mp b
 exact(getElem_inj z).mp (e1.trans e2.symm)
theorem zy0 {M:Model}{A:Around}{E:Value->Shared->Prop}{i:Nat}{x:Str}{v:V}{u:Value}{Q:Unit->Shared->Prop}(I:Inv X pins σ H s)(hN:X.N.Nodup)(hi:X.N[i]? =some x)(U:Loc X.env.scope x)(r:RelV v u)
  (h:∀ s',Inv X pins (σ.set i (some v)) H s'->(∃ a,Heap.SameBut a s.heap s'.heap/\(a=X.env.locals\/X.env.cells.lookup x=some a))->Q () s') (hf:X.fn x=true\/X.env.scope.names.lookup x=some .local:=by first|exact .inl rfl|exact .inr rfl|assumption):wpAny M A (storeName X.env x u) Q E s:=by
 obtain⟨m,hn,hl⟩:=id I.loc
 have a4:(X.env.scope.kind== .class || (X.env.scope.kind== .module&&X.env.locals != X.env.globals))=false:=by rw[I.ok.kind];rfl
 have a1:i<σ.length:=by rw[I.len];exact(List.getElem?_eq_some_iff.mp hi).1
 have cne:=I.cne
 have G:∀{a:Addr}{h':Heap},(∃ o,s.heap.get? a=some o/\H a=none)->Heap.SameBut a s.heap h'->HOk X.prog X.w H h':=fun{a h'} ha hs b ob e=>by
  obtain⟨_,_,Y⟩:=ha
  refine(I.hok b ob e).stay (fun c w' O q=>(hs.2 c ?_).trans q) (fun _ q=>q) fun _ _ q=>q
  rintro rfl
  rcases O with rfl|O
  .rw[Y]at e;cases e
  .rw[Y]at O;cases O
 rcases U with Z|Z
 .refine wpAny_storeName_local Z hn (fun h' a7 hs=>?_) a4
  obtain⟨oL,_,_,a6,_⟩:=id hn
  refine h _ ⟨I.ok,I.os,I.bare,⟨fun b o e n hb U=>?_,fun b o e n hb U=>?_,I.base.free,fun b o e U=>?_,I.base.tups,I.base.frzs,I.base.tbls⟩,⟨_,a7,fun j y v' e1 e2 e3=>?_⟩,fun y c e=>?_,I.free,I.freeC,fun p hp=>?_,G ⟨oL,a6,I.free⟩ hs,by simpa using I.len⟩ ⟨_,hs,.inl rfl⟩
  .exact(hs.2 b (Nat.ne_of_lt (Nat.lt_of_lt_of_le (Heap.lt_size e) I.ok.above))).trans (I.base.keep b o e n hb U)
  .obtain⟨sl,e1⟩:=I.base.slot b o e n hb U
   exact⟨sl,(hs.2 b (Nat.ne_of_lt (Nat.lt_of_lt_of_le (Heap.lt_size e) I.ok.above))).trans e1⟩
  .obtain⟨o',e1⟩:=I.base.there b o e U
   exact⟨o',(hs.2 b (Nat.ne_of_lt (Nat.lt_of_lt_of_le (Heap.lt_size e) I.ok.above))).trans e1⟩
  .by_cases hj:j=i
   .subst hj
    rw[hi]at e1;cases e1
    rw[getElem?_set_self a1]at e2
    cases e2
    exact⟨u,r,.inl ⟨Z,by simp⟩⟩
   .rw[getElem?_set_ne (Ne.symm hj)]at e2
    obtain⟨u',r',q⟩:=hl j y v' e1 e2 e3
    refine⟨u',r',?_⟩
    rcases q with⟨k,e⟩|⟨k,c,e,z⟩
    .refine .inl ⟨k,?_⟩
     have:y≠x:=fun e=>hj (zm1 hN e1 (e ▸ hi))
     simp[this,e]
    .exact .inr ⟨k,c,e,z.sameBut hs (cne y c e)⟩
  .obtain⟨w',z⟩:=I.cell y c e
   exact⟨w',z.sameBut hs (cne y c e)⟩
  .obtain⟨e,n,ne,nf,d⟩:=I.pin p hp
   exact⟨(hs.2 p.1 ne).trans e,n,ne,nf,d⟩
 .have hfn:X.fn x=true:=by
   rcases hf with z|z
   .exact z
   .rw[z]at Z;cases Z
  obtain⟨c,O⟩:=I.ok.has x (.inl Z)
  obtain⟨w',z⟩:=I.cell x c O
  refine wpAny_storeName_cell I.ok.kind Z O z (fun h' a5 hs=>?_)
  obtain⟨oc,a3,a2⟩:=id z
  refine h { s with heap:=h' } ⟨I.ok,I.os,I.bare,⟨fun b o e n hb U=>?_,fun b o e n hb U=>?_,I.base.free,fun b o e U=>?_,I.base.tups,I.base.frzs,I.base.tbls⟩,⟨m,hn.sameBut hs (Ne.symm (cne x c O)),fun j y v' e1 e2 e3=>?_⟩,fun y c' e=>?_,I.free,I.freeC,fun p hp=>?_,G ⟨oc,a3,I.freeC x c O⟩ hs,by simpa using I.len⟩ ⟨c,hs,.inr O⟩
  .exact(hs.2 b (Nat.ne_of_lt (Nat.lt_of_lt_of_le (Heap.lt_size e) (I.ok.cab x c hfn O)))).trans (I.base.keep b o e n hb U)
  .obtain⟨sl,e1⟩:=I.base.slot b o e n hb U
   exact⟨sl,(hs.2 b (Nat.ne_of_lt (Nat.lt_of_lt_of_le (Heap.lt_size e) (I.ok.cab x c hfn O)))).trans e1⟩
  .obtain⟨o',e1⟩:=I.base.there b o e U
   exact⟨o',(hs.2 b (Nat.ne_of_lt (Nat.lt_of_lt_of_le (Heap.lt_size e) (I.ok.cab x c hfn O)))).trans e1⟩
  .by_cases hj:j=i
   .subst hj
    rw[hi]at e1;cases e1
    rw[getElem?_set_self a1]at e2
    cases e2
    exact⟨u,r,.inr ⟨.inl Z,c,O,a5⟩⟩
   .rw[getElem?_set_ne (Ne.symm hj)]at e2
    obtain⟨u',r',q⟩:=hl j y v' e1 e2 e3
    refine⟨u',r',?_⟩
    rcases q with q|⟨k,c',e,z'⟩
    .exact .inl q
    .refine .inr ⟨k,c',e,z'.sameBut hs ?_⟩
     rintro rfl
     exact hj (zm1 hN e1 (I.ok.inj _ _ _ e O ▸ hi))
  .by_cases hcc:c'=c
   .subst hcc;exact⟨_,a5⟩
   .obtain⟨w2,z2⟩:=I.cell y c' e
    exact⟨w2,z2.sameBut hs hcc⟩
  .obtain⟨e,n,ne,nf,d⟩:=I.pin p hp
   refine⟨(hs.2 p.1 ?_).trans e,n,ne,nf,d⟩
   intro q
   rw[q,a3]at e
   have q':oc=p.2:=Option.some.inj e
   exact d w' (by rw[<-q'];exact a2)
theorem zo3 {M:Model}{A:Around}{E:Value->Shared->Prop}{i:Nat}{x:Str}{v:V}{u:Value}{Q:Unit->Shared->Prop}(I:Inv X pins σ H s)(G:X.N.Nodup)(hi:X.N[i]? =some x)(j:Loc X.env.scope x)(r:RelV v u)
  (h:∀ s',Inv X pins (σ.set i (some v)) H s'->Q () s') (z:X.fn x=true\/X.env.scope.names.lookup x=some .local:=by first|exact .inl rfl|exact .inr rfl|assumption):wpAny M A (storeName X.env x u) Q E s:=
 zy0 I G hi j r (fun s' O _=>h s' O) z
theorem Inv.call' {s':Shared}{ch:List Addr}(I:Inv X pins σ H s)(z:s'.os=s.os)(u:Un (frs X.stack) ch H H' s.heap s'.heap)(hok:HOk X.prog X.w H' s'.heap)(G:AllBare s'.gens)
  (j:∀ b∈ch,(b∈X.ex\/X.s₀.heap.objs.size<=b)/\b≠X.env.locals/\(∀ x c,X.env.cells.lookup x=some c->c≠b)/\∀ p∈X.pn++pins,p.1≠b):Inv X pins σ H' s':=by
 obtain⟨h',g',d',t',o'⟩:=s'
 have e:o'=s.os:=z
 subst e
 exact I.call (g':=g') (t':=t') (d':=d') u hok G j
end
noncomputable abbrev XK:=Value->Option Addr->Hp->Prop
noncomputable abbrev St:=List (Option V)
noncomputable abbrev VK:=V->Hp->Prop
noncomputable abbrev TE:=St->Hp->VK->Prop
noncomputable abbrev TT:=St->Hp->(Bool->Hp->Prop)->Prop
noncomputable abbrev TA:=St->Hp->(List V->Hp->Prop)->Prop
structure Ends where
 nx:St->Hp->Prop
 rt:VK
 bk:St->Hp->Prop:=fun _ _=>False
 ct:St->Hp->Prop:=fun _ _=>False
noncomputable abbrev TS:=Ends->St->Hp->Prop
def EP (X:Cx)(pins:List (Addr×Obj))(σ:St)(Q:VK)(u:Value)(s':Shared):Prop:=∃ v H',Inv X pins σ H' s'/\RelV v u/\Q v H'
def TP (X:Cx)(pins:List (Addr×Obj))(σ:St)(Q:Bool->Hp->Prop)(b:Bool)(s':Shared):Prop:=∃ H',Inv X pins σ H' s'/\Q b H'
def AP (X:Cx)(pins:List (Addr×Obj))(σ:St)(Q:List V->Hp->Prop)(us:List Value)(s':Shared):Prop:=∃ vs H',Inv X pins σ H' s'/\Vals vs us/\Q vs H'
def SP (X:Cx)(pins:List (Addr×Obj))(D:Ends)(f:Flow)(s':Shared):Prop:=
 match f with
 | .next=>∃ σ' H',Inv X pins σ' H' s'/\D.nx σ' H'
 | .brk=>∃ σ' H',Inv X pins σ' H' s'/\D.bk σ' H'
 | .cont=>∃ σ' H',Inv X pins σ' H' s'/\D.ct σ' H'
 | .ret u=>∃ v σ' H',Inv X pins σ' H' s'/\RelV v u/\D.rt v H'
def PE (X:Cx)(e:Expr)(t:TE):Prop:=
 ∀(pins:List (Addr×Obj))(s:Shared)(σ:St)(H:Hp)(Q:VK),Inv X pins σ H s->t σ H Q->wpAny (model X.prog X.w) X.A (eval e X.env) (EP X pins σ Q) X.xe s
def PT (X:Cx)(e:Expr)(t:TT):Prop:=
 ∀(pins:List (Addr×Obj))(s:Shared)(σ:St)(H:Hp)(Q:Bool->Hp->Prop),Inv X pins σ H s->t σ H Q->wpAny (model X.prog X.w) X.A (isTrue e X.env (eval e X.env)) (TP X pins σ Q) X.xe s
def PW (X:Cx)(e:Expr)(t:TT):Prop:=
 ∀(whole:Sem Value)(pins:List (Addr×Obj))(s:Shared)(σ:St)(H:Hp)(Q:Bool->Hp->Prop),Inv X pins σ H s->t σ H Q->wpAny (model X.prog X.w) X.A (isTrue e X.env whole) (TP X pins σ Q) X.xe s
theorem PW.pt {X:Cx}{e:Expr}{t:TT}(h:PW X e t):PT X e t:=h _
def PA (X:Cx)(es:List Expr)(t:TA):Prop:=
 ∀(pos:Pos)(pins:List (Addr×Obj))(s:Shared)(σ:St)(H:Hp)(Q:List V->Hp->Prop),Inv X pins σ H s->t σ H Q->wpAny (model X.prog X.w) X.A (spliced (backTo pos (starEach es X.env))) (AP X pins σ Q) X.xe s
def PS (X:Cx)(st:Stmt)(t:TS):Prop:=
 ∀(pins:List (Addr×Obj))(s:Shared)(σ:St)(H:Hp)(D:Ends),Inv X pins σ H s->t D σ H->wpAny (model X.prog X.w) X.A (exec st X.env) (SP X pins D) X.xe s
def PSs (X:Cx)(st:List Stmt)(t:TS):Prop:=
 ∀(pins:List (Addr×Obj))(s:Shared)(σ:St)(H:Hp)(D:Ends),Inv X pins σ H s->t D σ H->wpAny (model X.prog X.w) X.A (execs st X.env) (SP X pins D) X.xe s
theorem thn {α:Type}{t:Sem α}{Q j:α->Shared->Prop}{M:Model}{A:Around}{E:Value->Shared->Prop}{s:Shared}(h:wpAny M A t Q E s)(z:∀ a s,Q a s->j a s):wpAny M A t j E s:=wpAny_mono h z fun _ _ x=>x
end
section
section
variable {X:Cx}
def tVar (i:Nat):TE:=fun σ H Q=>∃ v,σ[i]? =some (some v)/\Q v H
def tC (v:V):TE:=fun _ H Q=>Q v H
theorem xw9 {i:Nat}{x:Str}{pos:Pos}(Y:X.N[i]? =some x)(hv:Vis X.env.scope x)(hd:(x==("__debug__":Str))=false:=by decide)(G:(x==("__classdict__":Str))=false:=by decide):PE X (.Name x pos) (tVar i):=by
 intro pins s σ H Q I h
 obtain⟨v,e,h⟩:=h
 obtain⟨m,hn,U⟩:=I.loc
 obtain⟨u,r,l⟩:=U i x v Y e hv
 have fin:EP X pins σ Q u s:=⟨v,H,I,r,h⟩
 rcases l with⟨z,hm⟩|⟨z,c,O,j⟩
 .exact wpAny_Name (wpAny_loadName_local I.ok.kind z hn hm fin) hd
 .rcases z with z|z
  .exact wpAny_Name (wpAny_loadName_cell I.ok.kind z O j fin) hd
  .exact wpAny_Name (wpAny_loadName_free I.ok.kind z O j fin G) hd
theorem pe_int {i j pos}:PE X (.Constant (.int i) j pos) (tC (.int i)):=fun _ _ _ H _ I h=>wpAny_Constant_int ⟨.int i,H,I.tok _,⟨_,rfl⟩,h⟩
theorem pe_bl {b j pos}:PE X (.Constant (.bool b) j pos) (tC (.bl b)):=fun _ _ _ H _ I h=>Constant_bool ⟨.bl b,H,I,rfl,h⟩
def Gl (X:Cx)(x:Str):Prop:=X.env.kindOf x=some .globalImplicit
theorem yx2 {E:Value->Shared->Prop}{pins:List (Addr×Obj)}{s:Shared}{σ:St}{H:Hp}{x:Str}{u:Value}{pos:Pos}{Q:Value->Shared->Prop}(I:Inv X pins σ H s)(j:Gl X x)(hm:X.mg x=some u)(h:Q u s)
  (hd:(x==("__debug__":Str))=false:=by decide):wpAny (model X.prog X.w) X.A (eval (.Name x pos) X.env) Q E s:=
 Calls.Name_function_global I.ok.kind j (Calls.loadGlobal_global (by rw[I.ok.glob];exact I.mod.glob.keeps I.bk) hm h) hd
theorem W6 {E:Value->Shared->Prop}{pins:List (Addr×Obj)}{s:Shared}{σ:St}{H:Hp}{x:Str}{u:Value}{pos:Pos}{Q:Value->Shared->Prop}(I:Inv X pins σ H s)(j:Gl X x)(hm:X.mg x=none)(hv:bootBuiltins x=some u)(h:Q u s)
  (hn:x≠"__name__":=by decide) (hd:(x==("__debug__":Str))=false:=by decide):wpAny (model X.prog X.w) X.A (eval (.Name x pos) X.env) Q E s:=by
 obtain⟨mb,h1,h2⟩:=I.mod.blt
 exact Calls.Name_function_global I.ok.kind j (Calls.loadGlobal_builtin (by rw[I.ok.glob];exact I.mod.glob.keeps I.bk) hm (by rw[I.ok.blt];exact h1.keeps I.bk) ((h2 x hn).trans hv) h) hd
theorem zb6 {x:Str}{v:V}{u:Value}{pos:Pos}(j:Gl X x)(hm:X.mg x=some u)(r:RelV v u)(hd:(x==("__debug__":Str))=false:=by decide):PE X (.Name x pos) (tC v):=
 fun _ _ _ H _ I h=>yx2 I j hm ⟨v,H,I,r,h⟩ hd
theorem yf9 {x:Str}{v:V}{u:Value}{pos:Pos}(j:Gl X x)(hm:X.mg x=none)(hv:bootBuiltins x=some u)(r:RelV v u)(hn:x≠"__name__":=by decide)(hd:(x==("__debug__":Str))=false:=by decide):PE X (.Name x pos) (tC v):=
 fun _ _ _ H _ I h=>W6 I j hm hv ⟨v,H,I,r,h⟩ hn hd
variable {a b:Expr}{ta tb:TE}{pos:Pos}
def tB (t:TE):TT:=fun σ H Q=>t σ H fun x H1=>∃ c,x= .bl c/\Q c H1
variable {tA tB':TT}{rest:List Expr}
def tAnd (t u:TT):TT:=fun σ H Q=>t σ H fun c H1=>if c=true then u σ H1 Q else Q false H1
def tOr (t u:TT):TT:=fun σ H Q=>t σ H fun c H1=>if c=true then Q true H1 else u σ H1 Q
def tNot (t:TT):TT:=fun σ H Q=>t σ H fun c H1=>Q (!c) H1
theorem zd8 (ha:PT X a tA):PW X (.BoolOp .And [a] pos) tA:=by
 intro j pins s σ H Q I h
 refine isTrue_and (thn (ha pins s σ H Q I h) fun c s1 e=>?_)
 cases c with
 |true=>exact isTrue_and_nil e
 |false=>exact e
theorem xw2 (ha:PT X a tA):PW X (.BoolOp .Or [a] pos) tA:=by
 intro j pins s σ H Q I h
 refine isTrue_or (thn (ha pins s σ H Q I h) fun c s1 e=>?_)
 cases c with
 |false=>exact isTrue_or_nil e
 |true=>exact e
theorem yk5 (ha:PT X a tA)(O:PW X (.BoolOp .And (b::rest) pos) tB'):PW X (.BoolOp .And (a::b::rest) pos) (tAnd tA tB'):=by
 intro N pins s σ H Q I h
 refine isTrue_and (thn (ha pins s σ H _ I h) fun c s1 j=>?_)
 obtain⟨H1,G,z⟩:=j
 cases c with
 |true=>exact O N pins s1 σ H1 Q G z
 |false=>exact⟨H1,G,z⟩
theorem xn9 (ha:PT X a tA)(O:PW X (.BoolOp .Or (b::rest) pos) tB'):PW X (.BoolOp .Or (a::b::rest) pos) (tOr tA tB'):=by
 intro N pins s σ H Q I h
 refine isTrue_or (thn (ha pins s σ H _ I h) fun c s1 j=>?_)
 obtain⟨H1,G,z⟩:=j
 cases c with
 |true=>exact⟨H1,G,z⟩
 |false=>exact O N pins s1 σ H1 Q G z
theorem yk6 (ha:PT X a tA):PT X (.UnaryOp .Not a pos) (tNot tA):=by
 intro pins s σ H Q I h
 exact isTrue_not (ha pins s σ H (fun c H1=>Q (!c) H1) I h)
def xo7 (ta tb:TE):TE:=fun σ H Q=>ta σ H fun x H1=>∃ c,x= .bl c/\if c=true then tb σ H1 Q else Q (.bl false) H1
theorem xv1 {op}{t:TE}(h:PE X a t):PE X (.BoolOp op [a] pos) t:=fun pins s σ H Q I hw=>BoolOp_one (h pins s σ H Q I hw)
theorem xv2 (ha:PE X a ta)(N:PE X (.BoolOp .And (b::rest) pos) tb):PE X (.BoolOp .And (a::b::rest) pos) (xo7 ta tb):=by
 intro pins s σ H Q I h
 refine BoolOp_and (thn (ha pins s σ H _ I h) fun v s1 j=>?_)
 obtain⟨x,H1,G,r1,z⟩:=j
 obtain⟨c,rfl,z⟩:=z
 cases r1
 refine wpAny_truthy_bool ?_
 cases c with
 |true=>exact N pins s1 σ H1 Q G z
 |false=>exact⟨.bl false,H1,G,rfl,z⟩
end
end
section
def SqL (K:W.Frag)(H:Hp)(a:Addr)(xs:List V):Prop:=
 Rd H a (.lst xs)\/
  ∃(o:Obj)(its:Array Value)(n:Nat),K.lookup a=some o/\o.cls= .type "list"/\o.dict=none/\o.data= .seq its n/\its.size<=sizeLine/\Vals xs its.toList
def SqT (K:W.Frag)(H:Hp)(a:Addr)(xs:List V):Prop:=
 Rd H a (.tup xs)\/
  ∃(o:Obj)(its:Array Value)(n:Nat),K.lookup a=some o/\o.cls= .type "tuple"/\o.data= .seq its n/\its.size<=sizeLine/\Vals xs its.toList
noncomputable def absV:Value->Option V
 | .none=>some .non
 | .bool b=>some (.bl b)
 | .int i _=>some (.int i)
 | .str x _=>some (.str x)
 | .bytes b _=>some (.byt b)
 | .float b _=>some (.flt b)
 | .ref a=>some (.ref a)
 | .type n=>some (.ty n)
 |_=>none
theorem RelV.abs {x:V}{u:Value}(r:RelV x u):absV u=some x:=by
 cases x with
 |non=>cases r;rfl
 |bl _=>cases r;rfl
 |int _=>obtain⟨t,rfl⟩:=r;rfl
 |str _=>obtain⟨t,rfl⟩:=r;rfl
 |byt _=>obtain⟨t,rfl⟩:=r;rfl
 |flt _=>obtain⟨t,rfl⟩:=r;rfl
 |ref _=>cases r;rfl
 |ty _=>cases r;rfl
theorem RelV.inj {x y:V}{u:Value}(r:RelV x u)(q:RelV y u):x=y:=Option.some.inj (r.abs.symm.trans q.abs)
theorem Vals.inj:∀{xs ys:List V}{us:List Value},Vals xs us->Vals ys us->xs=ys
 |_,_,_,.nil,.nil=>rfl
 |_,_,_,.cons r t,.cons r' t'=>by rw[r.inj r',Vals.inj t t']
section
variable {X:Cx}{pins:List (Addr×Obj)}{σ:St}{H:Hp}{s:Shared}{a:Addr}{xs ys:List V}
theorem SqL.of {K:W.Frag}(h:H a=some (.lst xs)):SqL K H a xs:=.inl (.inl h)
theorem SqT.of {K:W.Frag}(h:H a=some (.tup xs)):SqT K H a xs:=.inl (.inl h)
theorem Inv.list (I:Inv X pins σ H s)(h:SqL X.K H a xs):∃ its:List Value,Vals xs its/\PlainL s.heap a its.toArray/\xs.length<=sizeLine:=by
 rcases h with h|⟨o,its,n,j,G,hd,hs,N,r⟩
 .obtain⟨z,its,n,r,e⟩:=h.ok I.hok
  exact⟨its,r,⟨_,n,e,rfl,rfl,rfl⟩,z⟩
 .refine⟨its.toList,r,⟨o,n,I.kIn a o j,G,hd,by simpa using hs⟩,?_⟩
  have e:=r.length
  simp only[Array.length_toList]at e
  omega
theorem Inv.tuple (I:Inv X pins σ H s)(h:SqT X.K H a xs):∃ its:List Value,Vals xs its/\IsTup s.heap a its.toArray/\xs.length<=sizeLine:=by
 rcases h with h|⟨o,its,n,j,G,hs,N,r⟩
 .obtain⟨z,its,r,p⟩:=h.ok I.hok
  exact⟨its,r,p,z⟩
 .refine⟨its.toList,r,⟨o,I.kIn a o j,G,n,by simpa using hs⟩,?_⟩
  have e:=r.length
  simp only[Array.length_toList]at e
  omega
theorem Inv.list_inj (I:Inv X pins σ H s)(h:SqL X.K H a xs)(h':SqL X.K H a ys):xs=ys:=by
 obtain⟨its,r,⟨o,n,e,_,_,d⟩,_⟩:=I.list h
 obtain⟨its',z,⟨o',n',j,_,_,d'⟩,_⟩:=I.list h'
 rw[e]at j;cases j
 rw[d]at d'
 injection d' with G _
 have:its=its':=by simpa using congrArg Array.toList G
 subst this
 exact r.inj z
theorem Inv.tuple_inj (I:Inv X pins σ H s)(h:SqT X.K H a xs)(h':SqT X.K H a ys):xs=ys:=by
 obtain⟨its,r,⟨o,e,_,n,d⟩,_⟩:=I.tuple h
 obtain⟨its',z,⟨o',j,_,n',d'⟩,_⟩:=I.tuple h'
 rw[e]at j;cases j
 rw[d]at d'
 injection d' with G _
 have:its=its':=by simpa using congrArg Array.toList G
 subst this
 exact r.inj z
end
noncomputable abbrev Cx.wish (X:Cx)(E:Value->Shared->Prop):Cx:={ X with xe:=E }
noncomputable abbrev Cx.nox (X:Cx):Cx:=X.wish fun _ _=>False
theorem Cx.Ok.wish {X:Cx}(ok:X.Ok)(E:Value->Shared->Prop):(X.wish E).Ok:=
 ⟨ok.mod,ok.kind,ok.glob,ok.blt,ok.above,ok.inj,ok.has,ok.cab,ok.hd,ok.frames,ok.stk,ok.exf,ok.bs,ok.bsz,ok.noex,ok.exfs,ok.funs,ok.frf⟩
theorem Cx.Ok.unwish {X:Cx}{E:Value->Shared->Prop}(ok:(X.wish E).Ok):X.Ok:=
 ⟨ok.mod,ok.kind,ok.glob,ok.blt,ok.above,ok.inj,ok.has,ok.cab,ok.hd,ok.frames,ok.stk,ok.exf,ok.bs,ok.bsz,ok.noex,ok.exfs,ok.funs,ok.frf⟩
section
variable {X:Cx}{pins:List (Addr×Obj)}{σ:St}{H:Hp}{s:Shared}{E:Value->Shared->Prop}
theorem Inv.wish (I:Inv X pins σ H s)(E:Value->Shared->Prop):Inv (X.wish E) pins σ H s:=⟨I.ok.wish E,I.os,I.bare,I.base,I.loc,I.cell,I.free,I.freeC,I.pin,I.hok,I.len⟩
theorem Inv.unwish (I:Inv (X.wish E) pins σ H s):Inv X pins σ H s:=⟨I.ok.unwish,I.os,I.bare,I.base,I.loc,I.cell,I.free,I.freeC,I.pin,I.hok,I.len⟩
theorem SP.unwish {D:Ends}{f:Flow}{s':Shared}(h:SP (X.wish E) pins D f s'):SP X pins D f s':=by
 cases f with
 |next=>obtain⟨j,H',I,q⟩:=h;exact⟨j,H',I.unwish,q⟩
 |brk=>obtain⟨j,H',I,q⟩:=h;exact⟨j,H',I.unwish,q⟩
 |cont=>obtain⟨j,H',I,q⟩:=h;exact⟨j,H',I.unwish,q⟩
 |ret u=>obtain⟨v,j,H',I,r,q⟩:=h;exact⟨v,j,H',I.unwish,r,q⟩
theorem PSs.nox {st:List Stmt}{t:TS}(h:PSs X.nox st t):PSs X st t:=fun pins s σ H D I hw=>
 wpAny_mono (h pins s σ H D (I.wish _) hw) (fun _ _ q=>q.unwish) fun _ _ z=>False.elim z
end
section
variable {X:Cx}{st:Stmt}{rest:List Stmt}{t u:TS}{e:Expr}{te:TE}{pos:Pos}
def xo4:TS:=fun D σ H=>D.nx σ H
def tSeq (t u:TS):TS:=fun D σ H=>t { D with nx:=u D } σ H
theorem pss_nil:PSs X [] xo4:=fun _ _ σ H _ I h=>wpAny_execs_nil ⟨σ,H,I,h⟩
theorem M4 (h1:PS X st t)(h2:PSs X rest u):PSs X (st::rest) (tSeq t u):=by
 intro pins s σ H D I h
 refine wpAny_execs_cons (thn (h1 pins s σ H { D with nx:=u D } I h) fun f s1 q=>?_)
 cases f with
 |next=>
  obtain⟨j,H',z,q⟩:=q
  exact h2 pins s1 j H' D z q
 |ret v=>exact q
 |brk=>exact q
 |cont=>exact q
theorem D9 (h1:PS X st t):PSs X [st] t:=by
 intro pins s σ H D I h
 refine wpAny_execs_cons (thn (h1 pins s σ H D I h) fun f s1 q=>?_)
 cases f with
 |next=>exact wpAny_execs_nil q
 |ret v=>exact q
 |brk=>exact q
 |cont=>exact q
theorem Inv.quiet {pins:List (Addr×Obj)}{σ:St}{H:Hp}{s:Shared}(I:Inv X pins σ H s):interactive X.env=false:=by simp[interactive,I.ok.kind]
def xo6 (te:TE):TS:=fun D σ H=>te σ H fun _ H1=>D.nx σ H1
theorem zc4 (z:PE X e te)(hs:swapsWith e none pos.line X.env=pure false:=by rfl):PS X (.Expr e pos) (xo6 te):=by
 intro pins s σ H D I h
 exact wpAny_Expr_any (thn (z pins s σ H _ I h) fun v s1 ⟨x,H1,G,r1,j⟩=>⟨σ,H1,G,j⟩) I.quiet hs
def tRet (te:TE):TS:=fun D σ H=>te σ H D.rt
theorem F9 (z:PE X e te):PS X (.Return (some e) pos) (tRet te):=by
 intro pins s σ H D I h
 exact wpAny_Return_some (thn (z pins s σ H _ I h) fun v s1 ⟨x,H1,G,r1,j⟩=>⟨x,σ,H1,G,r1,j⟩)
def tIfS (c:TT)(t u:TS):TS:=fun D σ H=>c σ H fun b H1=>if b=true then t D σ H1 else u D σ H1
theorem yq2 {c:Expr}{a b:List Stmt}{tc:TT}(N:PT X c tc)(ha:PSs X a t)(O:PSs X b u):PS X (.If c a b pos) (tIfS tc t u):=by
 intro pins s σ H D I h
 refine wpAny_If (thn (N pins s σ H _ I h) fun d s1 j=>?_)
 obtain⟨H1,G,z⟩:=j
 cases d with
 |true=>exact ha pins s1 σ H1 D G z
 |false=>exact O pins s1 σ H1 D G z
def xy5:TS:=fun _ _ _=>False
theorem ps_never:PS X st xy5:=fun _ _ _ _ _ _ h=>h.elim
end
noncomputable abbrev TG:=V->St->Hp->(St->Hp->Prop)->Prop
noncomputable abbrev TGs:=List V->St->Hp->(St->Hp->Prop)->Prop
def PG (X:Cx)(target:Expr)(t:TG):Prop:=
 ∀(pins:List (Addr×Obj))(s:Shared)(σ:St)(H:Hp)(v:V)(u:Value)(Q:St->Hp->Prop),Inv X pins σ H s->RelV v u->t v σ H Q->
  wpAny (model X.prog X.w) X.A (assign target X.env u) (fun _ s'=>∃ σ' H',Inv X pins σ' H' s'/\Q σ' H') X.xe s
def PGs (X:Cx)(ts:List Expr)(t:TGs):Prop:=
 ∀(pins:List (Addr×Obj))(s:Shared)(σ:St)(H:Hp)(vs:List V)(us:List Value)(Q:St->Hp->Prop),Inv X pins σ H s->Vals vs us->t vs σ H Q->
  wpAny (model X.prog X.w) X.A (assignInOrder ((assignEach ts X.env).map (·.2)) us) (fun _ s'=>∃ σ' H',Inv X pins σ' H' s'/\Q σ' H') X.xe s
noncomputable abbrev TSet:=V->V->V->Hp->(Hp->Prop)->Prop
def PSet (X:Cx)(t:TSet):Prop:=
 ∀(pins:List (Addr×Obj))(s:Shared)(σ:St)(H:Hp)(o i v:V)(ov iv u:Value)(Q:Hp->Prop),Inv X pins σ H s->RelV o ov->RelV i iv->RelV v u->t o i v H Q->
  wpAny (model X.prog X.w) X.A (setItem ov iv u) (fun _ s'=>∃ H',Inv X pins σ H' s'/\Q H') X.xe s
section
variable {X:Cx}{pos:Pos}
def Y2 (i:Nat):TG:=fun v σ H Q=>Q (σ.set i (some v)) H
theorem x8 {i:Nat}{x:Str}(G:X.N.Nodup)(hi:X.N[i]? =some x)(j:Loc X.env.scope x)(z:X.fn x=true\/X.env.scope.names.lookup x=some .local:=by first|exact .inl rfl|exact .inr rfl|assumption):PG X (.Name x pos) (Y2 i):=by
 intro pins s σ H v u Q I r h
 exact wpAny_assign_Name (zo3 I G hi j r (fun s' O=>⟨_,H,O,h⟩) z)
def gNil:TGs:=fun vs σ H Q=>vs=[]/\Q σ H
def yn3 (t:TG)(u:TGs):TGs:=fun vs σ H Q=>∃ v r,vs=v::r/\t v σ H fun σ' H'=>u r σ' H' Q
theorem V2:PGs X [] gNil:=by
 intro pins s σ H vs us Q I r h
 obtain⟨e,h⟩:=h
 subst e
 cases r
 exact assignInOrder_nil ⟨σ,H,I,h⟩
theorem t4 {e:Expr}{es:List Expr}{t:TG}{u:TGs}(h1:PG X e t)(h2:PGs X es u)
  (hs:(assignEach (e::es) X.env).map (·.2)=assign e X.env::(assignEach es X.env).map (·.2):=by rfl):PGs X (e::es) (yn3 t u):=by
 intro pins s σ H vs us Q I r h
 obtain⟨v,vr,e1,h⟩:=h
 subst e1
 cases r with
 |cons r rr=>
  rw[hs]
  refine assignInOrder_cons (thn (h1 pins s σ H _ _ _ I r h) fun _ s1 j=>?_)
  obtain⟨z,H1,N,G⟩:=j
  exact h2 pins s1 z H1 _ _ Q N rr G
def gTup (K:W.Frag)(n:Nat)(t:TGs):TG:=fun v σ H Q=>∃ a xs,v= .ref a/\SqT K H a xs/\xs.length=n/\t xs σ H Q
theorem O5 {es:List Expr}{k:Nat}{t:TGs}{n:Nat}(Y:X.calm=true)(h:PGs X es t)
  (hn:(assignEach es X.env).length=n:=by rfl) (j:(assignEach es X.env).findIdx? (·.1)=none:=by rfl):PG X (.Tuple es k pos) (gTup X.K n t):=by
 intro pins s σ H v u Q I r hw
 obtain⟨a,xs,e1,O,U,hw⟩:=hw
 subst e1
 cases r
 obtain⟨its,z,N,hz⟩:=I.tuple O
 refine assign_Tuple_tuple (I.ok.hd Y) N (by simp[hn,<-U,z.length]) j fun h' G=>?_
 have Z:Inv X pins σ H { s with heap:=h' }:=I.kept (t':=s.toks) fun b o e=>G b o (Nat.ne_of_lt (Heap.lt_size e)) e
 exact h pins _ σ H xs _ Q Z (by simpa using z) hw
def gSub (to ti:TE)(t:TSet):TG:=fun v σ H Q=>to σ H fun o H1=>ti σ H1 fun i H2=>t o i v H2 fun H3=>Q σ H3
theorem L9 {o i:Expr}{to N:TE}{t:TSet}(Z:PE X o to)(hi:PE X i N)(hs:PSet X t)
  (ha:∀ v,assign (.Subscript o i pos) X.env v=(do
   let z ← holding [v] (eval o X.env)
   let G ← holding [v,z] (eval i X.env)
   standAt pos
   holding [v,z,G] (setItem z G v)
   release [v,z,G] []):=by intro _;rfl):PG X (.Subscript o i pos) (gSub to N t):=by
 intro pins s σ H v u Q I r h
 rw[ha]
 refine wpAny_bind (wpAny_holding (thn (Z pins s σ H _ I h) fun z s1 j=>?_))
 obtain⟨x,H1,I1,r1,Y⟩:=j
 refine wpAny_bind (wpAny_holding (thn (hi pins s1 σ H1 _ I1 Y) fun G s2 j=>?_))
 obtain⟨y,H2,I2,r2,U⟩:=j
 refine wpAny_bind (wpAny_standAt (wpAny_bind (wpAny_holding (thn (hs pins s2 σ H2 x y v z G u _ I2 r1 r2 r U) fun _ s3 j=>?_))))
 obtain⟨H3,I3,O⟩:=j
 exact wpAny_release ⟨σ,H3,I3,O⟩
def tAsg (te:TE)(g:TG):TS:=fun D σ H=>te σ H fun x H1=>g x σ H1 D.nx
theorem T5 {tg e:Expr}{te:TE}{g:TG}(N:PE X e te)(G:PG X tg g)(hs:swapsWithSole [tg] e pos.line X.env=pure false:=by rfl)(hw:swappedStores [tg] e X.env=pure none:=by rfl)
  (h1:(assignEach [tg] X.env).map (·.2)=[assign tg X.env]:=by rfl):PS X (.Assign [tg] e pos) (tAsg te g):=by
 intro pins s σ H D I h
 refine wpAny_Assign_stores (thn (N pins s σ H _ I h) fun v s1 j=>?_) hs hw
 obtain⟨x,H1,O,r1,z⟩:=j
 rw[h1]
 exact thn (G pins s1 σ H1 x v _ O r1 z) fun _ s2 q=>q
theorem zo9 {i:Nat}{x:Str}{e:Expr}{te:TE}{pos':Pos}(Y:X.N.Nodup)(hi:X.N[i]? =some x)(G:Loc X.env.scope x)(U:PE X e te)(hs:swapsWith e (some (.Name x pos')) pos.line X.env=pure false:=by rfl)(O:X.fn x=true\/X.env.scope.names.lookup x=some .local:=by first|exact .inl rfl|exact .inr rfl|assumption):
  PS X (.Assign [.Name x pos'] e pos) (tAsg te (Y2 i)):=by
 intro pins s σ H D I h
 refine wpAny_Assign_Name (thn (U pins s σ H _ I h) fun v s1 j=>?_) hs
 obtain⟨y,H1,I1,r1,z⟩:=j
 exact zo3 I1 Y hi G r1 (fun s2 Z=>⟨_,H1,Z,z⟩) O
end
section
variable {X:Cx}{pos:Pos}
end
structure It where
 go:Nat->Hp->Prop
 yld:Nat->Hp->V->Hp->Prop
 stop:Nat->Hp->Prop
def FpOk (X:Cx)(pins:List (Addr×Obj))(H:Hp)(b:Addr):Prop:=
 H b=none/\b≠X.env.locals/\b∉X.fs/\(b∈X.ex\/X.s₀.heap.objs.size<=b)/\(∀ x c,X.env.cells.lookup x=some c->c≠b)/\∀ p∈X.pn++pins,p.1≠b
theorem Inv.fpOk {X:Cx}{pins:List (Addr×Obj)}{σ:St}{H H':Hp}{s:Shared}{b:Addr}(I:Inv X pins σ H s)(j:s.heap.objs.size<=b)(hn:H' b=none):FpOk X pins H' b:=by
 refine⟨hn,Nat.ne_of_gt (Nat.lt_of_lt_of_le I.lt j),I.nofs j,.inr (Nat.le_trans I.sz j),fun x c e z=>?_,fun p hp z=>?_⟩
 .obtain⟨v,q⟩:=I.cell x c e
  exact absurd (Nat.lt_of_lt_of_le q.lt (by rw[z];exact j)) (Nat.lt_irrefl _)
 .exact absurd (Nat.lt_of_lt_of_le (Heap.lt_size (I.pin p hp).1) (by rw[z];exact j)) (Nat.lt_irrefl _)
structure TurnC (cx:Cx->Prop)(P:Program)(w:World)(K:W.Frag)(tg:Expr)(J:It)(fp:List Addr)(it:Addr)(tn:Nat->Heap->Prop):Prop where
 mem:it∈fp
 obj:∀ i h,tn i h->∀ b∈fp,∃ o,h.get? b=some o/\∀ v,o.data≠ .cell v
 keep:∀ i h h',tn i h->(∀ b∈fp,∀ o,h.get? b=some o->h'.get? b=some o)->tn i h'
 item:∀(X:Cx),X.prog=P->X.w=w->X.K=K->cx X->∀(i:Nat)(pins:List (Addr×Obj))(s:Shared)(σ:St)(H:Hp)(E:Value->Shared->Prop),Inv X pins σ H s->(∀ b∈fp,FpOk X pins H b)->tn i s.heap->J.go i H->
  wpAny (model P w) X.A (pyNext (.ref it)) (fun r s1=>∃ u,r=some u/\
   wpAny (model P w) X.A (letOwnedTupleGo tg (.ref it) u) (fun _ s2=>∃ x H',Inv X pins σ H' s2/\RelV x u/\J.yld i H x H'/\tn (i+1) s2.heap/\∀ b∈fp,H' b=none) E s1) E s
 done:∀(X:Cx),X.prog=P->X.w=w->X.K=K->cx X->∀(i:Nat)(pins:List (Addr×Obj))(s:Shared)(σ:St)(H:Hp)(E:Value->Shared->Prop),Inv X pins σ H s->(∀ b∈fp,FpOk X pins H b)->tn i s.heap->J.stop i H->
  wpAny (model P w) X.A (pyNext (.ref it)) (fun r s1=>r=none/\Inv X pins σ H s1) E s
 self:∀(A:Around)(i:Nat)(s:Shared)(Q:Value->Shared->Prop)(E:Value->Shared->Prop),tn i s.heap->Q (.ref it) s->wpAny (model P w) A (pyIter (.ref it)) Q E s
abbrev Turn (P:Program)(w:World)(K:W.Frag)(tg:Expr)(J:It)(fp:List Addr)(it:Addr)(tn:Nat->Heap->Prop):Prop:=TurnC (fun X=>X.calm=true) P w K tg J fp it tn
noncomputable abbrev TI:=St->Hp->(It->Hp->Prop)->Prop
def PIE (X:Cx)(pins:List (Addr×Obj))(σ:St)(tg:Expr)(R:It->Hp->Prop)(itv:Value)(s2:Shared):Prop:=
 ∃(it:Addr)(fp:List Addr)(tn:Nat->Heap->Prop)(J:It)(H':Hp),itv= .ref it/\Inv X pins σ H' s2/\Turn X.prog X.w X.K tg J fp it tn/\tn 0 s2.heap/\(∀ b∈fp,FpOk X pins H' b)/\R J H'
def PI (X:Cx)(tg iter:Expr)(wi:TI):Prop:=
 ∀(pins:List (Addr×Obj))(s:Shared)(σ:St)(H:Hp)(R:It->Hp->Prop),Inv X pins σ H s->wi σ H R->
  wpAny (model X.prog X.w) X.A (eval iter X.env) (fun v s1=>wpAny (model X.prog X.w) X.A (pyIter v) (PIE X pins σ tg R) X.xe s1) X.xe s
theorem yc6 {M:Model}{A:Around}{E:Value->Shared->Prop}{s:Shared}{tg:Expr}{it:Addr}{u:Value}{o:Obj}{n:String}{vs:Array Value}{Q:Unit->Shared->Prop}(z:s.heap.get? it=some o)(G:o.cls= .type n)(hd:o.data= .fields vs)
  (hn:["enumerate","zip","dict_itemiterator","dict_reverseitemiterator","odict_iterator","itertools.zip_longest","itertools.pairwise"].contains n=false) (j:Q () s):wpAny M A (letOwnedTupleGo tg (.ref it) u) Q E s:=by
 unfold letOwnedTupleGo
 cases tg <;> first
  |exact wpAny_pure j
  | (cases u <;> first
    |exact wpAny_pure j
    | (refine wpAny_bind (wpAny_load z ?_)
       rw[G,hd]
       show wpAny M A (if (["enumerate","zip","dict_itemiterator","dict_reverseitemiterator","odict_iterator","itertools.zip_longest","itertools.pairwise"].contains n&&vs[0]? ==some (rawInt _))=true then _ else _) Q E s
       rw[if_neg (by intro h;rw[hn,Bool.false_and]at h;cases h)]
       exact wpAny_pure j))
noncomputable def Itl (K:W.Frag)(a:Addr):It:=
 ⟨fun i H=>∃ xs x,SqL K H a xs/\xs[i]? =some x,fun i H x H'=>H'=H/\∀ xs,SqL K H a xs->xs[i]? =some x,fun i H=>∃ xs,SqL K H a xs/\xs.length<=i⟩
noncomputable def Itr (lo:Int)(n:Nat):It:=⟨fun i _=>i<n,fun i H x H'=>H'=H/\x= .int (lo+i),fun i _=>n<=i⟩
theorem ze4 {P:Program}{w:World}{K:W.Frag}{tg:Expr}(a it:Addr):Turn P w K tg (Itl K a) [it] it (fun i h=>h.IsListIter it a i) where
 mem:=by simp
 obj:=fun i h st b j=>by
  have e:b=it:=by simpa using j
  subst e
  obtain⟨o,e,c,d⟩:=st
  exact⟨o,e,fun v z=>by rw[d]at z;cases z⟩
 keep:=fun i h h' st k=>st.at fun o e=>k it (by simp) o e
 item:=by
  intro X hP hw hK hc i pins s σ H E I O st Z
  subst hP hw hK
  obtain⟨xs,x,N,Y⟩:=Z
  obtain⟨its,U,p,hz⟩:=I.list N
  obtain⟨u,hu,ru⟩:=U.get Y
  obtain⟨f0,f1,f2,f3,f4,f5⟩:=O it (by simp)
  refine wpAny_pyNext_list_item st p.isList (x:=u) (by simpa using hu) fun h' G sb=>?_
  have I1:Inv X pins σ H { s with heap:=h' }:=I.turned (t':=s.toks) (fun b o j e=>(sb.2 b j).trans e) f0 f1 f3 f4 f5
  obtain⟨o,e,c,d⟩:=id G
  exact⟨u,rfl,yc6 (s:={ s with heap:=h' }) e c d (by decide) ⟨x,H,I1,ru,⟨rfl,fun ys hy=>by rw[I.list_inj hy N];exact Y⟩,G,fun b j=>(O b j).1⟩⟩
 done:=by
  intro X hP hw hK hc i pins s σ H E I O st Z
  subst hP hw hK
  obtain⟨xs,N,Y⟩:=Z
  obtain⟨its,U,p,hz⟩:=I.list N
  obtain⟨f0,f1,f2,f3,f4,f5⟩:=O it (by simp)
  have hl:=U.length
  exact wpAny_pyNext_list_end (I.ok.hd hc) st p.isList (by simp;omega) fun h' eb=>⟨rfl,I.turned (t':=s.toks) (fun b o j e=>eb b o j e) f0 f1 f3 f4 f5⟩
 self:=fun _ _ _ _ _ st h=>wpAny_pyIter_listiter st h
theorem zh1 {P:Program}{w:World}{K:PySem.W.Frag}{tg:Expr}(it:Addr)(lo:Int)(n:Nat):Turn P w K tg (Itr lo n) [it] it (fun i h=>IsRangeIter h it (lo+(i:Nat)*1) ((n:Int)-(i:Nat)) 1) where
 mem:=by simp
 obj:=fun i h st b j=>by
  have e:b=it:=by simpa using j
  subst e
  exact⟨_,st,fun v z=>by
   have z':Data.fields _=Data.cell v:=z
   cases z'⟩
 keep:=fun i h h' st k=>k it (by simp) _ st
 item:=by
  intro X Y hw Z U i pins s σ H E I N st O
  subst Y hw Z
  obtain⟨f0,f1,f2,f3,f4,f5⟩:=N it (by simp)
  have W:=Walks.range (prog:=X.prog) (w:=X.w) (I.ok.hd U) it lo 1 n
  refine W.item i s _ _ O st fun v h' tk hv G kk=>?_
  obtain⟨t,rfl⟩:=hv
  have I1:Inv X pins σ H { s with heap:=h',toks:=tk }:=I.turned (fun b o j e=>kk b o (by simpa using j) e) f0 f1 f3 f4 f5
  refine⟨_,rfl,yc6 (s:={ s with heap:=h',toks:=tk }) (n:="range_iterator") G rfl rfl (by decide) ⟨.int (lo+i),H,I1,⟨t,?_⟩,⟨rfl,rfl⟩,G,fun b j=>(N b j).1⟩⟩
  rw[Int.mul_one]
 done:=by
  intro X Y hw Z U i pins s σ H E I N st O
  subst Y hw Z
  obtain⟨f0,f1,f2,f3,f4,f5⟩:=N it (by simp)
  exact wpAny_pyNext_range_end (I.ok.hd U) st (by have:n<=i:=O;omega) fun h' eb=>⟨rfl,I.turned (t':=s.toks) (fun b o j e=>eb b o j e) f0 f1 f3 f4 f5⟩
 self:=fun _ _ _ _ _ st h=>wpAny_pyIter_rangeiter st h
end
section
section
variable {X:Cx}{tg:Expr}
def xj1 (K:W.Frag)(tl:TE):TI:=fun σ H R=>tl σ H fun x H1=>∃ a,x= .ref a/\(∃ xs,SqL K H1 a xs)/\R (Itl K a) H1
theorem yf4 {l:Expr}{tl:TE}(O:PE X l tl):PI X tg l (xj1 X.K tl):=by
 intro pins s σ H R I h
 refine thn (O pins s σ H _ I h) fun v s1 j=>?_
 obtain⟨x,H1,z,r1,G⟩:=j
 obtain⟨a,e,⟨xs,N⟩,q⟩:=G
 subst e
 cases r1
 obtain⟨its,Y,p,Z⟩:=z.list N
 refine wpAny_pyIter_list p.isList ?_
 refine⟨s1.heap.objs.size,[s1.heap.objs.size],_,_,H1,rfl,z.kept (t':=s1.toks) fun b o e=>Heap.get?_push_of_some _ e,ze4 a _,⟨_,Heap.get?_push_size _ rfl,rfl,rfl⟩,fun b U=>?_,q⟩
 have e:b=s1.heap.objs.size:=by simpa using U
 subst e
 exact z.fpOk (Nat.le_refl _) (z.hok.fresh (Nat.le_refl _))
theorem zo5 {pins:List (Addr×Obj)}{σ:St}{H:Hp}{s:Shared}{R:It->Hp->Prop}{E:Value->Shared->Prop}{lo hi:Int}{t u v:Tok}{tk:Nat}(I:Inv X pins σ H s)(h1:-(2^62)<=lo)(h2:lo<2^62)(N:-(2^62)<=hi)(G:hi<2^62)
  (q:R (Itr lo (hi-lo).toNat) H):wpAny (model X.prog X.w) X.A (pyIter (.ref s.heap.objs.size)) (PIE X pins σ tg R) E { s with heap:=s.heap.push { cls:=.type "range",data:=.fields #[.int lo t,.int hi u,.int 1 v] },toks:=tk }:=by
 refine wpAny_pyIter_range (IsRange.new ..) (small_one h1 h2 N G) ?_
 have j:Inv X pins σ H { s with heap:=s.heap.push { cls:=.type "range",data:=.fields #[.int lo t,.int hi u,.int 1 v] },toks:=tk }:=I.kept fun b o e=>Heap.get?_push_of_some _ e
 refine⟨(s.heap.push { cls:=.type "range",data:=.fields #[.int lo t,.int hi u,.int 1 v] }).objs.size,[(s.heap.push { cls:=.type "range",data:=.fields #[.int lo t,.int hi u,.int 1 v] }).objs.size],_,_,H,rfl,
  j.kept (t':=tk) fun b o e=>Heap.get?_push_of_some _ e,zh1 _ lo (hi-lo).toNat,?_,fun b z=>?_,q⟩
 .have e1:lo+((0:Nat):Int)*1=lo:=by simp
  have e2:(((hi-lo).toNat:Nat):Int)-((0:Nat):Int)=Builtin.Range.rangeSize lo hi 1:=by rw[rangeSize_one];split <;> omega
  show IsRangeIter _ _ (lo+((0:Nat):Int)*1) ((((hi-lo).toNat:Nat):Int)-((0:Nat):Int)) 1
  rw[e1,e2]
  exact Heap.get?_push_size _ rfl
 .have e:b=(s.heap.push { cls:=.type "range",data:=.fields #[.int lo t,.int hi u,.int 1 v] }).objs.size:=by simpa using z
  subst e
  exact j.fpOk (Nat.le_refl _) (j.hok.fresh (Nat.le_refl _))
def xj0 (ta:TA):TI:=fun σ H R=>ta σ H fun vs H1=>∃ j:Int,vs=[.int j]/\ -(2^62)<=j/\j<2^62/\R (Itr 0 j.toNat) H1
def xk9 (ta:TA):TI:=fun σ H R=>ta σ H fun vs H1=>∃ i j:Int,vs=[.int i,.int j]/\(-(2^62)<=i/\i<2^62/\ -(2^62)<=j/\j<2^62)/\R (Itr i (j-i).toNat) H1
theorem zx3 {a:Expr}{ta:TA}{p pos:Pos}(O:Gl X "range")(hm:X.mg "range"=none)(ha:PA X [a] ta)(hs:starEach [a] X.env=[(false,eval a X.env)]:=by rfl):PI X tg (.Call (.Name "range" p) [a] [] pos) (xj0 ta):=by
 intro pins s σ H R I h
 refine Call_ (W6 I O hm boot_range (PyProof.Rows.callWith_type1 (thn (ha pos pins s σ H _ I h) fun us s1 z=>?_) hs rfl))
 obtain⟨vs,H1,U,r1,G⟩:=z
 obtain⟨j,e,G,N,q⟩:=G
 subst e
 cases r1 with
 |cons r rr=>
  cases rr
  obtain⟨t,rfl⟩:=r
  exact call_range_1 (zo5 U (by omega) (by omega) G N (by simpa using q))
theorem zb2 {a b:Expr}{ta:TA}{p pos:Pos}(hg:Gl X "range")(hm:X.mg "range"=none)(ha:PA X [a,b] ta)(hs:starEach [a,b] X.env=[(false,eval a X.env),(false,eval b X.env)]:=by rfl)(z:starEach [b] X.env=[(false,eval b X.env)]:=by rfl):
  PI X tg (.Call (.Name "range" p) [a,b] [] pos) (xk9 ta):=by
 intro pins s σ H R I h
 refine Call_ (W6 I hg hm boot_range (PyProof.Rows.callWith_type1 (thn (ha pos pins s σ H _ I h) fun us s1 G=>?_) (by rw[hs,z]) (by rw[z];rfl)))
 obtain⟨vs,H1,I1,r1,N⟩:=G
 obtain⟨i,j,e,⟨N,Z,Y,U⟩,q⟩:=N
 subst e
 cases r1 with
 |cons r rr=>
  cases rr with
  |cons O rr=>
   cases rr
   obtain⟨t,rfl⟩:=r
   obtain⟨t',rfl⟩:=O
   exact call_range_2 (zo5 I1 N Z Y U q)
def tFor (wi:TI)(g:TG)(tb:TS):TS:=fun D σ H=>wi σ H fun J H1=>∃ W:Nat->Nat->St->Hp->Prop,(∃ m,W 0 m σ H1)/\∀ i m σ H,W i m σ H->
 (J.stop i H/\D.nx σ H)\/(J.go i H/\∃ N:St->Hp->Prop,(∀ σ' H',N σ' H'->∃ m',m'<m/\W (i+1) m' σ' H')/\∀ x H',J.yld i H x H'->g x σ H' fun σ2 H2=>tb { D with nx:=N,ct:=N,bk:=D.nx } σ2 H2)
noncomputable def zx2 (fp:List Addr)(h:Heap):List (Addr×Obj):=fp.filterMap fun b=>(h.get? b).map fun o=>(b,o)
theorem T1 {fp:List Addr}{h:Heap}{b:Addr}{o:Obj}(j:b∈fp)(e:h.get? b=some o):(b,o)∈zx2 fp h:=List.mem_filterMap.mpr ⟨b,j,by rw[e];rfl⟩
theorem yz1 {fp:List Addr}{h:Heap}{p:Addr×Obj}(hp:p∈zx2 fp h):p.1∈fp/\h.get? p.1=some p.2:=by
 obtain⟨b,j,e⟩:=List.mem_filterMap.mp hp
 cases q:h.get? b with
 |none=>rw[q]at e;cases e
 |some o=>
  rw[q]at e
  have z:(b,o)=p:=Option.some.inj e
  subst z
  exact⟨j,q⟩
theorem Inv.pinned {pins:List (Addr×Obj)}{σ:St}{H:Hp}{s:Shared}{fp:List Addr}(I:Inv X pins σ H s)(O:∀ b∈fp,FpOk X pins H b)(N:∀ b∈fp,∃ o,s.heap.get? b=some o/\∀ v,o.data≠ .cell v):Inv X (pins++zx2 fp s.heap) σ H s:=
 I.pins_of fun p hp=>(List.mem_append.mp hp).elim (fun z=>I.pin p (mem_append_right _ z)) fun z=>by
  obtain⟨j,e⟩:=yz1 z
  obtain⟨Z,Y,U,_⟩:=O p.1 j
  obtain⟨o,G,d⟩:=N p.1 j
  rw[e]at G;cases G
  exact⟨e,Z,Y,U,d⟩
theorem Inv.unpinned {pins pl:List (Addr×Obj)}{σ:St}{H:Hp}{s:Shared}(I:Inv X (pins++pl) σ H s):Inv X pins σ H s:=I.pins_of fun p hp=>I.pin p (mem_append_right _ (mem_append_left _ hp))
theorem zc3 {iter:Expr}{body:List Stmt}{wi:TI}{g:TG}{tb:TS}{pos:Pos}(hp:PassesOwn (model X.prog X.w) X.A X.env X.xe)(hc:X.calm=true)(hi:PI X tg iter wi)(hg:PG X tg g)(Y:PSs X body tb)
  (hs:∀ x,foldedSetIterable iter X.env x=pure x:=by intro _;rfl):PS X (.For tg iter body [] pos) (tFor wi g tb):=by
 intro pins s σ H D I h
 refine wpAny_For (thn (hi pins s σ H _ I h) fun v s1 h1=>thn h1 fun a8 s2 h2=>?_) hs
 obtain⟨it,fp,tn,J,H2,e,I2,T,a5,f2,W,⟨m0,w0⟩,turn⟩:=h2
 subst e
 have O:∀{H':Hp},(∀ b∈fp,H' b=none)->∀ b∈fp,FpOk X pins H' b:=fun hn b Y=>⟨hn b Y,(f2 b Y).2⟩
 refine codeAny_forLoop_any (fun n s'=>∃ i G H',Inv X pins G H' s'/\tn i s'.heap/\(∀ b∈fp,H' b=none)/\W i n G H') ?_ m0 ⟨0,σ,H2,I2,a5,fun b Y=>(f2 b Y).1,w0⟩
 rintro n s3 ⟨i,z,H3,I3,a2,a3,w3⟩
 rcases turn i n z H3 w3 with⟨stop,qn⟩|⟨go,N,hN,step⟩
 .refine wpAny_passesOwn hp (thn (T.done X rfl rfl rfl hc i pins s3 z H3 X.xe I3 (O a3) a2 stop) fun r s4 ⟨hr,I4⟩=>?_)
  subst hr
  exact wpAny_execs_nil ⟨z,H3,I4,qn⟩
 .refine wpAny_passesOwn hp (thn (T.item X rfl rfl rfl hc i pins s3 z H3 X.xe I3 (O a3) a2 go) fun r s4 ⟨u,hr,h4⟩=>?_)
  subst hr
  refine wpAny_passesOwn hp (thn h4 fun _ s5 U=>?_)
  obtain⟨x,H5,I5,r5,y5,a1,a6⟩:=U
  have a7:=I5.pinned (O a6) (T.obj _ _ a1)
  refine wpAny_passesOwn hp (thn (hg _ s5 z H5 x u _ a7 r5 (step x H5 y5)) fun _ s6 U=>?_)
  obtain⟨a4,H6,I6,q6⟩:=U
  refine wpAny_passesOwn hp (thn (Y _ s6 a4 H6 _ I6 q6) fun f s7 q7=>?_)
  have again:∀{j:St}{H7:Hp},Inv X (pins++zx2 fp s5.heap) j H7 s7->N j H7->∃ m,m<n/\∃ i G H',Inv X pins G H' s7/\tn i s7.heap/\(∀ b∈fp,H' b=none)/\W i m G H':=fun{j H7} Z n7=>by
   obtain⟨m',hm,w7⟩:=hN j H7 n7
   refine⟨m',hm,i+1,j,H7,Z.unpinned,T.keep _ _ _ a1 fun b Y o e=>(Z.pin (b,o) (mem_append_right _ (mem_append_right _ (T1 Y e)))).1,fun b Y=>?_,w7⟩
   obtain⟨o,e,d⟩:=T.obj _ _ a1 b Y
   exact(Z.pin (b,o) (mem_append_right _ (mem_append_right _ (T1 Y e)))).2.1
  cases f with
  |next=>obtain⟨j,H7,Z,n7⟩:=q7;exact again Z n7
  |cont=>obtain⟨j,H7,Z,n7⟩:=q7;exact again Z n7
  |brk=>obtain⟨j,H7,Z,q7⟩:=q7;exact⟨j,H7,Z.unpinned,q7⟩
  |ret v=>obtain⟨x7,j,H7,Z,r7,q7⟩:=q7;exact⟨x7,j,H7,Z.unpinned,r7,q7⟩
end
end
section
noncomputable abbrev R2:=V->V->Hp->VK->Prop
def OpR (X:Cx)(f:Value->Value->Sem Value)(r:R2):Prop:=
 ∀(pins:List (Addr×Obj))(s:Shared)(σ:St)(H:Hp)(x y:V)(v u:Value)(Q:VK),Inv X pins σ H s->RelV x v->RelV y u->r x y H Q->
  wpAny (model X.prog X.w) X.A (f v u) (EP X pins σ Q) X.xe s
def UnR (X:Cx)(f:Value->Sem Value)(r:V->Hp->VK->Prop):Prop:=
 ∀(pins:List (Addr×Obj))(s:Shared)(σ:St)(H:Hp)(x:V)(v:Value)(Q:VK),Inv X pins σ H s->RelV x v->r x H Q->
  wpAny (model X.prog X.w) X.A (f v) (EP X pins σ Q) X.xe s
def Q8 (X:Cx)(f:Value)(r:List V->Hp->VK->Prop):Prop:=
 ∀(pins:List (Addr×Obj))(s:Shared)(σ:St)(H:Hp)(xs:List V)(us:List Value)(Q:VK),Inv X pins σ H s->Vals xs us->r xs H Q->
  wpAny (model X.prog X.w) X.A (call f us) (EP X pins σ Q) X.xe s
def TruR (X:Cx)(r:V->Hp->(Bool->Hp->Prop)->Prop):Prop:=
 ∀(pins:List (Addr×Obj))(s:Shared)(σ:St)(H:Hp)(x:V)(v:Value)(Q:Bool->Hp->Prop),Inv X pins σ H s->RelV x v->r x H Q->
  wpAny (model X.prog X.w) X.A (truthy v) (TP X pins σ Q) X.xe s
def tOp (r:R2)(ta tb:TE):TE:=fun σ H Q=>ta σ H fun x H1=>tb σ H1 fun y H2=>r x y H2 Q
def tUn (r:V->Hp->VK->Prop)(ta:TE):TE:=fun σ H Q=>ta σ H fun x H1=>r x H1 Q
def rI (C:Int->Int->Prop)(g:Int->Int->V):R2:=fun x y H Q=>∃ i j,x= .int i/\y= .int j/\C i j/\Q (g i j) H
def rI0 (g:Int->Int->V):R2:=fun x y H Q=>∃ i j,x= .int i/\y= .int j/\Q (g i j) H
def rU (g:Int->V):V->Hp->VK->Prop:=fun x H Q=>∃ i,x= .int i/\Q (g i) H
section
variable {X:Cx}{a b c:Expr}{ta tb tc:TE}{pos:Pos}
theorem binT (ha:PE X a ta)(Y:PE X b tb){pins:List (Addr×Obj)}{s:Shared}{σ:St}{H:Hp}{R:V->V->Hp->Prop}(I:Inv X pins σ H s)
  (h:ta σ H fun x H1=>tb σ H1 fun y H2=>R x y H2) {Q:Value->Shared->Prop} {f:Value->Value->Sem Value}
  (U:∀ v u s2 x y H2,Inv X pins σ H2 s2->RelV x v->RelV y u->R x y H2->wpAny (model X.prog X.w) X.A (f v u) Q X.xe s2):
  wpAny (model X.prog X.w) X.A (eval a X.env) (fun v G=>wpAny (model X.prog X.w) X.A (eval b X.env) (fun u z=>wpAny (model X.prog X.w) X.A (f v u) Q X.xe z) X.xe G) X.xe s:=by
 refine thn (ha pins s σ H _ I h) fun v s1 j=>?_
 obtain⟨x,H1,I1,r1,O⟩:=j
 refine thn (Y pins s1 σ H1 _ I1 O) fun u s2 j=>?_
 obtain⟨y,H2,Z,r2,N⟩:=j
 exact U v u s2 x y H2 Z r1 r2 N
theorem yq6 {op:Operator}{r:R2}(G:OpR X (binaryOp op) r)(ha:PE X a ta)(N:PE X b tb):PE X (.BinOp a op b pos) (tOp r ta tb):=by
 intro pins s σ H Q I h
 exact wpAny_BinOp (binT ha N I h fun v u s2 x y H2 O z j q=>G pins s2 σ H2 x y v u Q O z j q)
theorem xm0 {op:UnaryOp}{r:V->Hp->VK->Prop}(z:UnR X (unaryOp op) r)(ha:PE X a ta):PE X (.UnaryOp op a pos) (tUn r ta):=by
 intro pins s σ H Q I h
 exact UnaryOp_ (thn (ha pins s σ H _ I h) fun v s1 ⟨x,H1,G,r1,j⟩=>z pins s1 σ H1 x v Q G r1 j)
theorem opI {f:Value->Value->Sem Value}{C:Int->Int->Prop}{g:Int->Int->Int}
  (rule:∀(i j:Int)(t u:Tok)(s:Shared)(Q:Value->Shared->Prop)(E:Value->Shared->Prop),C i j->Q (.int (g i j) s.toks) { s with toks:=s.toks+1 }->wpAny (model X.prog X.w) X.A (f (.int i t) (.int j u)) Q E s):
  OpR X f (rI C fun i j=>.int (g i j)):=by
 intro pins s σ H x y v u Q I G z h
 obtain⟨i,j,rfl,rfl,N,q⟩:=h
 obtain⟨t,rfl⟩:=G
 obtain⟨t',rfl⟩:=z
 exact rule i j t t' s _ _ N ⟨.int (g i j),H,I.tok _,⟨_,rfl⟩,q⟩
theorem opI0 {f:Value->Value->Sem Value}{g:Int->Int->Int}
  (rule:∀(i j:Int)(t u:Tok)(s:Shared)(Q:Value->Shared->Prop)(E:Value->Shared->Prop),Q (.int (g i j) s.toks) { s with toks:=s.toks+1 }->wpAny (model X.prog X.w) X.A (f (.int i t) (.int j u)) Q E s):
  OpR X f (rI0 fun i j=>.int (g i j)):=by
 intro pins s σ H x y v u Q I G z h
 obtain⟨i,j,rfl,rfl,q⟩:=h
 obtain⟨t,rfl⟩:=G
 obtain⟨t',rfl⟩:=z
 exact rule i j t t' s _ _ ⟨.int (g i j),H,I.tok _,⟨_,rfl⟩,q⟩
theorem opB0 {f:Value->Value->Sem Value}{g:Int->Int->Bool}
  (rule:∀(i j:Int)(t u:Tok)(s:Shared)(Q:Value->Shared->Prop)(E:Value->Shared->Prop),Q (.bool (g i j)) s->wpAny (model X.prog X.w) X.A (f (.int i t) (.int j u)) Q E s):
  OpR X f (rI0 fun i j=>.bl (g i j)):=by
 intro pins s σ H x y v u Q I G z h
 obtain⟨i,j,rfl,rfl,q⟩:=h
 obtain⟨t,rfl⟩:=G
 obtain⟨t',rfl⟩:=z
 exact rule i j t t' s _ _ ⟨.bl (g i j),H,I,rfl,q⟩
def CDiv (i j:Int):Prop:=0<j/\j<1073741824
def CPow (i j:Int):Prop:=0<=j/\j<=1000000/\i.natAbs<2^64
def CMul (i j:Int):Prop:=(-(2^64)<i/\i<2^64)\/(-(2^64)<j/\j<2^64)
theorem CMul.ok {i j:Int}(h:CMul i j):IntMulOk i j:=by
 rcases h with⟨h1,h2⟩|⟨h1,h2⟩
 .exact .of_left (intBits_le_64 h1 h2)
 .exact .of_right (intBits_le_64 h1 h2)
theorem V4:OpR X (binaryOp .Add) (rI0 fun i j=>.int (i+j)):=opI0 fun _ _ _ _ _ _ _ q=>add_int q
theorem zn9:OpR X (binaryOp .Sub) (rI0 fun i j=>.int (i-j)):=opI0 fun _ _ _ _ _ _ _ q=>sub_int q
theorem yj2:OpR X (binaryOp .Mult) (rI CMul fun i j=>.int (i*j)):=opI fun _ _ _ _ _ _ _ z q=>mul_int q z.ok
theorem ye8:OpR X (binaryOp .FloorDiv) (rI CDiv fun i j=>.int (i / j)):=opI fun i j _ _ _ _ _ z q=>by
 have h1:(0:Int)<j:=z.1
 have h2:j<1073741824:=z.2
 exact floordiv_int (by omega) (by rw[Int.fdiv_eq_ediv_of_nonneg i (by omega)];exact q) (.inl (PyProof.noPylong_small (by omega)))
theorem xv9:OpR X (binaryOp .Mod) (rI (fun _ j=>0<j) fun i j=>.int (i % j)):=opI fun i j _ _ _ _ _ z q=>by
 have h1:(0:Int)<j:=z
 exact mod_int' (by omega) (by rw[Int.fmod_eq_emod_of_nonneg i (by omega)];exact q)
theorem xv7:OpR X (binaryOp .Pow) (rI CPow fun i j=>.int (i^j.toNat)):=opI fun _ _ _ _ _ _ _ z q=>pow_int_small z.1 z.2.1 z.2.2 q
theorem unI {f:Value->Sem Value}{g:Int->Int}
  (rule:∀(i:Int)(t:Tok)(s:Shared)(Q:Value->Shared->Prop)(E:Value->Shared->Prop),Q (.int (g i) s.toks) { s with toks:=s.toks+1 }->wpAny (model X.prog X.w) X.A (f (.int i t)) Q E s):
  UnR X f (rU fun i=>.int (g i)):=by
 intro pins s σ H x v Q I j h
 obtain⟨i,rfl,q⟩:=h
 obtain⟨t,rfl⟩:=j
 exact rule i t s _ _ ⟨.int (g i),H,I.tok _,⟨_,rfl⟩,q⟩
theorem xz8:UnR X (unaryOp .USub) (rU fun i=>.int (-i)):=unI fun _ _ _ _ _ q=>neg_int q
end
noncomputable def scal:V->V->Bool
 | .non,.non=>true| .non,.int _=>true| .int _,.non=>true| .non,.bl _=>true| .bl _,.non=>true| .non,.str _=>true| .str _,.non=>true
 | .int _,.int _=>true| .bl _,.bl _=>true| .str _,.str _=>true| .byt _,.byt _=>true
 | .int _,.str _=>true| .str _,.int _=>true| .bl _,.str _=>true| .str _,.bl _=>true
 |_,_=>false
def rEq:R2:=fun x y H Q=>scal x y=true/\Q (.bl (decide (x=y))) H
theorem yv0 {i j:Int}:decide (V.int i=V.int j)=(i==j):=by
 rw[Bool.eq_iff_iff]
 simp
theorem yi4 {i j:Bool}:decide (V.bl i=V.bl j)=(i==j):=by
 rw[Bool.eq_iff_iff]
 simp
theorem yw9 {i j:Str}:decide (V.str i=V.str j)=(i==j):=by
 rw[Bool.eq_iff_iff]
 simp
theorem yb5 {i j:Array UInt8}:decide (V.byt i=V.byt j)=(i.toList==j.toList):=by
 rw[Bool.eq_iff_iff]
 cases i
 cases j
 simp
section
variable {X:Cx}{a b c:Expr}{ta tb tc:TE}{pos:Pos}
theorem c9 {pins:List (Addr×Obj)}{σ:St}{H:Hp}{s:Shared}{Q:VK}{k j:Bool}(I:Inv X pins σ H s)(q:Q (.bl k) H)(e:k=j):EP X pins σ Q (.bool j) s:=by
 subst e
 exact⟨.bl k,H,I,rfl,q⟩
theorem M0:OpR X (compareOp .Eq) rEq:=by
 intro pins s σ H x y v u Q I G z h
 obtain⟨hs,q⟩:=h
 cases x with
 |non=>
  cases G
  cases y with
  |non=>cases z;exact PySem.EqNone.eq_none_none (c9 I q (by simp))
  |bl j=>cases z;exact PySem.EqNone.eq_none_bool (c9 I q (by simp))
  |int j=>obtain⟨t',rfl⟩:=z;exact PySem.EqNone.eq_none_int (c9 I q (by simp))
  |str j=>obtain⟨t',rfl⟩:=z;exact PySem.EqNone.eq_none_str (c9 I q (by simp))
  |_=>exact absurd (show false=true from hs) Bool.false_ne_true
 |bl i=>
  cases G
  cases y with
  |non=>cases z;exact PySem.EqNone.eq_bool_none (c9 I q (by simp))
  |bl j=>cases z;exact eq_bool (c9 I q yi4)
  |str j=>obtain⟨t',rfl⟩:=z;exact PySem.EqMixed.eq_bool_str (c9 I q (by simp))
  |_=>exact absurd (show false=true from hs) Bool.false_ne_true
 |int i=>
  obtain⟨t,rfl⟩:=G
  cases y with
  |non=>cases z;exact PySem.EqNone.eq_int_none (c9 I q (by simp))
  |int j=>obtain⟨t',rfl⟩:=z;exact eq_int (c9 I q yv0)
  |str j=>obtain⟨t',rfl⟩:=z;exact PySem.EqMixed.eq_int_str (c9 I q (by simp))
  |_=>exact absurd (show false=true from hs) Bool.false_ne_true
 |str i=>
  obtain⟨t,rfl⟩:=G
  cases y with
  |non=>cases z;exact PySem.EqNone.eq_str_none (c9 I q (by simp))
  |bl j=>cases z;exact PySem.EqMixed.eq_str_bool (c9 I q (by simp))
  |int j=>obtain⟨t',rfl⟩:=z;exact PySem.EqMixed.eq_str_int (c9 I q (by simp))
  |str j=>obtain⟨t',rfl⟩:=z;exact eq_str (c9 I q yw9)
  |_=>exact absurd (show false=true from hs) Bool.false_ne_true
 |byt i=>
  obtain⟨t,rfl⟩:=G
  cases y with
  |byt j=>obtain⟨t',rfl⟩:=z;exact W.eq_bytes (c9 I q yb5)
  |_=>exact absurd (show false=true from hs) Bool.false_ne_true
 |_=>cases y <;> exact absurd (show false=true from hs) Bool.false_ne_true
theorem yq9:OpR X (compareOp .Lt) (rI0 fun i j=>.bl (decide (i<j))):=opB0 fun _ _ _ _ _ _ _ q=>lt_int q
theorem ye7:OpR X (compareOp .Gt) (rI0 fun i j=>.bl (decide (j<i))):=opB0 fun _ _ _ _ _ _ _ q=>gt_int q
theorem zx5:OpR X (compareOp .GtE) (rI0 fun i j=>.bl (decide (j<=i))):=opB0 fun _ _ _ _ _ _ _ q=>ge_int q
theorem OpR.or {f:Value->Value->Sem Value}{r G:R2}(h:OpR X f r)(h':OpR X f G):OpR X f (fun x y H Q=>r x y H Q\/G x y H Q):=by
 intro pins s σ H x y v u Q I z j q
 rcases q with q|q
 .exact h pins s σ H x y v u Q I z j q
 .exact h' pins s σ H x y v u Q I z j q
theorem v5 (b:Expr){op:CmpOp}(h:op≠ .In:=by decide)(h2:op≠ .NotIn:=by decide):behindInMarks op b=false:=by
 have e1:(op==CmpOp.In)=false:=by cases op <;> first|rfl|exact absurd rfl h
 have e2:(op==CmpOp.NotIn)=false:=by cases op <;> first|rfl|exact absurd rfl h2
 cases b <;> simp[behindInMarks,e1,e2]
theorem zb7 {op:CmpOp}{r:R2}(G:OpR X (compareOp op) r)(ha:PE X a ta)(N:PE X b tb)(hm:behindInMarks op b=false):PE X (.Compare a [op] [b] pos) (tOp r ta tb):=by
 intro pins s σ H Q I h
 exact wpAny_Compare1 (binT ha N I h fun v u s2 x y H2 O z j q=>G pins s2 σ H2 x y v u Q O z j q) hm
def xo2 (t:TE):TT:=fun σ H Q=>t σ H fun x H'=>∃ k,x= .bl k/\Q k H'
theorem zt5 {op:CmpOp}{r:R2}(U:OpR X (compareOp op) r)(ha:PE X a ta)(Y:PE X b tb)(hm:behindInMarks op b=false):PT X (.Compare a [op] [b] pos) (xo2 (tOp r ta tb)):=by
 intro pins s σ H Q I h
 refine wpAny_isTrue_Compare1 (thn (ha pins s σ H _ I h) fun v s1 ⟨x,H1,I1,r1,O⟩=>thn (Y pins s1 σ H1 _ I1 O) fun u s2 ⟨y,H2,I2,r2,N⟩=>
  thn (U pins s2 σ H2 x y v u _ I2 r1 r2 N) fun c s3 ⟨z,H3,Z,j,k,e,G⟩=>?_) hm
 subst e
 cases j
 exact wpAny_truthy_bool ⟨H3,Z,G⟩
def TruV (K:W.Frag)(x:V)(H:Hp)(k:Bool):Prop:=
 match x with
 | .non=>k=false
 | .bl b=>k=b
 | .int i=>k=(i != 0)
 | .str y=>y.length<=sizeLine/\k=((y.length:Int) != 0)
 | .byt y=>y.size<=sizeLine/\k=((y.size:Int) != 0)
 | .ref p=>(∃ xs,SqL K H p xs/\k= !xs.isEmpty)\/(∃ xs,SqT K H p xs/\k= !xs.isEmpty)\/∃ kvs,H p=some (.dK kvs)/\k= !kvs.isEmpty
 |_=>False
theorem zg6 {κ:Type}{kvs:List (κ×V)}{vs:List (κ×Value)}(r:KV kvs vs):(!vs.isEmpty)= !kvs.isEmpty:=by
 cases r <;> rfl
theorem E5 {xs:List V}{its:List Value}(r:Vals xs its):(!its.toArray.isEmpty)= !xs.isEmpty:=by
 cases r <;> simp
theorem zw6:(sizeLine:Nat)<2^63:=by rw[sizeLine_eq];decide
theorem xy1:TruR X (fun x H Q=>∃ k,TruV X.K x H k/\Q k H):=by
 intro pins s σ H x v Q I G h
 obtain⟨k,e,q⟩:=h
 have Z:=zw6
 have hs:sizeLine=16777216:=sizeLine_eq
 cases x with
 |non=>
  cases G
  have j:k=false:=e
  subst j
  exact truthy_none ⟨H,I,q⟩
 |bl b=>
  cases G
  have j:k=b:=e
  subst j
  exact wpAny_truthy_bool ⟨H,I,q⟩
 |int i=>
  obtain⟨t,rfl⟩:=G
  have j:k=(i != 0):=e
  subst j
  exact PySem.P.truthy_int ⟨H,I,q⟩
 |str y=>
  obtain⟨t,rfl⟩:=G
  obtain⟨U,j⟩:y.length<=sizeLine/\k=((y.length:Int) != 0):=e
  subst j
  exact PySem.P.truthy_str (by omega) ⟨H,I.tok _,q⟩
 |byt y=>
  obtain⟨t,rfl⟩:=G
  obtain⟨U,j⟩:y.size<=sizeLine/\k=((y.size:Int) != 0):=e
  subst j
  exact W.truthy_bytes (by omega) ⟨H,I.tok _,q⟩
 |ref p=>
  cases G
  have j:(∃ xs,SqL X.K H p xs/\k= !xs.isEmpty)\/(∃ xs,SqT X.K H p xs/\k= !xs.isEmpty)\/∃ kvs,H p=some (.dK kvs)/\k= !kvs.isEmpty:=e
  rcases j with⟨xs,N,j⟩|⟨xs,N,j⟩|⟨kvs,N,j⟩
  .subst j
   obtain⟨its,r,pl,O⟩:=I.list N
   have z:=r.length
   exact wpAny_truthy_list pl.isList (by simp only[size_toArray];omega) ⟨H,I.tok _,by rw[E5 r];exact q⟩
  .subst j
   obtain⟨its,r,pl,O⟩:=I.tuple N
   have z:=r.length
   exact truthy_tuple pl (by simp only[size_toArray];omega) ⟨H,I.tok _,by rw[E5 r];exact q⟩
  .subst j
   obtain⟨O,Y,vs,r,m⟩:kvs.length<=sizeLine/\(p==sysModules)=false/\∃ vs,KV kvs vs/\s.heap.DictOf (zs7 X.prog X.w) p vs:=I.hok p _ N
   have z:kvs.length=vs.length:=Paired.length r
   exact wpAny_truthy_dict Y m (by omega) ⟨H,I.tok _,by rw[zg6 r];exact q⟩
 |_=>exact(show False from e).elim
theorem zo7 (ha:PE X a ta)(G:∀ j,isTrue a X.env j=(do let v ← j;standAt a.pos;holding [v] (truthy v))):
  PT X a (fun σ H Q=>ta σ H fun x H'=>∃ k,TruV X.K x H' k/\Q k H'):=by
 intro pins s σ H Q I h
 exact isTrue_plain (thn (ha pins s σ H _ I h) fun v s1 ⟨x,H1,N,r1,z⟩=>xy1 pins s1 σ H1 x v Q N r1 z) (G _)
theorem T9 {x:V}{us:List Value}(r:Vals [x] us):∃ u,us=[u]/\RelV x u:=by
 cases r with
 |cons r1 r2=>cases r2;exact⟨_,rfl,r1⟩
theorem ys4 {x y:V}{us:List Value}(r:Vals [x,y] us):∃ u j,us=[u,j]/\RelV x u/\RelV y j:=by
 cases r with
 |cons r1 r2=>
  cases r2 with
  |cons G z=>cases z;exact⟨_,_,rfl,r1,G⟩
theorem ym3:Q8 X (.builtin "abs") (fun xs H Q=>∃ i,xs=[.int i]/\Q (.int (if i<0 then -i else i)) H):=by
 intro pins s σ H xs us Q I r h
 obtain⟨i,rfl,q⟩:=h
 obtain⟨u,rfl,t,rfl⟩:=T9 r
 exact call_abs_int fun u tk=>⟨.int (if i<0 then -i else i),H,I.tok _,⟨_,rfl⟩,q⟩
theorem yu6 (G:X.calm=true):Q8 X (.builtin "max") (fun xs H Q=>∃ i j,xs=[.int i,.int j]/\Q (.int (if j>i then j else i)) H):=by
 intro pins s σ H xs us Q I r h
 obtain⟨i,j,rfl,q⟩:=h
 obtain⟨u,N,rfl,⟨t,rfl⟩,⟨t',rfl⟩⟩:=ys4 r
 refine max_two_ints (I.ok.hd G) fun h' tk k=>⟨_,H,I.kept k,?_,q⟩
 by_cases z:j>i
 .rw[if_pos z,if_pos z];exact⟨_,rfl⟩
 .rw[if_neg z,if_neg z];exact⟨_,rfl⟩
theorem yu4 (G:X.calm=true):Q8 X (.builtin "min") (fun xs H Q=>∃ i j,xs=[.int i,.int j]/\Q (.int (if j<i then j else i)) H):=by
 intro pins s σ H xs us Q I r h
 obtain⟨i,j,rfl,q⟩:=h
 obtain⟨u,N,rfl,⟨t,rfl⟩,⟨t',rfl⟩⟩:=ys4 r
 refine min_two_ints (I.ok.hd G) fun h' tk k=>⟨_,H,I.kept k,?_,q⟩
 by_cases z:j<i
 .rw[if_pos z,if_pos z];exact⟨_,rfl⟩
 .rw[if_neg z,if_neg z];exact⟨_,rfl⟩
theorem yu7:Q8 X (.type "int") (fun xs H Q=>(∃ i,xs=[.int i]/\Q (.int i) H)\/∃ k,xs=[.bl k]/\Q (.int (if k then 1 else 0)) H):=by
 intro pins s σ H xs us Q I r h
 rcases h with⟨i,rfl,q⟩|⟨k,rfl,q⟩
 .obtain⟨u,rfl,t,rfl⟩:=T9 r
  exact call_int_int ⟨.int i,H,I,⟨_,rfl⟩,q⟩
 .obtain⟨u,rfl,r1⟩:=T9 r
  cases r1
  exact call_int_bool ⟨.int (if k then 1 else 0),H,I.tok _,⟨_,rfl⟩,q⟩
end
end
section
structure ObjM (h:Heap)(x dx C:Addr)(mA:Str->Option Value):Prop where
 obj:h.get? x=some (W.instObj C dx)
 ns:h.Ns1 dx mA
 ne:dx≠x
theorem yy9 {h:Heap}{dx:Addr}{mA:Str->Option Value}(n:h.Ns1 dx mA):∃ od,h.get? dx=some od/\∀ name,W.lookIn name od=some (mA name):=by
 obtain⟨o,es,ep,N,hd,O,_,hm⟩:=n
 refine⟨o,N,fun name=>?_⟩
 have e:=hm name
 unfold nsFind findBy at e
 rw[<-Array.find?_toList]at e
 unfold W.lookIn
 rw[hd]
 dsimp only
 split
 .rename_i y q
  rw[q]at e
  exact congrArg some e
 .rename_i q
  rw[q]at e
  have a:es.toList.any (·.refKey)=false:=by
   rw[any_eq_false]
   intro y G
   obtain⟨z,t,j⟩:=O y (Array.mem_toList_iff.mp G)
   simp[DictEntry.refKey,j]
  have U:¬ es.toList.any (·.refKey)=true:=by rw[a];exact Bool.false_ne_true
  rw[if_neg U]
  exact congrArg some e
theorem ObjM.look {h:Heap}{x dx C:Addr}{mA:Str->Option Value}(I:ObjM h x dx C mA):∃ od,W.InstAt h x (W.instObj C dx) C (some od)/\∀ name,W.lookIn name od=some (mA name):=
 let ⟨od,j,z⟩:=yy9 I.ns
 ⟨od,⟨I.obj,rfl,rfl,j⟩,z⟩
section
variable {prog:Program}{w:World}{A:Around}{E:Value->Shared->Prop}{s:Shared}{K:W.Frag}{x dx C f:Addr}{mA:Str->Option Value}{name:Str}{v:Value}
end
section
variable {P:Program}{w:World}{H H':Hp}{h h':Heap}{a C dx:Addr}{fs fs':List (Str×V)}
theorem yc2 (hok:HOk P w H h)(e:H a=some (.ins C dx fs)):∃ mA,ObjM h a dx C mA/\(∀ f,RelO (fs.lookup f) (mA f))/\PySem.Within mA (fs.map (·.1))/\fs.length<=1000/\H dx=some (.own a):=by
 obtain⟨d,z,ne,ob,mA,n,r,q⟩:=(show ObjOk P w H h a (.ins C dx fs)from hok a _ e)
 exact⟨mA,⟨ob,n,ne⟩,r,q,z,d⟩
end
structure Cls (K:W.Frag)(C:Addr):Prop where
 pg:W.plainGet K C Str.empty=true
 hd:W.hasDictIn K C=true
 po:W.plainOver K C=true
 sa:W.findIn K (.ref C) "__setattr__"=some (some (.builtin "object.__setattr__"))
theorem Cls.get {K:W.Frag}{C:Addr}(c:Cls K C)(f:Str):W.plainGet K C f=true:=c.pg
structure Con (K:W.Frag)(C:Addr)(f:Str)(v:V)(u:Value):Prop where
 at_:W.findIn K (.ref C) f=some (some u)
 rel:RelV v u
 get:W.specialIn K u "__get__"=some none
 cp:W.copiedNames.contains f=false
structure Meth (K:W.Frag)(C:Addr)(m:Str)(f:Addr):Prop where
 at_:W.findIn K (.ref C) m=some (some (.ref f))
 fn:W.isFn K (.ref f)=true
 kp:W.keepIn K (.ref f)=true
section
variable {X:Cx}{pins:List (Addr×Obj)}{σ:St}{H:Hp}{s:Shared}{a C dx:Addr}{fs:List (Str×V)}{f:Str}{v:V}{A:Around}{E:Value->Shared->Prop}
end
section
variable {X:Cx}{o e value:Expr}{f:Str}{pos pos' tpos:Pos}{ta tv:TE}
end
section
variable {X:Cx}{pins:List (Addr×Obj)}{σ:St}{H:Hp}{s:Shared}{A:Around}{E:Value->Shared->Prop}{Q:Value->Shared->Prop}{c:Value}{b:Bool}
inductive TyOf (K:W.Frag)(H:Hp):V->Value->Prop where
 |non:TyOf K H .non (.type "NoneType")
 |bl (x:Bool):TyOf K H (.bl x) (.type "bool")
 |int (i:Int):TyOf K H (.int i) (.type "int")
 |str (x:Str):TyOf K H (.str x) (.type "str")
 |flt (x:UInt64):TyOf K H (.flt x) (.type "float")
 |lst {a:Addr} {xs:List V} (e:H a=some (.lst xs)):TyOf K H (.ref a) (.type "list")
 |frz {a:Addr} {o:Obj} {xs:List V} (e:H a=some (.frz o (.lst xs))):TyOf K H (.ref a) (.type "list")
 |tup {a:Addr} {xs:List V} (e:H a=some (.tup xs)):TyOf K H (.ref a) (.type "tuple")
 |dK {a:Addr} {kvs:List (Key×V)} (e:H a=some (.dK kvs)):TyOf K H (.ref a) (.type "dict")
 |dT {a:Addr} {kvs:List (List Key×V)} (e:H a=some (.dT kvs)):TyOf K H (.ref a) (.type "dict")
 |ins {a C dx:Addr} {fs:List (Str×V)} (e:H a=some (.ins C dx fs)) (cl:Cls K C) (ha:W.findIn K (.ref C) "__class__"=some (some (.builtin "object.__class__")))
   (hn:W.specialIn K (.builtin "object.__class__") "__get__"=some (some (.builtin "getset_descriptor.__get__"))) (htk:W.takesIn K (.builtin "object.__class__")=some true)
   (hm:W.mroIn K C (.type "object")=some true):TyOf K H (.ref a) (.ref C)
theorem Q0 {x:V}{u t:Value}(I:Inv X pins σ H s)(j:RelV x u)(ty:TyOf X.K H x t)(e:W.kitOne X.K t c=some b)(h:∀ tk,Q (.bool b) { s with toks:=tk }):
  wpAny (model X.prog X.w) A (call (.builtin "isinstance") [u,c]) Q E s:=by
 cases ty with
 |non=>cases (show u=Value.none from j);exact W.kia_one W.kitx_none I.kIn True.intro e (fun z=>nomatch z) h
 |bl y=>cases (show u=Value.bool y from j);exact W.kia_one W.kitx_bool I.kIn True.intro e (fun z=>nomatch z) h
 |int i=>obtain⟨t,q⟩:=(show ∃ t,u=Value.int i t from j);cases q;exact W.kia_one W.kitx_int I.kIn True.intro e (fun z=>nomatch z) h
 |str y=>obtain⟨t,q⟩:=(show ∃ t,u=Value.str y t from j);cases q;exact W.kia_one W.kitx_str I.kIn True.intro e (fun z=>nomatch z) h
 |flt y=>obtain⟨t,q⟩:=(show ∃ t,u=Value.float y t from j);cases q;exact W.kia_one W.kitx_float I.kIn True.intro e (fun z=>nomatch z) h
 |@lst a xs ea=>
  cases (show u=Value.ref a from j)
  obtain⟨_,_,n,_,h1⟩:=(show ObjOk X.prog X.w H s.heap a (.lst xs)from I.hok a _ ea)
  exact W.kia_one W.kitx_list I.kIn ⟨_,h1,rfl⟩ e (fun z=>nomatch z) h
 |@frz a ob xs ea=>
  cases (show u=Value.ref a from j)
  obtain⟨_,_,_,n,_,h1⟩:=(show ObjOk X.prog X.w H s.heap a (.frz ob (.lst xs))from I.hok a _ ea)
  exact W.kia_one W.kitx_list I.kIn ⟨_,h1,rfl⟩ e (fun z=>nomatch z) h
 |@tup a xs ea=>
  cases (show u=Value.ref a from j)
  obtain⟨_,_,_,p⟩:=(show ObjOk X.prog X.w H s.heap a (.tup xs)from I.hok a _ ea)
  obtain⟨o,h1,h2,_⟩:=p
  exact W.kia_one W.kitx_tuple I.kIn ⟨o,h1,h2⟩ e (fun z=>nomatch z) h
 |@dK a kvs ea=>
  cases (show u=Value.ref a from j)
  obtain⟨_,_,vs,_,p⟩:=(show ObjOk X.prog X.w H s.heap a (.dK kvs)from I.hok a _ ea)
  obtain⟨o,es,ep,h1,h2,_⟩:=p
  exact W.kia_one W.kitx_dict I.kIn ⟨o,h1,h2.1⟩ e (fun z=>nomatch z) h
 |@dT a kvs ea=>
  cases (show u=Value.ref a from j)
  obtain⟨_,_,xs,_,o,es,ep,h1,h2,_⟩:=(show ObjOk X.prog X.w H s.heap a (.dT kvs)from I.hok a _ ea)
  exact W.kia_one W.kitx_dict I.kIn ⟨o,h1,h2.1⟩ e (fun z=>nomatch z) h
 |@ins a C dx fs ea cl ha hn htk hm=>
  cases (show u=Value.ref a from j)
  obtain⟨mA,O,_⟩:=yc2 I.hok ea
  obtain⟨od,J,_⟩:=O.look
  exact W.kia_one (W.kitx_own (cl.get _) cl.hd ha hn htk hm) I.kIn J e (fun z=>nomatch z) h
end
end
section
structure Room (k:Nat)(A:Around):Prop where
 hd:A.handled=none
 dp:A.depth+3*k+5<recursionLimit
 un:A.units+16*k+200<cLine
theorem Room.mono {j k:Nat}{A:Around}(r:Room k A)(h:j<=k):Room j A:=⟨r.hd,by have:=r.dp;omega,by have:=r.un;omega⟩
theorem Room.deeper {k:Nat}{A:Around}(r:Room (k+1) A)(env:Env):Room k (A.deeper env):=
 ⟨r.hd,by have:=r.dp;show A.depth+1+3*k+5<_;omega,by have:=r.un;show A.units+3+16*k+200<_;omega⟩
theorem Room.in1 {k:Nat}{A:Around}(r:Room (k+1) A):Room k A.in1:=
 ⟨r.hd,by have:=r.dp;show A.depth+3*k+5<_;omega,by have:=r.un;show A.units+1+16*k+200<_;omega⟩
theorem Room.depth {k:Nat}{A:Around}(r:Room k A):A.depth<recursionLimit:=by have:=r.dp;omega
theorem Room.units {k:Nat}{A:Around}(r:Room k A):A.units+64<cLine:=by have:=r.un;omega
def tNil:TA:=fun _ H Q=>Q [] H
def xy7 (ta:TE)(tr:TA):TA:=fun σ H Q=>ta σ H fun x H1=>tr σ H1 fun xs H2=>Q (x::xs) H2
section
variable {X:Cx}{e:Expr}{es:List Expr}{te:TE}{t:TA}{pos:Pos}
theorem pa_nil:PA X [] tNil:=fun _ _ _ _ H Q I h=>Calls.spliced_nil ⟨[],H,I,.nil,h⟩
theorem m9 (ha:PE X e te)(hr:PA X es t)(hs:starEach (e::es) X.env=(false,eval e X.env)::starEach es X.env:=by rfl):PA X (e::es) (xy7 te t):=by
 intro pos pins s σ H Q I h
 rw[hs]
 show wpAny _ _ (spliced ((false,eval e X.env)::backTo pos (starEach es X.env))) _ _ s
 refine Calls.spliced_cons (thn (ha pins s σ H _ I h) fun u s1 j=>?_)
 obtain⟨x,H1,O,r1,G⟩:=j
 exact thn (hr pos pins s1 σ H1 _ O G) fun us s2 ⟨xs,H2,N,r2,z⟩=>⟨x::xs,H2,N,.cons r1 r2,z⟩
def tTup (t:TA):TE:=fun σ H Q=>t σ H fun xs H1=>xs.length<=sizeLine/\∀ p,H1 p=none->Q (.ref p) (upd H1 p (.tup xs))
def tLst (t:TA):TE:=fun σ H Q=>t σ H fun xs H1=>xs.length<=sizeLine/\∀ p,H1 p=none->Q (.ref p) (upd H1 p (.lst xs))
theorem xv0 {G}(h:PA X es t):PE X (.Tuple es G pos) (tTup t):=by
 intro pins s σ H Q I N
 refine wpAny_Tuple_spliced (thn (h pos pins s σ H _ I N) fun us s1 ⟨xs,H1,j,r,z,q⟩=>⟨by rw[<-r.length];exact z,?_⟩)
 have O:H1 s1.heap.objs.size=none:=j.hok.fresh (Nat.le_refl _)
 refine⟨.ref s1.heap.objs.size,upd H1 s1.heap.objs.size (.tup xs),j.laid (t':=s1.toks) (fun b u e=>Heap.get?_push_of_some _ e) (Nat.le_refl _) ?_,rfl,q _ O⟩
 exact⟨z,us,r,⟨_,Heap.get?_push_size _ rfl,rfl,_,rfl⟩⟩
theorem zb5 (h:PA X es t):PE X (.List es pos) (tLst t):=by
 intro pins s σ H Q I G
 refine wpAny_List_spliced (thn (h pos pins s σ H _ I G) fun us s1 ⟨xs,H1,j,r,z,q⟩=>⟨by rw[<-r.length];exact z,?_⟩)
 have N:H1 s1.heap.objs.size=none:=j.hok.fresh (Nat.le_refl _)
 refine⟨.ref s1.heap.objs.size,upd H1 s1.heap.objs.size (.lst xs),j.laid (t':=s1.toks) (fun b u e=>Heap.get?_push_of_some _ e) (Nat.le_refl _) ?_,rfl,q _ N⟩
 exact⟨z,us,0,r,Heap.get?_push_size _ rfl⟩
end
noncomputable abbrev Sp:=List V->Hp->VK->XK->Prop
noncomputable abbrev CXT:=List Env->Hp->Shared->XK->Value->Shared->Prop
structure Env0 (P:Program)(w:World)(K:W.Frag)(mg:Str->Option Value)(base:Heap)(A:Around)(outer:List Env)(s:Shared)(H:Hp):Prop where
 frames:A.frames=some outer
 mod:Mod K mg base
 bs:∀ b o,base.get? b=some o->s.heap.get? b=some o/\H b=none
 bsz:base.objs.size<=s.heap.objs.size
 funs:s.heap.FunFrames base outer
 frf:∀ b∈frs outer,H b=none
 hok:HOk P w H s.heap
 bare:AllBare s.gens
def CE (outer:List Env)(P:Program)(w:World)(H:Hp)(s:Shared)(Q:VK)(u:Value)(s':Shared):Prop:=
 ∃ v H',s'.os=s.os/\AllBare s'.gens/\Un (frs outer) [] H H' s.heap s'.heap/\HOk P w H' s'.heap/\RelV v u/\Q v H'
def CR (CX:CXT)(outer:List Env)(P:Program)(w:World)(H:Hp)(s:Shared)(Q:VK)(E:XK)(r:Result)(s':Shared):Prop:=
 match r with
 | .ok (.ret u)=>CE outer P w H s Q u s'
 | .ok _=>False
 | .error e=>CX outer H s E e s'
structure FnOk (P:Program)(w:World)(K:W.Frag)(mg:Str->Option Value)(base:Heap)(CX:CXT)(k:Nat)(f:Addr)(fd:FuncData)(ps:List Str)(sp:Sp):Prop where
 len:∀ vs H Q E,sp vs H Q E->vs.length=ps.length
 run:∀(A:Around)(outer:List Env)(s:Shared)(H:Hp)(args:Args)(us:List Value)(vs:List V)(Q:VK)(E:XK),Room k A->Env0 P w K mg base A outer s H->BindsTo s fd args (ps.zip us)->Vals vs us->sp vs H Q E->
  codeAny (model P w) A (.call (.ref f) args) (CR CX outer P w H s Q E) s
theorem FnOk.mono {P:Program}{w:World}{K:W.Frag}{mg:Str->Option Value}{base:Heap}{CX:CXT}{j k:Nat}{f:Addr}{fd:FuncData}{ps:List Str}{sp:Sp}(F:FnOk P w K mg base CX j f fd ps sp)(h:j<=k):
  FnOk P w K mg base CX k f fd ps sp:=⟨F.len,fun A outer s H args us vs Q E hr=>F.run A outer s H args us vs Q E (hr.mono h)⟩
theorem FnOk.imp {P:Program}{w:World}{K:W.Frag}{mg:Str->Option Value}{base:Heap}{CX:CXT}{k:Nat}{f:Addr}{fd:FuncData}{ps:List Str}{sp j:Sp}(F:FnOk P w K mg base CX k f fd ps sp)
  (h:∀ vs H Q E,j vs H Q E->sp vs H Q E):FnOk P w K mg base CX k f fd ps j:=
 ⟨fun vs H Q E q=>F.len vs H Q E (h _ _ _ _ q),fun A outer s H args us vs Q E hr z G hv hs=>F.run A outer s H args us vs Q E hr z G hv (h _ _ _ _ hs)⟩
section
variable {X:Cx}{pins:List (Addr×Obj)}{σ:St}{H:Hp}{s s':Shared}
theorem Inv.env0 (I:Inv X pins σ H s):Env0 X.prog X.w X.K X.mg X.base X.A X.stack s H:=
 ⟨I.ok.frames,I.ok.mod,I.bs,Nat.le_trans I.ok.bsz I.sz,I.stack,I.stkFree,I.hok,I.bare⟩
theorem Inv.after {Q:VK}{u:Value}(I:Inv X pins σ H s)(h:CE X.stack X.prog X.w H s Q u s'):EP X pins σ Q u s':=by
 obtain⟨v,H',os,bare,un,hok,r,q⟩:=h
 obtain⟨hh,g,d,t,j⟩:=s'
 obtain rfl:j=s.os:=os
 exact⟨v,H',I.call (h':=hh) (g':=g) (d':=d) (t':=t) (ch:=[]) un hok bare (fun b z=>absurd z (by simp)),r,q⟩
end
def zh2 (sp:Sp)(dvs:List V)(E:XK)(t:TA):TE:=fun σ H Q=>t σ H fun vs H1=>sp (vs++dvs) H1 Q E
def Binds (K:W.Frag)(fd:FuncData)(ps:List Str)(ds:List Value):Prop:=
 ∀(s:Shared)(us:List Value),K.In s.heap->(us++ds).length=ps.length->BindsTo s fd ⟨us,[]⟩ (ps.zip (us++ds))
theorem Binds.all {K:W.Frag}{fd:FuncData}{ps:List Str}(h:∀ us:List Value,us.length=ps.length->bindArgs fd ⟨us,[]⟩=pure (ps.zip us)):Binds K fd ps []:=fun s us _ j=>by
 rw[append_nil]at j ⊢
 exact .of_eq (h us j)
def yt9 (CX:CXT)(X:Cx)(E:XK):Prop:=∀(pins:List (Addr×Obj))(σ:St)(H:Hp)(s:Shared)(e:Value)(s':Shared),Inv X pins σ H s->CX X.stack H s E e s'->X.xe e s'
section
variable {X:Cx}{CX:CXT}{k:Nat}{f C:Addr}{fd:FuncData}{ps:List Str}{sp:Sp}{dvs:List V}{ds:List Value}{E:XK}{x m:Str}{p pos apos:Pos}{e o:Expr}{es:List Expr}{ta:TE}{t:TA}
theorem xx6 {pins:List (Addr×Obj)}{σ:St}{H:Hp}{s:Shared}{Q:VK}{us:List Value}{vs:List V}(F:FnOk X.prog X.w X.K X.mg X.base CX k f fd ps sp)(hr:Room k X.A)(N:Binds X.K fd ps ds)(hd:Vals dvs ds)(z:yt9 CX X E)
  (I:Inv X pins σ H s) (r:Vals vs us) (h:sp (vs++dvs) H Q E):wpAny (model X.prog X.w) X.A (call (.ref f) us) (EP X pins σ Q) X.xe s:=by
 have r2:Vals (vs++dvs) (us++ds):=r.append hd
 have G:(us++ds).length=ps.length:=by rw[<-r2.length];exact F.len _ _ _ _ h
 refine wpAny_call (codeAny_mono (F.run X.A X.stack s H ⟨us,[]⟩ (us++ds) (vs++dvs) Q E hr I.env0 (N s us I.kIn G) r2 h) fun r s' j=>?_)
 cases r with
 |error e=>exact z pins σ H s e s' I j
 |ok fl=>
  cases fl with
  |ret u=>exact I.after j
  |next=>exact False.elim j
  |brk=>exact False.elim j
  |cont=>exact False.elim j
theorem yf8 (F:FnOk X.prog X.w X.K X.mg X.base CX k f fd ps sp)(hr:Room k X.A)(U:Gl X x)(hm:X.mg x=some (.ref f))(O:W.keepIn X.K (.ref f)=true)(Z:Binds X.K fd ps ds)(hd:Vals dvs ds)(N:yt9 CX X E)
  (ha:PA X (e::es) t) (z:(x==("__debug__":Str))=false:=by decide) (Y:starEach (e::es) X.env=(false,eval e X.env)::starEach es X.env:=by rfl) (j:(backTo pos (starEach es X.env)).any (·.1)=false:=by rfl):
  PE X (.Call (.Name x p) (e::es) [] pos) (zh2 sp dvs E t):=by
 intro pins s σ H Q I h
 refine wpAny_Call_Name_kw (yx2 I U hm ?_ z)
 refine W.callWith_K (h₀:=X.base) I.ok.mod.kin O (thn (ha pos pins s σ H _ I h) fun us s1 ⟨vs,H1,G,r,q⟩=>⟨G.kIn,?_⟩) Y j
 exact xx6 F hr Z hd N G r q
structure Mk (K:W.Frag)(C f:Addr):Prop where
 makes:W.makesIn K C=true
 init:W.findIn K (.ref C) "__init__"=some (some (.ref f))
 fn:W.isFn K (.ref f)=true
 kp:W.keepIn K (.ref C)=true
end
def PK (X:Cx)(kws:List Keyword)(t:TA):Prop:=
 ∀(pos:Pos)(pins:List (Addr×Obj))(s:Shared)(σ:St)(H:Hp)(Q:List V->Hp->Prop),Inv X pins σ H s->t σ H Q->wpAny (model X.prog X.w) X.A (evalAll ((backToKw pos (keywordEach kws X.env)).map (·.2))) (AP X pins σ Q) X.xe s
section
variable {X:Cx}{CX:CXT}{k:Nat}{f C:Addr}{fd:FuncData}{ps ks:List Str}{sp:Sp}{E:XK}{x m:Str}{p pos apos kpos:Pos}{e o:Expr}{es:List Expr}{kws:List Keyword}{te ta:TE}{t tk:TA}{nm:Option Str}
theorem zc8:PK X [] tNil:=fun _ _ _ _ H Q I h=>wpAny_evalAll_nil ⟨[],H,I,.nil,h⟩
theorem C3 (ha:PE X e te)(hr:PK X kws t):PK X (⟨nm,e,kpos⟩::kws) (xy7 te t):=by
 intro pos pins s σ H Q I h
 show wpAny _ _ (evalAll ((do let v ← eval e X.env;standAt pos;pure v)::(backToKw pos (keywordEach kws X.env)).map (·.2))) _ _ s
 refine wpAny_evalAll_cons (wpAny_bind (thn (ha pins s σ H _ I h) fun u s1 ⟨x,H1,N,r1,z⟩=>wpAny_bind (wpAny_standAt (wpAny_pure ?_))))
 exact thn (hr pos pins s1 σ H1 _ N z) fun us s2 ⟨xs,H2,G,r2,j⟩=>⟨x::xs,H2,G,.cons r1 r2,j⟩
structure KBinds (K:W.Frag)(fd:FuncData)(ps ks:List Str)(g:List Value->List Value->List Value)(gV:List V->List V->List V):Prop where
 to:∀(s:Shared)(us ws:List Value),K.In s.heap->(g us ws).length=ps.length->BindsTo s fd ⟨us,ks.zip ws⟩ (ps.zip (g us ws))
 rel:∀{vs:List V}{us:List Value}{zs:List V}{ws:List Value},Vals vs us->Vals zs ws->Vals (gV vs zs) (g us ws)
variable {g:List Value->List Value->List Value}{gV:List V->List V->List V}
end
structure FnScope (N P:List Str)(sc:Scope):Prop where
 kind:sc.kind= .function
 co:sc.isCoroutine=false
 gen:sc.isGenerator=false
 nd:N.Nodup
 pre:N.take P.length=P
 par:∀ x∈P,sc.names.lookup x=some .local\/sc.names.lookup x=some .cell
 nofree:∀ y∈sc.names,y.2≠ .free
theorem zu1 {kindOf:Str->Option NameKind}{x:Str}:∀{binds:List (Str×Value)}{m:Str->Option Value},(∀ v,(x,v)∉binds)->bindL kindOf binds m x=m x
 |[],_,_=>rfl
 | (n,v)::r,m,h=>by
  unfold bindL
  rw[zu1 fun w hw=>h w (mem_cons_of_mem _ hw)]
  split
  .have:x≠n:=by rintro rfl;exact h v mem_cons_self
   simp[this]
  .rfl
theorem zu3 {kindOf:Str->Option NameKind}{x:Str}:∀{binds:List (Str×Value)}{m:Str->Option Value},(∀ v,(x,v)∉binds)->bindC kindOf binds m x=m x
 |[],_,_=>rfl
 | (n,v)::r,m,h=>by
  unfold bindC
  rw[zu3 fun w hw=>h w (mem_cons_of_mem _ hw)]
  split
  .rfl
  .have:x≠n:=by rintro rfl;exact h v mem_cons_self
   simp[this]
theorem zu2 {kindOf:Str->Option NameKind}{x:Str}{v:Value}:∀{P:List Str}{vs:List Value}{i:Nat}{m:Str->Option Value},P.Nodup->P[i]? =some x->vs[i]? =some v->kindOf x=some .local->
  bindL kindOf (P.zip vs) m x=some v
 |[],_,_,_,_,h,_,_=>by simp at h
 |_::_,[],_,_,_,_,h,_=>by simp at h
 |p::P,w::vs,0,m,nd,h1,h2,hk=>by
  simp at h1 h2;subst h1;subst h2
  show bindL kindOf ((p,w)::P.zip vs) m p=_
  unfold bindL
  rw[zu1 fun v hv=>(List.nodup_cons.mp nd).1 (of_mem_zip hv).1,if_pos hk]
  simp
 |p::P,w::vs,i+1,m,nd,h1,h2,hk=>by
  show bindL kindOf ((p,w)::P.zip vs) m x=_
  unfold bindL
  exact zu2 (i:=i) (List.nodup_cons.mp nd).2 (by simpa using h1) (by simpa using h2) hk
theorem zu4 {kindOf:Str->Option NameKind}{x:Str}{v:Value}:∀{P:List Str}{vs:List Value}{i:Nat}{m:Str->Option Value},P.Nodup->P[i]? =some x->vs[i]? =some v->kindOf x≠some .local->
  bindC kindOf (P.zip vs) m x=some v
 |[],_,_,_,_,h,_,_=>by simp at h
 |_::_,[],_,_,_,_,h,_=>by simp at h
 |p::P,w::vs,0,m,nd,h1,h2,hk=>by
  simp at h1 h2;subst h1;subst h2
  show bindC kindOf ((p,w)::P.zip vs) m p=_
  unfold bindC
  rw[zu3 fun v hv=>(List.nodup_cons.mp nd).1 (of_mem_zip hv).1,if_neg hk]
  simp
 |p::P,w::vs,i+1,m,nd,h1,h2,hk=>by
  show bindC kindOf ((p,w)::P.zip vs) m x=_
  unfold bindC
  exact zu4 (i:=i) (List.nodup_cons.mp nd).2 (by simpa using h1) (by simpa using h2) hk
noncomputable def start (N:List Str)(vs:List V):St:=vs.map some++List.replicate (N.length-vs.length) none
noncomputable def cxOf (CX:CXT)(P:Program)(w:World)(K:W.Frag)(mg:Str->Option Value)(base:Heap)(N:List Str)(qual:Str)(scope:Scope)(f:Addr)(cd:Value)(A:Around)(outer:List Env)(s:Shared)(H:Hp)(E:XK):Cx where
 prog:=P
 w:=w
 K:=K
 mg:=mg
 base:=base
 A:=A.deeper (envOfC qual scope s.heap.objs.size f cd)
 N:=N
 s₀:=s
 H₀:=H
 env:=envOfC qual scope s.heap.objs.size f cd
 outer:=outer
 stack:=envOfC qual scope s.heap.objs.size f cd::outer
 ex:=[]
 calm:=true
 fn:=fun _=>true
 pn:=[]
 xe:=fun e s'=>wpAny (model P w) (A.deeper (envOfC qual scope s.heap.objs.size f cd)) (leaving (envOfC qual scope s.heap.objs.size f cd) e) (fun _ s''=>CX outer H s E e s'') (fun e' s''=>CX outer H s E e' s'') s'
theorem zj9 {sc:Scope}{n:Nat}{x:Str}(h:sc.names.lookup x=some .cell):∃ c,(cellsFrom n sc.names []).lookup x=some c:=by
 have q:=W.cellsFrom_some sc.names n [] (.inl h)
 exact Option.isSome_iff_exists.mp q
theorem yx6 {CX:CXT}{P:Program}{w:World}{K:W.Frag}{mg:Str->Option Value}{base:Heap}{N ps:List Str}{qual:Str}{scope:Scope}{f:Addr}{Y:Value}{A:Around}{outer:List Env}{s s1:Shared}{H:Hp}{E:XK}{us:List Value}{vs:List V}
  (S:FnScope N ps scope) (hd:A.handled=none) (j:Env0 P w K mg base A outer s H) (hl:vs.length=ps.length) (r:Vals vs us)
  (x:InCallC s s.heap.objs.size (bindL (envOfC qual scope s.heap.objs.size f Y).kindOf (ps.zip us) fun _=>none) (cellsFrom (s.heap.objs.size+1) scope.names []) (bindC (envOfC qual scope s.heap.objs.size f Y).kindOf (ps.zip us) fun _=>none) s1):
  Inv (cxOf CX P w K mg base N qual scope f Y A outer s H E) [] (start N vs) H s1:=by
 have a1:ps.length<=N.length:=by have:=congrArg List.length S.pre;rw[length_take]at this;omega
 obtain⟨h1,tk,rfl,Z⟩:=x.done
 have G:∀ b:Addr,b∉(cxOf CX P w K mg base N qual scope f Y A outer s H E).ex:=fun b z=>absurd (show b∈([]:List Addr)from z) (by simp)
 refine⟨⟨j.mod,S.kind,rfl,rfl,Nat.le_refl _,fun y z c h1 h2=>?_,fun y O=>?_,fun y c _ h=>?_,fun _=>hd,Around.frames_deeper j.frames,.inr ⟨rfl,rfl⟩,fun b z=>absurd z (G b),j.bs,j.bsz,fun b _ _=>G b,fun b z=>absurd z (G b),j.funs,j.frf⟩,
  rfl,j.bare,Un.kept Z,⟨_,x.toInCall.ns,fun i y v h1 h2 h3=>?_⟩,fun y c h=>⟨_,x.cell y c h⟩,j.hok.fresh (Nat.le_refl _),fun y c h=>?_,fun p hp=>absurd (show p∈([]:List (Addr×Obj))from hp) (by simp),j.hok.kept Z,?_⟩
 .exact name_of_addr x.apart (PySem.mem_of_lookup h1) (PySem.mem_of_lookup h2)
 .have O:scope.names.lookup y=some .cell\/scope.names.lookup y=some .free:=O
  rcases O with O|O
  .exact zj9 O
  .exact absurd rfl (S.nofree _ (PySem.mem_of_lookup O))
 .exact Nat.le_of_lt (x.above y c (PySem.mem_of_lookup h))
 .have hi:i<vs.length:=by
   unfold start at h2
   by_cases hi:i<vs.length
   .exact hi
   .rw[getElem?_append_right (by simpa using hi)]at h2
    rw[getElem?_replicate]at h2
    split at h2 <;> cases h2
  have ha:vs[i]? =some v:=by
   unfold start at h2
   rw[getElem?_append_left (by simpa using hi),getElem?_map]at h2
   cases e:vs[i]? with
   |none=>rw[e]at h2;cases h2
   |some a=>rw[e]at h2;cases h2;rfl
  obtain⟨u,hu,rv⟩:=r.get ha
  have hp:ps[i]? =some y:=by
   rw[<-S.pre,getElem?_take_of_lt (by omega)];exact h1
  have U:ps.Nodup:=by rw[<-S.pre];exact S.nd.sublist (take_sublist _ _)
  refine⟨u,rv,?_⟩
  rcases S.par y (mem_of_getElem? hp)with k|k
  .exact .inl ⟨k,zu2 U hp hu k⟩
  .obtain⟨c,e⟩:=zj9 (n:=s.heap.objs.size+1) k
   refine .inr ⟨.inl k,c,e,?_⟩
   have q:=x.cell y c e
   rw[zu4 U hp hu (by show scope.names.lookup y≠_;rw[k];decide)]at q
   exact q
 .exact j.hok.fresh (Nat.le_of_lt (x.above y c (PySem.mem_of_lookup h)))
 .unfold start
  show _=N.length
  rw[length_append,length_map,length_replicate]
  omega
theorem xj4 {CX:CXT}{P:Program}{w:World}{K:W.Frag}{mg:Str->Option Value}{base:Heap}{k:Nat}{f:Addr}{name qual:Str}{params:Arguments}{body:List Stmt}{scope:Scope}{dV kV doc pm cdv ct oc:Value}{an od:Option Addr}
  {osl:Array (Option Value)} {N ps:List Str} {sp:Sp} (lk:K.lookup f=some ⟨oc,od,.func (W.fnOf name qual params body scope dV kV doc pm an cdv ct),osl⟩) (a1:W.codeIn K cdv qual=true) (S:FnScope N ps scope)
  (len:∀ vs H Q E,sp vs H Q E->vs.length=ps.length)
  (G:∀(A:Around)(outer:List Env)(s:Shared)(H:Hp)(vs:List V)(Q:VK)(E:XK),Room k (A.deeper (envOfC qual scope s.heap.objs.size f cdv))->sp vs H Q E->
   ∃ t,PSs (cxOf CX P w K mg base N qual scope f cdv A outer s H E) body t/\t { nx:=fun _ H'=>Q .non H',rt:=Q } (start N vs) H):
  FnOk P w K mg base CX (k+1) f (W.fnOf name qual params body scope dV kV doc pm an cdv ct) ps sp:=by
 refine⟨len,fun A outer s H args us vs Q E hr U hb r O=>?_⟩
 have hl:=len _ _ _ _ O
 have KX:K.In s.heap:=U.mod.kin.keeps fun b o e=>(U.bs b o e).1
 have Z:s.heap.NoLimit:=U.mod.nolimit.keeps fun b o e=>(U.bs b o e).1
 have z:∀ y∈ps.zip us,scope.names.lookup y.1=some .local\/(scope.names.lookup y.1=some .cell/\((cellsFrom (s.heap.objs.size+1) scope.names []).lookup y.1).isSome=true):=fun⟨n,v⟩ hy=>by
  rcases S.par n (of_mem_zip hy).1 with q|q
  .exact .inl q
  .exact .inr ⟨q,W.cellsFrom_some _ _ _ (.inl q)⟩
 refine codeAny_call_function hr.depth (KX _ _ lk) rfl S.co S.gen rfl (W.codeRec_of KX a1) (hb _ _ _ _ ?_)
 refine wpAny_newFunctionEnv_cells S.kind z fun env he s1 x=>?_
 subst he
 refine⟨Z.keeps x.toInCall.keep,codeAny_func ?_⟩
 obtain⟨t,ht,hq⟩:=G A outer s H vs Q E (hr.deeper _) O
 have I:Inv (cxOf CX P w K mg base N qual scope f cdv A outer s H E) [] (start N vs) H s1:=yx6 S hr.hd U hl r x
 refine wpAny_mono (ht [] s1 (start N vs) H _ I hq) (fun fl s' hs=>?_) fun e s' hs=>hs
 have fin:∀{j:St}{H':Hp}{v:V}{u:Value},Inv (cxOf CX P w K mg base N qual scope f cdv A outer s H E) [] j H' s'->RelV v u->Q v H'->CE outer P w H s Q u s':=
  fun{j H' v u} J Y q=>⟨v,H',J.os,J.bare,J.base,J.hok,Y,q⟩
 cases fl with
 |ret u=>
  obtain⟨v,j,H',J,Y,q⟩:=hs
  exact fin J Y q
 |next=>
  obtain⟨j,H',J,q⟩:=hs
  exact fin (v:=V.non) (u:=Value.none) J rfl q
 |brk=>
  obtain⟨_,_,_,q⟩:=hs
  exact False.elim q
 |cont=>
  obtain⟨_,_,_,q⟩:=hs
  exact False.elim q
end
section
section
variable {X:Cx}{x:Str}{p pos:Pos}{e:Expr}{es:List Expr}{t:TA}{id T:String}{r:List V->Hp->VK->Prop}
def tCB (r:List V->Hp->VK->Prop)(t:TA):TE:=fun σ H Q=>t σ H fun vs H1=>r vs H1 Q
theorem Z0 (U:Q8 X (.builtin id) r)(N:Gl X x)(hm:X.mg x=none)(hv:bootBuiltins x=some (.builtin id))(ha:PA X (e::es) t)(hn:x≠"__name__":=by decide)(z:(x==("__debug__":Str))=false:=by decide)
  (O:starEach (e::es) X.env=(false,eval e X.env)::starEach es X.env:=by rfl) (j:(backTo pos (starEach es X.env)).any (·.1)=false:=by rfl):PE X (.Call (.Name x p) (e::es) [] pos) (tCB r t):=by
 intro pins s σ H Q I h
 refine wpAny_Call_Name_kw (W6 I N hm hv ?_ hn z)
 exact PyProof.Rows.callWith_builtin1 (thn (ha pos pins s σ H _ I h) fun us s1 ⟨vs,H1,Y,r1,G⟩=>U pins s1 σ H1 vs us Q Y r1 G) O j
theorem R5 (U:Q8 X (.type T) r)(N:Gl X x)(hm:X.mg x=none)(hv:bootBuiltins x=some (.type T))(ha:PA X (e::es) t)(hn:x≠"__name__":=by decide)(z:(x==("__debug__":Str))=false:=by decide)
  (O:starEach (e::es) X.env=(false,eval e X.env)::starEach es X.env:=by rfl) (j:(backTo pos (starEach es X.env)).any (·.1)=false:=by rfl):PE X (.Call (.Name x p) (e::es) [] pos) (tCB r t):=by
 intro pins s σ H Q I h
 refine wpAny_Call_Name_kw (W6 I N hm hv ?_ hn z)
 exact PyProof.Rows.callWith_type1 (thn (ha pos pins s σ H _ I h) fun us s1 ⟨vs,H1,Y,r1,G⟩=>U pins s1 σ H1 vs us Q Y r1 G) O j
end
end
end L2
namespace HT
open PySem PyProof.Rows
theorem rcLt_int (A:Around)(s:Shared)(a:Int)(t:Tok)(c:Int)(u:Tok)(prog:Program)(w:World)(E:Value->Shared->Prop)(Q:Value->Shared->Prop)(h:Q (.bool (decide (a<c))) s):
  wpAny (model prog w) A (richCompare .Lt (.int a t) (.int c u)) Q E s:=
 (PyProof.Rows.lt_int h:wpAny (model prog w) A (compareOp .Lt (.int a t) (.int c u)) Q E s)
section
open PySem.SeqAt
open PySem.AutoSeq1 (wpAny_loadPart')
open PySem.MeetsSeq PySem.MeetsSeq2 PySem.MeetsSeq3
end
section
variable {prog:Program}{w:World}{A:Around}{E:Value->Shared->Prop}{s:Shared}
noncomputable def sIx (n d:Nat):Option Int->Nat
 |none=>d
 |some v=>if v<0 then (v+(n:Int)).toNat else min v.toNat n
theorem sIx_none (n d:Nat):sIx n d none=d:=rfl
theorem sIx_nat (n d k:Nat):sIx n d (some (k:Int))=min k n:=by
 show (if (k:Int)<0 then ((k:Int)+(n:Int)).toNat else min (k:Int).toNat n)=min k n
 rw[if_neg (by omega),Int.toNat_natCast]
end
end HT
namespace L2
open List
open PySem PySem.Spec PyProof.Rows
section
noncomputable abbrev TO:=St->Hp->(Option Int->Hp->Prop)->Prop
def PO (X:Cx)(e:Option Expr)(t:TO):Prop:=
 ∀(pins:List (Addr×Obj))(s:Shared)(σ:St)(H:Hp)(Q:Option Int->Hp->Prop),Inv X pins σ H s->t σ H Q->
  wpAny (model X.prog X.w) X.A (evalPart e X.env) (fun u s'=>∃ o H',Inv X pins σ H' s'/\IsPart u o/\Q o H') X.xe s
noncomputable def yi7:TO:=fun _ H Q=>Q none H
noncomputable def xo3 (t:TE):TO:=fun σ H Q=>t σ H fun x H1=>∃ i,x= .int i/\Q (some i) H1
section
variable {X:Cx}{e:Expr}{te:TE}{lo hi:Option Expr}{tl th:TO}{pos p2:Pos}
theorem yf2:PO X none yi7:=by
 intro pins s σ H Q I h
 rw[evalPart_none]
 exact wpAny_pure ⟨none,H,I,.none,h⟩
theorem yf1 (h:PE X e te):PO X (some e) (xo3 te):=by
 intro pins s σ H Q I hw
 rw[evalPart_some]
 refine thn (h pins s σ H _ I hw) fun u s1 j=>?_
 obtain⟨x,H1,G,r1,z⟩:=j
 obtain⟨i,rfl,q⟩:=z
 obtain⟨t,rfl⟩:=r1
 exact⟨some i,H1,G,.int i t,q⟩
def SlR (X:Cx)(r:V->Option Int->Option Int->Hp->VK->Prop):Prop:=
 ∀(pins:List (Addr×Obj))(s:Shared)(σ:St)(H:Hp)(x:V)(v vl vu:Value)(lo hi:Option Int)(sl:Addr)(Q:VK),Inv X pins σ H s->RelV x v->s.heap.IsSliceOf sl vl vu .none->IsPart vl lo->IsPart vu hi->r x lo hi H Q->
  ∃ T id,typeLookup (.type T) "__getitem__"=pure (some (.builtin id))/\s.TypeIs v T/\wpAny (model X.prog X.w) X.A (getItem v (.ref sl)) (EP X pins σ Q) X.xe s
def tSl (r:V->Option Int->Option Int->Hp->VK->Prop)(te:TE)(tl th:TO):TE:=fun σ H Q=>te σ H fun x H1=>tl σ H1 fun l H2=>th σ H2 fun u H3=>r x l u H3 Q
theorem yq5 {r:V->Option Int->Option Int->Hp->VK->Prop}(hr:SlR X r)(he:PE X e te)(hl:PO X lo tl)(hu:PO X hi th):PE X (.Subscript e (.Slice lo hi none p2) pos) (tSl r te tl th):=by
 intro pins s σ H Q I h
 refine Subscript_ (thn (he pins s σ H _ I h) fun v s1 j=>?_)
 obtain⟨x,H1,I1,r1,Z⟩:=j
 refine wpAny_Slice (thn (hl pins s1 σ H1 _ I1 Z) fun N s2 ⟨l,H2,I2,pl,Y⟩=>thn (hu pins s2 σ H2 _ I2 Y) fun G z j=>?_)
 obtain⟨u,O,I3,pu,U⟩:=j
 rw[evalPart_none]
 refine wpAny_pure ?_
 have I4:Inv X pins σ O { z with heap:=z.heap.push { cls:=.type "slice",data:=.fields #[N,G,.none] } }:=I3.kept (t':=z.toks) fun b ob q=>Heap.get?_push_of_some _ q
 obtain⟨T,id,hT,ht,hg⟩:=hr pins { z with heap:=z.heap.push { cls:=.type "slice",data:=.fields #[N,G,.none] } } σ O x v N G l u z.heap.objs.size Q I4 r1 (Heap.IsSliceOf.new ..) pl pu U
 show wpAny (model X.prog X.w) X.A (subscriptTail e (.Slice lo hi none p2) v (.ref z.heap.objs.size)) (EP X pins σ Q) X.xe { z with heap:=z.heap.push { cls:=.type "slice",data:=.fields #[N,G,.none] } }
 exact tail_any (ops:=[.ref z.heap.objs.size,v]) ht hT hg (by with_unfolding_all rfl)
noncomputable def cutV (xs:List V)(lo hi:Option Int):List V:=(xs.drop (HT.sIx xs.length 0 lo)).take (HT.sIx xs.length xs.length hi-HT.sIx xs.length 0 lo)
theorem zq4 (xs:List V)(lo hi:Option Int):(cutV xs lo hi).length<=xs.length:=by
 unfold cutV
 rw[length_take,length_drop]
 omega
end
end
section
noncomputable def ixN (n:Nat)(i:Int):Option Nat:=if 0<=i then (if i<n then some i.toNat else none)else if -(n:Int)<=i then some (i+n).toNat else none
noncomputable def atI {α:Type}(xs:List α)(i:Int):Option α:=(ixN xs.length i).bind fun j=>xs[j]?
theorem yx5 {n:Nat}{i:Int}{j:Nat}(h:ixN n i=some j):seqIndex? i n=some j/\j<n/\ -(n:Int)<=i/\i<n:=by
 unfold ixN at h
 by_cases z:0<=i
 .rw[if_pos z]at h
  by_cases h1:i<n
  .rw[if_pos h1]at h
   have e:i.toNat=j:=Option.some.inj h
   exact⟨by rw[seqIndex_of z h1,e],by omega,by omega,h1⟩
  .rw[if_neg h1]at h;cases h
 .rw[if_neg z]at h
  by_cases h1:-(n:Int)<=i
  .rw[if_pos h1]at h
   have e:(i+n).toNat=j:=Option.some.inj h
   exact⟨by rw[seqIndex_neg (by omega) h1,e],by omega,h1,by omega⟩
  .rw[if_neg h1]at h;cases h
theorem ya8 {α:Type}{xs:List α}{i:Int}{v:α}(h:atI xs i=some v):∃ j,seqIndex? i xs.length=some j/\xs[j]? =some v/\j<xs.length/\ -(xs.length:Int)<=i/\i<xs.length:=by
 unfold atI at h
 cases e:ixN xs.length i with
 |none=>rw[e]at h;cases h
 |some j=>
  rw[e]at h
  obtain⟨h1,h2,G,z⟩:=yx5 e
  exact⟨j,h1,h,h2,G,z⟩
theorem atI_last {α:Type}(xs:List α)(v:α):atI (xs++[v]) (-1)=some v:=by
 have j:(xs++[v]).length=xs.length+1:=by simp
 have e:ixN (xs++[v]).length (-1)=some xs.length:=by
  unfold ixN
  rw[j,if_neg (by decide),if_pos (by omega)]
  congr 1
  omega
 unfold atI
 rw[e]
 show (xs++[v])[xs.length]? =some v
 simp
def zp6 (b:Expr):Prop:=∀ o i,subscripted b false o i=operate [o,i] (getItem o i)
def IxR (X:Cx)(r:R2):Prop:=
 ∀(value slice:Expr)(pins:List (Addr×Obj))(s:Shared)(σ:St)(H:Hp)(x y:V)(v u:Value)(Q:VK),Inv X pins σ H s->RelV x v->RelV y u->r x y H Q->
  subscripted slice false v u=operate [v,u] (getItem v u)->wpAny (model X.prog X.w) X.A (subscriptTail value slice v u) (EP X pins σ Q) X.xe s
def MtR (X:Cx)(id:String)(r:V->List V->Hp->VK->Prop):Prop:=
 ∀(pins:List (Addr×Obj))(s:Shared)(σ:St)(H:Hp)(x:V)(xs:List V)(v:Value)(us:List Value)(Q:VK),Inv X pins σ H s->RelV x v->Vals xs us->r x xs H Q->
  wpAny (model X.prog X.w) X.A (call (.builtin id) (v::us)) (EP X pins σ Q) X.xe s
section
variable {X:Cx}{a b:Expr}{ta tb:TE}{pos:Pos}
theorem yf7 {r:R2}(hr:IxR X r)(ha:PE X a ta)(G:PE X b tb)(hs:zp6 b):PE X (.Subscript a b pos) (tOp r ta tb):=by
 intro pins s σ H Q I h
 exact Subscript_ (binT ha G I h fun v u s2 x y H2 N z j q=>hr a b pins s2 σ H2 x y v u Q N z j q (hs _ _))
def rIxL (K:W.Frag):R2:=fun x y H Q=>∃ p xs i v,x= .ref p/\y= .int i/\SqL K H p xs/\atI xs i=some v/\Q v H
theorem zr7:IxR X (rIxL X.K):=by
 intro value G pins s σ H x y v u Q I Z Y h hs
 obtain⟨p,xs,i,z,rfl,rfl,hq,he,q⟩:=h
 cases Z
 obtain⟨t,rfl⟩:=Y
 obtain⟨its,r,pl,hz⟩:=I.list hq
 obtain⟨j,h1,h2,h3,h4,h5⟩:=ya8 he
 obtain⟨w,U,N⟩:=r.get h2
 have hl:=r.length
 have hn:=zw6
 have fin:EP X pins σ Q w s:=⟨z,H,I,N,q⟩
 by_cases O:0<=i
 .have hj:i.toNat=j:=by
   rw[seqIndex_of O h5]at h1
   exact Option.some.inj h1
  exact item_listR pl.isList O (by omega) (by rw[hj];simpa using U) fin hs
 .have hj:(i+(its.toArray.size:Int)).toNat=j:=by
   rw[seqIndex_neg (by omega) h4]at h1
   rw[size_toArray,<-hl]
   exact Option.some.inj h1
  exact subscriptTail_builtinR (x:=w) pl.isList.typeIs slot_list_getitem.lookup
   (wpAny_getItem_list_neg (Q:=fun r s'=>r=w/\EP X pins σ Q r s') pl.isList (by omega) (by rw[size_toArray] <;> omega) (by omega) (by rw[hj];simpa using U) ⟨rfl,fin⟩) hs
theorem zg5 (its:List Value)(n j:Nat)(u:Value):Obj.mapSeq (·.setIfInBounds j u) { cls:=.type "list",data:=.seq its.toArray n }={ cls:=.type "list",data:=.seq (its.set j u).toArray n }:=by
 simp[Obj.mapSeq]
theorem Inv.lst {pins:List (Addr×Obj)}{σ:St}{H:Hp}{s:Shared}{p:Addr}{xs:List V}(I:Inv X pins σ H s)(h:H p=some (.lst xs)):
  ∃(its:List Value)(n:Nat),Vals xs its/\s.heap.get? p=some { cls:=.type "list",data:=.seq its.toArray n }/\xs.length<=sizeLine:=by
 obtain⟨z,its,n,r,e⟩:=I.hok p _ h
 exact⟨its,n,r,e,z⟩
theorem Inv.lstUpd {pins:List (Addr×Obj)}{σ:St}{H:Hp}{s:Shared}{p:Addr}{xs ys:List V}{its its':List Value}{n n':Nat}{f:Obj->Obj}(I:Inv X pins σ H s)(h:H p=some (.lst xs))
  (G:s.heap.get? p=some { cls:=.type "list",data:=.seq its.toArray n }) (j:f { cls:=.type "list",data:=.seq its.toArray n }={ cls:=.type "list",data:=.seq its'.toArray n' }) (r:Vals ys its') (z:ys.length<=sizeLine) (t:Nat):
  Inv X pins σ (upd H p (.lst ys)) { s with heap:=s.heap.update p f,toks:=t }:=by
 have e:(s.heap.update p f).get? p=some { cls:=.type "list",data:=.seq its'.toArray n' }:=by
  rw[Heap.get?_update_self f G (by rw[j] <;> rfl),j]
 refine I.write (x:=p) (e:=p) (by rw[h];trivial) (.inl rfl) (fun b u N q=>(Heap.get?_update_other _ _ (Ne.symm N)).trans q) ⟨_,e⟩ ?_
 exact⟨z,its',n',r,e⟩
def yg4:V->V->V->Hp->(Hp->Prop)->Prop:=fun o i v H Q=>∃ p xs k j,o= .ref p/\i= .int k/\H p=some (.lst xs)/\ixN xs.length k=some j/\Q (upd H p (.lst (xs.set j v)))
theorem X4:PSet X yg4:=by
 intro pins s σ H o i v ov iv u Q I ro ri Z h
 obtain⟨p,xs,k,j,rfl,rfl,hp,hj,q⟩:=h
 cases ro
 obtain⟨t,rfl⟩:=ri
 obtain⟨its,n,r,z,hz⟩:=I.lst hp
 obtain⟨h1,h2,O,N⟩:=yx5 hj
 have G:=r.length
 have hn:=zw6
 have Y:Inv X pins σ (upd H p (.lst (xs.set j v))) { s with heap:=s.heap.update p (Obj.mapSeq (·.setIfInBounds j u)) }:=
  I.lstUpd hp z (zg5 its n j u) (r.set Z j) (by rw[length_set];exact hz) s.toks
 by_cases U:0<=k
 .have hk:k.toNat=j:=by
   rw[seqIndex_of U N]at h1
   exact Option.some.inj h1
  exact W.ki_setAt z U (by omega) (by rw[size_toArray,<-G];exact N) (by rw[hk];exact⟨_,Y,q⟩)
 .have hk:(k+(its.toArray.size:Int)).toNat=j:=by
   rw[seqIndex_neg (by omega) O]at h1
   rw[size_toArray,<-G]
   exact Option.some.inj h1
  exact W.ki_setBack z (by omega) (by rw[size_toArray,<-G];exact O) (by omega) (by rw[hk];exact⟨_,Y,q⟩)
theorem zy2 (lo hi:Option Int)(n:Nat):(sliceBounds lo hi none n).1=((HT.sIx n 0 lo:Nat):Int)/\(sliceBounds lo hi none n).2.1=((HT.sIx n n hi:Nat):Int)/\(sliceBounds lo hi none n).2.2=1:=by
 refine⟨?_,?_,rfl⟩
 .cases lo with
  |none=>simp[sliceBounds,HT.sIx]
  |some i=>
   simp only[sliceBounds,HT.sIx,Option.getD_none,show (1:Int)>0 by decide,if_true]
   by_cases h:i<0
   .simp only[h,if_true] <;> omega
   .simp only[h,if_false] <;> omega
 .cases hi with
  |none=>simp[sliceBounds,HT.sIx]
  |some i=>
   simp only[sliceBounds,HT.sIx,Option.getD_none,show (1:Int)>0 by decide,if_true]
   by_cases h:i<0
   .simp only[h,if_true] <;> omega
   .simp only[h,if_false] <;> omega
theorem D5 (its:List Value)(lo hi:Option Int):slicePick its.toArray lo hi none=((its.drop (HT.sIx its.length 0 lo)).take (HT.sIx its.length its.length hi-HT.sIx its.length 0 lo)).toArray:=by
 obtain⟨h1,h2,j⟩:=zy2 lo hi its.toArray.size
 unfold slicePick
 rw[h1,h2,j]
 simp only[sliceRange_one,pick_run,size_toArray] <;> rfl
def rSlL (K:W.Frag):V->Option Int->Option Int->Hp->VK->Prop:=fun x lo hi H Q=>∃ a xs,x= .ref a/\SqL K H a xs/\∀ p,H p=none->Q (.ref p) (upd H p (.lst (cutV xs lo hi)))
theorem yh0:SlR X (rSlL X.K):=by
 intro pins s σ H x v Z Y lo hi sl Q I G hs pl N h
 obtain⟨a,xs,rfl,U,q⟩:=h
 cases G
 obtain⟨its,r,z,O⟩:=I.list U
 have j:=r.length
 refine⟨"list",_,slot_list_getitem.lookup,z.isList.typeIs,?_⟩
 refine wpAny_getItem_list_slice z.isList hs pl N .none (by simp) ?_ (by rw[size_toArray] <;> omega)
 rw[D5,<-j]
 refine⟨.ref s.heap.objs.size,_,I.laid (t':=s.toks) (o:=.lst (cutV xs lo hi)) (fun b ob q=>Heap.get?_push_of_some _ q) (Nat.le_refl _) ?_,rfl,q _ (I.hok.fresh (Nat.le_refl _))⟩
 exact⟨Nat.le_trans (zq4 xs lo hi) O,_,0,(r.drop (HT.sIx xs.length 0 lo)).take (HT.sIx xs.length xs.length hi-HT.sIx xs.length 0 lo),Heap.get?_push_size _ rfl⟩
theorem zu0:Q8 X (.builtin "len") (fun xs H Q=>∃ p ys,xs=[.ref p]/\(SqL X.K H p ys\/SqT X.K H p ys)/\Q (.int ys.length) H):=by
 intro pins s σ H xs us Q I r h
 obtain⟨p,ys,rfl,z,q⟩:=h
 obtain⟨u,rfl,G⟩:=T9 r
 cases G
 have hn:=zw6
 rcases z with z|z
 .obtain⟨its,r',pl,hz⟩:=I.list z
  have j:=r'.length
  exact Calls.call_len_list pl.isList (by simp only[size_toArray] <;> omega) ⟨.int ys.length,H,I.tok _,⟨s.toks+1,by rw[size_toArray,j]⟩,q⟩
 .obtain⟨its,r',pl,hz⟩:=I.tuple z
  have j:=r'.length
  exact len_tuple pl (by simp only[size_toArray] <;> omega) ⟨.int ys.length,H,I.tok _,⟨s.toks+1,by rw[size_toArray,j]⟩,q⟩
theorem zv9:Q8 X (.type "list") (fun xs H Q=>∃ p ys,xs=[.ref p]/\(SqL X.K H p ys\/SqT X.K H p ys)/\∀ l,H l=none->Q (.ref l) (upd H l (.lst ys))):=by
 intro pins s σ H xs us Q I r h
 obtain⟨p,ys,rfl,N,q⟩:=h
 obtain⟨u,rfl,Z⟩:=T9 r
 cases Z
 have fin:∀(its:List Value),Vals ys its->ys.length<=sizeLine->∀(h':Heap)(z:Nat),(∀ b o',s.heap.get? b=some o'->h'.get? b=some o')->
   h'.get? s.heap.objs.size=some { cls:=.type "list",dict:=none,data:=.seq its.toArray z,slots:=#[] }->EP X pins σ Q (.ref s.heap.objs.size) { s with heap:=h' }:=fun its j G h' z kp e=>
  ⟨.ref s.heap.objs.size,_,I.laid (t':=s.toks) kp (Nat.le_refl _) (show ObjOk X.prog X.w _ h' _ (.lst ys)from⟨G,its,z,j,e⟩),rfl,q _ (I.hok.fresh (Nat.le_refl _))⟩
 rcases N with N|N
 .obtain⟨its,j,pl,G⟩:=I.list N
  have O:=j.length
  obtain⟨o,U,Y,n,hd⟩:=pl.isList
  exact call_list_seq p (.inl rfl) U Y hd (fun h' z kp e=>fin its j G h' z kp e) (by simp only[size_toArray] <;> omega)
 .obtain⟨its,j,pl,G⟩:=I.tuple N
  have O:=j.length
  obtain⟨o,U,Y,n,hd⟩:=pl
  exact call_list_seq p (.inr rfl) U Y hd (fun h' z kp e=>fin its j G h' z kp e) (by simp only[size_toArray] <;> omega)
def tyV (K:W.Frag)(T:String)(x:V)(H:Hp):Prop:=match x with
 | .str _=>T="str"
 | .int _=>T="int"
 | .ref p=>(T="list"/\∃ xs,SqL K H p xs)\/(T="tuple"/\∃ o,K.lookup p=some o/\o.cls= .type "tuple"/\o.dict=none)\/
   (T="dict"/\((∃ kvs,H p=some (.dK kvs))\/∃ kvs,H p=some (.dT kvs)))\/(T="set"/\∃ S n,H p=some (.set S n))
 |_=>False
theorem xz9 {pins:List (Addr×Obj)}{σ:St}{H:Hp}{s:Shared}{T:String}{x:V}{v:Value}(I:Inv X pins σ H s)(r:RelV x v)(ty:tyV X.K T x H):
  s.TypeIs v T/\∀ a,v= .ref a->∃ ob,s.heap.get? a=some ob/\ob.dict=none:=by
 cases x with
 |str z=>
  obtain⟨t,rfl⟩:=r
  cases (show T="str" from ty)
  exact⟨typeIs_str s z t,fun _ e=>nomatch e⟩
 |int i=>
  obtain⟨t,rfl⟩:=r
  cases (show T="int" from ty)
  exact⟨typeIs_int s i t,fun _ e=>nomatch e⟩
 |ref p=>
  cases r
  rcases ty with⟨rfl,xs,G⟩|⟨rfl,o,j,N,hd⟩|⟨rfl,j⟩|⟨rfl,S,n,j⟩
  .obtain⟨its,_,pl,_⟩:=I.list G
   refine⟨pl.isList.typeIs,fun a e=>?_⟩
   cases e
   obtain⟨o,n,e,c,hd,_⟩:=pl
   exact⟨o,e,hd⟩
  .refine⟨⟨o,I.kIn p o j,N⟩,fun a e=>?_⟩
   cases e
   exact⟨o,I.kIn _ o j,hd⟩
  .have z:∃ o,s.heap.get? p=some o/\o.ExactDict:=by
    rcases j with⟨kvs,j⟩|⟨kvs,j⟩
    .obtain⟨_,_,_,_,o,_,_,e,ex,_⟩:=I.hok p _ j
     exact⟨o,e,ex⟩
    .obtain⟨_,_,_,_,o,_,_,e,ex,_⟩:=I.hok p _ j
     exact⟨o,e,ex⟩
   obtain⟨o,e,ex⟩:=z
   refine⟨⟨o,e,ex.1⟩,fun a e2=>?_⟩
   cases e2
   exact⟨o,e,ex.2.1⟩
  .obtain⟨o,_,_,_,e,ex,_⟩:=I.hok p _ j
   refine⟨⟨o,e,ex.1⟩,fun a e2=>?_⟩
   cases e2
   exact⟨o,e,ex.2.1⟩
 |_=>exact False.elim ty
def tBM (K:W.Frag)(T:String)(r:V->List V->Hp->VK->Prop)(to:TE)(t:TA):TE:=fun σ H Q=>to σ H fun x H1=>tyV K T x H1/\t σ H1 fun xs H2=>r x xs H2 Q
variable {o e:Expr}{es:List Expr}{to:TE}{t:TA}{name:Str}{apos cpos:Pos}{T id:String}{r:V->List V->Hp->VK->Prop}
theorem xm1 (pa:PlainAttrs T)(slot:Slot T name id)(U:typeOf (.builtin id)=pure (.type "method_descriptor"))(hm:MtR X id r)(ho:PE X o to)(ha:PA X (e::es) t)
  (G:attributeBase o name X.env (eval o X.env)=eval o X.env:=by rfl)
  (O:((backTo cpos (starEach (e::es) X.env)).all (fun x=>!x.1)&&(backToKw cpos (keywordEach [] X.env)).all (fun x=>x.1.isSome)
   &&decide ((e::es).length+([]:List Keyword).length+(if ([]:List Keyword).isEmpty then 0 else 1)<30))=true:=by rfl)
  (z:(apos.endLine==cpos.line)=true:=by rfl) (hs:starEach (e::es) X.env=(false,eval e X.env)::starEach es X.env:=by rfl) (j:(backTo cpos (starEach es X.env)).any (·.1)=false:=by rfl):
  PE X (.Call (.Attribute o name apos) (e::es) [] cpos) (tBM X.K T r to t):=by
 intro pins s σ H Q I h
 refine wpAny_Call_method_late G O z rfl (thn (ho pins s σ H _ I h) fun v s1 N=>?_)
 obtain⟨x,H1,Z,r1,ty,q1⟩:=N
 obtain⟨h1,h2⟩:=xz9 Z r1 ty
 refine⟨T,id,pa,slot,U,h1,h2,?_⟩
 have Y:=ha cpos pins s1 σ H1 _ Z q1
 rw[hs]at Y ⊢
 refine Calls.callWith_builtin (by show (false || (backTo cpos (starEach es X.env)).any (·.1))=false;rw[j] <;> rfl) (Calls.evalArgs_plain ?_)
 exact thn Y fun us s2 ⟨vs,H2,I2,r2,q2⟩=>hm pins s2 σ H2 x vs v us Q I2 r1 r2 q2
end
end
section
def MtM (X:Cx)(id:String)(r:V->List V->Hp->VK->Prop):Prop:=
 ∀(pins:List (Addr×Obj))(s:Shared)(σ:St)(H:Hp)(x:V)(xs:List V)(v:Value)(us:List Value)(Q:VK),Inv X pins σ H s->RelV x v->Vals xs us->r x xs H Q->
  wpAny (model X.prog X.w) X.A (call (.builtin id) (v::us)) (EP X pins σ Q) X.xe s
theorem Vals.one:∀{x:V}{us:List Value},Vals [x] us->∃ u,us=[u]/\RelV x u
 |_,_,.cons r .nil=>⟨_,rfl,r⟩
theorem Vals.rep {xs:List V}{us:List Value}(h:Vals xs us):∀ k:Nat,Vals (List.replicate k xs).flatten (List.replicate k us).flatten
 |0=>.nil
 |k+1=>by
  rw[replicate_succ,replicate_succ,flatten_cons,flatten_cons]
  exact Vals.append h (Vals.rep h k)
theorem zv0 (its:List Value):∀(k:Nat)(acc:List Value),
  List.foldl (fun z j=>z++j) acc.toArray (List.replicate k its.toArray)=(acc++(List.replicate k its).flatten).toArray
 |0,acc=>by simp
 |k+1,acc=>by
  have e:acc.toArray++its.toArray=(acc++its).toArray:=by simp
  have e2:(acc++its)++(List.replicate k its).flatten=acc++(List.replicate (k+1) its).flatten:=by
   rw[replicate_succ,flatten_cons,append_assoc]
  rw[<-e2,<-zv0 its k (acc++its),<-e,replicate_succ,foldl_cons]
section
variable {X:Cx}{pins:List (Addr×Obj)}{σ:St}{H:Hp}{s:Shared}{l b:Addr}{xs ys zs:List V}
theorem Inv.lset {its its':List Value}{n:Nat}{f:Array Value->Array Value}{t':Nat}(I:Inv X pins σ H s)(N:H l=some (.lst xs))
  (e:s.heap.get? l=some { cls:=.type "list",data:=.seq its.toArray n }) (z:f its.toArray=its'.toArray) (hv:Vals ys its') (j:ys.length<=sizeLine):
  Inv X pins σ (upd H l (.lst ys)) { s with heap:=s.heap.update l (Obj.mapSeq f),toks:=t' }:=by
 have q:=PySem.IsL.update e f
 rw[z]at q
 refine I.write (x:=l) (e:=l) (by rw[N];exact trivial) (.inl rfl) (fun b' u G hu=>(Heap.get?_update_other s.heap (Obj.mapSeq f) (Ne.symm G)).trans hu) ⟨_,q⟩ ?_
 exact⟨j,its',_,hv,q⟩
theorem Inv.lnew {its:List Value}{t':Nat}(I:Inv X pins σ H s)(hv:Vals ys its)(j:ys.length<=sizeLine):
  Inv X pins σ (upd H s.heap.objs.size (.lst ys)) { s with heap:=s.heap.push { cls:=.type "list",data:=.seq its.toArray },toks:=t' }:=
 I.laid (fun _ _ q=>Heap.get?_push_of_some _ q) (Nat.le_refl _) ⟨j,its,0,hv,Heap.get?_push_size _ rfl⟩
theorem Inv.fresh (I:Inv X pins σ H s):H s.heap.objs.size=none:=I.hok.fresh (Nat.le_refl _)
theorem Inv.lstM (I:Inv X pins σ H s)(j:H l=some (.lst xs)):xs.length<=sizeLine/\∃(its:List Value)(n:Nat),Vals xs its/\xs.length=its.length/\s.heap.get? l=some { cls:=.type "list",data:=.seq its.toArray n }:=by
 obtain⟨z,its,n,r,e⟩:=I.hok l _ j
 exact⟨z,its,n,r,r.length,e⟩
theorem yp0 {n:Nat}(h:n<=sizeLine):Builtin.List.listTooLong n=false:=by
 unfold Builtin.List.listTooLong
 exact decide_eq_false (by omega)
end
section
variable {X:Cx}
def zt3:V->List V->Hp->VK->Prop:=fun x vs H Q=>∃ l xs y,x= .ref l/\vs=[y]/\H l=some (.lst xs)/\xs.length<sizeLine/\Q .non (upd H l (.lst (xs++[y])))
theorem zx9:MtM X "list.append" zt3:=by
 intro pins s σ H x vs v us Q I G N h
 obtain⟨l,xs,y,rfl,rfl,j,U,q⟩:=h
 cases G
 obtain⟨u,rfl,O⟩:=N.one
 obtain⟨z,its,n,r,Y,e⟩:=I.lstM j
 refine call_meets F.slot_list_append ⟨_,e,rfl⟩ F.entry_list_append (F.args_list_append_2 _ _) (PySem.list_append l its.toArray n u (by rw[size_toArray];omega)) ⟨e,?_⟩
 refine⟨.non,_,I.lset (its':=its++[u]) j e (by simp) (r.append (.cons O .nil)) ?_,rfl,q⟩
 rw[length_append,length_singleton]
 omega
def rRep:R2:=fun x y H Q=>∃ l k xs,x= .ref l/\y= .int k/\H l=some (.lst xs)/\ -(2^63)<=k/\k<2^63/\xs.length*k.toNat<=sizeLine/\
 ∀ p,H p=none->Q (.ref p) (upd H p (.lst (List.replicate k.toNat xs).flatten))
theorem yd9 {α:Type}(xs:List α)(k:Nat):(List.replicate k xs).flatten.length=k*xs.length:=by
 induction k with
 |zero=>simp
 |succ k j=>rw[replicate_succ,flatten_cons,length_append,j,Nat.succ_mul,Nat.add_comm]
theorem xv6:OpR X (binaryOp .Mult) rRep:=by
 intro pins s σ H x y v u Q I rx ry h
 obtain⟨l,k,xs,rfl,rfl,hH,h1,h2,hz,q⟩:=h
 cases rx
 obtain⟨t,rfl⟩:=ry
 obtain⟨z,its,n,r,hl,e⟩:=I.lstM hH
 have N:its.toArray.size*k.toNat<=sizeLine:=by rw[size_toArray,<-hl];exact hz
 have Y:¬ its.toArray.size*k.toNat>(2^63-1) / 8:=by
  have:(sizeLine:Nat)<=(2^63-1) / 8:=by decide
  omega
 have O:¬ (!Builtin.List.listFitsIndex k)=true:=by
  rw[fitsIndex_both h1 h2]
  exact Bool.false_ne_true
 have j:¬ Builtin.List.listTooLong (its.toArray.size*k.toNat)=true:=by
  rw[yp0 N]
  exact Bool.false_ne_true
 have G:List.foldl (fun x1 Z=>x1++Z) #[] (List.replicate (if its.toArray.isEmpty=true then 0 else k.toNat) its.toArray)=(List.replicate k.toNat its).flatten.toArray:=by
  have f0:∀ m:Nat,List.foldl (fun x1 Z=>x1++Z) #[] (List.replicate m its.toArray)=(List.replicate m its).flatten.toArray:=fun m=>by
   have:=zv0 its m []
   rw[nil_append]at this
   exact this
  rw[f0]
  cases its with
  |nil=>simp
  |cons a r'=>rw[if_neg (by simp)]
 refine wpAny_binaryOp_repeat_ref (T:="list") (U:="int") (by decide) ⟨_,e,rfl⟩ (fun s'=>typeIs_int s' k t) noFill_list_mul F.fills_int_mul F.slot_int_rmul repeat_list F.slot_int_index.lookup
  (call_meets F.slot_int_rmul (typeIs_int s k t) F.entry_int_rmul (F.args_int_rmul_2 _ _) (int___rmul___int_list k t l its.toArray n)
   ⟨e,rfl,⟨_,e,rfl⟩,call_meets F.slot_list_mul ⟨_,e,rfl⟩ F.entry_list_mul (F.args_list_mul_2 _ _) (AutoListH.list___mul___list_int_3 l its.toArray n k t O Y j) ⟨e,?_⟩⟩)
 rw[G]
 exact⟨.ref _,_,I.lnew (t':=s.toks) (r.rep k.toNat) (by rw[yd9,Nat.mul_comm];exact hz),rfl,q _ I.fresh⟩
end
section
variable {prog:Program}{w:World}{A:Around}{E:Value->Shared->Prop}{s:Shared}
end
section
variable {X:Cx}
end
end
end L2
namespace Att
open PySem PySem.W PySem.Calls PyProof.Rows
theorem K5 {P:Params}{h:Heap}:∀(ns:List Int)(vs:List Value),WellAll P h vs (ns.map WData.int)->IntsAre vs ns:=by
 intro ns
 induction ns with
 |nil=>
  intro vs w
  rw[List.map_nil]at w
  cases w
  exact .nil
 |cons n ns j=>
  intro vs w
  rw[List.map_cons]at w
  cases w with
  |cons a b=>
   cases a
   exact .cons _ _ (j _ b)
theorem zd0 {l:OpenLaw}{n:Nat}(hn:l.most=some n){P:Params}{h:Heap}{args:List WData}{j:List Value}
  (z:l.row.toRowW.claim.pre args=true) (Y:WellAll P h j args):
  ∃ a vs ns,j=[Value.ref a]/\args=[WData.list (ns.map WData.int)]/\h.get? a=some { cls:=.type "list",data:=.seq vs.toArray }/\IntsAre vs ns/\ns.length<=n:=by
 have Z:WShape.hasAll [] args [.list .int]=true:=(pre_splitW z).1
 have hc:l.pre.holds [] { args:=args }=true:=(pre_splitW z).2
 obtain⟨d,r,rfl,h1,h2⟩:=hasAllW_cons Z
 obtain rfl:=hasAllW_nil h2
 obtain⟨xs,rfl,h3⟩:=hasW_list h1
 obtain⟨ns,rfl⟩:=items_int h3
 have G:ns.length<=n:=by
  unfold OpenLaw.pre at hc
  have U:(WTm.not (.lt (.lit (.int (n:Int))) (.len (.arg 0)))).holds [] { args:=[.list (ns.map .int)] }=true:=by
   have U:=(holds_andW hc).1
   rw[hn]at U
   exact U
  have O:=condW_of U (w_not (w_lt w_lit (w_len_list (w_arg rfl))))
  rw[List.length_map]at O
  refine Nat.le_of_not_lt fun q=>?_
  have q':(n:Int)<((ns.length:Nat):Int):=by omega
  first
   | (rw[decide_eq_true q']at O;exact absurd O (by decide))
   | (simp at O;omega)
 cases Y with
 |cons w1 w2=>
  cases w2
  cases w1 with
  |list ho N=>exact⟨_,_,ns,rfl,rfl,ho,K5 ns _ N,G⟩
theorem zc6 (l:OpenLaw)(args:List WData):l.row.toRowW.claim.post args (.bool true) args=true:=
 postW_of (r:=l.row.toRowW) (X:=(true==true))
  (show WShape.has [] (.bool true) .bool=true by first|rfl|decide|simp[WShape.has,WShape.arms,WShape.armsAll])
  (show (WTm.eq .res (.lit (.bool true))).value [] { args:=args,res:=some (.bool true),after:=args }=some (.bool (true==true))from w_eq_bool (w_res rfl) w_lit) rfl
theorem attach_call {l:OpenLaw}{n:Nat}{q:Program}{z:List Str}{XP:(Str->Option Value)->Heap->Prop}{YP:World->Heap->Prop}{d:DefRec}
  (hn:l.most=some n) (a3:d.params.defaults=[])
  (call:∀(w:World)(s₀ j:Shared)(mg mb:Str->Option Value)(fa:Addr)(o:Obj)(pm cd doc:Value)(a:Addr)(vs:List Value)(ns:List Int),
   Ground q z [] XP w s₀ mg mb j.heap->YP w j.heap->
   j.heap.get? fa=some o->o.data= .func (docDef d.name d.params d.body d.scope pm cd doc)->j.heap.CodeRec cd d.name->mg d.name=some (.ref fa)->
   j.heap.get? a=some { cls:=.type "list",data:=.seq vs.toArray }->IntsAre vs ns->ns.length<=n->j.gens=#[]->
   codeAny (model l.prog w) callerA (.call (.ref fa) ⟨[.ref a],[]⟩) (fun r s'=>r= .ok (.ret (.bool true))/\OldK j.heap s'.heap/\s'.os=j.os/\AllBare s'.gens) j):
  WalkO q z XP YP l.row.toRowW d [] (fun f vs=>PySem.call f vs):=by
 intro w s₀ j mg mb G Y fa o pm cd doc dV kV ho hd a4 hD a2 hg args a5 as O a6 a7 a1 a8
 obtain rfl:dV= .none:=Dflts.none hD a3
 obtain rfl:kV= .none:=Dflts.noKw hD
 obtain⟨a,vs,ns,rfl,rfl,U,N,Z⟩:=zd0 hn O a1
 refine enter_call (codeAny_mono (call w s₀ j mg mb fa o pm cd doc a vs ns G Y ho (fd_plain hd) a4 a2 U N Z hg) fun r s' hq=>?_)
 obtain⟨rfl,h2,h3,h4⟩:=hq
 exact⟨.inl ⟨.bool true,.bool true,[],rfl,fun _=>rfl,.bool true,zc6 l _,fun _=>⟨List.Pairwise.nil,fun _ hm=>(nomatch hm)⟩⟩,h2,h3,h4⟩
section
variable {prog:Program}{w:World}{A:Around}{E:Value->Shared->Prop}{s:Shared}{K:Frag}
end
end Att
namespace L2
open List
open PySem PySem.Spec PyProof.Rows
section
theorem zz6:∀{vs:List Value}{ns:List Int},IntsAre vs ns->Vals (ns.map V.int) vs
 |_,_,.nil=>.nil
 |_,_,.cons n t h=>.cons ⟨t,rfl⟩ (zz6 h)
def Only (H:Hp):Prop:=∀ b,H b=none\/∃ o xs,H b=some (.frz o (.lst xs))
theorem yo7 {P:Program}{w:World}{K:W.Frag}{mg mb:Str->Option Value}{CX:CXT}{k:Nat}{fa a:Addr}{fd:FuncData}{x:Str}{sp:Sp}{j:Shared}{vs:List Value}{ns:List Int}
  (KX:K.In j.heap) (a3:j.heap.Ns mainGlobals mg) (N:j.heap.Ns builtinsNs mb) (a8:∀ x:Str,x≠"__name__"->mb x=bootBuiltins x) (a4:j.heap.NoLimit) (hg:j.gens=#[])
  (ha:j.heap.get? a=some { cls:=.type "list",data:=.seq vs.toArray }) (hi:IntsAre vs ns) (hl:ns.length<=sizeLine) (hr:Room k callerA)
  (F:∀ base:Heap,K.In base->base.Ns mainGlobals mg->FnOk P w K mg base CX k fa fd [x] sp) (Y:∀(s:Shared)(u:Value),BindsTo s fd ⟨[u],[]⟩ [(x,u)])
  (a7:∀ H:Hp,Only H->SqL K H a (ns.map V.int)->sp [.ref a] H (fun v _=>v= .bl true) fun _ _ _=>False)
  (a9:∀ H e s',CX [] H j (fun _ _ _=>False) e s'->False):
  codeAny (model P w) callerA (.call (.ref fa) ⟨[.ref a],[]⟩) (fun r s'=>r= .ok (.ret (.bool true))/\OldK j.heap s'.heap/\s'.os=j.os/\AllBare s'.gens) j:=by
 have rv:=zz6 hi
 have a1:=hi.length
 have U:∀ H:Hp,Only H->SqL K H a (ns.map V.int)->HOk P w H j.heap->(∀ b,H b≠none->b=a)->(H a≠none->K.lookup a=none)->
   codeAny (model P w) callerA (.call (.ref fa) ⟨[.ref a],[]⟩) (fun r s'=>r= .ok (.ret (.bool true))/\OldK j.heap s'.heap/\s'.os=j.os/\AllBare s'.gens) j:=by
  intro H hO hS hok hA hK
  have G:∀{b:Addr}{o:Obj},j.heap.get? b=some o->H b=none->(hidT j.heap H).get? b=some o:=fun e n=>yn2 e n
  have a6:∀{b:Addr}{o:Obj}{es:Array DictEntry}{ep:Nat},j.heap.get? b=some o->o.data= .dict es ep->H b=none:=fun{b o es ep} e d=>by
   cases q:H b with
   |none=>rfl
   |some u=>
    have e':b=a:=hA b (by rw[q];simp)
    subst e'
    rw[ha]at e;cases e
    have d':Data.seq vs.toArray _=Data.dict es ep:=d
    cases d'
  have O:∀{b:Addr}{m:Str->Option Value},j.heap.Ns b m->(hidT j.heap H).Ns b m:=fun{b m} ⟨o,es,ep,e,d,r⟩=>⟨o,es,ep,G e (a6 e d),d,r⟩
  have a5:K.In (hidT j.heap H):=fun b o e=>G (KX b o e) (by
   cases q:H b with
   |none=>rfl
   |some u=>
    have e':b=a:=hA b (by rw[q];simp)
    subst e'
    rw[hK (by rw[q];simp)]at e;cases e)
  have hM:Mod K mg (hidT j.heap H):=⟨a5,O a3,⟨mb,O N,a8⟩,let ⟨mc,h1,h2⟩:=a4;⟨mc,O h1,h2⟩⟩
  have e0:Env0 P w K mg (hidT j.heap H) callerA [] j H:=⟨rfl,hM,fun b o e=>ye9 e,Nat.le_of_eq (yw0 _ _),trivial,fun b N=>absurd (show b∈([]:List Addr)from N) (by simp),hok,.of_eq hg⟩
  refine codeAny_mono ((F _ a5 (O a3)).run callerA [] j H ⟨[.ref a],[]⟩ [.ref a] [.ref a] _ _ hr e0 (Y j (.ref a)) (.cons rfl .nil) (a7 H hO hS)) fun r s' h=>?_
  cases r with
  |error e=>exact(a9 H e s' h).elim
  |ok fl=>
   cases fl with
   |next=>exact False.elim h
   |brk=>exact False.elim h
   |cont=>exact False.elim h
   |ret u=>
    obtain⟨v,H',os,bare,un,a2,r',q⟩:=h
    have q':v= .bl true:=q
    subst q'
    obtain rfl:u=Value.bool true:=r'
    refine⟨rfl,OldK.of_keep fun b o e=>?_,os,bare⟩
    cases q:H b with
    |none=>exact un.keep b o e q (by intro z;exact absurd (show b∈([]:List Addr)from z) (by simp)) (by simp)
    |some u=>
     rcases hO b with z|⟨ob,xs,z⟩
     .rw[q]at z;cases z
     .have z2:=un.frzs b ob _ z
      obtain⟨e1,_⟩:=hok b _ z
      obtain⟨e2,_⟩:=a2 b _ z2
      rw[e]at e1;cases e1
      exact e2
 cases hk:K.lookup a with
 |some o=>
  have e:=KX a o hk
  rw[ha]at e
  cases e
  refine U (fun _=>none) (fun _=>.inl rfl) (.inr ⟨_,vs.toArray,_,hk,rfl,rfl,rfl,by rw[size_toArray,a1];exact hl,by simpa using rv⟩) (fun b u z=>by have Z:(none:Option HO)=some u:=z;cases Z) (fun b z=>absurd rfl z) fun z=>absurd rfl z
 |none=>
  refine U (fun b=>if b=a then some (.frz { cls:=.type "list",data:=.seq vs.toArray } (.lst (ns.map V.int)))else none) (fun b=>?_) (.inl (.inr ⟨{ cls:=.type "list",data:=.seq vs.toArray },if_pos rfl⟩)) (fun b u z=>?_) (fun b z=>?_) fun _=>hk
  .by_cases N:b=a
   .exact .inr ⟨_,_,if_pos N⟩
   .exact .inl (if_neg N)
  .by_cases N:b=a
   .have Z:=(if_pos N).symm.trans z
    cases Z
    subst N
    exact⟨ha,by rw[length_map];exact hl,vs,_,rv,ha⟩
   .have Z:=(if_neg N).symm.trans z
    cases Z
  .by_cases N:b=a
   .exact N
   .exact absurd (if_neg N) z
end
section
theorem walk_of {l:W.OpenLaw}{n k:Nat}{q:Program}{z:List Str}{XP:(Str->Option Value)->Heap->Prop}{YP:World->Heap->Prop}{d:DefRec}{K:Params->W.Frag}{CX:World->CXT}{sp:World->Sp}{x:Str}
  (hn:l.most=some n) (a2:n<=sizeLine) (a4:d.params.defaults=[]) (hr:Room k callerA)
  (hY:∀(w:World)(h:Heap),YP w h->(K w.params).In h)
  (F:∀(w:World)(mg:Str->Option Value)(Z:Addr)(h:Heap),(K w.params).In h->h.Ns mainGlobals mg->mg d.name=some (.ref Z)->
   ∃ fd:FuncData,(∀(s:Shared)(u:Value),BindsTo s fd ⟨[u],[]⟩ [(x,u)])/\
    ∀ base:Heap,(K w.params).In base->base.Ns mainGlobals mg->FnOk l.prog w (K w.params) mg base (CX w) k Z fd [x] (sp w))
  (a1:∀(w:World)(H:Hp)(a:Addr)(ns:List Int),ns.length<=n->Only H->SqL (K w.params) H a (ns.map V.int)->sp w [.ref a] H (fun v _=>v= .bl true) fun _ _ _=>False)
  (a5:∀(w:World)(H:Hp)(s:Shared)(e:Value)(s':Shared),CX w [] H s (fun _ _ _=>False) e s'->False):
  W.WalkO q z XP YP l.row.toRowW d [] (fun f vs=>PySem.call f vs):=by
 refine Att.attach_call hn a4 fun w s₀ O mg mb Z o pm cd doc a vs ns G Y ho hd a6 a3 U N j hg=>?_
 have KX:=hY w _ Y
 obtain⟨fd,hb,hF⟩:=F w mg Z _ KX G.T.g a3
 exact yo7 KX G.T.g G.T.b G.T.builtins G.T.nolimit hg U N (Nat.le_trans j a2) hr hF hb (fun H hO hS=>a1 w H a ns j hO hS) fun H e s'=>a5 w H O e s'
end
section
noncomputable def X8 (s:Stmt):Arguments:=match s with
 | .FunctionDef _ a _ _ _ _ _ _ _ _=>a
 |_=>{ posonlyargs:=[],args:=[],vararg:=none,kwonlyargs:=[],kw_defaults:=[],kwarg:=none,defaults:=[] }
noncomputable def j2 (s:Stmt):List Stmt:=match s with
 | .FunctionDef _ _ b _ _ _ _ _ _ _=>b
 |_=>[]
noncomputable def z9 (s:Stmt):Scope:=match s with
 | .FunctionDef _ _ _ _ _ _ sc _ _ _=>sc
 |_=>{ kind:=.function,names:=[],isGenerator:=false,isCoroutine:=false }
abbrev CX0:CXT:=fun _ _ _ _ _ _=>False
abbrev E0:XK:=fun _ _ _=>False
theorem xm2 {X:Cx}:yt9 CX0 X E0:=fun _ _ _ _ _ _ _ h=>h.elim
structure Fun (K:W.Frag)(x qual:Str)(st:Stmt)(f:Addr)(fd:FuncData):Prop where
 ex:∃(oc:Value)(od:Option Addr)(kV doc pm:Value)(an:Option Addr)(cdv ct:Value)(osl:Array (Option Value)),
  fd=W.fnOf x qual (X8 st) (j2 st) (z9 st) .none kV doc pm an cdv ct/\K.lookup f=some ⟨oc,od,.func fd,osl⟩/\W.codeIn K cdv qual=true
 kp:W.keepIn K (.ref f)=true
section
variable {P:Program}{w:World}{K:W.Frag}{mg:Str->Option Value}{base:Heap}
theorem Fun.ok {x qual:Str}{st:Stmt}{f:Addr}{fd:FuncData}{N ps:List Str}{k:Nat}{sp:Sp}(F:Fun K x qual st f fd)(S:FnScope N ps (z9 st))(len:∀ vs H Q E,sp vs H Q E->vs.length=ps.length)
  (j:∀(cdv:Value)(A:Around)(outer:List Env)(s:Shared)(H:Hp)(vs:List V)(Q:VK)(E:XK),Room k (A.deeper (envOfC qual (z9 st) s.heap.objs.size f cdv))->sp vs H Q E->
   ∃ t,PSs (cxOf CX0 P w K mg base N qual (z9 st) f cdv A outer s H E).nox (j2 st) t/\t { nx:=fun _ H'=>Q .non H',rt:=Q } (start N vs) H):FnOk P w K mg base CX0 (k+1) f fd ps sp:=by
 obtain⟨oc,od,kV,doc,pm,an,cdv,ct,osl,rfl,O,G⟩:=F.ex
 refine xj4 O G S len fun A outer s H vs Q E hr z=>?_
 obtain⟨t,h,q⟩:=j cdv A outer s H vs Q E hr z
 exact⟨t,h.nox,q⟩
theorem Fun.binds {x qual:Str}{st:Stmt}{f:Addr}{fd:FuncData}{ps:List Str}(F:Fun K x qual st f fd)
  (h:∀(kV doc pm:Value)(an:Option Addr)(cdv ct:Value)(us:List Value),us.length=ps.length->bindArgs (W.fnOf x qual (X8 st) (j2 st) (z9 st) .none kV doc pm an cdv ct) ⟨us,[]⟩=pure (ps.zip us)):Binds K fd ps []:=by
 obtain⟨oc,od,kV,doc,pm,an,cdv,ct,osl,rfl,z,j⟩:=F.ex
 exact .all (h kV doc pm an cdv ct)
theorem yw3 {x qual:Str}{st:Stmt}{f:Addr}{oc:Value}{od an:Option Addr}{osl:Array (Option Value)}{kV doc pm cdv ct:Value}(l:K.lookup f=some ⟨oc,od,.func (W.fnOf x qual (X8 st) (j2 st) (z9 st) .none kV doc pm an cdv ct),osl⟩)
  (c:W.codeIn K cdv qual=true) (k:W.keepIn K (.ref f)=true):Fun K x qual st f (W.fnOf x qual (X8 st) (j2 st) (z9 st) .none kV doc pm an cdv ct):=⟨⟨oc,od,kV,doc,pm,an,cdv,ct,osl,rfl,l,c⟩,k⟩
end
section
variable {X:Cx}
theorem pv (i:Nat){x:Str}{pos:Pos}(z:X.N[i]? =some x:=by rfl)(hv:Vis X.env.scope x:=by first|exact Or.inl rfl|exact Or.inr (Or.inl rfl)|exact Or.inr (Or.inr rfl))(hd:(x==("__debug__":Str))=false:=by decide)
  (j:(x==("__classdict__":Str))=false:=by decide):PE X (.Name x pos) (tVar i):=xw9 z hv hd j
end
theorem iteF {A B:Prop}(h:B):if false=true then A else B:=by
 rw[if_neg Bool.false_ne_true]
 exact h
theorem iteT {A B:Prop}(h:A):if true=true then A else B:=by
 rw[if_pos rfl]
 exact h
def Same (H H':Hp):Prop:=∀ b o,H b=some o->H' b=some o
theorem Same.refl (H:Hp):Same H H:=fun _ _ h=>h
theorem Same.trans {H H1 H2:Hp}(a:Same H H1)(b:Same H1 H2):Same H H2:=fun c o h=>b c o (a c o h)
theorem Same.free {H H':Hp}(e:Same H H'){l:Addr}(h:H' l=Option.none):H l=Option.none:=by
 cases q:H l with
 |none=>rfl
 |some o=>
  rw[e l o q]at h
  cases h
theorem Same.seq {K:W.Frag}{H H':Hp}{a:Addr}{xs:List V}(e:Same H H')(h:SqL K H a xs):SqL K H' a xs:=by
 rcases h with (h|⟨o,h⟩)|h
 .exact .inl (.inl (e _ _ h))
 .exact .inl (.inr ⟨o,e _ _ h⟩)
 .exact .inr h
end
section
noncomputable def clOf (cells:List (Str×Addr)):List (Str×NameKind)->List (Str×Addr)->List (Str×Addr)
 |[],cs=>cs
 | (n,k)::r,cs=>if k= .free then (match cells.lookup n with |some c=>clOf cells r ((n,c)::cs)|none=>clOf cells r cs)else clOf cells r cs
theorem S6 {env:Env}:∀(names:List (Str×NameKind))(z:List (Str×Addr)),(∀ x∈names,x.2= .free->∃ c,env.cells.lookup x.1=some c)->
  (forIn names z fun x r=>if (x.2==NameKind.free)=true then do let c ← cellOf env x.1;pure (ForInStep.yield ((x.1,c)::r))else pure (ForInStep.yield r):Sem (List (Str×Addr)))=pure (clOf env.cells names z)
 |[],z,_=>rfl
 | (n,k)::r,z,h=>by
  have hr:∀ x∈r,x.2= .free->∃ c,env.cells.lookup x.1=some c:=fun x N=>h x (mem_cons_of_mem _ N)
  rw[forIn_cons]
  by_cases G:k= .free
  .subst G
   obtain⟨c,O⟩:=h (n,.free) mem_cons_self rfl
   have j:env.cells.lookup n=some c:=O
   have e:cellOf env n=pure c:=by unfold cellOf;rw[j]
   simp only[beq_self_eq_true,if_true,e,pure_bind]
   rw[S6 r _ hr]
   simp only[clOf,if_true,j]
  .have hb:(k==NameKind.free)=false:=by simpa using G
   simp only[hb,Bool.false_eq_true,if_false,pure_bind]
   rw[S6 r z hr]
   simp only[clOf,G,if_false]
theorem J5 {env:Env}{scope:Scope}(h:∀ x∈scope.names,x.2= .free->∃ c,env.cells.lookup x.1=some c):closureFor scope env=pure (clOf env.cells scope.names []):=by
 have q:=S6 (env:=env) scope.names [] h
 simp only[closureFor]
 refine Eq.trans ?_ q
 have e:∀(m:Sem (List (Str×Addr))),(m >>= fun j=>pure j)=m:=fun m=>by simp
 first| (rw[e];rfl)|rfl|simp
theorem M9 {cells:List (Str×Addr)}{x:Str}{c:Addr}:∀(names:List (Str×NameKind))(j:List (Str×Addr)),(∀ y d,j.lookup y=some d->cells.lookup y=some d)->(clOf cells names j).lookup x=some c->cells.lookup x=some c
 |[],j,h,e=>h x c e
 | (n,k)::r,j,h,e=>by
  unfold clOf at e
  split at e
  .split at e
   .rename_i d hd
    refine M9 r _ (fun y d' q=>?_) e
    rw[lookup_cons]at q
    split at q
    .rename_i hy
     have:y=n:=by simpa using hy
     subst this
     cases q;exact hd
    .exact h y d' q
   .exact M9 r j h e
  .exact M9 r j h e
theorem Q3 {cells:List (Str×Addr)}{x:Str}:∀(names:List (Str×NameKind))(j:List (Str×Addr)),(j.lookup x).isSome=true->((clOf cells names j).lookup x).isSome=true
 |[],j,h=>h
 | (n,k)::r,j,h=>by
  unfold clOf
  split
  .split
   .refine Q3 r _ ?_
    rw[lookup_cons];split
    .rfl
    .exact h
   .exact Q3 r j h
  .exact Q3 r j h
theorem Q4 {cells:List (Str×Addr)}{x:Str}{c:Addr}(z:cells.lookup x=some c):∀(names:List (Str×NameKind))(j:List (Str×Addr)),(x,NameKind.free)∈names->((clOf cells names j).lookup x).isSome=true
 |[],j,h=>absurd h (by simp)
 | (n,k)::r,j,h=>by
  unfold clOf
  rcases List.mem_cons.mp h with e|h
  .cases e
   rw[if_pos rfl,z]
   refine Q3 r _ ?_
   simp[lookup_cons]
  .split
   .split
    .exact Q4 z r _ h
    .exact Q4 z r j h
   .exact Q4 z r j h
theorem c8 {env:Env}:∀{names:List (Str×NameKind)}{x:Str},names.lookup x=some .free->
  (names.map fun(n,k)=>if (k==NameKind.free&&env.scope.kind== .function&&env.kindOf n==some .cell)then (n,NameKind.cell)else (n,k)).lookup x=some .cell\/
  (names.map fun(n,k)=>if (k==NameKind.free&&env.scope.kind== .function&&env.kindOf n==some .cell)then (n,NameKind.cell)else (n,k)).lookup x=some .free
 |[],_,h=>by simp at h
 | (n,k)::r,x,h=>by
  have j:=@c8 env r x
  show List.lookup x ((if (k==NameKind.free&&env.scope.kind== .function&&env.kindOf n==some .cell)=true then (n,NameKind.cell)else (n,k))::_)=_\/List.lookup x ((if (k==NameKind.free&&env.scope.kind== .function&&env.kindOf n==some .cell)=true then (n,NameKind.cell)else (n,k))::_)=_
  by_cases z:(k==NameKind.free&&env.scope.kind== .function&&env.kindOf n==some .cell)=true
  .rw[if_pos z]
   cases hx:x==n with
   |true=>left;simp only[lookup_cons,hx]
   |false=>simp only[lookup_cons,hx]at h ⊢;exact j h
  .rw[if_neg z]
   cases hx:x==n with
   |true=>right;simp only[lookup_cons,hx]at h ⊢;exact h
   |false=>simp only[lookup_cons,hx]at h ⊢;exact j h
theorem W1 {env:Env}:∀{names:List (Str×NameKind)}{x:Str}{k:NameKind},(∀ y∈names,y.2≠ .cell)->
  (names.map fun(n,k)=>if (k==NameKind.free&&env.scope.kind== .function&&env.kindOf n==some .cell)then (n,NameKind.cell)else (n,k)).lookup x=some k->(k= .cell\/k= .free)->(x,NameKind.free)∈names
 |[],_,_,_,h,_=>by simp at h
 | (n,G)::r,x,k,hc0,h,z=>by
  have O:=@W1 env r x k (fun y U=>hc0 y (mem_cons_of_mem _ U))
  have h:List.lookup x ((if (G==NameKind.free&&env.scope.kind== .function&&env.kindOf n==some .cell)=true then (n,NameKind.cell)else (n,G))::_)=_:=h
  by_cases N:(G==NameKind.free&&env.scope.kind== .function&&env.kindOf n==some .cell)=true
  .rw[if_pos N]at h
   have Y:G= .free:=by
    have:=N;simp only[Bool.and_eq_true]at this;simpa using this.1.1
   cases hx:x==n with
   |true=>
    have j:x=n:=by simpa using hx
    subst j;subst Y;exact mem_cons_self
   |false=>simp only[lookup_cons,hx]at h;exact mem_cons_of_mem _ (O h z)
  .rw[if_neg N]at h
   cases hx:x==n with
   |true=>
    have j:x=n:=by simpa using hx
    subst j
    simp only[lookup_cons,hx]at h
    have e:G=k:=Option.some.inj h
    subst e
    rcases z with z|z
    .exact absurd z (hc0 _ mem_cons_self)
    .subst z;exact mem_cons_self
   |false=>simp only[lookup_cons,hx]at h;exact mem_cons_of_mem _ (O h z)
end
section
structure Blk (X:Cx)(sc:Scope)(N:List Str)(src:List (Option Nat)):Prop where
 kind:sc.kind= .function
 nocell:∀ y∈sc.names,y.2≠ .cell
 names:∀ y∈sc.names,y.2= .local->sc.names.lookup y.1=some .local
 free:∀ y∈sc.names,y.2= .free->X.env.kindOf y.1=some .cell\/X.env.kindOf y.1=some .free
 fv:∀(j i:Nat),src[j]? =some (some i)->∃ x,N[j]? =some x/\X.N[i]? =some x/\sc.names.lookup x=some .free
 len:src.length=N.length
noncomputable def blk0 (src:List (Option Nat))(σ:St):St:=src.map fun o=>o.bind fun i=>(σ[i]?).join
noncomputable def d6 (X:Cx)(sc:Scope)(C:Addr)(N:List Str)(fp:List Addr)(s:Shared)(H:Hp):Cx where
 prog:=X.prog
 w:=X.w
 K:=X.K
 mg:=X.mg
 base:=X.base
 A:=X.A
 N:=N
 s₀:=s
 H₀:=H
 env:=compEnvC sc (clOf X.env.cells sc.names []) C X.env
 outer:=X.stack
 stack:=X.stack
 ex:=fp
 fn:=fun _=>false
 calm:=X.calm
 pn:=[]
 xe:=fun _ _=>False
section
variable {X:Cx}{pins:List (Addr×Obj)}{σ:St}{H:Hp}{s:Shared}
theorem Blk.cl {sc:Scope}{N:List Str}{src:List (Option Nat)}(B:Blk X sc N src)(ok:X.Ok):closureFor sc X.env=pure (clOf X.env.cells sc.names []):=
 J5 fun x j z=>ok.has x.1 (B.free x j z)
theorem N5 {sc:Scope}{x:Str}{c:Addr}(h:(clOf X.env.cells sc.names []).lookup x=some c):X.env.cells.lookup x=some c:=
 M9 sc.names [] (fun y d e=>by simp at e) h
theorem yu9 {sc:Scope}{N:List Str}{src:List (Option Nat)}{fp:List Addr}{D C:Addr}{U:Heap}{t:Nat}{m:Str->Option Value}
  (B:Blk X sc N src) (I:Inv X pins σ H s) (Z:∀ b∈fp,FpOk X pins H b) (a3:∀ b∈fp,∃ o,s.heap.get? b=some o)
  (Y:∀ b o,s.heap.get? b=some o->U.get? b=some o) (hD:s.heap.objs.size<=D) (a7:U.get? D=some { cls:=.type "list",data:=.seq #[] 0 })
  (hn:U.Ns C m) (hC:s.heap.objs.size<=C) (a8:D≠C):
  Inv (d6 X sc C N fp s H) [] (blk0 src σ) (upd H D (.lst [])) { s with heap:=U,toks:=t }:=by
 have a5:H D=none:=I.hok.fresh hD
 have a6:H C=none:=I.hok.fresh hC
 have new:ObjOk X.prog X.w (upd H D (.lst [])) U D (.lst []):=⟨Nat.zero_le _,[],0,.nil,a7⟩
 have cC:∀ x c,X.env.cells.lookup x=some c->c≠C:=fun x c e z=>by
  obtain⟨v,q⟩:=I.cell x c e
  exact absurd (Nat.lt_of_lt_of_le q.lt (by rw[z];exact hC)) (Nat.lt_irrefl _)
 have cD:∀ x c,X.env.cells.lookup x=some c->c≠D:=fun x c e z=>by
  obtain⟨v,q⟩:=I.cell x c e
  exact absurd (Nat.lt_of_lt_of_le q.lt (by rw[z];exact hD)) (Nat.lt_irrefl _)
 refine⟨⟨I.ok.mod,?_,I.ok.glob,I.ok.blt,hC,fun x y c h1 h2=>?_,fun x G=>?_,fun x c h _=>(by cases h),I.ok.hd,I.ok.frames,.inl rfl,fun b j=>⟨?_,fun x c e=>?_⟩,I.bs,Nat.le_trans I.ok.bsz I.sz,fun b o e j=>?_,fun b j z=>?_,I.stack,I.stkFree⟩,
  rfl,I.bare,Un.laid Y hD a5,⟨m,hn,fun i x v e1 e2 e3=>?_⟩,fun x c e=>?_,?_,fun x c e=>?_,fun p hp=>?_,I.hok.laid Y hD new,?_⟩
 .show (relabel sc X.env).kind=_
  exact B.kind
 .exact I.ok.inj x y c (N5 h1) (N5 h2)
 .have hx':(∃ k,(relabel sc X.env).names.lookup x=some k/\(k= .cell\/k= .free)):=by
   rcases G with G|G
   .exact⟨_,G,.inl rfl⟩
   .exact⟨_,G,.inr rfl⟩
  obtain⟨k,e,a2⟩:=hx'
  have hm:=W1 B.nocell e a2
  obtain⟨c,a4⟩:=I.ok.has x (B.free _ hm rfl)
  exact Option.isSome_iff_exists.mp (Q4 a4 sc.names [] hm)
 .obtain⟨o,e⟩:=a3 b j
  exact Nat.ne_of_lt (Nat.lt_of_lt_of_le (Heap.lt_size e) hC)
 .exact(Z b j).2.2.2.2.1 x c (N5 e)
 .rcases (Z b j).2.2.2.1 with z|z
  .exact I.ok.noex b o e z
  .exact absurd (Nat.lt_of_lt_of_le (Heap.lt_size e) (Nat.le_trans I.ok.bsz z)) (Nat.lt_irrefl _)
 .rcases List.mem_cons.mp (I.stkSub b z)with z|z
  .exact(Z b j).2.1 z
  .exact(Z b j).2.2.1 z
 .have e2':∃ k,src[i]? =some (some k)/\σ[k]? =some (some v):=by
   unfold blk0 at e2
   rw[getElem?_map]at e2
   cases q:src[i]? with
   |none=>rw[q]at e2;cases e2
   |some o=>
    rw[q]at e2
    cases o with
    |none=>cases e2
    |some k=>
     refine⟨k,rfl,?_⟩
     have e2:(σ[k]?).join=some v:=Option.some.inj e2
     cases qq:σ[k]? with
     |none=>rw[qq]at e2;cases e2
     |some z=>rw[qq]at e2;exact congrArg some e2
  obtain⟨k,ek,ev⟩:=e2'
  obtain⟨x',n1,n2,n3⟩:=B.fv i k ek
  have:x'=x:=by
   have e1:N[i]? =some x:=e1
   rw[n1]at e1;exact Option.some.inj e1
  subst this
  obtain⟨m0,a9,a1⟩:=I.loc
  have O:=B.free (x',.free) (PySem.mem_of_lookup n3) rfl
  obtain⟨u,r,l⟩:=a1 k x' v n2 ev (by rcases O with z|z;exact .inr (.inl z);exact .inr (.inr z))
  refine⟨u,r,.inr ⟨?_,?_⟩⟩
  .exact c8 n3
  .rcases l with⟨l,_⟩|⟨_,c,ec,z⟩
   .rcases O with q|q <;> (rw[q]at l;cases l)
   .obtain⟨c',ec'⟩:=Option.isSome_iff_exists.mp (Q4 ec sc.names [] (PySem.mem_of_lookup n3))
    have:=N5 ec'
    rw[ec]at this;cases this
    obtain⟨o,ho,hd⟩:=z
    exact⟨c,ec',o,Y c o ho,hd⟩
 .obtain⟨v,o,ho,hd⟩:=I.cell x c (N5 e)
  exact⟨v,o,Y c o ho,hd⟩
 .show upd H D _ C=none
  rw[y3 (Ne.symm a8)];exact a6
 .rw[y3 (cD x c (N5 e))];exact I.freeC x c (N5 e)
 .exact absurd (show p∈([]:List (Addr×Obj))++[]from hp) (by simp)
 .show (blk0 src σ).length=N.length
  unfold blk0;rw[length_map];exact B.len
end
end
section
abbrev noE:Value->Shared->Prop:=fun _ _=>False
theorem toE {α:Type}{t:Sem α}{Q j:α->Shared->Prop}{M:Model}{A:Around}{E:Value->Shared->Prop}{s:Shared}(h:wpAny M A t Q noE s)(z:∀ a s,Q a s->j a s):wpAny M A t j E s:=
 wpAny_mono h z fun _ _ x=>x.elim
noncomputable abbrev zv5 (ifs:List Expr)(env:Env):Sem Bool:=forIn ifs true fun c r=>if r=true then do let ok ← isTrue c env (eval c env);pure (ForInStep.yield ok)else pure (ForInStep.yield r)
theorem zv6 {prog:Program}{w:World}{A:Around}{R:Result->Shared->Prop}{s:Shared}{a4 j iter:Expr}{a2:List Expr}{scope:Scope}{pos:Pos}{it acc:Value}{env:Env}(I:Nat->Shared->Prop)
  (turn:∀ n s,I n s->wpAny (model prog w) A (pyNext it) (fun r N=>match r with
   |none=>R (.ok .next) N
   |some v=>wpAny (model prog w) A (letOwnedTupleGo j it v) (fun _ G=>wpAny (model prog w) A (assign j env v) (fun _ Y=>
     wpAny (model prog w) A (zv5 a2 env) (fun ok z=>
      if ok=true then wpAny (model prog w) A (eval a4 env) (fun x U=>
       wpAny (model prog w) A (call (.builtin "list.append") [acc,x]) (fun _ O=>∃ m,m<n/\I m O) noE U) noE z
      else ∃ m,m<n/\I m z) noE Y) noE G) noE N) noE s)
  (n:Nat) (h:I n s):
  codeAny (model prog w) A (.compLoop (.ListComp a4 [⟨j,iter,a2,0⟩] scope pos) 0 it acc env) R s:=by
 refine codeAny_loop rfl I (fun n s hI=>?_) n h
 show wpAny _ A ((compTurn (.ListComp a4 [⟨j,iter,a2,0⟩] scope pos) 0 it acc env).onRaise (fun x=>do noteFrame x env;theTreesLotGoes x)) _ _ s
 refine wpAny_noted ?_
 rw[compTurn_list]
 refine wpAny_bind (wpAny_standAt (wpAny_bind (toE (turn n s hI) (fun r N a1=>?_))))
 cases r with
 |none=>exact wpAny_pure a1
 |some v=>
  refine wpAny_bind (toE a1 fun _ G a3=>?_)
  refine wpAny_bind (toE a3 (fun _ Y a7=>wpAny_bind (toE a7 (fun ok z Z=>?_))))
  cases ok with
  |false=>exact wpAny_pure ⟨rfl,Z⟩
  |true=>
   exact wpAny_bind (wpAny_bind (toE Z (fun x U a6=>wpAny_bind (toE a6 (fun _ O a5=>wpAny_pure (wpAny_pure ⟨rfl,a5⟩))))))
def PTs (X:Cx)(ifs:List Expr)(t:TT):Prop:=
 ∀(pins:List (Addr×Obj))(s:Shared)(σ:St)(H:Hp)(Q:Bool->Hp->Prop),Inv X pins σ H s->t σ H Q->wpAny (model X.prog X.w) X.A (zv5 ifs X.env) (TP X pins σ Q) X.xe s
def tYes:TT:=fun _ H Q=>Q true H
theorem zt4 {X:Cx}:PTs X [] tYes:=fun pins s σ H Q I h=>wpAny_pure ⟨H,I,h⟩
theorem yg5 {X:Cx}{c:Expr}{t:TT}(h:PT X c t):PTs X [c] t:=fun pins s σ H Q I q=>wpAny_tests_one (h pins s σ H Q I q)
def J9 (src:List (Option Nat))(wi:TI)(g:TG)(tc:TT)(te:TE):TE:=fun σ H Q=>wi σ H fun J H1=>∀ D,H1 D=none->∃ W:Nat->Nat->St->Hp->Prop,(∃ m,W 0 m (blk0 src σ) (upd H1 D (.lst [])))/\∀ i m σ' H',W i m σ' H'->
 (J.stop i H'/\Q (.ref D) H')\/(J.go i H'/\∃ N:St->Hp->Prop,(∀ σ2 H2,N σ2 H2->∃ m',m'<m/\W (i+1) m' σ2 H2)/\∀ x H2,J.yld i H' x H2->g x σ' H2 fun σ3 H3=>tc σ3 H3 fun b H4=>
  if b=true then te σ3 H4 fun y H5=>∃ xs,H5 D=some (.lst xs)/\xs.length<sizeLine/\N σ3 (upd H5 D (.lst (xs++[y])))else N σ3 H4)
section
variable {X:Cx}
theorem D0 {sc:Scope}{N:List Str}{src:List (Option Nat)}{tg ac iter:Expr}{aa:List Expr}{pos:Pos}{g:TG}{tc:TT}{te:TE}{cx:Cx->Prop}(B:Blk X sc N src)(hc:∀ C fp s H,cx (d6 X sc C N fp s H))
  (hg:∀ C fp s H,PG (d6 X sc C N fp s H) tg g) (ht:∀ C fp s H,PTs (d6 X sc C N fp s H) aa tc) (he:∀ C fp s H,PE (d6 X sc C N fp s H) ac te)
  {pins:List (Addr×Obj)} {σ:St} {H:Hp} {s:Shared} {it:Addr} {fp:List Addr} {tn:Nat->Heap->Prop} {J:It} {Q:VK} {E:Value->Shared->Prop}
  (I:Inv X pins σ H s) (T:TurnC cx X.prog X.w X.K tg J fp it tn) (st:tn 0 s.heap) (hf:∀ b∈fp,FpOk X pins H b)
  (hW:∀ D,H D=none->∃ W:Nat->Nat->St->Hp->Prop,(∃ m,W 0 m (blk0 src σ) (upd H D (.lst [])))/\∀ i m a1 H',W i m a1 H'->
   (J.stop i H'/\Q (.ref D) H')\/(J.go i H'/\∃ N:St->Hp->Prop,(∀ ad H2,N ad H2->∃ m',m'<m/\W (i+1) m' ad H2)/\∀ x H2,J.yld i H' x H2->g x a1 H2 fun Y H3=>tc Y H3 fun b H4=>
    if b=true then te Y H4 fun y H5=>∃ xs,H5 D=some (.lst xs)/\xs.length<sizeLine/\N Y (upd H5 D (.lst (xs++[y])))else N Y H4))
  {RR:Value->Addr->Result->Shared->Prop}
  (ao:∀ D C H' s' m',Inv X pins σ H' s'->s'.heap.Ns C m'->H' C=none->s.heap.objs.size<=C->Q (.ref D) H'->RR (.ref D) C (.ok .next) s'):
  wpAny (model X.prog X.w) X.A (newList []) (fun acc a2=>wpAny (model X.prog X.w) X.A (newFunctionEnv sc X.env.globals (clOf X.env.cells sc.names []) [] X.env.qual none .none (some X.env)) (fun a7 ae=>
   codeAny (model X.prog X.w) X.A (.compStart (.ListComp ac [⟨tg,iter,aa,0⟩] sc pos) 0 (.ref it) acc { a7 with scope:=relabel sc X.env }) (RR acc a7.locals) ae) E a2) E s:=by
 refine wpAny_newObj_type (wpAny_newFunctionEnv B.nocell (by intro y hy;simp at hy) (fun U Z G=>?_) B.kind)
 dsimp only at Z G ⊢
 generalize ab:s.heap.push { cls:=.type "list",dict:=none,data:=.seq ([]:List Value).toArray }=H2 at Z G ⊢
 have hC:H2.objs.size=s.heap.objs.size+1:=by rw[<-ab,Heap.size_push]
 have aj:s.heap.objs.size≠H2.objs.size:=by rw[hC];exact Nat.ne_of_lt (Nat.lt_succ_self _)
 have a6:s.heap.objs.size<=H2.objs.size:=by rw[hC];exact Nat.le_succ _
 have below:∀ b,b<s.heap.objs.size->b≠H2.objs.size:=fun b O=>by rw[hC];exact Nat.ne_of_lt (Nat.lt_succ_of_lt O)
 have old:∀ b o,s.heap.get? b=some o->U.get? b=some o:=fun b o e=>G.extBut b o (below b (Heap.lt_size e)) (Heap.get?_push_of_some _ (ab ▸ Heap.get?_push_of_some _ e))
 have ai:U.get? s.heap.objs.size=some { cls:=.type "list",data:=.seq #[] 0 }:=G.extBut _ _ aj (Heap.get?_push_of_some _ (ab ▸ Heap.get?_push_size _ rfl))
 have ah:∀ b∈fp,∃ o,s.heap.get? b=some o:=fun b O=>by obtain⟨o,e,_⟩:=T.obj _ _ st b O;exact⟨o,e⟩
 have ag:tn 0 U:=T.keep _ _ _ st fun b _ o e=>old b o e
 obtain⟨W,⟨m0,w0⟩,turn⟩:=hW s.heap.objs.size I.fresh
 have I1:=yu9 (t:=s.toks+([]:List (Str×Value)).length) B I hf ah old (Nat.le_refl _) ai Z a6 aj
 have a4:∀{H':Hp},(∀ b∈fp,H' b=none)->∀ b∈fp,FpOk (d6 X sc H2.objs.size N fp s H) [] H' b:=fun{H'} hn b O=>by
  obtain⟨f0,f1,f2,f3,f4,f5⟩:=hf b O
  refine⟨hn b O,I1.ok.exf b O |>.1,I1.ok.exfs b O,.inl O,fun x c e=>f4 x c (N5 e),fun p hp=>absurd (show p∈([]:List (Addr×Obj))++[]from hp) (by simp)⟩
 have an:∀ b∈fp,b≠s.heap.objs.size:=fun b O z=>by
  obtain⟨o,e⟩:=ah b O
  exact absurd (Heap.lt_size e) (by rw[z];exact Nat.lt_irrefl _)
 have a5:∀ a2:Shared,a2={ s with heap:=U,toks:=s.toks+([]:List (Str×Value)).length }->
   codeAny (model X.prog X.w) X.A (.compLoop (.ListComp ac [⟨tg,iter,aa,0⟩] sc pos) 0 (.ref it) (.ref s.heap.objs.size) (compEnvC sc (clOf X.env.cells sc.names []) H2.objs.size X.env))
    (RR (.ref s.heap.objs.size) H2.objs.size) a2:=by
  rintro a2 rfl
  refine zv6 (fun n s'=>∃ i a1 H',Inv (d6 X sc H2.objs.size N fp s H) [] a1 H' s'/\tn i s'.heap/\(∀ b∈fp,H' b=none)/\W i n a1 H') ?_ m0
   ⟨0,_,_,I1,ag,fun b O=>by rw[y3 (an b O)];exact(hf b O).1,w0⟩
  rintro n s3 ⟨i,Y,H3,I3,af,ak,w3⟩
  rcases turn i n Y H3 w3 with⟨stop,qn⟩|⟨go,N',ap,step⟩
  .refine thn (T.done (d6 X sc H2.objs.size N fp s H) rfl rfl rfl (hc _ _ _ _) i [] s3 Y H3 noE I3 (a4 ak) af stop) fun r s4 ⟨hr,I4⟩=>?_
   subst hr
   obtain⟨m4,am,_⟩:=id I4.loc
   refine ao _ _ H3 s4 m4 ?_ am I4.free a6 qn
   exact I.call' (ch:=fp) I4.os I4.base I4.hok I4.bare fun b O=>⟨(hf b O).2.2.2.1,(hf b O).2.1,(hf b O).2.2.2.2.1,(hf b O).2.2.2.2.2⟩
  .refine thn (T.item (d6 X sc H2.objs.size N fp s H) rfl rfl rfl (hc _ _ _ _) i [] s3 Y H3 noE I3 (a4 ak) af go) fun r s4 ⟨u,hr,h4⟩=>?_
   subst hr
   refine thn h4 fun _ s5 j=>?_
   obtain⟨x,H5,I5,r5,y5,a9,ar⟩:=j
   have as:=I5.pinned (a4 ar) (T.obj _ _ a9)
   have again:∀{s7:Shared}{a3:St}{H7:Hp},Inv (d6 X sc H2.objs.size N fp s H) ([]++zx2 fp s5.heap) a3 H7 s7->N' a3 H7->∃ m,m<n/\∃ i a1 H',Inv (d6 X sc H2.objs.size N fp s H) [] a1 H' s7/\tn i s7.heap/\(∀ b∈fp,H' b=none)/\W i m a1 H':=fun{s7 a3 H7} I7 n7=>by
    obtain⟨m',hm,w7⟩:=ap a3 H7 n7
    refine⟨m',hm,i+1,a3,H7,I7.unpinned,T.keep _ _ _ a9 fun b O o e=>(I7.pin (b,o) (mem_append_right _ (mem_append_right _ (T1 O e)))).1,fun b O=>?_,w7⟩
    obtain⟨o,e,d⟩:=T.obj _ _ a9 b O
    exact(I7.pin (b,o) (mem_append_right _ (mem_append_right _ (T1 O e)))).2.1
   refine thn (hg _ _ _ _ _ s5 Y H5 x u _ as r5 (step x H5 y5)) fun _ s6 j=>?_
   obtain⟨a8,H6,I6,q6⟩:=j
   refine thn (ht _ _ _ _ _ s6 a8 H6 _ I6 q6) fun ok s7 j=>?_
   obtain⟨H7,I7,q7⟩:=j
   cases ok with
   |false=>
    rw[if_neg Bool.false_ne_true]at q7 ⊢
    exact again I7 q7
   |true=>
    rw[if_pos rfl]at q7 ⊢
    refine thn (he _ _ _ _ _ s7 a8 H7 _ I7 q7) fun y s8 j=>?_
    obtain⟨v8,H8,I8,r8,q8⟩:=j
    obtain⟨xs,aq,al,n8⟩:=q8
    refine thn (zx9 _ s8 a8 H8 (.ref s.heap.objs.size) [v8] (.ref s.heap.objs.size) [y] (fun _ H9=>H9=upd H8 s.heap.objs.size (.lst (xs++[v8]))) I8 rfl (.cons r8 .nil) ⟨_,xs,v8,rfl,rfl,aq,al,rfl⟩) fun _ s9 j=>?_
    obtain⟨v9,H9,I9,r9,q9⟩:=j
    subst q9
    exact again I9 n8
 refine codeAny_compStart_list (a5 _ rfl) (toE (T.self X.A 0 { s with heap:=U,toks:=s.toks+([]:List (Str×Value)).length } (fun v s'=>v= .ref it/\s'={ s with heap:=U,toks:=s.toks+([]:List (Str×Value)).length }) noE ag ⟨rfl,rfl⟩) fun v s' j=>?_)
 obtain⟨e1,e2⟩:=j
 subst e1;subst e2
 exact a5 _ rfl
theorem Inv.letGo {pins:List (Addr×Obj)}{σ:St}{H:Hp}{s O:Shared}{C:Addr}{h':Heap}(I:Inv X pins σ H s)(j:∃ G H0,Inv X pins G H0 O)(N:O.heap.objs.size<=C)(hn:H C=none)(hs:Heap.SameBut C s.heap h'):Inv X pins σ H { s with heap:=h' }:=by
 obtain⟨G,H0,j⟩:=j
 refine I.turned (t':=s.toks) (it:=C) (fun b o U e=>(hs.2 b U).trans e) hn (Nat.ne_of_gt (Nat.lt_of_lt_of_le j.lt N)) (.inr (Nat.le_trans j.sz N)) (fun x c e z=>?_) fun p hp z=>?_
 .obtain⟨v,q⟩:=j.cell x c e
  exact absurd (Nat.lt_of_lt_of_le q.lt (by rw[z];exact N)) (Nat.lt_irrefl _)
 .exact absurd (Nat.lt_of_lt_of_le (Heap.lt_size (j.pin p hp).1) (by rw[z];exact N)) (Nat.lt_irrefl _)
theorem zt8 {sc:Scope}{N:List Str}{src:List (Option Nat)}{tg U iter:Expr}{j:List Expr}{pos:Pos}{wi:TI}{g:TG}{tc:TT}{te:TE}(B:Blk X sc N src)(hc:X.calm=true)
  (hi:PI X tg iter wi) (hg:∀ C fp s H,PG (d6 X sc C N fp s H) tg g) (ht:∀ C fp s H,PTs (d6 X sc C N fp s H) j tc) (he:∀ C fp s H,PE (d6 X sc C N fp s H) U te)
  (hs:∀ x,foldedSetIterable iter X.env x=pure x:=by intro _;rfl):
  PE X (.ListComp U [⟨tg,iter,j,0⟩] sc pos) (J9 src wi g tc te):=by
 intro pins s σ H Q I h
 rw[eval_ListComp]
 refine wpAny_comprehension_free (use:=none) rfl hs (B.cl I.ok) B.kind B.names (wpAny_mono (hi pins s σ H _ I h) (fun xv a2 G=>wpAny_mono G (fun a3 a1 z=>?_) fun _ _ e=>e) fun _ _ e=>e)
 obtain⟨it,fp,tn,J,H2,rfl,I2,T,Y,f2,hW⟩:=z
 refine D0 (RR:=fun acc C=>compPost (model X.prog X.w) X.A X.xe none (EP X pins σ Q) acc C) (Q:=Q) B (fun _ _ _ _=>hc) hg ht he I2 T Y f2 hW ?_
 intro D C H' s' m' I' hn hC Z q
 exact⟨m',hn,fun a4 O=>⟨.ref D,H',I'.letGo ⟨_,_,I2⟩ Z hC O,rfl,q⟩⟩
theorem C0 {i:Nat}{y:Str}{Y:Pos}{sc:Scope}{N:List Str}{src:List (Option Nat)}{tg G iter:Expr}{j:List Expr}{pos O:Pos}{wi:TI}{g:TG}{tc:TT}{te:TE}(hN:X.N.Nodup)(a7:X.N[i]? =some y)(hx:Loc X.env.scope y)
  (B:Blk X sc N src) (hc:X.calm=true)
  (hi:PI X tg iter wi) (hg:∀ C fp s H,PG (d6 X sc C N fp s H) tg g) (ht:∀ C fp s H,PTs (d6 X sc C N fp s H) j tc) (he:∀ C fp s H,PE (d6 X sc C N fp s H) G te)
  (a5:swapsWith (.ListComp G [⟨tg,iter,j,0⟩] sc pos) (some (.Name y Y)) O.line X.env=pure true:=by rfl)
  (hs:∀ x,foldedSetIterable iter X.env x=pure x:=by intro _;rfl) (hf:X.fn y=true\/X.env.scope.names.lookup y=some .local:=by first|exact .inl rfl|exact .inr rfl|assumption):
  PS X (.Assign [.Name y Y] (.ListComp G [⟨tg,iter,j,0⟩] sc pos) O) (tAsg (J9 src wi g tc te) (Y2 i)):=by
 intro pins s σ H Dn I h
 rw[exec_Assign_Name_used _ _ _ _ a5]
 refine wpAny_bind (wpAny_standAt (wpAny_bind ?_))
 show wpAny _ _ (do let _ ← comprehension (.ListComp G [⟨tg,iter,j,0⟩] sc pos) sc X.env _ (newList []) false (eval iter X.env) (some (assign (.Name y Y) X.env))) _ _ s
 refine wpAny_bind (wpAny_mono (wpAny_comprehension_free (use:=some (assign (.Name y Y) X.env)) (Q:=fun _ s'=>SP X pins Dn .next s') rfl hs (B.cl I.ok) B.kind B.names
  (wpAny_mono (hi pins s σ H _ I h) (fun xv ab a1=>wpAny_mono a1 (fun ad aa Z=>?_) fun _ _ e=>e) fun _ _ e=>e)) (fun _ s' hq=>wpAny_pure (wpAny_pure hq)) fun _ _ e=>e)
 obtain⟨it,fp,tn,J,H2,rfl,I2,T,a4,f2,hW⟩:=Z
 refine D0 (RR:=fun acc C=>compPost (model X.prog X.w) X.A X.xe (some (assign (.Name y Y) X.env)) (fun _ s'=>SP X pins Dn .next s') acc C) (Q:=fun x H1=>Y2 i x σ H1 Dn.nx) B (fun _ _ _ _=>hc) hg ht he I2 T a4 f2 hW ?_
 intro D C H' s' m' I' hn hC U q
 show wpAny _ _ (assign (.Name y Y) X.env (.ref D)) _ _ _
 refine wpAny_assign_Name (zy0 I' hN a7 hx (v:=.ref D) rfl (fun ac a9 a3=>?_) hf)
 obtain⟨a,a6,ha⟩:=a3
 have a8:C≠a:=fun z=>by
  rcases ha with ha|ha
  .have:=I2.lt;rw[<-ha,<-z]at this
   exact absurd (Nat.lt_of_lt_of_le this U) (Nat.lt_irrefl _)
  .obtain⟨v,qv⟩:=I2.cell y a ha
   exact absurd (Nat.lt_of_lt_of_le qv.lt (by rw[<-z];exact U)) (Nat.lt_irrefl _)
 exact⟨m',hn.sameBut a6 a8,fun ae a2=>⟨_,H',a9.letGo ⟨_,_,I2⟩ U hC a2,q⟩⟩
end
end
section
section
variable {X:Cx}{pins:List (Addr×Obj)}{σ:St}{H:Hp}{s:Shared}{h':Heap}
theorem Inv.turnedL {t':Nat}{fp:List Addr}(I:Inv X pins σ H s)(k:∀ b o,b∉fp->s.heap.get? b=some o->h'.get? b=some o)(G:∀ b∈fp,FpOk X pins H b):Inv X pins σ H { s with heap:=h',toks:=t' }:=by
 have N:∀ b u,H b=some u->b∉fp:=fun b u e z=>by rw[(G b z).1]at e;cases e
 refine I.step (g':=s.gens) (d':=s.drawn) (ch:=fp) (fun b O=>⟨(G b O).2.2.2.1,(G b O).2.1,(G b O).2.2.2.2.1,(G b O).2.2.2.2.2⟩) (fun b o _ _ j e _=>k b o j e) (fun b o _ _ j e _=>⟨o.slots,k b o j e⟩) (fun _ _ _ _ n=>n)
  (fun b o j e=>⟨o,k b o j e⟩) (fun _ _ e=>e) (fun _ _ _ e=>e) (fun b ps e=>⟨#[],by rw[e];simp⟩) (fun m hm=>?_) (fun b u e=>?_) I.bare
 .obtain⟨o,es,ep,ho,r⟩:=hm
  exact⟨o,es,ep,k _ o (fun z=>(G _ z).2.1 rfl) ho,r⟩
 .refine(I.hok b u e).stay (fun c v j q=>k c v ?_ q) (fun _ q=>q) fun _ _ q=>q
  rcases j with z|z
  .rw[z];exact N b u e
  .exact N c _ z
theorem Inv.turnedN {t':Nat}{fp:List Addr}{T:Addr}{o:HO}(I:Inv X pins σ H s)(k:∀ b o,b∉fp->s.heap.get? b=some o->h'.get? b=some o)(N:∀ b∈fp,FpOk X pins H b)(U:s.heap.objs.size<=T)
  (new:ObjOk X.prog X.w (upd H T o) h' T o):Inv X pins σ (upd H T o) { s with heap:=h',toks:=t' }:=by
 have hn:H T=none:=I.hok.fresh U
 have ne:∀ b u,s.heap.get? b=some u->b≠T:=fun b u e z=>absurd (Nat.lt_of_lt_of_le (Heap.lt_size e) (by rw[z];exact U)) (Nat.lt_irrefl _)
 have O:∀ b u,H b=some u->b∉fp:=fun b u e z=>by rw[(N b z).1]at e;cases e
 refine I.step (g':=s.gens) (d':=s.drawn) (ch:=fp) (fun b G=>⟨(N b G).2.2.2.1,(N b G).2.1,(N b G).2.2.2.2.1,(N b G).2.2.2.2.2⟩) (fun b o _ _ j e _=>k b o j e) (fun b o _ _ j e _=>⟨o.slots,k b o j e⟩) (fun b o _ e n=>by rw[y3 (ne b o e)];exact n)
  (fun b o j e=>⟨o,k b o j e⟩) (fun b xs e=>by rw[y3 (t7 e hn)];exact e) (fun b _ _ e=>by rw[y3 (t7 e hn)];exact e) (fun b ps e=>⟨#[],by rw[y3 (t7 e hn),e];simp⟩) (fun m hm=>?_) (fun b u e=>?_) I.bare
 .obtain⟨o,es,ep,ho,r⟩:=hm
  exact⟨o,es,ep,k _ o (fun z=>(N _ z).2.1 rfl) ho,r⟩
 .by_cases G:b=T
  .subst G;rw[y2]at e;cases e;exact new
  .rw[y3 G]at e
   refine(I.hok b u e).stay (fun c v j q=>k c v ?_ q) (fun c q=>by rw[y3 (t7 q hn)];exact q) fun c xs q=>by rw[y3 (t7 q hn)];exact q
   rcases j with z|z
   .rw[z];exact O b u e
   .exact O c _ z
end
structure Zip2 (z TI TO i1 i2:Addr):Prop where
 TIz:TI≠z
 TOz:TO≠z
 i1z:i1≠z
 i2z:i2≠z
 TITO:TI≠TO
 TIi1:TI≠i1
 TIi2:TI≠i2
 TOi1:TO≠i1
 TOi2:TO≠i2
 i12:i1≠i2
section
variable {X:Cx}
end
end
section
structure Zip3 (z TI TO i1 i2 i3:Addr):Prop where
 TIz:TI≠z
 TOz:TO≠z
 i1z:i1≠z
 i2z:i2≠z
 i3z:i3≠z
 TITO:TI≠TO
 TIi1:TI≠i1
 TIi2:TI≠i2
 TIi3:TI≠i3
 TOi1:TO≠i1
 TOi2:TO≠i2
 TOi3:TO≠i3
 i12:i1≠i2
 i13:i1≠i3
 i23:i2≠i3
structure Apart3 (z TO i1 i2 i3 l:Addr):Prop where
 lz:l≠z
 lTO:l≠TO
 l1:l≠i1
 l2:l≠i2
 l3:l≠i3
section
variable {prog:Program}{w:World}{A:Around}{E:Value->Shared->Prop}{s:Shared}
end
section
variable {X:Cx}
end
noncomputable def Ite (K:W.Frag)(l:Addr):It:=
 ⟨fun i H=>∃ xs x,SqL K H l xs/\xs[i]? =some x,
  fun i H v H'=>∃ t x,v= .ref t/\H t=none/\H'=upd H t (.tup [.int i,x])/\(∀ xs,SqL K H l xs->xs[i]? =some x),
  fun i H=>∃ xs,SqL K H l xs/\xs.length<=i⟩
theorem zz7 {P:Program}{w:World}{K:W.Frag}{es:List Expr}{tk:Nat}{tp:Pos}(e it l:Addr)(a7:e≠it):
  Turn P w K (.Tuple es tk tp) (Ite K l) [e,it] e (fun i h=>(∃ old,IsEnum h e it (i:Nat) old)/\h.IsListIter it l i) where
 mem:=by simp
 obj:=fun i h st b hb=>by
  obtain⟨⟨old,z⟩,⟨o1,e1,_,d1⟩⟩:=st
  simp only[mem_cons,not_mem_nil,or_false]at hb
  rcases hb with rfl|rfl
  .exact⟨_,z,fun v q=>by cases q⟩
  .exact⟨_,e1,fun v q=>by rw[d1]at q;cases q⟩
 keep:=fun i h h' st k=>by
  obtain⟨⟨old,z⟩,h1⟩:=st
  exact⟨⟨old,k e (by simp) _ z⟩,h1.at fun o q=>k it (by simp) o q⟩
 item:=by
  intro X hP hw hK G i pins s σ H E I hf st hg
  subst hP hw hK
  obtain⟨xs,x,N,hx⟩:=hg
  obtain⟨Z,O,p1,_⟩:=I.list N
  obtain⟨u1,aa,a9⟩:=O.get hx
  obtain⟨⟨old,z⟩,h1⟩:=st
  refine wpAny_pyNext_enum_item z h1 p1.isList (x:=u1) (by simpa using aa) a7 fun h' a1 a2 a3 a4 hk=>?_
  refine⟨_,rfl,?_⟩
  refine wpAny_letOwnedTupleGo_enum a1 fun Y a8 j=>?_
  have a6:e<s.heap.objs.size:=Heap.lt_size z
  have kk:∀ c o,c∉[e,it]->s.heap.get? c=some o->Y.get? c=some o:=fun c o G q=>by
   simp only[mem_cons,not_mem_nil,or_false,not_or]at G
   exact j.extBut _ _ G.1 (hk c o G.1 G.2 q)
  have hT:Y.get? s.heap.objs.size=some { cls:=.type "tuple",data:=.seq #[.int i s.toks,u1] }:=j.extBut _ _ (Nat.ne_of_gt a6) a3
  have I2:Inv X pins σ (upd H s.heap.objs.size (.tup [.int i,x])) { s with heap:=Y,toks:=s.toks+1 }:=
   I.turnedN (T:=s.heap.objs.size) (o:=.tup [.int i,x]) kk hf (Nat.le_refl _) ⟨by show 2<=sizeLine;decide,[.int i s.toks,u1],.cons ⟨_,rfl⟩ (.cons a9 .nil),⟨_,hT,rfl,_,rfl⟩⟩
  refine⟨.ref s.heap.objs.size,_,I2,rfl,⟨_,x,rfl,I.fresh,rfl,fun zs a5=>by rw[I.list_inj a5 N];exact hx⟩,
   ⟨⟨_,a8⟩,a2.extBut j.extBut a7.symm⟩,fun c U=>?_⟩
  have ab:c<s.heap.objs.size:=by
   obtain⟨o1,e1,_⟩:=h1
   simp only[mem_cons,not_mem_nil,or_false]at U
   rcases U with rfl|rfl
   .exact a6
   .exact Heap.lt_size e1
  rw[y3 (Nat.ne_of_lt ab)]
  exact(hf c U).1
 done:=by
  intro X hP hw hK G i pins s σ H E I hf st hg
  subst hP hw hK
  obtain⟨xs,N,hl⟩:=hg
  obtain⟨Z,O,p1,_⟩:=I.list N
  obtain⟨⟨old,z⟩,h1⟩:=st
  have ac:=O.length
  refine wpAny_pyNext_enum_end (I.ok.hd G) z h1 p1.isList (by simp;omega) fun h' hk=>⟨rfl,?_⟩
  exact I.turnedL (t':=s.toks) (fun c o G q=>by
   simp only[mem_cons,not_mem_nil,or_false,not_or]at G
   exact hk c o G.2 q) hf
 self:=fun A i s Q E st h=>by
  obtain⟨⟨old,z⟩,h1⟩:=st
  have hT:s.TypeIs (.ref e) "enumerate":=⟨_,z,rfl⟩
  refine wpAny_pyIter_slot hT F.slot_enumerate_iter (wpAny_call_entry F.slot_enumerate_iter hT F.entry_enumerate_iter ?_ (F.args_enumerate_iter_1 _))
  show wpAny _ _ (ret (.ref e)) _ _ s
  exact wpAny_pure ⟨_,rfl,"enumerate",_,hT,F.slot_enumerate_next.lookup,h⟩
section
variable {X:Cx}
def xj2 (K:W.Frag)(ta:TA):TI:=fun σ H R=>ta σ H fun vs H1=>∃ a xs,vs=[.ref a]/\SqL K H1 a xs/\R (Ite K a) H1
theorem zb3 {a:Expr}{ta:TA}{p pos:Pos}{es:List Expr}{tk:Nat}{tp:Pos}(hg:Gl X "enumerate")(hm:X.mg "enumerate"=none)(ha:PA X [a] ta)(hs:starEach [a] X.env=[(false,eval a X.env)]:=by rfl):
  PI X (.Tuple es tk tp) (.Call (.Name "enumerate" p) [a] [] pos) (xj2 X.K ta):=by
 intro pins s σ H R I h
 refine Call_ (W6 I hg hm boot_enumerate (PyProof.Rows.callWith_type1 (thn (ha pos pins s σ H _ I h) fun us s1 j=>?_) hs rfl))
 obtain⟨vs,H1,N,r1,O⟩:=j
 obtain⟨l,xs,e,O,q⟩:=O
 subst e
 cases r1 with
 |cons r rr=>
  cases rr
  cases r
  obtain⟨Y,a1,p1,_⟩:=N.list O
  refine call_enumerate_list p1.isList fun h' U z a2 hk=>?_
  have I2:Inv X pins σ H1 { s1 with heap:=h',toks:=s1.toks }:=N.kept hk
  have hT:({ s1 with heap:=h' }:Shared).TypeIs (.ref (s1.heap.objs.size+1)) "enumerate":=⟨_,U,rfl⟩
  refine(zz7 (P:=X.prog) (w:=X.w) (K:=X.K) (es:=es) (tk:=tk) (tp:=tp) (s1.heap.objs.size+1) s1.heap.objs.size l (Nat.ne_of_gt (Nat.lt_succ_self _))).self X.A 0 { s1 with heap:=h' } _ _ ⟨⟨_,U⟩,z⟩ ?_
  refine⟨_,[s1.heap.objs.size+1,s1.heap.objs.size],_,_,H1,rfl,I2,zz7 _ _ l (Nat.ne_of_gt (Nat.lt_succ_self _)),⟨⟨_,U⟩,z⟩,fun b Z=>?_,q⟩
  have G:s1.heap.objs.size<=b:=by
   simp only[mem_cons,not_mem_nil,or_false]at Z
   rcases Z with rfl|rfl
   .exact Nat.le_succ _
   .exact Nat.le_refl _
  exact N.fpOk G (N.hok.fresh G)
end
end
section
def XAt (a C:Addr)(h:Heap):Prop:=∃ o vs,h.get? a=some o/\o.cls= .ref C/\o.data= .fields vs/\vs[2]? =some .none
noncomputable def xz7 (K:W.Frag)(C:Addr):Option Str:=match K.lookup C with
 |some ⟨_,_,.cls cd,_⟩=>some cd.name
 |_=>none
inductive D where
 |non|bl (b:Bool)|int (i:Int)|str (x:Str)|lst (ds:List D)|tup (ds:List D)|exc (c:Str)
 |ptr (a:Addr)|obj (c:Str) (ns:List Str) (ds:List D)
mutual
inductive Rep (K:W.Frag)(F:Hp):V->D->Prop
 |non:Rep K F .non .non
 |bl (b:Bool):Rep K F (.bl b) (.bl b)
 |int (i:Int):Rep K F (.int i) (.int i)
 |str (x:Str):Rep K F (.str x) (.str x)
 |lst {a:Addr} {xs:List V} {ds:List D}:SqL K F a xs->Reps K F xs ds->Rep K F (.ref a) (.lst ds)
 |tup {a:Addr} {xs:List V} {ds:List D}:SqT K F a xs->Reps K F xs ds->Rep K F (.ref a) (.tup ds)
 |exc {a C:Addr} {c:Str}:(W.nsIn K mainGlobals c=some (some (.ref C))/\xz7 K C=some c)->F a=some (.ext (XAt a C))->Rep K F (.ref a) (.exc c)
 |ptr (a:Addr):Rep K F (.ref a) (.ptr a)
 |obj {a dx C:Addr} {c:Str} {ns:List Str} {xs:List V} {ds:List D}:W.nsIn K mainGlobals c=some (some (.ref C))->ns.length=xs.length->F a=some (.ins C dx (ns.zip xs))->F dx=some (.own a)->Reps K F xs ds->Rep K F (.ref a) (.obj c ns ds)
inductive Reps (K:W.Frag)(F:Hp):List V->List D->Prop
 |nil:Reps K F [] []
 |cons {v:V} {d:D} {vs:List V} {ds:List D}:Rep K F v d->Reps K F vs ds->Reps K F (v::vs) (d::ds)
end
theorem Same.seqT {K:W.Frag}{H H':Hp}{a:Addr}{xs:List V}(e:Same H H')(h:SqT K H a xs):SqT K H' a xs:=by
 rcases h with (h|⟨o,h⟩)|h
 .exact .inl (.inl (e _ _ h))
 .exact .inl (.inr ⟨o,e _ _ h⟩)
 .exact .inr h
section
variable {K:W.Frag}{F F':Hp}
mutual
theorem Rep.mono (e:Same F F'):∀{v:V}{d:D},Rep K F v d->Rep K F' v d
 |_,_,.non=>.non
 |_,_,.bl b=>.bl b
 |_,_,.int i=>.int i
 |_,_,.str x=>.str x
 |_,_,.lst h r=>.lst (e.seq h) (Reps.mono e r)
 |_,_,.tup h r=>.tup (e.seqT h) (Reps.mono e r)
 |_,_,.exc h r=>.exc h (e _ _ r)
 |_,_,.ptr a=>.ptr a
 |_,_,.obj c l h h2 r=>.obj c l (e _ _ h) (e _ _ h2) (Reps.mono e r)
theorem Reps.mono (e:Same F F'):∀{vs:List V}{ds:List D},Reps K F vs ds->Reps K F' vs ds
 |_,_,.nil=>.nil
 |_,_,.cons h r=>.cons (Rep.mono e h) (Reps.mono e r)
end
theorem Reps.length:∀{vs:List V}{ds:List D},Reps K F vs ds->vs.length=ds.length
 |_,_,.nil=>rfl
 |_,_,.cons _ r=>congrArg (·+1) (Reps.length r)
theorem Reps.get:∀{vs:List V}{ds:List D}{i:Nat}{d:D},Reps K F vs ds->ds[i]? =some d->∃ v,vs[i]? =some v/\Rep K F v d
 |_,_,_,_,.nil,e=>by simp at e
 |_,_,0,_,.cons h _,e=>by simp at e;subst e;exact⟨_,rfl,h⟩
 |_,_,i+1,d,.cons _ r,e=>by
  obtain⟨v,h1,h2⟩:=Reps.get (i:=i) (d:=d) r (by simpa using e)
  exact⟨v,by simpa using h1,h2⟩
theorem Reps.get':∀{vs:List V}{ds:List D}{i:Nat}{v:V},Reps K F vs ds->vs[i]? =some v->∃ d,ds[i]? =some d/\Rep K F v d
 |_,_,_,_,.nil,e=>by simp at e
 |_,_,0,_,.cons h _,e=>by simp at e;subst e;exact⟨_,rfl,h⟩
 |_,_,i+1,d,.cons _ r,e=>by
  obtain⟨v,h1,h2⟩:=Reps.get' (i:=i) (v:=d) r (by simpa using e)
  exact⟨v,by simpa using h1,h2⟩
theorem Reps.append:∀{vs ws:List V}{ds es:List D},Reps K F vs ds->Reps K F ws es->Reps K F (vs++ws) (ds++es)
 |_,_,_,_,.nil,s=>s
 |_,_,_,_,.cons h r,s=>.cons h (Reps.append r s)
theorem Reps.take:∀{vs:List V}{ds:List D}(n:Nat),Reps K F vs ds->Reps K F (vs.take n) (ds.take n)
 |_,_,0,_=>.nil
 |_,_,_+1,.nil=>.nil
 |_,_,n+1,.cons h r=>.cons h (Reps.take n r)
theorem Reps.drop:∀{vs:List V}{ds:List D}(n:Nat),Reps K F vs ds->Reps K F (vs.drop n) (ds.drop n)
 |_,_,0,r=>r
 |_,_,_+1,.nil=>.nil
 |_,_,n+1,.cons _ r=>Reps.drop n r
theorem Reps.set {v:V}{d:D}(h:Rep K F v d):∀{vs:List V}{ds:List D}(i:Nat),Reps K F vs ds->Reps K F (vs.set i v) (ds.set i d)
 |_,_,_,.nil=>.nil
 |_,_,0,.cons _ r=>.cons h r
 |_,_,i+1,.cons q r=>.cons q (Reps.set h i r)
end
structure Ext (F H F' H':Hp):Prop where
 ff:Same F F'
 hh:Same H H'
 fh:Same F' H'
 new:∀ b,F b=none->F' b≠none->H b=none
 nf:∀ b o u,F' b=some (.frz o u)->F b=some (.frz o u)
theorem Ext.refl {F H:Hp}(h:Same F H):Ext F H F H:=⟨Same.refl _,Same.refl _,h,fun b e n=>absurd e n,fun _ _ _ z=>z⟩
theorem Ext.trans {F H F1 H1 F2 H2:Hp}(a:Ext F H F1 H1)(b:Ext F1 H1 F2 H2):Ext F H F2 H2:=
 ⟨a.ff.trans b.ff,a.hh.trans b.hh,b.fh,fun c e n=>by
  by_cases h:F1 c=none
  .exact a.hh.free (b.new c h n)
  .exact a.new c e h,fun c o u z=>a.nf c o u (b.nf c o u z)⟩
theorem Same.put {F H:Hp}{p:Addr}{o:HO}(h:Same F H)(hp:F p=none):Same F (upd H p o):=fun b u e=>by
 rw[y3 (t7 e hp)];exact h b u e
theorem Same.put2 {F H:Hp}{p:Addr}{o:HO}(h:Same F H):Same (upd F p o) (upd H p o):=fun b u e=>by
 by_cases j:b=p
 .subst j;rw[y2]at e ⊢;exact e
 .rw[y3 j]at e ⊢;exact h b u e
theorem Ext.laid {F H:Hp}{p:Addr}{o:HO}(h:Same F H)(hp:H p=none)(G:∀ a u,o≠ .frz a u:=by intro _ _ z;cases z):Ext F H (upd F p o) (upd H p o):=
 ⟨(Same.refl F).put (h.free hp),(Same.refl H).put hp,h.put2,fun b e n=>by
  by_cases j:b=p
  .subst j;exact hp
  .rw[y3 j]at n;exact absurd e n,fun b a u z=>by
  by_cases j:b=p
  .subst j;rw[y2]at z;exact absurd (Option.some.inj z) (G a u)
  .rw[y3 j]at z;exact z⟩
theorem Ext.own {F H:Hp}{p:Addr}{o:HO}(h:Same F H)(hp:H p=none):Ext F H F (upd H p o):=
 ⟨Same.refl F,(Same.refl H).put hp,h.put (h.free hp),fun b e n=>absurd e n,fun _ _ _ z=>z⟩
theorem Ext.freeze {F H F' H':Hp}{p:Addr}{o:HO}(a:Ext F H F' H')(G:F' p=none)(hp:H p=none)(O:H' p=some o)(N:∀ a u,o≠ .frz a u:=by intro _ _ z;cases z):Ext F H (upd F' p o) H':=
 ⟨a.ff.put (a.ff.free G),a.hh,fun b u e=>by
   by_cases j:b=p
   .subst j;rw[y2]at e;cases e;exact O
   .rw[y3 j]at e;exact a.fh b u e,fun b e n=>by
   by_cases j:b=p
   .subst j;exact hp
   .rw[y3 j]at n;exact a.new b e n,fun b c u z=>by
   by_cases j:b=p
   .subst j;rw[y2]at z;exact absurd (Option.some.inj z) (N c u)
   .rw[y3 j]at z;exact a.nf b c u z⟩
inductive S where
 |sh (d:D)|own (ds:List D)|ob (p:Addr) (ds:List D)
noncomputable abbrev Ro:=List (Option S)
structure Rl (K:W.Frag)(F0 H0 F H:Hp)(σ:St)(ρ:Ro):Prop where
 ext:Ext F0 H0 F H
 len:σ.length=ρ.length
 sh:∀(i:Nat) d,ρ[i]? =some (some (.sh d))->∃ v,σ[i]? =some (some v)/\Rep K F v d
 own:∀(i:Nat) ds,ρ[i]? =some (some (.own ds))->∃ p xs,σ[i]? =some (some (.ref p))/\F p=none/\H p=some (.lst xs)/\Reps K F xs ds/\H0 p=none
 inj:∀(i j:Nat) p ds es,i≠j->ρ[i]? =some (some (.own ds))->ρ[j]? =some (some (.own es))->σ[i]? =some (some (.ref p))->σ[j]? =some (some (.ref p))->False
 ob:∀(i:Nat) p ds,ρ[i]? =some (some (.ob p ds))->σ[i]? =some (some (.ref p))/\F p=none/\H0 p=none/\∃ xs,H p=some (.lst xs)/\Reps K F xs ds
 obn:∀(i j:Nat) p ds es,ρ[i]? =some (some (.ob p ds))->ρ[j]? =some (some (.own es))->σ[j]? =some (some (.ref p))->False
 ob1:∀(i j:Nat) p q ds es,ρ[i]? =some (some (.ob p ds))->ρ[j]? =some (some (.ob q es))->i=j
noncomputable def nob:Option S->Prop
 |some (.ob _ _)=>False
 |_=>True
theorem t9 {ρ:Ro}{i j:Nat}{x:Option S}{p:Addr}{ds:List D}(e:(ρ.set i x)[j]? =some (some (.ob p ds)))(N:nob x:=by exact True.intro):i≠j/\ρ[j]? =some (some (.ob p ds)):=by
 by_cases G:i=j
 .subst G
  rcases Nat.lt_or_ge i ρ.length with z|z
  .rw[getElem?_set_self z]at e;cases e;exact N.elim
  .rw[getElem?_eq_none (by simpa using z)]at e;cases e
 .rw[getElem?_set_ne G]at e;exact⟨G,e⟩
section
variable {K:W.Frag}{F0 H0 F H F' H':Hp}{σ:St}{ρ:Ro}
theorem Rl.fh (r:Rl K F0 H0 F H σ ρ):Same F H:=r.ext.fh
theorem Rl.go (r:Rl K F0 H0 F H σ ρ)(e:Ext F H F' H'):Rl K F0 H0 F' H' σ ρ where
 ext:=r.ext.trans e
 len:=r.len
 sh:=fun i d h=>let ⟨v,a,b⟩:=r.sh i d h;⟨v,a,b.mono e.ff⟩
 own:=fun i ds h=>by
  obtain⟨p,xs,a,b,c,d,z⟩:=r.own i ds h
  refine⟨p,xs,a,?_,e.hh _ _ c,d.mono e.ff,z⟩
  cases q:F' p with
  |none=>rfl
  |some o=>have:=e.new p b (by rw[q];simp);rw[this]at c;cases c
 inj:=r.inj
 ob:=fun i p ds h=>by
  obtain⟨a,b,c,xs,d,z⟩:=r.ob i p ds h
  refine⟨a,?_,c,xs,e.hh _ _ d,z.mono e.ff⟩
  cases q:F' p with
  |none=>rfl
  |some o=>have:=e.new p b (by rw[q];simp);rw[this]at d;cases d
 obn:=r.obn
 ob1:=r.ob1
theorem Rl.set (r:Rl K F0 H0 F H σ ρ){i:Nat}{v:V}{d:D}(h:Rep K F v d):Rl K F0 H0 F H (σ.set i (some v)) (ρ.set i (some (.sh d))) where
 ext:=r.ext
 len:=by simp[r.len]
 sh:=fun j d' e=>by
  by_cases N:i=j
  .subst N
   have G:i<ρ.length:=by
    rcases Nat.lt_or_ge i ρ.length with z|z
    .exact z
    .rw[getElem?_eq_none (by simpa using z)]at e;cases e
   rw[getElem?_set_self G]at e
   cases e
   exact⟨v,by rw[getElem?_set_self (by rw[r.len];exact G)],h⟩
  .rw[getElem?_set_ne N]at e ⊢
   exact r.sh j d' e
 own:=fun j ds e=>by
  by_cases N:i=j
  .subst N
   have G:i<ρ.length:=by
    rcases Nat.lt_or_ge i ρ.length with z|z
    .exact z
    .rw[getElem?_eq_none (by simpa using z)]at e;cases e
   rw[getElem?_set_self G]at e
   cases e
  .rw[getElem?_set_ne N]at e ⊢
   exact r.own j ds e
 inj:=fun j k p ds es U e1 e2 e3 Y=>by
  have Z:i≠j:=fun z=>by
   subst z
   have G:i<ρ.length:=by
    rcases Nat.lt_or_ge i ρ.length with z|z
    .exact z
    .rw[getElem?_eq_none (by simpa using z)]at e1;cases e1
   rw[getElem?_set_self G]at e1;cases e1
  have O:i≠k:=fun z=>by
   subst z
   have G:i<ρ.length:=by
    rcases Nat.lt_or_ge i ρ.length with z|z
    .exact z
    .rw[getElem?_eq_none (by simpa using z)]at e2;cases e2
   rw[getElem?_set_self G]at e2;cases e2
  rw[getElem?_set_ne Z]at e1 e3
  rw[getElem?_set_ne O]at e2 Y
  exact r.inj j k p ds es U e1 e2 e3 Y
 ob:=fun j p ds e=>by
  obtain⟨n,e⟩:=t9 e
  rw[getElem?_set_ne n];exact r.ob j p ds e
 obn:=fun j k p ds es e1 e2 e3=>by
  obtain⟨n,e1⟩:=t9 e1
  have O:i≠k:=fun z=>by
   subst z
   have G:i<ρ.length:=by
    rcases Nat.lt_or_ge i ρ.length with z|z
    .exact z
    .rw[getElem?_eq_none (by simpa using z)]at e2;cases e2
   rw[getElem?_set_self G]at e2;cases e2
  rw[getElem?_set_ne O]at e2 e3
  exact r.obn j k p ds es e1 e2 e3
 ob1:=fun j k p q ds es e1 e2=>r.ob1 j k p q ds es (t9 e1).2 (t9 e2).2
theorem Rl.setOwn (r:Rl K F0 H0 F H σ ρ){i:Nat}{p:Addr}{xs:List V}{ds:List D}(hF:F p=none)(hH:H p=some (.lst xs))(h:Reps K F xs ds)(h0:H0 p=none)
  (fr:∀(j:Nat) es,i≠j->ρ[j]? =some (some (.own es))->σ[j]? =some (some (.ref p))->False) (fo:∀(j:Nat) q es,ρ[j]? =some (some (.ob q es))->q≠p):Rl K F0 H0 F H (σ.set i (some (.ref p))) (ρ.set i (some (.own ds))) where
 ext:=r.ext
 len:=by simp[r.len]
 sh:=fun j d' e=>by
  by_cases Z:i=j
  .subst Z
   have G:i<ρ.length:=by
    rcases Nat.lt_or_ge i ρ.length with z|z
    .exact z
    .rw[getElem?_eq_none (by simpa using z)]at e;cases e
   rw[getElem?_set_self G]at e
   cases e
  .rw[getElem?_set_ne Z]at e ⊢
   exact r.sh j d' e
 own:=fun j es e=>by
  by_cases Z:i=j
  .subst Z
   have G:i<ρ.length:=by
    rcases Nat.lt_or_ge i ρ.length with z|z
    .exact z
    .rw[getElem?_eq_none (by simpa using z)]at e;cases e
   rw[getElem?_set_self G]at e
   cases e
   exact⟨p,xs,by rw[getElem?_set_self (by rw[r.len];exact G)],hF,hH,h,h0⟩
  .rw[getElem?_set_ne Z]at e ⊢
   exact r.own j es e
 inj:=fun j k q es N U e1 e2 e3 O=>by
  by_cases n1:i=j
  .subst n1
   rw[getElem?_set_ne U]at e2 O
   have G:i<σ.length:=by
    rcases Nat.lt_or_ge i σ.length with z|z
    .exact z
    .rw[getElem?_eq_none (by simpa using z)]at e3;cases e3
   rw[getElem?_set_self G]at e3
   cases e3
   exact fr k N U e2 O
  .rw[getElem?_set_ne n1]at e1 e3
   by_cases Y:i=k
   .subst Y
    have G:i<σ.length:=by
     rcases Nat.lt_or_ge i σ.length with z|z
     .exact z
     .rw[getElem?_eq_none (by simpa using z)]at O;cases O
    rw[getElem?_set_self G]at O
    cases O
    exact fr j es n1 e1 e3
   .rw[getElem?_set_ne Y]at e2 O
    exact r.inj j k q es N U e1 e2 e3 O
 ob:=fun j q es e=>by
  obtain⟨n,e⟩:=t9 e
  rw[getElem?_set_ne n];exact r.ob j q es e
 obn:=fun j k q es N e1 e2 e3=>by
  obtain⟨n,e1⟩:=t9 e1
  by_cases Y:i=k
  .subst Y
   have G:i<σ.length:=by
    rcases Nat.lt_or_ge i σ.length with z|z
    .exact z
    .rw[getElem?_eq_none (by simpa using z)]at e3;cases e3
   rw[getElem?_set_self G]at e3
   cases e3
   exact fo j p es e1 rfl
  .rw[getElem?_set_ne Y]at e2 e3
   exact r.obn j k q es N e1 e2 e3
 ob1:=fun j k p q ds es e1 e2=>r.ob1 j k p q ds es (t9 e1).2 (t9 e2).2
theorem Rl.freeze (r:Rl K F0 H0 F H σ ρ){i:Nat}{ds:List D}(h:ρ[i]? =some (some (.own ds))):∃ F',Rl K F0 H0 F' H σ (ρ.set i (some (.sh (.lst ds))))/\Same F F':=by
 obtain⟨p,xs,a,b,c,d,z⟩:=r.own i ds h
 have N:i<ρ.length:=(List.getElem?_eq_some_iff.mp h).1
 have e:Ext F0 H0 (upd F p (.lst xs)) H:=r.ext.freeze b z c
 have ff:Same F (upd F p (.lst xs)):=(Same.refl F).put b
 refine⟨upd F p (.lst xs),⟨e,by simp[r.len],fun j d' q=>?_,fun j es q=>?_,fun j k q es G Y e1 e2 e3 e4=>?_,fun j q es e1=>?_,fun j k q es G e1 e2 e3=>?_,fun j k q q' es G e1 e2=>r.ob1 j k q q' es G (t9 e1).2 (t9 e2).2⟩,ff⟩
 .by_cases hj:i=j
  .subst hj
   rw[getElem?_set_self N]at q
   cases q
   exact⟨_,a,.lst (SqL.of y2) (d.mono ff)⟩
  .rw[getElem?_set_ne hj]at q
   obtain⟨v,v1,v2⟩:=r.sh j d' q
   exact⟨v,v1,v2.mono ff⟩
 .by_cases hj:i=j
  .subst hj
   rw[getElem?_set_self N]at q
   cases q
  .rw[getElem?_set_ne hj]at q
   obtain⟨Z,O,a',b',c',d',z'⟩:=r.own j es q
   have hp:Z≠p:=fun w=>r.inj i j p ds es hj h q a (by rw[<-w];exact a')
   exact⟨Z,O,a',by rw[y3 hp];exact b',c',d'.mono ff,z'⟩
 .have n1:i≠j:=fun w=>by subst w;rw[getElem?_set_self N]at e1;cases e1
  have U:i≠k:=fun w=>by subst w;rw[getElem?_set_self N]at e2;cases e2
  rw[getElem?_set_ne n1]at e1
  rw[getElem?_set_ne U]at e2
  exact r.inj j k q es G Y e1 e2 e3 e4
 .obtain⟨n,e1⟩:=t9 e1
  obtain⟨o1,o2,o3,zs,o4,o5⟩:=r.ob j q es e1
  have hp:q≠p:=fun w=>r.obn j i q es ds e1 h (by rw[w];exact a)
  exact⟨o1,by rw[y3 hp];exact o2,o3,zs,o4,o5.mono ff⟩
 .obtain⟨n,e1⟩:=t9 e1
  have U:i≠k:=fun w=>by subst w;rw[getElem?_set_self N]at e2;cases e2
  rw[getElem?_set_ne U]at e2
  exact r.obn j k q es G e1 e2 e3
theorem Rl.write (r:Rl K F0 H0 F H σ ρ){i:Nat}{p:Addr}{ys:List V}{ds es:List D}(h:ρ[i]? =some (some (.own ds)))(hp:σ[i]? =some (some (.ref p)))(hy:Reps K F ys es):
  Rl K F0 H0 F (upd H p (.lst ys)) σ (ρ.set i (some (.own es))):=by
 obtain⟨p',a1,a,b,c,d,z⟩:=r.own i ds h
 rw[hp]at a;cases a
 have hl:i<ρ.length:=(List.getElem?_eq_some_iff.mp h).1
 refine⟨⟨r.ext.ff,r.ext.hh.put z,r.ext.fh.put b,r.ext.new,r.ext.nf⟩,by simp[r.len],fun j d' q=>?_,fun j fs q=>?_,fun j k q fs fs' O e1 e2 e3 e4=>?_,fun j q fs e1=>?_,fun j k q fs fs' e1 e2 e3=>?_,fun j k q q' es Z e1 e2=>r.ob1 j k q q' es Z (t9 e1).2 (t9 e2).2⟩
 .by_cases hj:i=j
  .subst hj
   rw[getElem?_set_self hl]at q
   cases q
  .rw[getElem?_set_ne hj]at q
   exact r.sh j d' q
 .by_cases hj:i=j
  .subst hj
   rw[getElem?_set_self hl]at q
   cases q
   exact⟨p,ys,hp,b,y2,hy,z⟩
  .rw[getElem?_set_ne hj]at q
   obtain⟨p2,N,a2,b2,c2,d2,z2⟩:=r.own j fs q
   have G:p2≠p:=fun w=>r.inj i j p ds fs hj h q hp (by rw[<-w];exact a2)
   exact⟨p2,N,a2,b2,by rw[y3 G];exact c2,d2,z2⟩
 .have back:∀(m:Nat) Y,(ρ.set i (some (S.own es)))[m]? =some (some (.own Y))->∃ U,ρ[m]? =some (some (.own U)):=fun m Y e=>by
   by_cases hm:i=m
   .subst hm;exact⟨ds,h⟩
   .rw[getElem?_set_ne hm]at e;exact⟨Y,e⟩
  obtain⟨g1,e1⟩:=back j fs e1
  obtain⟨g2,e2⟩:=back k fs' e2
  exact r.inj j k q g1 g2 O e1 e2 e3 e4
 .obtain⟨n,e1⟩:=t9 e1
  obtain⟨o1,o2,o3,zs,o4,o5⟩:=r.ob j q fs e1
  have G:q≠p:=fun w=>r.obn j i q fs ds e1 h (by rw[w];exact hp)
  exact⟨o1,o2,o3,zs,by rw[y3 G];exact o4,o5⟩
 .obtain⟨n,e1⟩:=t9 e1
  by_cases n2:i=k
  .subst n2;exact r.obn j i q fs ds e1 h e3
  .rw[getElem?_set_ne n2]at e2
   exact r.obn j k q fs fs' e1 e2 e3
theorem Rl.writeB (r:Rl K F0 H0 F H σ ρ){i:Nat}{p:Addr}{ys:List V}{ds es:List D}(h:ρ[i]? =some (some (.ob p ds)))(hy:Reps K F ys es):
  Rl K F0 H0 F (upd H p (.lst ys)) σ (ρ.set i (some (.ob p es))):=by
 obtain⟨a,b,z,a3,c,d⟩:=r.ob i p ds h
 have Z:i<ρ.length:=(List.getElem?_eq_some_iff.mp h).1
 have G:∀(j:Nat) q fs,(ρ.set i (some (S.ob p es)))[j]? =some (some (.ob q fs))->j=i/\q=p/\fs=es:=fun j q fs e=>by
  by_cases N:i=j
  .subst N;rw[getElem?_set_self Z]at e;cases e;exact⟨rfl,rfl,rfl⟩
  .rw[getElem?_set_ne N]at e;exact absurd (r.ob1 i j p q ds fs h e) N
 have other:∀(j:Nat) fs,(ρ.set i (some (S.ob p es)))[j]? =some (some (.own fs))->i≠j/\ρ[j]? =some (some (.own fs)):=fun j fs e=>by
  by_cases N:i=j
  .subst N;rw[getElem?_set_self Z]at e;cases e
  .rw[getElem?_set_ne N]at e;exact⟨N,e⟩
 refine⟨⟨r.ext.ff,r.ext.hh.put z,r.ext.fh.put b,r.ext.new,r.ext.nf⟩,by simp[r.len],fun j d' q=>?_,fun j fs q=>?_,fun j k q fs fs' a1 e1 e2 e3 O=>r.inj j k q fs fs' a1 (other j fs e1).2 (other k fs' e2).2 e3 O,fun j q fs e1=>?_,fun j k q fs fs' e1 e2 e3=>?_,fun j k q q' fs fs' e1 e2=>?_⟩
 .by_cases N:i=j
  .subst N;rw[getElem?_set_self Z]at q;cases q
  .rw[getElem?_set_ne N]at q;exact r.sh j d' q
 .obtain⟨n,e⟩:=other j fs q
  obtain⟨p2,U,a2,b2,c2,d2,z2⟩:=r.own j fs e
  have Y:p2≠p:=fun w=>r.obn i j p ds fs h e (by rw[<-w];exact a2)
  exact⟨p2,U,a2,b2,by rw[y3 Y];exact c2,d2,z2⟩
 .obtain⟨e2,e3,O⟩:=G j q fs e1
  subst e2 e3 O
  exact⟨a,b,z,ys,y2,hy⟩
 .obtain⟨O,e5,_⟩:=G j q fs e1
  subst O e5
  exact r.obn j k q ds fs' h (other k fs' e2).2 e3
 .rw[(G j q fs e1).1,(G k q' fs' e2).1]
end
theorem Rep.n' {K:W.Frag}{F:Hp}{x:V}(r:Rep K F x .non):x= .non:=by cases r;rfl
theorem Rep.b' {K:W.Frag}{F:Hp}{x:V}{i:Bool}(r:Rep K F x (.bl i)):x= .bl i:=by cases r;rfl
theorem Rep.i' {K:W.Frag}{F:Hp}{x:V}{i:Int}(r:Rep K F x (.int i)):x= .int i:=by cases r;rfl
theorem Rep.s' {K:W.Frag}{F:Hp}{x:V}{i:Str}(r:Rep K F x (.str i)):x= .str i:=by cases r;rfl
theorem Rep.l' {K:W.Frag}{F:Hp}{x:V}{ds:List D}(r:Rep K F x (.lst ds)):∃ a xs,x= .ref a/\SqL K F a xs/\Reps K F xs ds:=by cases r with |lst s r=>exact⟨_,_,rfl,s,r⟩
theorem Rep.t' {K:W.Frag}{F:Hp}{x:V}{ds:List D}(r:Rep K F x (.tup ds)):∃ a xs,x= .ref a/\SqT K F a xs/\Reps K F xs ds:=by cases r with |tup s r=>exact⟨_,_,rfl,s,r⟩
end
section
noncomputable abbrev ME:=Ro->Option D
noncomputable abbrev ML:=Ro->Option (List D)
noncomputable abbrev MB:=Ro->Option Bool
def TD (K:W.Frag)(m:ME):TE:=fun σ H Q=>∃ F0 H0 F ρ d,Rl K F0 H0 F H σ ρ/\m ρ=some d/\∀ v F' H',Ext F H F' H'->Rep K F' v d->Q v H'
def TF (K:W.Frag)(m:ML):TE:=fun σ H Q=>∃ F0 H0 F ρ ds,Rl K F0 H0 F H σ ρ/\m ρ=some ds/\∀ p xs F' H',Ext F H F' H'->H p=none->F' p=none->H' p=some (.lst xs)->Reps K F' xs ds->Q (.ref p) H'
def TB (K:W.Frag)(m:ML):TE:=fun σ H Q=>∃ F0 H0 F ρ ds,Rl K F0 H0 F H σ ρ/\m ρ=some ds/\∀ p xs F' H',Ext F H F' H'->SqL K H' p xs->Reps K F' xs ds->Q (.ref p) H'
def TC (K:W.Frag)(c:MB):TT:=fun σ H Q=>∃ F0 H0 F ρ b,Rl K F0 H0 F H σ ρ/\c ρ=some b/\∀ F' H',Ext F H F' H'->Q b H'
def TAs (K:W.Frag)(m:ML):TA:=fun σ H Q=>∃ F0 H0 F ρ ds,Rl K F0 H0 F H σ ρ/\m ρ=some ds/\∀ vs F' H',Ext F H F' H'->Reps K F' vs ds->Q vs H'
def PD (X:Cx)(e:Expr)(m:ME):Prop:=PE X e (TD X.K m)
def PF (X:Cx)(e:Expr)(m:ML):Prop:=PE X e (TF X.K m)
def PB (X:Cx)(e:Expr)(m:ML):Prop:=PE X e (TB X.K m)
def PC' (X:Cx)(e:Expr)(c:MB):Prop:=PT X e (TC X.K c)
def PCw (X:Cx)(e:Expr)(c:MB):Prop:=PW X e (TC X.K c)
def PAs (X:Cx)(es:List Expr)(m:ML):Prop:=PA X es (TAs X.K m)
section
variable {X:Cx}{a b c e:Expr}{ma mb:ME}{pos:Pos}
theorem PE.imp {t t':TE}(h:PE X e t)(i:∀ σ H Q,t' σ H Q->t σ H Q):PE X e t':=fun pins s σ H Q I q=>h pins s σ H Q I (i σ H Q q)
theorem PT.imp {t t':TT}(h:PT X e t)(i:∀ σ H Q,t' σ H Q->t σ H Q):PT X e t':=fun pins s σ H Q I q=>h pins s σ H Q I (i σ H Q q)
theorem PW.imp {t t':TT}(h:PW X e t)(i:∀ σ H Q,t' σ H Q->t σ H Q):PW X e t':=fun w pins s σ H Q I q=>h w pins s σ H Q I (i σ H Q q)
theorem PA.imp {es:List Expr}{t t':TA}(h:PA X es t)(i:∀ σ H Q,t' σ H Q->t σ H Q):PA X es t':=fun pos pins s σ H Q I q=>h pos pins s σ H Q I (i σ H Q q)
noncomputable def mvar (i:Nat):ME:=fun ρ=>match ρ[i]? with |some (some (.sh d))=>some d|_=>none
noncomputable def bvar (i:Nat):ML:=fun ρ=>match ρ[i]? with |some (some (.sh (.lst ds)))=>some ds|some (some (.own ds))=>some ds|some (some (.ob _ ds))=>some ds|_=>none
noncomputable def mc (d:D):ME:=fun _=>some d
theorem z6 (i:Nat){x:Str}{pos:Pos}(h:PE X (.Name x pos) (tVar i)):PD X (.Name x pos) (mvar i):=h.imp fun σ H Q j=>by
 obtain⟨F0,H0,F,ρ,d,r,e,q⟩:=j
 unfold mvar at e
 split at e
 .rename_i h'
  cases e
  obtain⟨v,e1,e2⟩:=r.sh i _ h'
  exact⟨v,e1,q v F H (.refl r.fh) e2⟩
 .cases e
theorem y6 (i:Nat){x:Str}{pos:Pos}(h:PE X (.Name x pos) (tVar i)):PB X (.Name x pos) (bvar i):=h.imp fun σ H Q j=>by
 obtain⟨F0,H0,F,ρ,d,r,e,q⟩:=j
 unfold bvar at e
 split at e
 .rename_i ds h'
  cases e
  obtain⟨v,e1,e2⟩:=r.sh i _ h'
  cases e2 with
  |lst s G=>exact⟨_,e1,q _ _ F H (.refl r.fh) (r.fh.seq s) G⟩
 .rename_i ds h'
  cases e
  obtain⟨p,xs,e1,e2,e3,z,_⟩:=r.own i _ h'
  exact⟨_,e1,q _ _ F H (.refl r.fh) (SqL.of e3) z⟩
 .rename_i p ds h'
  cases e
  obtain⟨e1,e2,_,xs,e3,z⟩:=r.ob i p _ h'
  exact⟨_,e1,q _ _ F H (.refl r.fh) (SqL.of e3) z⟩
 .cases e
theorem z7 {i:Int}{j pos}:PD X (.Constant (.int i) j pos) (mc (.int i)):=pe_int.imp fun σ H Q z=>by
 obtain⟨F0,H0,F,ρ,d,r,e,q⟩:=z
 cases e;exact q _ F H (.refl r.fh) (.int i)
theorem yq7 {b:Bool}{j pos}:PD X (.Constant (.bool b) j pos) (mc (.bl b)):=pe_bl.imp fun σ H Q z=>by
 obtain⟨F0,H0,F,ρ,d,r,e,q⟩:=z
 cases e;exact q _ F H (.refl r.fh) (.bl b)
noncomputable def mlst (m:ML):ME:=fun ρ=>(m ρ).map .lst
noncomputable def u0 (m:ME):ML:=fun ρ=>match m ρ with |some (.lst ds)=>some ds|_=>none
theorem j7 {m:ML}(h:PF X e m):PD X e (mlst m):=h.imp fun σ H Q j=>by
 obtain⟨F0,H0,F,ρ,d,r,e,q⟩:=j
 unfold mlst at e
 cases hm:m ρ with
 |none=>rw[hm]at e;cases e
 |some ds=>
  rw[hm]at e;cases e
  refine⟨F0,H0,F,ρ,ds,r,hm,fun p xs F' H' x hp z N G=>?_⟩
  exact q _ (upd F' p (.lst xs)) H' (x.freeze z hp N) (.lst (SqL.of y2) (G.mono ((Same.refl F').put z)))
theorem C5 (h:PD X e ma):PB X e (u0 ma):=h.imp fun σ H Q j=>by
 obtain⟨F0,H0,F,ρ,d,r,e,q⟩:=j
 unfold u0 at e
 split at e
 .rename_i ds hm
  cases e
  refine⟨F0,H0,F,ρ,_,r,hm,fun v F' H' x z=>?_⟩
  cases z with
  |lst s G=>exact q _ _ F' H' x (x.fh.seq s) G
 .cases e
theorem S3 {m:ML}(h:PF X e m):PB X e m:=h.imp fun σ H Q ⟨F0,H0,F,ρ,d,r,e,q⟩=>
 ⟨F0,H0,F,ρ,d,r,e,fun p xs F' H' x hp G z j=>q p xs F' H' x (SqL.of z) j⟩
@[irreducible] noncomputable def m2 (f:D->D->Option D)(x y:ME):ME:=fun ρ=>(x ρ).bind fun d=>(y ρ).bind fun e=>f d e
def OpD (K:W.Frag)(r:R2)(f:D->D->Option D):Prop:=∀(F H:Hp)(x y:V)(d e g:D)(Q:VK),Same F H->Rep K F x d->Rep K F y e->f d e=some g->(∀ v F' H',Ext F H F' H'->Rep K F' v g->Q v H')->r x y H Q
theorem yd7 {f:D->D->Option D}{ρ:Ro}{g:D}(h:m2 f ma mb ρ=some g):∃ d e,ma ρ=some d/\mb ρ=some e/\f d e=some g:=by
 unfold m2 at h
 cases h1:ma ρ with
 |none=>rw[h1]at h;cases h
 |some d=>
  cases h2:mb ρ with
  |none=>rw[h1,h2]at h;cases h
  |some e=>rw[h1,h2]at h;exact⟨d,e,rfl,rfl,h⟩
theorem op_d {r:R2}{f:D->D->Option D}(U:OpD X.K r f){σ:St}{H:Hp}{Q:VK}(h:TD X.K (m2 f ma mb) σ H Q):tOp r (TD X.K ma) (TD X.K mb) σ H Q:=by
 obtain⟨F0,H0,F,ρ,g,G,e,q⟩:=h
 obtain⟨d,N,h1,h2,Y⟩:=yd7 e
 refine⟨F0,H0,F,ρ,d,G,h1,fun x F1 H1 z r1=>⟨F0,H0,F1,ρ,N,G.go z,h2,fun y F2 H2 j r2=>?_⟩⟩
 exact U F2 H2 x y d N g Q j.fh (r1.mono j.ff) r2 Y fun v F' H' O=>q v F' H' ((z.trans j).trans O)
theorem zh9 {op:Operator}{r:R2}{f:D->D->Option D}(j:OpR X (binaryOp op) r)(z:OpD X.K r f)(ha:PD X a ma)(G:PD X b mb):PD X (.BinOp a op b pos) (m2 f ma mb):=(yq6 j ha G).imp fun _ _ _ h=>op_d z h
theorem za4 {op:CmpOp}{r:R2}{f:D->D->Option D}(j:OpR X (compareOp op) r)(z:OpD X.K r f)(ha:PD X a ma)(G:PD X b mb)(hm:behindInMarks op b=false):PD X (.Compare a [op] [b] pos) (m2 f ma mb):=(zb7 j ha G hm).imp fun _ _ _ h=>op_d z h
noncomputable def w6 (m:ME):MB:=fun ρ=>match m ρ with |some (.bl b)=>some b|_=>none
theorem m7 {op:CmpOp}{r:R2}{f:D->D->Option D}(G:OpR X (compareOp op) r)(N:OpD X.K r f)(ha:PD X a ma)(O:PD X b mb)(hm:behindInMarks op b=false):PC' X (.Compare a [op] [b] pos) (w6 (m2 f ma mb)):=(zt5 G ha O hm).imp fun σ H Q j=>by
 obtain⟨F0,H0,F,ρ,g,z,e,q⟩:=j
 unfold w6 at e
 split at e
 .rename_i k hk
  cases e
  refine op_d N ⟨F0,H0,F,ρ,.bl g,z,hk,fun v F' H' x r=>?_⟩
  cases r
  exact⟨_,rfl,q F' H' x⟩
 .cases e
noncomputable def int2 (g:Int->Int->Option D):D->D->Option D
 | .int i,.int j=>g i j
 |_,_=>none
theorem zk9 {g:Int->Int->Option D}{d e w:D}(h:int2 g d e=some w):∃ i j,d= .int i/\e= .int j/\g i j=some w:=by
 cases d with
 |int i=>
  cases e with
  |int j=>exact⟨i,j,rfl,rfl,h⟩
  |_=>cases h
 |_=>cases h
theorem C9 {K:W.Frag}{g:Int->Int->V}{g':Int->Int->D}(z:∀ F i j,Rep K F (g i j) (g' i j)):OpD K (rI0 g) (int2 fun i j=>some (g' i j)):=by
 intro F H x y d e w Q s r1 r2 h q
 obtain⟨i,j,rfl,rfl,h'⟩:=zk9 h
 clear h
 cases h'
 exact⟨i,j,r1.i',r2.i',q _ F H (.refl s) (z F i j)⟩
theorem zn7 {K:W.Frag}{C:Int->Int->Prop}{ok:Int->Int->Bool}{g:Int->Int->V}{g':Int->Int->D}(N:∀ i j,ok i j=true->C i j)(G:∀ F i j,Rep K F (g i j) (g' i j)):
  OpD K (rI C g) (int2 fun i j=>if ok i j=true then some (g' i j)else none):=by
 intro F H x y d e w Q s r1 r2 h q
 obtain⟨i,j,rfl,rfl,h'⟩:=zk9 h
 clear h
 by_cases z:ok i j=true
 .rw[if_pos z]at h'
  cases h'
  exact⟨i,j,r1.i',r2.i',N i j z,q _ F H (.refl s) (G F i j)⟩
 .rw[if_neg z]at h'
  cases h'
noncomputable def subD:D->D->Option D:=int2 fun i j=>some (.int (i-j))
noncomputable def R8 (i j:Int):Bool:=(decide (-(2^64)<i)&&decide (i<2^64)) || (decide (-(2^64)<j)&&decide (j<2^64))
noncomputable def mulD:D->D->Option D:=int2 fun i j=>if R8 i j=true then some (.int (i*j))else none
noncomputable def E7 (_ j:Int):Bool:=decide (0<j)&&decide (j<1073741824)
noncomputable def zv2:D->D->Option D:=int2 fun i j=>if E7 i j=true then some (.int (i / j))else none
noncomputable def G4 (_ j:Int):Bool:=decide (0<j)
noncomputable def modD:D->D->Option D:=int2 fun i j=>if G4 i j=true then some (.int (i % j))else none
noncomputable def zc5 (i j:Int):Bool:=decide (0<=j)&&decide (j<=1000000)&&decide (i.natAbs<2^64)
noncomputable def powD:D->D->Option D:=int2 fun i j=>if zc5 i j=true then some (.int (i^j.toNat))else none
noncomputable def ltD:D->D->Option D:=int2 fun i j=>some (.bl (decide (i<j)))
noncomputable def leD:D->D->Option D:=int2 fun i j=>some (.bl (decide (i<=j)))
noncomputable def gtD:D->D->Option D:=int2 fun i j=>some (.bl (decide (j<i)))
noncomputable def geD:D->D->Option D:=int2 fun i j=>some (.bl (decide (j<=i)))
theorem C8 {K:W.Frag}:OpD K (rI0 fun i j=>.int (i-j)) subD:=C9 fun F i j=>.int _
theorem za9 {K:W.Frag}:OpD K (rI CMul fun i j=>.int (i*j)) mulD:=zn7 (fun i j h=>by
 unfold R8 at h
 simp only[Bool.or_eq_true,Bool.and_eq_true,decide_eq_true_eq]at h
 exact h) fun F i j=>.int _
theorem yq8 {K:W.Frag}:OpD K (rI CDiv fun i j=>.int (i / j)) zv2:=zn7 (fun i j h=>by
 unfold E7 at h
 simp only[Bool.and_eq_true,decide_eq_true_eq]at h
 exact h) fun F i j=>.int _
theorem ye5 {K:W.Frag}:OpD K (rI (fun _ j=>0<j) fun i j=>.int (i % j)) modD:=zn7 (fun i j h=>of_decide_eq_true h) fun F i j=>.int _
theorem ye4 {K:W.Frag}:OpD K (rI CPow fun i j=>.int (i^j.toNat)) powD:=zn7 (fun i j h=>by
 unfold zc5 at h
 simp only[Bool.and_eq_true,decide_eq_true_eq]at h
 exact⟨h.1.1,h.1.2,h.2⟩) fun F i j=>.int _
theorem zn8 {K:W.Frag}:OpD K (rI0 fun i j=>.bl (decide (i<j))) ltD:=C9 fun F i j=>.bl _
theorem yz0 {K:W.Frag}:OpD K (rI0 fun i j=>.bl (decide (j<i))) gtD:=C9 fun F i j=>.bl _
theorem O7 {K:W.Frag}:OpD K (rI0 fun i j=>.bl (decide (j<=i))) geD:=C9 fun F i j=>.bl _
noncomputable def eqS:D->D->Option Bool
 | .non,.non=>some true| .non,.int _=>some false| .int _,.non=>some false| .non,.bl _=>some false| .bl _,.non=>some false| .non,.str _=>some false| .str _,.non=>some false
 | .int i,.int j=>some (i==j)| .bl i,.bl j=>some (i==j)| .str i,.str j=>some (i==j)
 | .int _,.str _=>some false| .str _,.int _=>some false| .bl _,.str _=>some false| .str _,.bl _=>some false
 |_,_=>none
noncomputable def eqSD (d e:D):Option D:=(eqS d e).map .bl
noncomputable def neSD (d e:D):Option D:=(eqS d e).map fun b=>.bl (!b)
noncomputable def scV:D->V
 | .bl b=>.bl b| .int i=>.int i| .str x=>.str x|_=>.non
theorem yb1 {d e:D}{k:Bool}(h:eqS d e=some k):scal (scV d) (scV e)=true/\decide (scV d=scV e)=k:=by
 cases d with
 |non=>cases e <;> cases h <;> exact⟨rfl,rfl⟩
 |bl i=>
  cases e <;> cases h
  .exact⟨rfl,rfl⟩
  .exact⟨rfl,yi4⟩
  .exact⟨rfl,rfl⟩
 |int i=>
  cases e <;> cases h
  .exact⟨rfl,rfl⟩
  .exact⟨rfl,yv0⟩
  .exact⟨rfl,rfl⟩
 |str i=>
  cases e <;> cases h
  .exact⟨rfl,rfl⟩
  .exact⟨rfl,rfl⟩
  .exact⟨rfl,rfl⟩
  .exact⟨rfl,yw9⟩
 |_=>cases h
theorem yn8 {d e:D}{k:Bool}(h:eqS d e=some k){K:W.Frag}{F:Hp}{x:V}(r:Rep K F x d):x=scV d:=by
 cases d with
 |non=>exact r.n'
 |bl i=>exact r.b'
 |int i=>exact r.i'
 |str i=>exact r.s'
 |_=>cases h
theorem yw7 (d e:D)(k:Bool)(h:eqS d e=some k):∃ j,eqS e d=some j:=by
 cases d with
 |non=>cases e <;> cases h <;> exact⟨_,rfl⟩
 |bl i=>cases e <;> cases h <;> exact⟨_,rfl⟩
 |int i=>cases e <;> cases h <;> exact⟨_,rfl⟩
 |str i=>cases e <;> cases h <;> exact⟨_,rfl⟩
 |_=>cases h
theorem g6 {K:W.Frag}:OpD K rEq eqSD:=by
 intro F H x y d e w Q s r1 r2 h q
 unfold eqSD at h
 cases hk:eqS d e with
 |none=>rw[hk]at h;cases h
 |some k=>
  rw[hk]at h
  cases h
  obtain⟨z,j⟩:=yw7 d e k hk
  obtain⟨h1,h2⟩:=yb1 hk
  rw[yn8 hk r1,yn8 j r2]
  refine⟨h1,?_⟩
  rw[h2]
  exact q _ F H (.refl s) (.bl _)
noncomputable def m1 (f:D->Option D)(x:ME):ME:=fun ρ=>(x ρ).bind f
noncomputable def negD:D->Option D
 | .int i=>some (.int (-i))
 |_=>none
theorem yd8 {f:D->Option D}{ρ:Ro}{g:D}(h:m1 f ma ρ=some g):∃ d,ma ρ=some d/\f d=some g:=by
 unfold m1 at h
 cases h1:ma ρ with
 |none=>rw[h1]at h;cases h
 |some d=>rw[h1]at h;exact⟨d,rfl,h⟩
theorem T6 (ha:PD X a ma):PD X (.UnaryOp .USub a pos) (m1 negD ma):=(xm0 xz8 ha).imp fun σ H Q j=>by
 obtain⟨F0,H0,F,ρ,g,G,e,q⟩:=j
 obtain⟨d,h1,h2⟩:=yd8 e
 refine⟨F0,H0,F,ρ,d,G,h1,fun x F1 H1 z r1=>?_⟩
 cases r1 <;> first| (cases h2;done)|skip
 cases h2
 exact⟨_,rfl,q _ F1 H1 z (.int _)⟩
noncomputable def mand (x y:ME):ME:=fun ρ=>match x ρ with |some (.bl true)=>y ρ|some (.bl false)=>some (.bl false)|_=>none
theorem yk8 {op}(h:PD X a ma):PD X (.BoolOp op [a] pos) ma:=xv1 h
theorem za6 {rest:List Expr}(ha:PD X a ma)(O:PD X (.BoolOp .And (b::rest) pos) mb):PD X (.BoolOp .And (a::b::rest) pos) (mand ma mb):=(xv2 ha O).imp fun σ H Q j=>by
 obtain⟨F0,H0,F,ρ,g,G,e,q⟩:=j
 unfold mand at e
 split at e
 .rename_i h1
  refine⟨F0,H0,F,ρ,_,G,h1,fun x F1 H1 z r1=>?_⟩
  cases r1
  refine⟨true,rfl,?_⟩
  refine iteT ?_
  exact⟨F0,H0,F1,ρ,g,G.go z,e,fun y F2 H2 N r2=>q y F2 H2 (z.trans N) r2⟩
 .rename_i h1
  cases e
  refine⟨F0,H0,F,ρ,_,G,h1,fun x F1 H1 z r1=>?_⟩
  cases r1
  refine⟨false,rfl,?_⟩
  refine iteF ?_
  exact q _ F1 H1 z (.bl _)
 .cases e
noncomputable def truD:D->Option Bool
 | .non=>some false
 | .bl b=>some b
 | .int i=>some (i != 0)
 | .str y=>if y.length<=sizeLine then some ((y.length:Int) != 0)else none
 | .lst ds=>some (!ds.isEmpty)
 | .tup ds=>some (!ds.isEmpty)
 | .exc _=>none
 | .ptr _=>none
 | .obj _ _ _=>none
noncomputable def mtru (m:ME):MB:=fun ρ=>(m ρ).bind truD
theorem N3 {K:W.Frag}{F:Hp}{vs:List V}{ds:List D}(h:Reps K F vs ds):(!ds.isEmpty)= !vs.isEmpty:=by cases h <;> rfl
theorem yj0 (ha:PD X a ma)(U:∀ j,isTrue a X.env j=(do let v ← j;standAt a.pos;holding [v] (truthy v)):=by intro _;rfl):PC' X a (mtru ma):=(zo7 ha U).imp fun σ H Q z=>by
 obtain⟨F0,H0,F,ρ,b,O,e,q⟩:=z
 unfold mtru at e
 cases h1:ma ρ with
 |none=>rw[h1]at e;cases e
 |some d=>
  rw[h1]at e
  refine⟨F0,H0,F,ρ,d,O,h1,fun x F1 H1 G r1=>⟨b,?_,q F1 H1 G⟩⟩
  cases r1 with
  |non=>cases e;rfl
  |bl=>cases e;rfl
  |int=>cases e;rfl
  |str x=>
   have e:(if x.length<=sizeLine then some ((x.length:Int) != 0)else none)=some b:=e
   split at e
   .rename_i hz
    cases e
    exact⟨hz,rfl⟩
   .cases e
  |lst s N=>cases e;exact .inl ⟨_,G.fh.seq s,N3 N⟩
  |tup s N=>cases e;exact .inr (.inl ⟨_,G.fh.seqT s,N3 N⟩)
  |exc=>cases e
  |ptr=>cases e
  |obj=>cases e
variable {ca cb:MB}
noncomputable def cand (x y:MB):MB:=fun ρ=>match x ρ with |some true=>y ρ|some false=>some false|none=>none
noncomputable def cor (x y:MB):MB:=fun ρ=>match x ρ with |some true=>some true|some false=>y ρ|none=>none
noncomputable def cnot (x:MB):MB:=fun ρ=>(x ρ).map (!·)
theorem pc_w (h:PCw X a ca):PC' X a ca:=h.pt
theorem zd9 (h:PC' X a ca):PCw X (.BoolOp .And [a] pos) ca:=zd8 h
theorem xw3 (h:PC' X a ca):PCw X (.BoolOp .Or [a] pos) ca:=xw2 h
theorem za7 {rest:List Expr}(ha:PC' X a ca)(O:PCw X (.BoolOp .And (b::rest) pos) cb):PCw X (.BoolOp .And (a::b::rest) pos) (cand ca cb):=(yk5 ha O).imp fun σ H Q j=>by
 obtain⟨F0,H0,F,ρ,g,G,e,q⟩:=j
 unfold cand at e
 split at e
 .rename_i h1
  refine⟨F0,H0,F,ρ,_,G,h1,fun F1 H1 z=>?_⟩
  refine iteT ?_
  exact⟨F0,H0,F1,ρ,g,G.go z,e,fun F2 H2 N=>q F2 H2 (z.trans N)⟩
 .rename_i h1
  cases e
  refine⟨F0,H0,F,ρ,_,G,h1,fun F1 H1 z=>?_⟩
  refine iteF ?_
  exact q F1 H1 z
 .cases e
theorem xv3 {rest:List Expr}(ha:PC' X a ca)(O:PCw X (.BoolOp .Or (b::rest) pos) cb):PCw X (.BoolOp .Or (a::b::rest) pos) (cor ca cb):=(xn9 ha O).imp fun σ H Q j=>by
 obtain⟨F0,H0,F,ρ,g,G,e,q⟩:=j
 unfold cor at e
 split at e
 .rename_i h1
  cases e
  refine⟨F0,H0,F,ρ,_,G,h1,fun F1 H1 z=>?_⟩
  refine iteT ?_
  exact q F1 H1 z
 .rename_i h1
  refine⟨F0,H0,F,ρ,_,G,h1,fun F1 H1 z=>?_⟩
  refine iteF ?_
  exact⟨F0,H0,F1,ρ,g,G.go z,e,fun F2 H2 N=>q F2 H2 (z.trans N)⟩
 .cases e
theorem xv5 (ha:PC' X a ca):PC' X (.UnaryOp .Not a pos) (cnot ca):=(yk6 ha).imp fun σ H Q j=>by
 obtain⟨F0,H0,F,ρ,g,G,e,q⟩:=j
 unfold cnot at e
 cases h1:ca ρ with
 |none=>rw[h1]at e;cases e
 |some k=>
  rw[h1]at e;cases e
  exact⟨F0,H0,F,ρ,k,G,h1,fun F1 H1 z=>q F1 H1 z⟩
noncomputable def anil:ML:=fun _=>some []
@[irreducible] noncomputable def z4 (x:ME)(r:ML):ML:=fun ρ=>(x ρ).bind fun d=>(r ρ).bind fun ds=>some (d::ds)
theorem D1 {r:ML}{ρ:Ro}{j:List D}(h:z4 ma r ρ=some j):∃ d ds,ma ρ=some d/\r ρ=some ds/\j=d::ds:=by
 unfold z4 at h
 cases h1:ma ρ with
 |none=>rw[h1]at h;cases h
 |some d=>
  cases h2:r ρ with
  |none=>rw[h1,h2]at h;cases h
  |some ds=>rw[h1,h2]at h;cases h;exact⟨d,ds,rfl,rfl,rfl⟩
theorem z3:PAs X [] anil:=pa_nil.imp fun σ H Q j=>by
 obtain⟨F0,H0,F,ρ,g,z,e,q⟩:=j
 cases e;exact q [] F H (.refl z.fh) .nil
theorem z0 {es:List Expr}{m:ML}(ha:PD X a ma)(hr:PAs X es m)(hs:starEach (a::es) X.env=(false,eval a X.env)::starEach es X.env:=by rfl):PAs X (a::es) (z4 ma m):=(m9 ha hr hs).imp fun σ H Q j=>by
 obtain⟨F0,H0,F,ρ,g,N,e,q⟩:=j
 obtain⟨d,ds,h1,h2,rfl⟩:=D1 e
 refine⟨F0,H0,F,ρ,d,N,h1,fun x F1 H1 G r1=>⟨F0,H0,F1,ρ,ds,N.go G,h2,fun xs F2 H2 z r2=>?_⟩⟩
 exact q _ F2 H2 (G.trans z) (.cons (r1.mono z.ff) r2)
@[irreducible] noncomputable def w5 (m:ML):ML:=fun ρ=>match m ρ with |some ds=>if ds.length<=sizeLine then some ds else none|none=>none
theorem G9 {m:ML}{ρ:Ro}{j:List D}(h:w5 m ρ=some j):m ρ=some j/\j.length<=sizeLine:=by
 unfold w5 at h
 cases h1:m ρ with
 |none=>rw[h1]at h;cases h
 |some ds=>
  rw[h1]at h
  have h:(if ds.length<=sizeLine then some ds else none)=some j:=h
  split at h
  .rename_i hz;cases h;exact⟨rfl,hz⟩
  .cases h
theorem w9 {es:List Expr}{m:ML}(h:PAs X es m):PF X (.List es pos) (w5 m):=(zb5 h).imp fun σ H Q j=>by
 obtain⟨F0,H0,F,ρ,g,G,e,q⟩:=j
 obtain⟨h1,h2⟩:=G9 e
 refine⟨F0,H0,F,ρ,g,G,h1,fun vs F1 H1 z r1=>⟨by rw[r1.length];exact h2,fun p hp=>?_⟩⟩
 exact q p vs F1 _ (z.trans (Ext.own z.fh hp)) (z.hh.free hp) (z.fh.free hp) y2 r1
noncomputable def mtup (m:ML):ME:=fun ρ=>(w5 m ρ).map .tup
theorem V3 {es:List Expr}{m:ML}{k:Nat}(h:PAs X es m):PD X (.Tuple es k pos) (mtup m):=(xv0 h).imp fun σ H Q j=>by
 obtain⟨F0,H0,F,ρ,g,G,e,q⟩:=j
 unfold mtup at e
 cases h1:w5 m ρ with
 |none=>rw[h1]at e;cases e
 |some ds=>
  rw[h1]at e;cases e
  obtain⟨h1,h2⟩:=G9 h1
  refine⟨F0,H0,F,ρ,ds,G,h1,fun vs F1 H1 z r1=>⟨by rw[r1.length];exact h2,fun p hp=>?_⟩⟩
  exact q _ _ _ (z.trans (Ext.laid z.fh hp)) (.tup (SqT.of y2) (r1.mono ((Same.refl F1).put (z.fh.free hp))))
noncomputable def mlen (m:ML):ME:=fun ρ=>(m ρ).map fun ds=>.int ds.length
@[irreducible] noncomputable def mix (m:ML)(i:ME):ME:=fun ρ=>(m ρ).bind fun ds=>(i ρ).bind fun| .int k=>atI ds k|_=>none
theorem zi6 {K:W.Frag}{F:Hp}{vs:List V}{ds:List D}{k:Int}{d:D}(r:Reps K F vs ds)(h:atI ds k=some d):∃ v,atI vs k=some v/\Rep K F v d:=by
 unfold atI at h ⊢
 rw[r.length]
 cases q:ixN ds.length k with
 |none=>rw[q]at h;cases h
 |some j=>
  rw[q]at h
  exact r.get h
theorem t8 {G:ML}(ha:PB X a G)(U:PD X b mb)(hs:zp6 b:=by exact fun _ _=>rfl):PD X (.Subscript a b pos) (mix G mb):=(yf7 zr7 ha U hs).imp fun σ H Q j=>by
 obtain⟨F0,H0,F,ρ,g,O,e,q⟩:=j
 unfold mix at e
 cases h1:G ρ with
 |none=>rw[h1]at e;cases e
 |some ds=>
  cases h2:mb ρ with
  |none=>rw[h1,h2]at e;cases e
  |some i=>
   rw[h1,h2]at e
   refine⟨F0,H0,F,ρ,ds,O,h1,fun p xs F1 H1 N s1 r1=>⟨F0,H0,F1,ρ,i,O.go N,h2,fun y F2 H2 z r2=>?_⟩⟩
   cases r2 <;> first| (cases e;done)|skip
   rename_i k
   obtain⟨v,Z,Y⟩:=zi6 (r1.mono z.ff) (show atI ds k=some g from e)
   exact⟨p,xs,k,v,rfl,rfl,z.hh.seq s1,Z,q v F2 H2 (N.trans z) Y⟩
theorem yn9 {K:W.Frag}{F:Hp}{vs:List V}{ds:List D}(r:Reps K F vs ds)(lo hi:Option Int):Reps K F (cutV vs lo hi) ((ds.drop (HT.sIx ds.length 0 lo)).take (HT.sIx ds.length ds.length hi-HT.sIx ds.length 0 lo)):=by
 unfold cutV
 rw[r.length]
 exact(r.drop _).take _
noncomputable def cutL (ds:List D)(lo hi:Option Int):List D:=(ds.drop (HT.sIx ds.length 0 lo)).take (HT.sIx ds.length ds.length hi-HT.sIx ds.length 0 lo)
noncomputable abbrev MO:=Ro->Option (Option Int)
noncomputable def zx6:MO:=fun _=>some none
noncomputable def C7 (m:ME):MO:=fun ρ=>(m ρ).bind fun| .int i=>some (some i)|_=>none
noncomputable def TOs (K:W.Frag)(m:MO):TO:=fun σ H Q=>∃ F0 H0 F ρ i,Rl K F0 H0 F H σ ρ/\m ρ=some i/\∀ F' H',Ext F H F' H'->Q i H'
def POs (X:Cx)(e:Option Expr)(m:MO):Prop:=PO X e (TOs X.K m)
theorem PO.imp {e:Option Expr}{t t':TO}(h:PO X e t)(i:∀ σ H Q,t' σ H Q->t σ H Q):PO X e t':=fun pins s σ H Q I q=>h pins s σ H Q I (i σ H Q q)
theorem C2:POs X none zx6:=PO.imp yf2 fun σ H Q j=>by obtain⟨F0,H0,F,ρ,i,z,e,q⟩:=j;cases e;exact q F H (.refl z.fh)
theorem C1 (h:PD X a ma):POs X (some a) (C7 ma):=PO.imp (yf1 h) fun σ H Q j=>by
 obtain⟨F0,H0,F,ρ,i,G,e,q⟩:=j
 unfold C7 at e
 cases h1:ma ρ with
 |none=>rw[h1]at e;cases e
 |some d=>
  rw[h1]at e
  refine⟨F0,H0,F,ρ,d,G,h1,fun v F1 H1 z r1=>?_⟩
  cases r1 <;> first| (cases e;done)|skip
  cases e
  exact⟨_,rfl,q F1 H1 z⟩
@[irreducible] noncomputable def mcut (m:ML)(lo hi:MO):ML:=fun ρ=>(m ρ).bind fun ds=>(lo ρ).bind fun l=>(hi ρ).bind fun h=>some (cutL ds l h)
theorem xw8 {O:ML}{lo hi:Option Expr}{l h:MO}(ha:PB X a O)(hl:POs X lo l)(hh:POs X hi h)(hE:PE X e (tSl (rSlL X.K) (TB X.K O) (TOs X.K l) (TOs X.K h))):PF X e (mcut O l h):=hE.imp fun σ H Q G=>by
 obtain⟨F0,H0,F,ρ,g,Y,e,q⟩:=G
 unfold mcut at e
 cases h1:O ρ with
 |none=>rw[h1]at e;cases e
 |some ds=>
  cases h2:l ρ with
  |none=>rw[h1,h2]at e;cases e
  |some i=>
   cases h3:h ρ with
   |none=>rw[h1,h2,h3]at e;cases e
   |some j=>
    rw[h1,h2,h3]at e;cases e
    refine⟨F0,H0,F,ρ,ds,Y,h1,fun p xs F1 H1 U s1 r1=>⟨F0,H0,F1,ρ,i,Y.go U,h2,fun F2 H2 N=>⟨F0,H0,F2,ρ,j,(Y.go U).go N,h3,fun F3 H3 z=>?_⟩⟩⟩
    refine⟨p,xs,rfl,z.hh.seq (N.hh.seq s1),fun w hw=>?_⟩
    have Z:=(U.trans N).trans z
    exact q w _ F3 _ (Z.trans (Ext.own z.fh hw)) (Z.hh.free hw) (z.fh.free hw) y2 (yn9 (r1.mono (N.ff.trans z.ff)) i j)
end
end
section
theorem zw5 (l:Addr)(items:Array Value)(n:Nat)(b:Addr)(j:Array Value)(N:Nat)(Z G:Option Addr)(sl z:Array (Option Value))(U:items.size+j.size<=sizeLine):
  Meets (Builtin.«list.__add__» ⟨[.ref l,.ref b],[]⟩) (fun _ R s=>s.heap.get? l=some { cls:=.type "list",dict:=Z,data:=.seq items n,slots:=sl }/\s.heap.get? b=some { cls:=.type "list",dict:=G,data:=.seq j N,slots:=z }/\R (.ok (.ret (Value.ref s.heap.objs.size))) { s with heap:=s.heap.push { cls:=Value.type "list",data:=Data.seq (items++j) },toks:=s.toks }):=
 .of_wp fun prog w A R s h=>by obtain⟨hp,g,d,tk,os⟩:=s;obtain⟨O,Y,h⟩:=h;have f1:=AutoSeq1.idx_int;have f2:=AutoSeq1.sub_tuple_tuple;have f3:=AutoSeq1.sub_list_list;have f4:=AutoSeq1.sub_tuple_list;have f5:=AutoSeq1.sub_list_tuple;wp_walk using AutoSeq1.wpAny_loadPart' O,AutoSeq1.wpAny_loadPart' Y;exact⟨_,rfl,h⟩
section
variable {X:Cx}{a b c e:Expr}{ma mb:ME}{pos:Pos}
def xw1 (K:W.Frag):R2:=fun x y H Q=>∃ l b xs zs,x= .ref l/\y= .ref b/\SqL K H l xs/\SqL K H b zs/\xs.length+zs.length<=sizeLine/\∀ p,H p=none->Q (.ref p) (upd H p (.lst (xs++zs)))
theorem g7:OpR X (binaryOp .Add) (xw1 X.K):=by
 intro pins s σ H x y v u Q I rx Z h
 obtain⟨l,b,xs,zs,rfl,rfl,hH,hB,hz,q⟩:=h
 cases rx
 cases Z
 obtain⟨its,r,⟨⟨cl,dd,dt,sl⟩,n,e,Y,hd,hs⟩,z⟩:=I.list hH
 obtain⟨j,r2,⟨⟨a3,a2,a1,U⟩,n2,e2,O,N,G⟩,z2⟩:=I.list hB
 simp only at Y hd hs O N G
 subst Y hd hs O N G
 have l1:=r.length
 have l2:=r2.length
 refine concat_meets (T:="list") ⟨_,e,rfl⟩ ⟨_,e2,rfl⟩ PySem.noFill_list_add PySem.seq_list_add F.slot_list_add F.entry_list_add (F.args_list_add_2 _ _) (zw5 l its.toArray n b j.toArray n2 none none sl U (by rw[size_toArray,size_toArray];omega)) ⟨e,e2,?_⟩
 have ea:its.toArray++j.toArray=(its++j).toArray:=by simp
 rw[ea]
 exact⟨.ref _,_,I.lnew (t':=s.toks) (r.append r2) (by rw[length_append];omega),rfl,q _ I.fresh⟩
@[irreducible] noncomputable def mcat (x y:ML):ML:=fun ρ=>(x ρ).bind fun ds=>(y ρ).bind fun es=>if ds.length+es.length<=sizeLine then some (ds++es)else none
theorem yy1 {x y:ML}{ρ:Ro}{j:List D}(h:mcat x y ρ=some j):∃ ds es,x ρ=some ds/\y ρ=some es/\ds.length+es.length<=sizeLine/\j=ds++es:=by
 unfold mcat at h
 cases h1:x ρ with
 |none=>rw[h1]at h;cases h
 |some ds=>
  cases h2:y ρ with
  |none=>rw[h1,h2]at h;cases h
  |some es=>
   rw[h1,h2]at h
   have h:(if ds.length+es.length<=sizeLine then some (ds++es)else none)=some j:=h
   split at h
   .rename_i hz;cases h;exact⟨ds,es,rfl,rfl,hz,rfl⟩
   .cases h
theorem zx4 {x y:ML}(ha:PB X a x)(Y:PB X b y):PF X (.BinOp a .Add b pos) (mcat x y):=(yq6 g7 ha Y).imp fun σ H Q z=>by
 obtain⟨F0,H0,F,ρ,g,O,e,q⟩:=z
 obtain⟨ds,es,h1,h2,U,rfl⟩:=yy1 e
 refine⟨F0,H0,F,ρ,ds,O,h1,fun p xs F1 H1 N s1 r1=>⟨F0,H0,F1,ρ,es,O.go N,h2,fun p2 ys F2 H2 j s2 r2=>?_⟩⟩
 refine⟨p,p2,xs,ys,rfl,rfl,j.hh.seq s1,s2,by rw[r1.length,r2.length];exact U,fun w hw=>?_⟩
 have G:=N.trans j
 exact q w _ F2 _ (G.trans (Ext.own j.fh hw)) (G.hh.free hw) (j.fh.free hw) y2 ((r1.mono j.ff).append r2)
noncomputable def addD:D->D->Option D
 | .int i,.int j=>some (.int (i+j))
 | .lst ds,.lst es=>if ds.length+es.length<=sizeLine then some (.lst (ds++es))else none
 |_,_=>none
theorem c6 {K:W.Frag}:OpD K (fun x y H Q=>(rI0 fun i j=>V.int (i+j)) x y H Q\/xw1 K x y H Q) addD:=by
 intro F H x y d e w Q s r1 r2 h q
 cases d with
 |int i=>
  cases e with
  |int j=>
   cases h
   exact .inl ⟨_,_,r1.i',r2.i',q _ F H (.refl s) (.int _)⟩
  |_=>cases h
 |lst G=>
  cases e with
  |lst z=>
   obtain⟨p1,Z,e1,s1,U⟩:=r1.l'
   obtain⟨p2,Y,e2,s2,O⟩:=r2.l'
   have h:(if G.length+z.length<=sizeLine then some (D.lst (G++z))else none)=some w:=h
   by_cases N:G.length+z.length<=sizeLine
   .rw[if_pos N]at h
    cases h
    refine .inr ⟨_,_,_,_,e1,e2,s.seq s1,s.seq s2,by rw[U.length,O.length];exact N,fun p hp=>?_⟩
    exact q _ _ _ (Ext.laid s hp) (.lst (SqL.of y2) ((U.append O).mono ((Same.refl F).put (s.free hp))))
   .rw[if_neg N]at h;cases h
  |_=>cases h
 |_=>cases h
theorem k8 (ha:PD X a ma)(j:PD X b mb):PD X (.BinOp a .Add b pos) (m2 addD ma mb):=zh9 (OpR.or V4 g7) c6 ha j
theorem Y9 (ha:PD X a ma)(j:PD X b mb):PD X (.BinOp a .Sub b pos) (m2 subD ma mb):=zh9 zn9 C8 ha j
theorem E3 (ha:PD X a ma)(j:PD X b mb):PD X (.BinOp a .Mult b pos) (m2 mulD ma mb):=zh9 yj2 za9 ha j
theorem zs1 (ha:PD X a ma)(j:PD X b mb):PD X (.BinOp a .FloorDiv b pos) (m2 zv2 ma mb):=zh9 ye8 yq8 ha j
theorem R6 (ha:PD X a ma)(j:PD X b mb):PD X (.BinOp a .Mod b pos) (m2 modD ma mb):=zh9 xv9 ye5 ha j
theorem zb8 (ha:PD X a ma)(j:PD X b mb):PD X (.BinOp a .Pow b pos) (m2 powD ma mb):=zh9 xv7 ye4 ha j
@[irreducible] noncomputable def n5 (f:List D->Option D)(m:ML):ME:=fun ρ=>(m ρ).bind f
def yk0 (K:W.Frag)(r:List V->Hp->VK->Prop)(f:List D->Option D):Prop:=∀(F H:Hp)(vs:List V)(ds:List D)(g:D)(Q:VK),Same F H->Reps K F vs ds->f ds=some g->(∀ v F' H',Ext F H F' H'->Rep K F' v g->Q v H')->r vs H Q
theorem zi0 {r:List V->Hp->VK->Prop}{f:List D->Option D}{m:ML}(N:yk0 X.K r f){σ:St}{H:Hp}{Q:VK}(h:TD X.K (n5 f m) σ H Q):tCB r (TAs X.K m) σ H Q:=by
 obtain⟨F0,H0,F,ρ,g,G,e,q⟩:=h
 unfold n5 at e
 cases h1:m ρ with
 |none=>rw[h1]at e;cases e
 |some ds=>
  rw[h1]at e
  exact⟨F0,H0,F,ρ,ds,G,h1,fun vs F1 H1 j r1=>N F1 H1 vs ds g Q j.fh r1 e fun v F' H' z=>q v F' H' (j.trans z)⟩
theorem u6 {e:Expr}{p:Pos}{m:ML}(O:Gl X "len")(hm:X.mg "len"=none)(ha:PB X e m)(hs:starEach (e::[]) X.env=(false,eval e X.env)::starEach [] X.env:=by rfl)(U:starEach [e] X.env=(false,eval e X.env)::starEach [] X.env:=by rfl)(z:(backTo pos (starEach [] X.env)).any (·.1)=false:=by rfl):PD X (.Call (.Name "len" p) [e] [] pos) (mlen m):=
 (Z0 zu0 O hm PySem.boot_len (m9 ha pa_nil hs) (by decide) (by decide) U z).imp fun σ H Q j=>by
  obtain⟨F0,H0,F,ρ,g,N,e,q⟩:=j
  unfold mlen at e
  cases h1:m ρ with
  |none=>rw[h1]at e;cases e
  |some ds=>
   rw[h1]at e;cases e
   refine⟨F0,H0,F,ρ,ds,N,h1,fun p xs F1 H1 G s1 r1=>⟨p,xs,rfl,.inl s1,?_⟩⟩
   rw[r1.length]
   exact q _ F1 H1 G (.int _)
noncomputable def absF:List D->Option D
 |[.int i]=>some (.int (if i<0 then -i else i))
 |_=>none
theorem yu1 {K:W.Frag}:yk0 K (fun xs H Q=>∃ i,xs=[.int i]/\Q (.int (if i<0 then -i else i)) H) absF:=by
 intro F H vs ds g Q s r h q
 cases r with
 |nil=>cases h
 |cons r rr=>
  cases rr with
  |cons _ _=>revert h;unfold absF;intro h;split at h <;> simp_all
  |nil=>
   cases r with
   |int i=>cases h;exact⟨_,rfl,q _ F H (.refl s) (.int _)⟩
   |_=>cases h
theorem yk9 {e:Expr}{p:Pos}{m:ML}(z:Gl X "abs")(hm:X.mg "abs"=none)(ha:PAs X [e] m)(G:starEach [e] X.env=(false,eval e X.env)::starEach [] X.env:=by rfl)(j:(backTo pos (starEach [] X.env)).any (·.1)=false:=by rfl):PD X (.Call (.Name "abs" p) [e] [] pos) (n5 absF m):=
 (Z0 ym3 z hm PyProof.Rows.boot_abs ha (by decide) (by decide) G j).imp fun _ _ _ h=>zi0 yu1 h
noncomputable def two2 (k:Int->Int->Int):List D->Option D
 |[.int i,.int j]=>some (.int (k i j))
 |_=>none
theorem ys6 {k:Int->Int->Int}{ds:List D}{g:D}(h:two2 k ds=some g):∃ i j,ds=[.int i,.int j]/\g= .int (k i j):=by
 cases ds with
 |nil=>cases h
 |cons d ds=>
  cases ds with
  |nil=>cases d <;> cases h
  |cons e ds=>
   cases ds with
   |cons f ds=>cases d <;> first| (cases h;done)| (cases e <;> cases h)
   |nil=>
    cases d with
    |int i=>
     cases e with
     |int j=>cases h;exact⟨i,j,rfl,rfl⟩
     |_=>cases h
    |_=>cases h
theorem zv8 {K:W.Frag}{k:Int->Int->Int}:yk0 K (fun xs H Q=>∃ i j,xs=[.int i,.int j]/\Q (.int (k i j)) H) (two2 k):=by
 intro F H vs ds g Q s r h q
 obtain⟨i,j,rfl,rfl⟩:=ys6 h
 cases r with
 |cons r rr=>
  cases rr with
  |cons r2 rr=>
   cases rr
   rw[r.i',r2.i']
   exact⟨_,_,rfl,q _ F H (.refl s) (.int _)⟩
noncomputable def zr1:List D->Option D:=two2 fun i j=>if j>i then j else i
noncomputable def B8:List D->Option D:=two2 fun i j=>if j<i then j else i
theorem za1 {x y:Expr}{p:Pos}{m:ML}(O:X.calm=true)(G:Gl X "max")(hm:X.mg "max"=none)(ha:PAs X [x,y] m)(N:starEach [x,y] X.env=(false,eval x X.env)::starEach [y] X.env:=by rfl)(z:(backTo pos (starEach [y] X.env)).any (·.1)=false:=by rfl):PD X (.Call (.Name "max" p) [x,y] [] pos) (n5 zr1 m):=
 (Z0 (yu6 O) G hm PyProof.Rows.boot_max ha (by decide) (by decide) N z).imp fun _ _ _ h=>zi0 (zv8 (k:=fun i j=>if j>i then j else i)) h
theorem zt9 {x y:Expr}{p:Pos}{m:ML}(O:X.calm=true)(G:Gl X "min")(hm:X.mg "min"=none)(ha:PAs X [x,y] m)(N:starEach [x,y] X.env=(false,eval x X.env)::starEach [y] X.env:=by rfl)(z:(backTo pos (starEach [y] X.env)).any (·.1)=false:=by rfl):PD X (.Call (.Name "min" p) [x,y] [] pos) (n5 B8 m):=
 (Z0 (yu4 O) G hm PyProof.Rows.boot_min ha (by decide) (by decide) N z).imp fun _ _ _ h=>zi0 (zv8 (k:=fun i j=>if j<i then j else i)) h
noncomputable def intF:List D->Option D
 |[.int i]=>some (.int i)
 |[.bl k]=>some (.int (if k then 1 else 0))
 |_=>none
theorem yu0 {K:W.Frag}:yk0 K (fun xs H Q=>(∃ i,xs=[.int i]/\Q (.int i) H)\/∃ k,xs=[.bl k]/\Q (.int (if k then 1 else 0)) H) intF:=by
 intro F H vs ds g Q s r h q
 cases r with
 |nil=>cases h
 |cons r rr=>
  cases rr with
  |cons _ _=>revert h;unfold intF;intro h;split at h <;> simp_all
  |nil=>
   cases r with
   |int i=>cases h;exact .inl ⟨_,rfl,q _ F H (.refl s) (.int _)⟩
   |bl i=>cases h;exact .inr ⟨_,rfl,q _ F H (.refl s) (.int _)⟩
   |_=>cases h
theorem zs0 {e:Expr}{p:Pos}{m:ML}(z:Gl X "int")(hm:X.mg "int"=none)(ha:PAs X [e] m)(hv:bootBuiltins "int"=some (.type "int"))(G:starEach [e] X.env=(false,eval e X.env)::starEach [] X.env:=by rfl)(j:(backTo pos (starEach [] X.env)).any (·.1)=false:=by rfl):PD X (.Call (.Name "int" p) [e] [] pos) (n5 intF m):=
 (R5 yu7 z hm hv ha (by decide) (by decide) G j).imp fun _ _ _ h=>zi0 yu0 h
theorem yf6 {e:Expr}{p:Pos}{m:ML}(O:Gl X "list")(hm:X.mg "list"=none)(ha:PB X e m)(hv:bootBuiltins "list"=some (.type "list"))(hs:starEach (e::[]) X.env=(false,eval e X.env)::starEach [] X.env:=by rfl)(G:(backTo pos (starEach [] X.env)).any (·.1)=false:=by rfl):PF X (.Call (.Name "list" p) [e] [] pos) m:=
 (R5 zv9 O hm hv (m9 ha pa_nil hs) (by decide) (by decide) hs G).imp fun σ H Q j=>by
  obtain⟨F0,H0,F,ρ,ds,N,e,q⟩:=j
  refine⟨F0,H0,F,ρ,ds,N,e,fun p xs F1 H1 z s1 r1=>⟨p,xs,rfl,.inl s1,fun w hw=>?_⟩⟩
  exact q w _ F1 _ (z.trans (Ext.own z.fh hw)) (z.hh.free hw) (z.fh.free hw) y2 r1
end
end
section
inductive Out where
 |nx (ρ:Ro)|bk (ρ:Ro)|ct (ρ:Ro)|rt (d:D)|rf (ds:List D)|rp (d:D) (ds:List D)|rg (d:D) (p:Addr) (r:List D)|rgf (ds:List D) (p:Addr) (r:List D)
noncomputable abbrev MS:=Ro->Option Out
noncomputable def okO (K:W.Frag)(F0 H0 Fb:Hp)(Dn:Ends):Out->Prop
 | .nx ρ=>∀ F H σ,Rl K F0 H0 F H σ ρ->Same Fb F->Dn.nx σ H
 | .bk ρ=>∀ F H σ,Rl K F0 H0 F H σ ρ->Same Fb F->Dn.bk σ H
 | .ct ρ=>∀ F H σ,Rl K F0 H0 F H σ ρ->Same Fb F->Dn.ct σ H
 | .rt d=>∀ v F H,Ext F0 H0 F H->Rep K F v d->Dn.rt v H
 | .rf ds=>∀ p xs F H,Ext F0 H0 F H->H0 p=none->F p=none->H p=some (.lst xs)->Reps K F xs ds->Dn.rt (.ref p) H
 | .rp d ds=>∀ t v p xs F H,Ext F0 H0 F H->H0 t=none->H0 p=none->t≠p->F t=none->F p=none->H t=some (.tup [v,.ref p])->H p=some (.lst xs)->Rep K F v d->Reps K F xs ds->Dn.rt (.ref t) H
 | .rg d p r=>∀ v F H xs,Ext F0 H0 F H->Rep K F v d->F p=none->H p=some (.lst xs)->Reps K F xs r->Dn.rt v H
 | .rgf ds p r=>∀ q ys F H xs,Ext F0 H0 F H->H0 q=none->F q=none->q≠p->H q=some (.lst ys)->Reps K F ys ds->F p=none->H p=some (.lst xs)->Reps K F xs r->Dn.rt (.ref q) H
def TSd (K:W.Frag)(m:MS):TS:=fun Dn σ H=>∃ F0 H0 F ρ o,Rl K F0 H0 F H σ ρ/\m ρ=some o/\okO K F0 H0 F Dn o
theorem okO.mono {K:W.Frag}{F0 H0 G z:Hp}{N:Ends}(s:Same G z):∀{o:Out},okO K F0 H0 G N o->okO K F0 H0 z N o
 | .nx _,h=>fun F H σ j q=>h F H σ j (s.trans q)
 | .bk _,h=>fun F H σ j q=>h F H σ j (s.trans q)
 | .ct _,h=>fun F H σ j q=>h F H σ j (s.trans q)
 | .rt _,h=>h
 | .rf _,h=>h
 | .rp _ _,h=>h
 | .rg _ _ _,h=>h
 | .rgf _ _ _,h=>h
def PSd (X:Cx)(st:Stmt)(m:MS):Prop:=PS X st (TSd X.K m)
def PSsd (X:Cx)(st:List Stmt)(m:MS):Prop:=PSs X st (TSd X.K m)
section
variable {X:Cx}{a b c e:Expr}{ma mb:ME}{pos:Pos}{st:Stmt}{rest:List Stmt}{m1 m2':MS}
theorem PS.imp {t t':TS}(h:PS X st t)(i:∀ D σ H,t' D σ H->t D σ H):PS X st t':=fun pins s σ H D I q=>h pins s σ H D I (i D σ H q)
theorem PSs.imp {sts:List Stmt}{t t':TS}(h:PSs X sts t)(i:∀ D σ H,t' D σ H->t D σ H):PSs X sts t':=fun pins s σ H D I q=>h pins s σ H D I (i D σ H q)
noncomputable def h6:MS:=fun ρ=>some (.nx ρ)
noncomputable def mseq (x y:MS):MS:=fun ρ=>match x ρ with |some (.nx ρ')=>y ρ'|o=>o
theorem u9:PSsd X [] h6:=pss_nil.imp fun D σ H j=>by obtain⟨F0,H0,F,ρ,o,z,e,ok⟩:=j;cases e;exact ok F H σ z (Same.refl _)
theorem z8 (h1:PSd X st m1)(h2:PSsd X rest m2'):PSsd X (st::rest) (mseq m1 m2'):=(M4 h1 h2).imp fun D σ H z=>by
 obtain⟨F0,H0,F,ρ,o,j,e,ok⟩:=z
 unfold mseq at e
 cases h:m1 ρ with
 |none=>rw[h]at e;cases e
 |some U=>
  rw[h]at e
  cases U with
  |nx ρ1=>exact⟨F0,H0,F,ρ,_,j,h,fun F' H' N G O=>⟨F0,H0,F',ρ1,o,G,e,ok.mono O⟩⟩
  |bk ρ1=>cases e;exact⟨F0,H0,F,ρ,_,j,h,ok⟩
  |ct ρ1=>cases e;exact⟨F0,H0,F,ρ,_,j,h,ok⟩
  |rt d=>cases e;exact⟨F0,H0,F,ρ,_,j,h,ok⟩
  |rf d=>cases e;exact⟨F0,H0,F,ρ,_,j,h,ok⟩
  |rp d ds=>cases e;exact⟨F0,H0,F,ρ,_,j,h,ok⟩
  |rg d p r=>cases e;exact⟨F0,H0,F,ρ,_,j,h,ok⟩
  |rgf d p r=>cases e;exact⟨F0,H0,F,ρ,_,j,h,ok⟩
theorem y4 (h1:PSd X st m1):PSsd X [st] m1:=D9 h1
noncomputable def mif (c:MB)(x y:MS):MS:=fun ρ=>match c ρ with |some true=>x ρ|some false=>y ρ|none=>none
theorem W2 {ca:MB}{x y:List Stmt}{mx N:MS}(Y:PC' X c ca)(U:PSsd X x mx)(O:PSsd X y N):PSd X (.If c x y pos) (mif ca mx N):=(yq2 Y U O).imp fun D σ H z=>by
 obtain⟨F0,H0,F,ρ,o,G,e,ok⟩:=z
 unfold mif at e
 split at e
 .rename_i h1
  refine⟨F0,H0,F,ρ,_,G,h1,fun F1 H1 j=>iteT ⟨F0,H0,F1,ρ,o,G.go j,e,ok.mono j.ff⟩⟩
 .rename_i h1
  refine⟨F0,H0,F,ρ,_,G,h1,fun F1 H1 j=>iteF ⟨F0,H0,F1,ρ,o,G.go j,e,ok.mono j.ff⟩⟩
 .cases e
noncomputable def zm5:MS:=fun _=>none
theorem zx0:PSd X st zm5:=ps_never.imp fun D σ H j=>by obtain⟨F0,H0,F,ρ,o,z,e,ok⟩:=j;cases e
noncomputable def mset (i:Nat)(x:ME):MS:=fun ρ=>(x ρ).map fun d=>.nx (ρ.set i (some (.sh d)))
noncomputable def c7 (i:Nat)(x:ML):MS:=fun ρ=>(x ρ).map fun ds=>.nx (ρ.set i (some (.own ds)))
theorem xq4 {t:TE}{i:Nat}(h:PS X st (tAsg t (Y2 i)))(N:∀ σ H Q,TD X.K ma σ H Q->t σ H Q):PSd X st (mset i ma):=h.imp fun D σ H j=>by
 obtain⟨F0,H0,F,ρ,o,G,e,ok⟩:=j
 unfold mset at e
 cases h1:ma ρ with
 |none=>rw[h1]at e;cases e
 |some d=>
  rw[h1]at e;cases e
  exact N _ _ _ ⟨F0,H0,F,ρ,d,G,h1,fun v F1 H1 z r1=>ok F1 H1 _ ((G.go z).set r1) z.ff⟩
theorem xi0 {t:TE}{i:Nat}{mf:ML}(h:PS X st (tAsg t (Y2 i)))(U:∀ σ H Q,TF X.K mf σ H Q->t σ H Q):PSd X st (c7 i mf):=h.imp fun D σ H N=>by
 obtain⟨F0,H0,F,ρ,o,G,e,ok⟩:=N
 unfold c7 at e
 cases h1:mf ρ with
 |none=>rw[h1]at e;cases e
 |some ds=>
  rw[h1]at e;cases e
  refine U _ _ _ ⟨F0,H0,F,ρ,ds,G,h1,fun p xs F1 H1 O hp Z Y r1=>ok F1 H1 _ ?_ O.ff⟩
  refine(G.go O).setOwn Z Y r1 (G.ext.hh.free hp) (fun j es hj e1 e2=>?_) fun j q es e1 z=>?_
  .obtain⟨q,ys,a1,a2,a3,_⟩:=G.own j es e1
   rw[a1]at e2;cases e2
   rw[hp]at a3;cases a3
  .obtain⟨_,_,_,ys,a3,_⟩:=G.ob j q es e1
   rw[z,hp]at a3;cases a3
theorem n9 {i:Nat}{x:Str}{pos':Pos}(O:X.N.Nodup)(hi:X.N[i]? =some x)(j:Loc X.env.scope x)(G:PD X e ma)(hs:swapsWith e (some (.Name x pos')) pos.line X.env=pure false:=by rfl)(z:X.fn x=true\/X.env.scope.names.lookup x=some .local:=by first|exact .inl rfl|exact .inr rfl|assumption):
  PSd X (.Assign [.Name x pos'] e pos) (mset i ma):=xq4 (zo9 O hi j G hs z) fun _ _ _ h=>h
theorem i6 {i:Nat}{x:Str}{pos':Pos}{mf:ML}(O:X.N.Nodup)(hi:X.N[i]? =some x)(j:Loc X.env.scope x)(G:PF X e mf)(hs:swapsWith e (some (.Name x pos')) pos.line X.env=pure false:=by rfl)(z:X.fn x=true\/X.env.scope.names.lookup x=some .local:=by first|exact .inl rfl|exact .inr rfl|assumption):
  PSd X (.Assign [.Name x pos'] e pos) (c7 i mf):=xi0 (zo9 O hi j G hs z) fun _ _ _ h=>h
noncomputable def zg4 (x:ME):MS:=fun ρ=>(x ρ).map fun _=>.nx ρ
theorem yq1 (N:PD X e ma)(hs:swapsWith e none pos.line X.env=pure false:=by rfl):PSd X (.Expr e pos) (zg4 ma):=(zc4 N hs).imp fun D σ H j=>by
 obtain⟨F0,H0,F,ρ,o,G,e,ok⟩:=j
 unfold zg4 at e
 cases h1:ma ρ with
 |none=>rw[h1]at e;cases e
 |some d=>
  rw[h1]at e;cases e
  exact⟨F0,H0,F,ρ,d,G,h1,fun v F1 H1 z r1=>ok F1 H1 _ (G.go z) z.ff⟩
noncomputable def mret (x:ME):MS:=fun ρ=>(x ρ).map .rt
noncomputable def yp3 (i:Nat):MS:=fun ρ=>match ρ[i]? with |some (some (.own ds))=>some (.rf ds)|some (some (.sh d))=>some (.rt d)|_=>none
theorem k7 (N:PD X e ma):PSd X (.Return (some e) pos) (mret ma):=(F9 N).imp fun D σ H j=>by
 obtain⟨F0,H0,F,ρ,o,z,e,ok⟩:=j
 unfold mret at e
 cases h1:ma ρ with
 |none=>rw[h1]at e;cases e
 |some d=>
  rw[h1]at e;cases e
  exact⟨F0,H0,F,ρ,d,z,h1,fun v F1 H1 G r1=>ok v F1 H1 (z.ext.trans G) r1⟩
theorem yq0 (i:Nat){x:Str}{pos':Pos}(h:PE X (.Name x pos') (tVar i)):PSd X (.Return (some (.Name x pos')) pos) (yp3 i):=(F9 h).imp fun D σ H j=>by
 obtain⟨F0,H0,F,ρ,o,z,e,ok⟩:=j
 unfold yp3 at e
 split at e
 .rename_i ds h1
  cases e
  obtain⟨p,xs,e1,e2,e3,N,G⟩:=z.own i _ h1
  exact⟨_,e1,ok p xs F H z.ext G e2 e3 N⟩
 .rename_i d h1
  cases e
  obtain⟨v,e1,e2⟩:=z.sh i _ h1
  exact⟨_,e1,ok v F H z.ext e2⟩
 .cases e
noncomputable def mapp (i:Nat)(x:ME):MS:=fun ρ=>match ρ[i]? with |some (some (.own ds))=>(x ρ).bind fun d=>if ds.length<sizeLine then some (.nx (ρ.set i (some (.own (ds++[d])))))else none|_=>none
theorem Y7 {i:Nat}{x:Str}{e:Expr}{G apos cpos:Pos}(hv:PE X (.Name x G) (tVar i))(Z:PD X e ma)
  (U:∀ t,PA X [e] t->PE X (.Call (.Attribute (.Name x G) "append" apos) [e] [] cpos) (tBM X.K "list" zt3 (tVar i) t)) (Y:PAs X [e] (z4 ma anil)) (hs:swapsWith (.Call (.Attribute (.Name x G) "append" apos) [e] [] cpos) none pos.line X.env=pure false:=by rfl):
  PSd X (.Expr (.Call (.Attribute (.Name x G) "append" apos) [e] [] cpos) pos) (mapp i ma):=(zc4 (U _ Y) hs).imp fun D σ H j=>by
 obtain⟨F0,H0,F,ρ,o,N,e,ok⟩:=j
 unfold mapp at e
 split at e
 .rename_i ds h1
  obtain⟨p,xs,e1,e2,e3,O,e5⟩:=N.own i _ h1
  cases h2:ma ρ with
  |none=>rw[h2]at e;cases e
  |some d=>
   rw[h2]at e
   have e:(if ds.length<sizeLine then some (Out.nx (ρ.set i (some (.own (ds++[d])))))else none)=some o:=e
   split at e
   .rename_i hz
    cases e
    refine⟨_,e1,.inl ⟨rfl,_,SqL.of e3⟩,F0,H0,F,ρ,[d],N,by unfold z4 anil;rw[h2];rfl,fun vs F1 H1 z r1=>?_⟩
    cases r1 with
    |cons r rr=>
     cases rr
     have hp:H1 p=some (.lst xs):=z.hh _ _ e3
     exact⟨p,xs,_,rfl,rfl,hp,by rw[O.length];exact hz,ok F1 _ σ ((N.go z).write h1 e1 ((O.mono z.ff).append (.cons r .nil))) z.ff⟩
   .cases e
 .cases e
noncomputable def V7 (i:Nat)(ix v:ME):MS:=fun ρ=>(v ρ).bind fun d=>match ρ[i]? with
 |some (some (.own ds))=>(ix ρ).bind (fun x=>match x with | .int k=>(ixN ds.length k).map fun j=>.nx (ρ.set i (some (.own (ds.set j d))))|_=>none)
 |some (some (.ob p ds))=>(ix ρ).bind (fun x=>match x with | .int k=>(ixN ds.length k).map fun j=>.nx (ρ.set i (some (.ob p (ds.set j d))))|_=>none)
 |_=>none
theorem Y6 {i:Nat}(hE:PS X st (tAsg (TD X.K mb) (gSub (tVar i) (TD X.K ma) yg4))):PSd X st (V7 i ma mb):=hE.imp fun D σ H Y=>by
 obtain⟨F0,H0,F,ρ,o,U,e,ok⟩:=Y
 unfold V7 at e
 cases h1:mb ρ with
 |none=>rw[h1]at e;cases e
 |some d=>
  rw[h1]at e
  refine⟨F0,H0,F,ρ,d,U,h1,fun y F1 H1 N r1=>?_⟩
  dsimp only[Option.bind]at e
  split at e
  .rename_i ds h2
   obtain⟨p,xs,e1,e2,e3,Z,e5⟩:=(U.go N).own i _ h2
   cases h3:ma ρ with
   |none=>rw[h3]at e;cases e
   |some k'=>
    rw[h3]at e
    refine⟨_,e1,F0,H0,F1,ρ,k',U.go N,h3,fun z F2 H2 G r2=>?_⟩
    cases r2 <;> first| (cases e;done)|skip
    rename_i k
    have e:(ixN ds.length k).map (fun j=>Out.nx (ρ.set i (some (.own (ds.set j d)))))=some o:=e
    cases h4:ixN ds.length k with
    |none=>rw[h4]at e;cases e
    |some j=>
     rw[h4]at e;cases e
     have O:=(U.go N).go G
     refine⟨p,xs,k,j,rfl,rfl,G.hh _ _ e3,by rw[Z.length];exact h4,ok F2 _ σ (O.write h2 e1 (Reps.set (r1.mono G.ff) j (Z.mono G.ff))) (N.ff.trans G.ff)⟩
  .rename_i p ds h2
   obtain⟨e1,e2,e5,xs,e3,Z⟩:=(U.go N).ob i p _ h2
   cases h3:ma ρ with
   |none=>rw[h3]at e;cases e
   |some k'=>
    rw[h3]at e
    refine⟨_,e1,F0,H0,F1,ρ,k',U.go N,h3,fun z F2 H2 G r2=>?_⟩
    cases r2 <;> first| (cases e;done)|skip
    rename_i k
    have e:(ixN ds.length k).map (fun j=>Out.nx (ρ.set i (some (.ob p (ds.set j d)))))=some o:=e
    cases h4:ixN ds.length k with
    |none=>rw[h4]at e;cases e
    |some j=>
     rw[h4]at e;cases e
     have O:=(U.go N).go G
     refine⟨p,xs,k,j,rfl,rfl,G.hh _ _ e3,by rw[Z.length];exact h4,ok F2 _ σ (O.writeB h2 (Reps.set (r1.mono G.ff) j (Z.mono G.ff))) (N.ff.trans G.ff)⟩
  .cases e
noncomputable def g8 (i:Nat)(m:MS):MS:=fun ρ=>match ρ[i]? with |some (some (.own ds))=>m (ρ.set i (some (.sh (.lst ds))))|_=>m ρ
theorem d9 (i:Nat){sts:List Stmt}{m:MS}(h:PSsd X sts m):PSsd X sts (g8 i m):=h.imp fun D σ H j=>by
 obtain⟨F0,H0,F,ρ,o,G,e,ok⟩:=j
 unfold g8 at e
 split at e
 .rename_i ds h1
  obtain⟨F',z,N⟩:=G.freeze h1
  exact⟨F0,H0,F',_,o,z,e,ok.mono N⟩
 .exact⟨F0,H0,F,ρ,o,G,e,ok⟩
inductive Tg where
 |nm (i:Nat)|tp (is:List Nat)|nt (i:Nat) (is:List Nat)
noncomputable def L5:List Nat->List D->Ro->Option Ro
 |[],[],ρ=>some ρ
 |i::is,d::ds,ρ=>L5 is ds (ρ.set i (some (.sh d)))
 |_,_,_=>none
noncomputable def tgD:Tg->D->Ro->Option Ro
 | .nm i,d,ρ=>some (ρ.set i (some (.sh d)))
 | .tp is,.tup ds,ρ=>L5 is ds ρ
 | .nt i is,.tup [d,.tup ds],ρ=>L5 is ds (ρ.set i (some (.sh d)))
 |_,_,_=>none
def TGd (K:W.Frag)(g:Tg):TG:=fun v σ H Q=>∃ F0 H0 F ρ d ρ',Rl K F0 H0 F H σ ρ/\Rep K F v d/\tgD g d ρ=some ρ'/\∀ F' H' σ',Rl K F0 H0 F' H' σ' ρ'->Ext F H F' H'->Q σ' H'
def PGd (X:Cx)(tg:Expr)(g:Tg):Prop:=PG X tg (TGd X.K g)
theorem PG.imp {tg:Expr}{t t':TG}(h:PG X tg t)(i:∀ v σ H Q,t' v σ H Q->t v σ H Q):PG X tg t':=fun pins s σ H v u Q I r q=>h pins s σ H v u Q I r (i v σ H Q q)
theorem u4 {i:Nat}{x:Str}{pos:Pos}(h:PG X (.Name x pos) (Y2 i)):PGd X (.Name x pos) (.nm i):=PG.imp h fun v σ H Q j=>by
 obtain⟨F0,H0,F,ρ,d,ρ',z,r,e,q⟩:=j
 cases e;exact q F H _ (z.set r) (.refl z.fh)
noncomputable def gAll:List Nat->TGs
 |[]=>gNil
 |i::is=>yn3 (Y2 i) (gAll is)
theorem yw2 {K:W.Frag}{F0 H0 F H:Hp}{Q:St->Hp->Prop}:∀(is:List Nat)(vs:List V)(ds:List D)(σ:St)(ρ ρ':Ro),Rl K F0 H0 F H σ ρ->Reps K F vs ds->L5 is ds ρ=some ρ'->(∀ j,Rl K F0 H0 F H j ρ'->Q j H)->gAll is vs σ H Q
 |[],_,[],σ,ρ,ρ',rl,r,e,q=>by cases r;cases e;exact⟨rfl,q σ rl⟩
 |[],_,_::_,_,_,_,_,_,e,_=>by cases e
 |_::_,_,[],_,_,_,_,_,e,_=>by cases e
 |i::is,_,d::ds,σ,ρ,ρ',rl,r,e,q=>by
  cases r with
  |cons r rr=>exact⟨_,_,rfl,yw2 is _ ds _ _ ρ' (rl.set r) rr e q⟩
theorem F6:∀(is:List Nat)(ds:List D)(ρ ρ':Ro),L5 is ds ρ=some ρ'->ds.length=is.length
 |[],[],_,_,_=>rfl
 |[],_::_,_,_,e=>by cases e
 |_::_,[],_,_,e=>by cases e
 |_::is,_::ds,ρ,ρ',e=>congrArg (·+1) (F6 is ds _ ρ' e)
theorem S1 {es:List Expr}{k n:Nat}{is:List Nat}{pos:Pos}(h:PG X (.Tuple es k pos) (gTup X.K n (gAll is)))(hn:is.length=n:=by rfl):PGd X (.Tuple es k pos) (.tp is):=PG.imp h fun v σ H Q j=>by
 obtain⟨F0,H0,F,ρ,d,ρ',N,r,e,q⟩:=j
 cases r with
 |tup s t=>exact⟨_,_,rfl,N.fh.seqT s,by rw[t.length,F6 _ _ _ _ e,hn],yw2 is _ _ σ ρ ρ' N t e fun z G=>q F H z G (.refl N.fh)⟩
 |_=>cases e
noncomputable def masg (g:Tg)(x:ME):MS:=fun ρ=>(x ρ).bind fun d=>(tgD g d ρ).map .nx
theorem zt7 {g:Tg}(h:PS X st (tAsg (TD X.K ma) (TGd X.K g))):PSd X st (masg g ma):=h.imp fun D σ H j=>by
 obtain⟨F0,H0,F,ρ,o,O,e,ok⟩:=j
 unfold masg at e
 cases h1:ma ρ with
 |none=>rw[h1]at e;cases e
 |some d=>
  rw[h1]at e
  have e:(tgD g d ρ).map Out.nx=some o:=e
  cases h2:tgD g d ρ with
  |none=>rw[h2]at e;cases e
  |some ρ'=>
   rw[h2]at e;cases e
   exact⟨F0,H0,F,ρ,d,O,h1,fun v F1 H1 N r1=>⟨F0,H0,F1,ρ,d,ρ',O.go N,r1,h2,fun F' H' z G U=>ok F' H' z G (N.ff.trans U.ff)⟩⟩
structure ItD (K:W.Frag)(F:Hp)(J:It)(its:List D):Prop where
 go:∀(i:Nat) F1 H1,Same F F1->Same F1 H1->i<its.length->J.go i H1
 yld:∀(i:Nat) F1 H1 x H2 d,Same F F1->Same F1 H1->its[i]? =some d->J.yld i H1 x H2->∃ F2,Ext F1 H1 F2 H2/\Rep K F2 x d
 stop:∀ F1 H1,Same F F1->Same F1 H1->J.stop its.length H1
def TId (K:W.Frag)(mi:ML):TI:=fun σ H R=>∃ F0 H0 F ρ its,Rl K F0 H0 F H σ ρ/\mi ρ=some its/\∀ J F' H',Ext F H F' H'->ItD K F' J its->R J H'
def PId (X:Cx)(tg iter:Expr)(mi:ML):Prop:=PI X tg iter (TId X.K mi)
theorem PI.imp {tg it:Expr}{t t':TI}(h:PI X tg it t)(i:∀ σ H R,t' σ H R->t σ H R):PI X tg it t':=fun pins s σ H R I q=>h pins s σ H R I (i σ H R q)
theorem yo8 {K:W.Frag}{F:Hp}{p:Addr}{xs:List V}{ds:List D}(s:SqL K F p xs)(r:Reps K F xs ds):ItD K F (Itl K p) ds where
 go:=fun i F1 H1 a b hi=>by
  obtain⟨v,e,_⟩:=r.get (getElem?_eq_getElem hi)
  exact⟨xs,v,b.seq (a.seq s),e⟩
 yld:=fun i F1 H1 x H2 d a b e y=>by
  obtain⟨rfl,y⟩:=y
  obtain⟨v,e1,e2⟩:=r.get e
  have:=y xs (b.seq (a.seq s))
  rw[e1]at this;cases this
  exact⟨F1,.refl b,e2.mono a⟩
 stop:=fun F1 H1 a b=>⟨xs,b.seq (a.seq s),by rw[r.length];exact Nat.le_refl _⟩
theorem S0 {tg:Expr}(hd:PD X e ma):PId X tg e (u0 ma):=PI.imp (yf4 hd) fun σ H R j=>by
 obtain⟨F0,H0,F,ρ,its,G,e,q⟩:=j
 unfold u0 at e
 split at e
 .rename_i ds h1
  cases e
  refine⟨F0,H0,F,ρ,_,G,h1,fun v F1 H1 z r1=>?_⟩
  cases r1 with
  |lst s t=>exact⟨_,rfl,⟨_,z.fh.seq s⟩,q _ F1 H1 z (yo8 s t)⟩
 .cases e
noncomputable def k6 (lo:Int)(n:Nat):List D:=(List.range n).map fun(i:Nat)=>D.int (lo+(i:Int))
theorem R4 (lo:Int)(n:Nat):(k6 lo n).length=n:=by unfold k6;simp
theorem K3 {K:W.Frag}{F:Hp}{lo:Int}{n:Nat}:ItD K F (Itr lo n) (k6 lo n) where
 go:=fun i F1 H1 a b hi=>by rw[R4]at hi;exact hi
 yld:=fun i F1 H1 x H2 d a b e y=>by
  obtain⟨rfl,rfl⟩:=y
  unfold k6 at e
  rw[getElem?_map]at e
  have hi:i<n:=by
   rcases Nat.lt_or_ge i n with h|h
   .exact h
   .rw[getElem?_eq_none (by simpa using h)]at e;cases e
  rw[getElem?_range hi]at e
  cases e
  exact⟨F1,.refl b,.int _⟩
 stop:=fun F1 H1 a b=>by rw[R4];exact Nat.le_refl n
noncomputable def okR (j:Int):Bool:=decide (-(2^62)<=j)&&decide (j<2^62)
noncomputable def rng1:List D->Option (List D)
 |[.int j]=>if okR j=true then some (k6 0 j.toNat)else none
 |_=>none
noncomputable def rng2:List D->Option (List D)
 |[.int i,.int j]=>if (okR i&&okR j)=true then some (k6 i (j-i).toNat)else none
 |_=>none
@[irreducible] noncomputable def u8 (f:List D->Option (List D))(m:ML):ML:=fun ρ=>(m ρ).bind f
theorem X2 {f:List D->Option (List D)}{m:ML}{ρ:Ro}{j:List D}(h:u8 f m ρ=some j):∃ ds,m ρ=some ds/\f ds=some j:=by
 unfold u8 at h
 cases h1:m ρ with
 |none=>rw[h1]at h;cases h
 |some ds=>rw[h1]at h;exact⟨ds,rfl,h⟩
theorem d7 {tg a:Expr}{m:ML}{p pos:Pos}(O:Gl X "range")(hm:X.mg "range"=none)(ha:PAs X [a] m)(hs:starEach [a] X.env=[(false,eval a X.env)]:=by rfl):PId X tg (.Call (.Name "range" p) [a] [] pos) (u8 rng1 m):=PI.imp (zx3 O hm ha hs) fun σ H R z=>by
 obtain⟨F0,H0,F,ρ,its,N,e,q⟩:=z
 obtain⟨ds,h1,h2⟩:=X2 e
 refine⟨F0,H0,F,ρ,ds,N,h1,fun vs F1 H1 G r1=>?_⟩
 unfold rng1 at h2
 split at h2
 .rename_i j
  split at h2
  .rename_i hk
   cases h2
   unfold okR at hk
   simp only[Bool.and_eq_true,decide_eq_true_eq]at hk
   cases r1 with
   |cons r rr=>
    cases rr;cases r
    exact⟨j,rfl,hk.1,hk.2,q _ F1 H1 G K3⟩
  .cases h2
 .cases h2
theorem Y8 {tg a b:Expr}{m:ML}{p pos:Pos}(U:Gl X "range")(hm:X.mg "range"=none)(ha:PAs X [a,b] m)(hs:starEach [a,b] X.env=[(false,eval a X.env),(false,eval b X.env)]:=by rfl)(G:starEach [b] X.env=[(false,eval b X.env)]:=by rfl):PId X tg (.Call (.Name "range" p) [a,b] [] pos) (u8 rng2 m):=PI.imp (zb2 U hm ha hs G) fun σ H R z=>by
 obtain⟨F0,H0,F,ρ,its,O,e,q⟩:=z
 obtain⟨ds,h1,h2⟩:=X2 e
 refine⟨F0,H0,F,ρ,ds,O,h1,fun vs F1 H1 N r1=>?_⟩
 unfold rng2 at h2
 split at h2
 .rename_i i j
  split at h2
  .rename_i hk
   cases h2
   unfold okR at hk
   simp only[Bool.and_eq_true,decide_eq_true_eq]at hk
   cases r1 with
   |cons r rr=>
    cases rr with
    |cons r2 rr=>
     cases rr;cases r;cases r2
     exact⟨i,j,rfl,⟨hk.1.1,hk.1.2,hk.2.1,hk.2.2⟩,q _ F1 H1 N K3⟩
  .cases h2
 .cases h2
noncomputable def J4:Nat->List D->List D
 |_,[]=>[]
 |i,d::ds=>.tup [.int i,d]::J4 (i+1) ds
theorem U3:∀ i ds,(J4 i ds).length=ds.length
 |_,[]=>rfl
 |i,_::ds=>by simp[J4,U3 (i+1) ds]
theorem zv4:∀(k:Nat) ds (i:Nat) d,ds[i]? =some d->(J4 k ds)[i]? =some (.tup [.int ((k+i:Nat):Int),d])
 |_,[],_,_,h=>by simp at h
 |k,_::ds,0,d,h=>by simp at h;subst h;rfl
 |k,_::ds,i+1,d,h=>by
  have:=zv4 (k+1) ds i d (by simpa using h)
  have e:k+1+i=k+(i+1):=by omega
  rw[e]at this
  simpa[J4]using this
noncomputable def zq2:List D->Option (List D)
 |[.lst ds]=>some (J4 0 ds)
 |_=>none
theorem yo9 {K:W.Frag}{F:Hp}{p:Addr}{xs:List V}{ds:List D}(s:SqL K F p xs)(r:Reps K F xs ds):ItD K F (Ite K p) (J4 0 ds) where
 go:=fun i F1 H1 a b hi=>by
  rw[U3]at hi
  obtain⟨v,e,_⟩:=r.get (getElem?_eq_getElem hi)
  exact⟨xs,v,b.seq (a.seq s),e⟩
 yld:=fun i F1 H1 x H2 d a b e y=>by
  obtain⟨t,u,rfl,z,rfl,j⟩:=y
  have j:=j xs (b.seq (a.seq s))
  obtain⟨N,e1,r1⟩:=r.get' j
  rw[zv4 0 ds i N e1,Nat.zero_add]at e
  cases e
  refine⟨upd F1 t (.tup [.int i,u]),Ext.laid b z,.tup (SqT.of y2) ?_⟩
  have G:Same F (upd F1 t (.tup [.int i,u])):=a.trans ((Same.refl F1).put (b.free z))
  exact .cons (.int _) (.cons (r1.mono G) .nil)
 stop:=fun F1 H1 a b=>⟨xs,b.seq (a.seq s),by rw[r.length,U3];exact Nat.le_refl _⟩
theorem zn0 {es:List Expr}{tk:Nat}{tp:Pos}{a:Expr}{m:ML}{p pos:Pos}(N:Gl X "enumerate")(hm:X.mg "enumerate"=none)(ha:PAs X [a] m)(hs:starEach [a] X.env=[(false,eval a X.env)]:=by rfl):PId X (.Tuple es tk tp) (.Call (.Name "enumerate" p) [a] [] pos) (u8 zq2 m):=PI.imp (zb3 N hm ha hs) fun σ H R j=>by
 obtain⟨F0,H0,F,ρ,its,G,e,q⟩:=j
 obtain⟨ds,h1,h2⟩:=X2 e
 refine⟨F0,H0,F,ρ,ds,G,h1,fun vs F1 H1 z r1=>?_⟩
 unfold zq2 at h2
 split at h2
 .cases h2
  cases r1 with
  |cons r rr=>
   cases rr
   cases r with
   |lst s t=>exact⟨_,_,rfl,z.fh.seq s,q _ F1 H1 z (yo9 s t)⟩
 .cases h2
end
end
section
noncomputable def forD (g:Tg)(body:MS):List D->MS
 |[],ρ=>some (.nx ρ)
 |d::ds,ρ=>match tgD g d ρ with
  |some ρ1=>match body ρ1 with
   |some (.nx ρ2)=>forD g body ds ρ2
   |some (.ct ρ2)=>forD g body ds ρ2
   |some (.bk ρ2)=>some (.nx ρ2)
   |o=>o
  |none=>none
noncomputable def mfor (mi:ML)(g:Tg)(body:MS):MS:=fun ρ=>(mi ρ).bind fun its=>forD g body its ρ
theorem i9 {α:Type}{xs:List α}{i:Nat}{d:α}(h:xs[i]? =some d):xs.drop i=d::xs.drop (i+1):=by
 obtain⟨j,e⟩:=List.getElem?_eq_some_iff.mp h
 rw[drop_eq_getElem_cons j,e]
section
variable {X:Cx}{a b c e:Expr}{ma mb:ME}{pos:Pos}{st:Stmt}{rest:List Stmt}
theorem L8 {tg iter:Expr}{body:List Stmt}{mi:ML}{g:Tg}{mb:MS}(hp:PassesOwn (model X.prog X.w) X.A X.env X.xe)(hc:X.calm=true)(hi:PId X tg iter mi)(hg:PGd X tg g)(hb:PSsd X body mb)
  (hs:∀ x,foldedSetIterable iter X.env x=pure x:=by intro _;rfl):PSd X (.For tg iter body [] pos) (mfor mi g mb):=(zc3 hp hc hi hg hb hs).imp fun Dn σ H a1=>by
 obtain⟨F0,H0,F,ρ,o,rl,e,ok⟩:=a1
 unfold mfor at e
 cases h1:mi ρ with
 |none=>rw[h1]at e;cases e
 |some its=>
  rw[h1]at e
  have e:forD g mb its ρ=some o:=e
  refine⟨F0,H0,F,ρ,its,rl,h1,fun J F1 H1 x1 I=>?_⟩
  refine⟨fun i m U H'=>∃ F' ρ',Rl X.K F0 H0 F' H' U ρ'/\Same F1 F'/\i<=its.length/\m=its.length-i/\forD g mb (its.drop i) ρ'=some o,⟨_,F1,ρ,rl.go x1,Same.refl _,Nat.zero_le _,rfl,e⟩,?_⟩
  rintro i m U H' ⟨F',ρ',N,sf,a5,rfl,j⟩
  by_cases Y:i<its.length
  .right
   have hd:=getElem?_eq_getElem Y
   refine⟨I.go i F' H' sf N.fh Y,fun Z H2=>∃ F2 z,Rl X.K F0 H0 F2 H2 Z z/\Same F1 F2/\forD g mb (its.drop (i+1)) z=some o,?_,fun x H2 y=>?_⟩
   .rintro Z H2 ⟨F2,z,rl2,sf2,e2⟩
    exact⟨its.length-(i+1),by omega,F2,z,rl2,sf2,Y,rfl,e2⟩
   .obtain⟨F2,x2,r2⟩:=I.yld i F' H' x H2 _ sf N.fh hd y
    rw[i9 hd]at j
    unfold forD at j
    cases h2:tgD g its[i] ρ' with
    |none=>simp only[h2]at j;cases j
    |some ρ1=>
     simp only[h2]at j
     refine⟨F0,H0,F2,ρ',_,ρ1,N.go x2,r2,h2,fun F3 H3 a4 a3 x3=>?_⟩
     have s3:Same F1 F3:=(sf.trans x2.ff).trans x3.ff
     cases h3:mb ρ1 with
     |none=>simp only[h3]at j;cases j
     |some o1=>
      simp only[h3]at j
      refine⟨F0,H0,F3,ρ1,o1,a3,h3,?_⟩
      cases o1 with
      |nx z=>exact fun F4 H4 O G s4=>⟨F4,z,G,s3.trans s4,j⟩
      |ct z=>exact fun F4 H4 O G s4=>⟨F4,z,G,s3.trans s4,j⟩
      |bk z=>
       cases j
       exact fun F4 H4 O G s4=>ok F4 H4 O G ((x1.ff.trans s3).trans s4)
      |rt d=>cases j;exact ok
      |rf d=>cases j;exact ok
      |rp d ds=>cases j;exact ok
      |rg d p r=>cases j;exact ok
      |rgf d p r=>cases j;exact ok
  .left
   have a2:i=its.length:=by omega
   subst a2
   rw[drop_length]at j
   have j:some (Out.nx ρ')=some o:=j
   cases j
   exact⟨I.stop F' H' sf N.fh,ok F' H' U N (x1.ff.trans sf)⟩
end
end
section
noncomputable def Y3 (src:List (Option Nat))(ρ:Ro):Ro:=src.map fun o=>o.bind fun i=>match ρ[i]? with |some (some (.sh d))=>some (.sh d)|_=>none
noncomputable def W8 (g:Tg)(c:MB)(elt:ME):List D->Ro->List D->Option (List D)
 |[],_,acc=>some acc
 |d::ds,ρ,acc=>match tgD g d ρ with
  |some ρ1=>match c ρ1 with
   |some true=>match elt ρ1 with
    |some x=>if acc.length<sizeLine then W8 g c elt ds ρ1 (acc++[x])else none
    |none=>none
   |some false=>W8 g c elt ds ρ1 acc
   |none=>none
  |none=>none
@[irreducible] noncomputable def h7 (src:List (Option Nat))(mi:ML)(g:Tg)(c:MB)(elt:ME):ML:=fun ρ=>(mi ρ).bind fun its=>W8 g c elt its (Y3 src ρ) []
def NoOwn (ρ:Ro):Prop:=∀(i:Nat) ds,ρ[i]? ≠some (some (.own ds))/\∀ p,ρ[i]? ≠some (some (.ob p ds))
theorem NoOwn.set {ρ:Ro}(h:NoOwn ρ)(i:Nat)(d:D):NoOwn (ρ.set i (some (.sh d))):=fun j ds=>⟨fun e=>by
 by_cases G:i=j
 .subst G
  have N:i<ρ.length:=by
   rcases Nat.lt_or_ge i ρ.length with z|z
   .exact z
   .rw[getElem?_eq_none (by simpa using z)]at e;cases e
  rw[getElem?_set_self N]at e;cases e
 .rw[getElem?_set_ne G]at e;exact(h j ds).1 e,fun p e=>(h j ds).2 p (t9 e).2⟩
theorem NoOwn.all:∀(is:List Nat)(ds:List D){ρ ρ':Ro},NoOwn ρ->L5 is ds ρ=some ρ'->NoOwn ρ'
 |[],[],ρ,ρ',h,e=>by cases e;exact h
 |[],_::_,_,_,_,e=>by cases e
 |_::_,[],_,_,_,e=>by cases e
 |i::is,d::ds,ρ,ρ',h,e=>NoOwn.all is ds (h.set i d) e
theorem NoOwn.tg {g:Tg}{d:D}{ρ ρ':Ro}(h:NoOwn ρ)(e:tgD g d ρ=some ρ'):NoOwn ρ':=by
 cases g with
 |nm i=>cases e;exact h.set i d
 |tp is=>cases d <;> first| (cases e;done)|exact NoOwn.all is _ h e
 |nt i is=>
  cases d with
  |tup ds=>
   match ds,e with
   |[d,.tup ds],e=>exact NoOwn.all is _ (h.set i d) e
  |_=>cases e
theorem Rl.blk {K:W.Frag}{F0 H0 F H:Hp}{σ:St}{ρ:Ro}(r:Rl K F0 H0 F H σ ρ)(src:List (Option Nat)):Rl K F H F H (blk0 src σ) (Y3 src ρ)/\NoOwn (Y3 src ρ):=by
 have G:∀(i:Nat) x,(Y3 src ρ)[i]? =some (some x)->∃ d,x=S.sh d:=fun i x e=>by
  unfold Y3 at e
  rw[getElem?_map]at e
  cases h:src[i]? with
  |none=>rw[h]at e;cases e
  |some o=>
   rw[h]at e
   cases o with
   |none=>cases e
   |some k=>
    simp only[Option.map_some,Option.bind_some]at e
    split at e
    .cases e;exact⟨_,rfl⟩
    .cases e
 have no:NoOwn (Y3 src ρ):=fun i ds=>⟨fun e=>(by obtain⟨d,z⟩:=G i _ e;cases z),fun p e=>(by obtain⟨d,z⟩:=G i _ e;cases z)⟩
 refine⟨⟨.refl r.fh,by unfold blk0 Y3;simp,fun i d e=>?_,fun i ds e=>absurd e (no i ds).1,fun i j p ds es _ e=>absurd e (no i ds).1,fun i p ds e=>absurd e ((no i ds).2 p),fun i j p ds es e=>absurd e ((no i ds).2 p),fun i j p q ds es e=>absurd e ((no i ds).2 p)⟩,no⟩
 unfold Y3 at e
 unfold blk0
 rw[getElem?_map]at e ⊢
 cases h:src[i]? with
 |none=>rw[h]at e;cases e
 |some o=>
  rw[h]at e
  cases o with
  |none=>cases e
  |some k=>
   simp only[Option.map_some,Option.bind_some]at e ⊢
   split at e
   .rename_i d' h'
    cases e
    obtain⟨v,e1,e2⟩:=r.sh k _ h'
    exact⟨v,by rw[e1];rfl,e2⟩
   .cases e
theorem Rl.other {K:W.Frag}{F0 H0 F H:Hp}{σ:St}{ρ:Ro}(r:Rl K F0 H0 F H σ ρ)(no:NoOwn ρ){p:Addr}{o:HO}(z:H0 p=none)(j:F p=none):Rl K F0 H0 F (upd H p o) σ ρ:=
 ⟨⟨r.ext.ff,r.ext.hh.put z,r.ext.fh.put j,r.ext.new,r.ext.nf⟩,r.len,r.sh,fun i ds e=>absurd e (no i ds).1,r.inj,fun i p ds e=>absurd e ((no i ds).2 p),r.obn,r.ob1⟩
theorem Rl.rebase {K:W.Frag}{F1 F H:Hp}{σ:St}{ρ:Ro}{p:Addr}{xs ys:List V}(r:Rl K F1 (upd F1 p (.lst xs)) F H σ ρ)(G:F p=none)(N:F1 p=none):Rl K F1 (upd F1 p (.lst ys)) F (upd H p (.lst ys)) σ ρ:=by
 have ne:∀ q,upd F1 p (.lst xs) q=none->q≠p:=fun q z w=>by rw[w,y2]at z;cases z
 refine⟨⟨r.ext.ff,fun b u e=>?_,r.fh.put G,fun b e n=>?_,r.ext.nf⟩,r.len,r.sh,fun i ds e=>?_,r.inj,fun i q ds e=>?_,r.obn,r.ob1⟩
 .by_cases hb:b=p
  .subst hb;rw[y2]at e ⊢;exact e
  .rw[y3 hb]at e ⊢
   exact r.ext.hh b u (by rw[y3 hb];exact e)
 .have hb:b≠p:=fun w=>by rw[w,G]at n;exact n rfl
  rw[y3 hb];exact e
 .obtain⟨q,zs,a,b,c,d,z⟩:=r.own i ds e
  have j:=ne q z
  rw[y3 j]at z
  exact⟨q,zs,a,b,by rw[y3 j];exact c,d,by rw[y3 j];exact z⟩
 .obtain⟨a,b,z,zs,c,d⟩:=r.ob i q ds e
  have j:=ne q z
  rw[y3 j]at z
  exact⟨a,b,by rw[y3 j];exact z,zs,by rw[y3 j];exact c,d⟩
theorem Ext.acc {F H F' H':Hp}{p:Addr}{o:HO}(x:Ext F H F' H')(hp:H p=none)(j:F' p=none):Ext F H F' (upd H' p o):=⟨x.ff,x.hh.put hp,x.fh.put j,x.new,x.nf⟩
theorem Ext.stay {F' H' G O:Hp}{p:Addr}{o:HO}(N:Ext F' H' G O)(z:F' p=none)(j:H' p=some o):G p=none:=by
 cases qq:G p with
 |none=>rfl
 |some u=>have:=N.new p z (by rw[qq];simp);rw[this]at j;cases j
theorem Rl.noB {K:W.Frag}{F H:Hp}{σ:St}{ρ:Ro}{p:Addr}(r:Rl K F H F H σ ρ)(no:NoOwn ρ)(hp:H p=none):Rl K F (upd F p (.lst [])) F (upd H p (.lst [])) σ ρ:=
 ⟨⟨Same.refl F,r.fh.put2,r.fh.put (r.fh.free hp),fun b e n=>absurd e n,fun _ _ _ z=>z⟩,r.len,r.sh,fun i ds e=>absurd e (no i ds).1,r.inj,fun i p ds e=>absurd e ((no i ds).2 p),r.obn,r.ob1⟩
theorem zf0 {g:Tg}{c:MB}{j:ME}{d:D}{ds acc out:List D}{ρ:Ro}(h:W8 g c j (d::ds) ρ acc=some out):∃ ρ1,tgD g d ρ=some ρ1/\((c ρ1=some false/\W8 g c j ds ρ1 acc=some out)\/∃ x,c ρ1=some true/\j ρ1=some x/\acc.length<sizeLine/\W8 g c j ds ρ1 (acc++[x])=some out):=by
 rw[W8]at h
 cases h2:tgD g d ρ with
 |none=>rw[h2]at h;cases h
 |some ρ1=>
  rw[h2]at h
  simp only at h
  refine⟨ρ1,rfl,?_⟩
  cases h3:c ρ1 with
  |none=>rw[h3]at h;cases h
  |some k=>
   rw[h3]at h
   cases k with
   |false=>exact .inl ⟨rfl,h⟩
   |true=>
    simp only at h
    cases h4:j ρ1 with
    |none=>rw[h4]at h;cases h
    |some x=>
     rw[h4]at h
     simp only at h
     by_cases z:acc.length<sizeLine
     .rw[if_pos z]at h;exact .inr ⟨x,rfl,rfl,z,h⟩
     .rw[if_neg z]at h;cases h
theorem yv5 {K:PySem.W.Frag}{src:List (Option Nat)}{g:Tg}{c:MB}{a6:ME}{its out:List D}{F1 H1:Hp}{σ:St}{ρb:Ro}{p:Addr}{J:It}{Q:VK}(f1:Same F1 H1)(hp:H1 p=none)(rb:Rl K F1 (upd F1 p (.lst [])) F1 (upd H1 p (.lst [])) (blk0 src σ) ρb)(I:ItD K F1 J its)(e:W8 g c a6 its ρb []=some out)
  (q:∀ xs F' H',Ext F1 H1 F' H'->F' p=none->H' p=some (.lst xs)->Reps K F' xs out->Q (.ref p) H'):
  ∃ W:Nat->Nat->St->Hp->Prop,(∃ m,W 0 m (blk0 src σ) (upd H1 p (.lst [])))/\∀ i m O H',W i m O H'->
   (J.stop i H'/\Q (.ref p) H')\/(J.go i H'/\∃ N:St->Hp->Prop,(∀ G H2,N G H2->∃ m',m'<m/\W (i+1) m' G H2)/\∀ x H2,J.yld i H' x H2->TGd K g x O H2 fun z H3=>TC K c z H3 fun b H4=>
    if b=true then TD K a6 z H4 fun y H5=>∃ xs,H5 p=some (.lst xs)/\xs.length<sizeLine/\N z (upd H5 p (.lst (xs++[y])))else N z H4):=by
 have a7:F1 p=none:=f1.free hp
 refine⟨fun i m O H'=>∃ F' ρ' acc xs,Rl K F1 (upd F1 p (.lst xs)) F' H' O ρ'/\Ext F1 H1 F' H'/\H' p=some (.lst xs)/\F' p=none/\Reps K F' xs acc/\i<=its.length/\m=its.length-i/\W8 g c a6 (its.drop i) ρ' acc=some out,
  ⟨_,F1,ρb,[],[],rb,(Ext.refl f1).acc hp a7,y2,a7,.nil,Nat.zero_le _,rfl,e⟩,?_⟩
 clear rb e
 rintro i m O H' ⟨F',ρ',acc,xs,a5,xe,a1,a8,ra,ab,rfl,e'⟩
 by_cases Z:i<its.length
 .right
  have hd:=getElem?_eq_getElem Z
  refine⟨I.go i F' H' xe.ff a5.fh Z,fun G H2=>∃ F2 a2 j U,Rl K F1 (upd F1 p (.lst U)) F2 H2 G a2/\Ext F1 H1 F2 H2/\H2 p=some (.lst U)/\F2 p=none/\Reps K F2 U j/\W8 g c a6 (its.drop (i+1)) a2 j=some out,?_,fun x H2 y=>?_⟩
  .rintro G H2 ⟨F2,a2,j,U,b1,b2,b3,b4,b5,b6⟩
   exact⟨its.length-(i+1),Nat.sub_lt_sub_left Z (Nat.lt_succ_self i),F2,a2,j,U,b1,b2,b3,b4,b5,Z,rfl,b6⟩
  .obtain⟨F2,x2,r2⟩:=I.yld i F' H' x H2 _ xe.ff a5.fh hd y
   rw[i9 hd]at e'
   obtain⟨ρ1,h2,e3⟩:=zf0 e'
   clear e' I q y hd
   refine⟨F1,_,F2,ρ',_,ρ1,a5.go x2,r2,h2,fun F3 H3 z Y x3=>?_⟩
   have a9:=x2.trans x3
   rcases e3 with⟨h3,e4⟩|⟨d,h3,h4,hz,e4⟩
   .refine⟨F1,_,F3,ρ1,false,Y,h3,fun F4 H4 x4=>?_⟩
    have a4:=a9.trans x4
    exact iteF ⟨F4,ρ1,acc,xs,Y.go x4,xe.trans a4,a4.hh _ _ a1,a4.stay a8 a1,ra.mono a4.ff,e4⟩
   .refine⟨F1,_,F3,ρ1,true,Y,h3,fun F4 H4 x4=>iteT ⟨F1,_,F4,ρ1,d,Y.go x4,h4,fun v F5 H5 x5 r5=>?_⟩⟩
    have a3:=(a9.trans x4).trans x5
    have pn:=a3.stay a8 a1
    exact⟨xs,a3.hh _ _ a1,by rw[ra.length];exact hz,F5,ρ1,acc++[d],xs++[v],((Y.go x4).go x5).rebase pn a7,(xe.trans a3).acc hp pn,y2,pn,(ra.mono a3.ff).append (.cons r5 .nil),e4⟩
 .left
  have aa:i=its.length:=Nat.le_antisymm ab (Nat.le_of_not_lt Z)
  subst aa
  rw[drop_length]at e'
  have e':some acc=some out:=e'
  cases e'
  exact⟨I.stop F' H' xe.ff a5.fh,q xs F' H' xe a8 a1 ra⟩
section
variable {X:Cx}{a b c e:Expr}{ma mb:ME}{pos:Pos}{st:Stmt}{rest:List Stmt}
def PTsd (X:Cx)(ifs:List Expr)(c:MB):Prop:=PTs X ifs (TC X.K c)
noncomputable def cyes:MB:=fun _=>some true
theorem X5:PTsd X [] cyes:=fun pins s σ H Q I j=>by
 obtain⟨F0,H0,F,ρ,b,z,e,q⟩:=j
 cases e
 exact zt4 pins s σ H Q I (q F H (.refl z.fh))
theorem U8 {ca:MB}(h:PC' X c ca):PTsd X [c] ca:=yg5 h
theorem yv3 {K:W.Frag}{src:List (Option Nat)}{G:ML}{g:Tg}{c:MB}{j:ME}{σ:St}{H:Hp}{Q:VK}(h:TF K (h7 src G g c j) σ H Q):J9 src (TId K G) (TGd K g) (TC K c) (TD K j) σ H Q:=by
 obtain⟨F0,H0,F,ρ,out,U,e,q⟩:=h
 unfold h7 at e
 cases h1:G ρ with
 |none=>rw[h1]at e;cases e
 |some its=>
  rw[h1]at e
  refine⟨F0,H0,F,ρ,its,U,h1,fun J F1 H1 z I p hp=>?_⟩
  obtain⟨rb,no⟩:=(U.go z).blk src
  exact yv5 z.fh hp (rb.noB no hp) I e fun xs F' H' xe O N Y=>q p xs F' H' (z.trans xe) (z.hh.free hp) O N Y
theorem X6 {sc:Scope}{N:List Str}{src:List (Option Nat)}{tg z iter:Expr}{j:List Expr}{O:ML}{g:Tg}{cc:MB}{G:ME}(B:Blk X sc N src)(hc:X.calm=true)
  (hi:PId X tg iter O) (Y:∀ C fp s H,PGd (d6 X sc C N fp s H) tg g) (U:∀ C fp s H,PTsd (d6 X sc C N fp s H) j cc) (Z:∀ C fp s H,PD (d6 X sc C N fp s H) z G)
  (hs:∀ x,foldedSetIterable iter X.env x=pure x:=by intro _;rfl):
  PF X (.ListComp z [⟨tg,iter,j,0⟩] sc pos) (h7 src O g cc G):=(zt8 (g:=TGd X.K g) (tc:=TC X.K cc) (te:=TD X.K G) B hc hi (fun C fp s H=>Y C fp s H) (fun C fp s H=>U C fp s H) (fun C fp s H=>Z C fp s H) hs).imp fun _ _ _ h=>yv3 h
theorem xw7 {mf:ML}{σ:St}{H:Hp}{Q:VK}(h:TD X.K (mlst mf) σ H Q):TF X.K mf σ H Q:=by
 obtain⟨F0,H0,F,ρ,d,r,e,q⟩:=h
 unfold mlst at e
 cases hm:mf ρ with
 |none=>rw[hm]at e;cases e
 |some ds=>
  rw[hm]at e;cases e
  refine⟨F0,H0,F,ρ,ds,r,hm,fun p xs F' H' x hp j G z=>?_⟩
  exact q _ (upd F' p (.lst xs)) H' (x.freeze j hp G) (.lst (SqL.of y2) (z.mono ((Same.refl F').put j)))
theorem zy9 {i:Nat}{src:List (Option Nat)}{j:ML}{g:Tg}{cc:MB}{z:ME}(h:PS X st (tAsg (J9 src (TId X.K j) (TGd X.K g) (TC X.K cc) (TD X.K z)) (Y2 i))):PSd X st (mset i (mlst (h7 src j g cc z))):=xq4 h fun _ _ _ q=>yv3 (xw7 q)
inductive Rt where
 |sh (d:D)|fr (ds:List D)|pr (d:D) (ds:List D)
noncomputable abbrev MF:=List D->Option Rt
noncomputable def okT (K:W.Frag)(F H:Hp)(Q:VK):Rt->Prop
 | .sh d=>∀ v F' H',Ext F H F' H'->Rep K F' v d->Q v H'
 | .fr ds=>∀ p xs F' H',Ext F H F' H'->H p=none->F' p=none->H' p=some (.lst xs)->Reps K F' xs ds->Q (.ref p) H'
 | .pr d ds=>∀ t v p xs F' H',Ext F H F' H'->H t=none->H p=none->t≠p->F' t=none->F' p=none->H' t=some (.tup [v,.ref p])->H' p=some (.lst xs)->Rep K F' v d->Reps K F' xs ds->Q (.ref t) H'
def spR (K:W.Frag)(n:Nat)(m:MF):Sp:=fun vs H Q _=>vs.length=n/\∃ F ds r,Same F H/\Reps K F vs ds/\m ds=some r/\okT K F H Q r
noncomputable def w8 (n:Nat)(ds:List D):Ro:=ds.map (fun d=>some (.sh d))++List.replicate (n-ds.length) none
noncomputable def runB (n:Nat)(m:MS):MF:=fun ds=>match m (w8 n ds)with
 |some (.nx _)=>some (.sh .non)
 |some (.rt d)=>some (.sh d)
 |some (.rf es)=>some (.fr es)
 |some (.rp d es)=>some (.pr d es)
 |_=>none
theorem M3 {K:W.Frag}{F H:Hp}{N:List Str}{vs:List V}{ds:List D}(s:Same F H)(r:Reps K F vs ds):Rl K F H F H (start N vs) (w8 N.length ds):=by
 have get:∀(i:Nat) x,(w8 N.length ds)[i]? =some (some x)->∃ d,x=S.sh d/\ds[i]? =some d:=fun i x e=>by
  unfold w8 at e
  by_cases hi:i<ds.length
  .rw[getElem?_append_left (by simpa using hi),getElem?_map]at e
   cases q:ds[i]? with
   |none=>rw[q]at e;cases e
   |some d=>rw[q]at e;cases e;exact⟨d,rfl,rfl⟩
  .rw[getElem?_append_right (by simpa using hi),getElem?_replicate]at e
   split at e <;> cases e
 refine⟨.refl s,?_,fun i d e=>?_,fun i ds e=>?_,fun i j p ds es _ e=>?_,fun i p ds e=>?_,fun i j p ds es e=>?_,fun i j p q ds es e=>?_⟩
 .unfold start w8;simp[r.length]
 .obtain⟨d',e1,e2⟩:=get i _ e
  cases e1
  obtain⟨v,e3,G⟩:=r.get e2
  have z:i<vs.length:=(List.getElem?_eq_some_iff.mp e3).1
  refine⟨v,?_,G⟩
  unfold start
  rw[getElem?_append_left (by simpa using z),getElem?_map,e3];rfl
 .obtain⟨d',e1,_⟩:=get i _ e
  cases e1
 .obtain⟨d',e1,_⟩:=get i _ e
  cases e1
 .obtain⟨d',e1,_⟩:=get i _ e
  cases e1
 .obtain⟨d',e1,_⟩:=get i _ e
  cases e1
 .obtain⟨d',e1,_⟩:=get i _ e
  cases e1
theorem Fun.okD {P:Program}{w:World}{K:W.Frag}{mg:Str->Option Value}{base:Heap}{x qual:Str}{st:Stmt}{f:Addr}{fd:FuncData}{N ps:List Str}{k:Nat}{m:MS}(Z:Fun K x qual st f fd)(Y:FnScope N ps (z9 st))
  (j:∀(cdv:Value)(A:Around)(outer:List Env)(s:Shared)(H:Hp)(E:XK),Room k (A.deeper (envOfC qual (z9 st) s.heap.objs.size f cdv))->PSsd (cxOf CX0 P w K mg base N qual (z9 st) f cdv A outer s H E).nox (j2 st) m):
  FnOk P w K mg base CX0 (k+1) f fd ps (spR K ps.length (runB N.length m)):=by
 refine Z.ok Y (fun vs H Q E h=>h.1) fun cdv A outer s H vs Q E hr h=>?_
 obtain⟨hl,F,ds,r,G,O,e,ok⟩:=h
 unfold runB at e
 cases h1:m (w8 N.length ds)with
 |none=>rw[h1]at e;cases e
 |some o=>
  rw[h1]at e
  refine⟨_,j cdv A outer s H E hr,F,H,F,w8 N.length ds,o,M3 G O,h1,?_⟩
  cases o with
  |nx ρ=>cases e;exact fun F' H' z U _=>ok .non F' H' U.ext .non
  |rt d=>cases e;exact ok
  |rf es=>cases e;exact ok
  |rp d es=>cases e;exact ok
  |rg d p r=>cases e
  |rgf d p r=>cases e
  |bk ρ=>cases e
  |ct ρ=>cases e
@[irreducible] noncomputable def a8 (f:MF)(m:ML):ME:=fun ρ=>(m ρ).bind fun ds=>match f ds with |some (.sh d)=>some d|some (.fr es)=>some (.lst es)|some (.pr d es)=>some (.tup [d,.lst es])|none=>none
variable {E:XK}{es:List Expr}{mf:MF}{m:ML}
theorem g5 {n:Nat}(h:∀ t,PA X es t->PE X e (zh2 (spR X.K n mf) [] E t))(hl:es.length=n)(ha:PAs X es m)(hm:∀ ρ ds,m ρ=some ds->ds.length=es.length):PD X e (a8 mf m):=(h _ ha).imp fun σ H Q N=>by
 obtain⟨F0,H0,F,ρ,d,rl,e,q⟩:=N
 unfold a8 at e
 cases h1:m ρ with
 |none=>rw[h1]at e;cases e
 |some ds=>
  rw[h1]at e
  refine⟨F0,H0,F,ρ,ds,rl,h1,fun vs F1 H1 z r1=>?_⟩
  dsimp only[Option.bind]at e
  show spR X.K n mf (vs++[]) H1 Q E
  rw[append_nil]
  refine⟨by rw[r1.length,hm ρ ds h1,hl],F1,ds,?_⟩
  split at e
  .rename_i d' h2
   cases e
   exact⟨_,z.fh,r1,h2,fun v F2 H2 G r2=>q v F2 H2 (z.trans G) r2⟩
  .rename_i es' h2
   cases e
   exact⟨_,z.fh,r1,h2,fun p xs F2 H2 G hp hF hH r2=>q _ (upd F2 p (.lst xs)) H2 (z.trans (G.freeze hF hp hH)) (.lst (SqL.of y2) (r2.mono ((Same.refl F2).put hF)))⟩
  .rename_i d' es' h2
   cases e
   refine⟨_,z.fh,r1,h2,fun t v p xs F2 H2 G ht hp O a1 U Y Z rv rs=>?_⟩
   have x3:=G.freeze U hp Z
   have j:upd F2 p (.lst xs) t=none:=by rw[y3 O];exact a1
   have s2:Same F2 (upd F2 p (.lst xs)):=(Same.refl F2).put U
   have s3:Same (upd F2 p (.lst xs)) (upd (upd F2 p (.lst xs)) t (.tup [v,.ref p])):=(Same.refl _).put j
   exact q _ (upd (upd F2 p (.lst xs)) t (.tup [v,.ref p])) H2 (z.trans (x3.freeze j ht Y)) (.tup (SqT.of y2) (.cons (rv.mono (s2.trans s3)) (.cons (.lst (SqL.of (by rw[y3 (Ne.symm O)];exact y2)) (rs.mono (s2.trans s3))) .nil)))
  .cases e
theorem Z7 (ρ:Ro)(ds:List D)(h:anil ρ=some ds):ds.length=0:=by cases h;rfl
theorem J8 {x:ME}{r:ML}{n:Nat}(hr:∀ ρ ds,r ρ=some ds->ds.length=n)(ρ:Ro)(ds:List D)(h:z4 x r ρ=some ds):ds.length=n+1:=by
 obtain⟨d,es,_,h2,rfl⟩:=D1 h
 rw[length_cons,hr ρ es h2]
end
end
section
section
variable {X:Cx}{a b c e:Expr}{ma mb:ME}{pos:Pos}
noncomputable def bl2 (g:Bool->Bool->Bool):D->D->Option D
 | .bl i,.bl j=>some (.bl (g i j))
 |_,_=>none
def xn7:List V->Hp->VK->Prop:=fun vs H Q=>∃ j:Int,vs=[.int j]/\∀ p,H p=none->Q (.ref p) (upd H p (.rng 0 j))
theorem yu3:Q8 X (.type "range") xn7:=by
 intro pins s σ H xs us Q I r h
 obtain⟨j,rfl,q⟩:=h
 obtain⟨u,rfl,t,rfl⟩:=T9 r
 refine call_range_1 ⟨.ref s.heap.objs.size,_,I.laid (o:=.rng 0 j) (fun b o e=>Heap.get?_push_of_some _ e) (Nat.le_refl _) ⟨_,_,_,Heap.get?_push_size _ rfl⟩,rfl,q _ I.fresh⟩
theorem L6 {K:W.Frag}{F:Hp}:∀ ns:List Int,Reps K F (ns.map V.int) (ns.map D.int)
 |[]=>.nil
 |n::ns=>.cons (.int n) (L6 ns)
theorem xy9 {K:W.Frag}{m:MF}(h:∀ ns:List Int,ns.length<=63->m [.lst (ns.map .int)]=some (.sh (.bl true)))(H:Hp)(a:Addr)(ns:List Int)(j:ns.length<=63)(z:SqL K H a (ns.map V.int))(E:XK):
  spR K 1 m [.ref a] H (fun v _=>v= .bl true) E:=
 ⟨rfl,H,_,_,Same.refl H,.cons (.lst z (L6 ns)) .nil,h ns j,fun v F' H' _ r=>by cases r;rfl⟩
end
end
section
noncomputable def xq3 (fsc:Scope)(fN:List Str)(sc:Scope)(N:List Str)(src:List (Option Nat)):Bool:=
 (sc.kind== .function)&&sc.names.all (fun y=>y.2 != .cell)&&sc.names.all (fun y=>y.2 != .local || sc.names.lookup y.1==some .local)
  &&sc.names.all (fun y=>y.2 != .free || (fsc.names.lookup y.1==some .cell || fsc.names.lookup y.1==some .free))&&(src.length==N.length)
  &&(List.range src.length).all fun j=>match src[j]? with
   |some (some i)=>match N[j]? with
    |some x=>fN[i]? ==some x&&sc.names.lookup x==some .free
    |none=>false
   |_=>true
theorem f7 {X:Cx}{sc:Scope}{N:List Str}{src:List (Option Nat)}(G:Scope)(Y:List Str)(h1:X.env.scope=G)(h2:X.N=Y)(h:xq3 G Y sc N src=true):Blk X sc N src:=by
 unfold xq3 at h
 simp only[Bool.and_eq_true,all_eq_true,beq_iff_eq,Bool.or_eq_true,bne_iff_ne,ne_eq]at h
 obtain⟨⟨⟨⟨⟨a1,a2⟩,a3⟩,a4⟩,a5⟩,Z⟩:=h
 refine⟨a1,a2,fun y O U=>?_,fun y O U=>?_,fun j i e=>?_,a5⟩
 .rcases a3 y O with z|z
  .exact absurd U z
  .exact z
 .have k:∀ x,X.env.kindOf x=G.names.lookup x:=fun x=>by rw[<-h1];rfl
  rw[k]
  rcases a4 y O with z|z
  .exact absurd U z
  .exact z
 .have hj:j<src.length:=(List.getElem?_eq_some_iff.mp e).1
  have:=Z j (List.mem_range.mpr hj)
  rw[e]at this
  simp only at this
  cases hx:N[j]? with
  |none=>rw[hx]at this;cases this
  |some x=>
   rw[hx]at this
   simp only[Bool.and_eq_true,beq_iff_eq]at this
   exact⟨x,rfl,by rw[h2];exact this.1,this.2⟩
end
section
theorem yf5 {X:Cx}{a:Expr}{j:ML}{lo hi:Option Expr}{l h:MO}{p2 pos:Pos}(ha:PB X a j)(z:POs X lo l)(hh:POs X hi h):PF X (.Subscript a (.Slice lo hi none p2) pos) (mcut j l h):=xw8 ha z hh (yq5 yh0 ha z hh)
end
section
noncomputable def zipE (f:D->D->Option Bool):List D->List D->Option Bool
 |d::ds,e::es=>(f d e).bind fun a=>(zipE f ds es).bind fun b=>some (a&&b)
 |_,_=>some true
noncomputable def eqF:Nat->D->D->Option Bool
 |0,_,_=>none
 |n+1,.lst ds,.lst es=>if ds.length=es.length then zipE (eqF n) ds es else some false
 |n+1,.tup ds,.tup es=>(zipE (eqF n) ds es).map fun b=>b&&ds.length==es.length
 |_+1,d,e=>eqS d e
theorem D4 {f:D->D->Option Bool}:∀{ds es:List D}{k:Bool},zipE f ds es=some k->∃ g:Nat->Bool,(∀ j d e,ds[j]? =some d->es[j]? =some e->f d e=some (g j))/\k=(List.range (min ds.length es.length)).all g
 |[],es,k,h=>by
  have h:some true=some k:=by simpa[zipE]using h
  cases h
  exact⟨fun _=>true,by simp,by simp⟩
 |_::_,[],k,h=>by
  have h:some true=some k:=by simpa[zipE]using h
  cases h
  exact⟨fun _=>true,by simp,by simp⟩
 |d::ds,e::es,k,h=>by
  unfold zipE at h
  cases h1:f d e with
  |none=>rw[h1]at h;cases h
  |some a=>
   rw[h1]at h
   cases h2:zipE f ds es with
   |none=>rw[h2]at h;cases h
   |some b=>
    rw[h2]at h
    have h:some (a&&b)=some k:=h
    cases h
    obtain⟨g,G,z⟩:=D4 h2
    refine⟨fun j=>match j with |0=>a|j+1=>g j,?_,?_⟩
    .intro j d' e' hd he
     cases j with
     |zero=>simp at hd he;subst hd he;exact h1
     |succ j=>exact G j d' e' (by simpa using hd) (by simpa using he)
    .rw[z,length_cons,length_cons,Nat.add_min_add_right,range_succ_eq_map,all_cons,all_map]
     rfl
section
variable {X:Cx}{pins:List (Addr×Obj)}{σ:St}{H:Hp}{s:Shared}
theorem L0 {f:D->D->Option Bool}(j:∀{v:V}{d e:D}{k:Bool},Rep X.K H v d->Rep X.K H v e->f d e=some k->k=true):∀{vs:List V}{ds es:List D}{k:Bool},Reps X.K H vs ds->Reps X.K H vs es->zipE f ds es=some k->k=true
 |_,_,_,_,.nil,.nil,h=>by simp[zipE]at h;exact h
 |_::_,d::ds,e::es,k,.cons r1 s1,.cons r2 s2,h=>by
  unfold zipE at h
  cases h1:f d e with
  |none=>rw[h1]at h;cases h
  |some a=>
   rw[h1]at h
   cases h2:zipE f ds es with
   |none=>rw[h2]at h;cases h
   |some b=>
    rw[h2]at h
    have h:some (a&&b)=some k:=h
    cases h
    rw[j r1 r2 h1,L0 j s1 s2 h2];rfl
theorem Rep.eqT (I:Inv X pins σ H s):∀(n:Nat){v:V}{d e:D}{k:Bool},Rep X.K H v d->Rep X.K H v e->eqF n d e=some k->k=true
 |0,_,_,_,_,_,_,h=>by simp[eqF]at h
 |n+1,v,d,e,k,r1,r2,h=>by
  cases r1 with
  |non=>cases r2;exact(Option.some.inj (show some true=some k from h)).symm
  |bl b=>cases r2;exact(Option.some.inj (show some (b==b)=some k from h)).symm.trans (beq_self_eq_true b)
  |int b=>cases r2;exact(Option.some.inj (show some (b==b)=some k from h)).symm.trans (beq_self_eq_true b)
  |str b=>cases r2;exact(Option.some.inj (show some (b==b)=some k from h)).symm.trans (beq_self_eq_true b)
  |lst N G=>
   cases r2 with
   |lst z j=>
    have e:=I.list_inj N z
    subst e
    simp only[eqF]at h
    split at h
    .exact L0 (fun a b c=>Rep.eqT I n a b c) G j h
    .rename_i hl;exact absurd (G.length.symm.trans j.length) hl
   |_=>cases h
  |tup N G=>
   cases r2 with
   |tup z j=>
    have e:=I.tuple_inj N z
    subst e
    simp only[eqF]at h
    cases hz:zipE (eqF n) _ _ with
    |none=>rw[hz]at h;cases h
    |some kk=>
     rw[hz]at h
     have h:=Option.some.inj h
     rw[<-h,L0 (fun a b c=>Rep.eqT I n a b c) G j hz,G.length.symm.trans j.length]
     simp
   |_=>cases h
  |_=>cases h
open PySem.SeqAt in
theorem xr8 {K:W.Frag}{H:Hp}{A:Around}{s:Shared}{x y:V}{v u:Value}{d e:D}{k:Bool}(r1:Rep K H x d)(r2:Rep K H y e)(z:RelV x v)(j:RelV y u)(h:eqS d e=some k):EqAt A s v u k/\RcAt A s v u k/\RcNeAt A s v u (!k):=by
 obtain⟨O,G⟩:=yw7 d e k h
 rw[yn8 h r1]at z
 rw[yn8 G r2]at j
 clear r1 r2 G
 cases d with
 |non=>
  cases z
  cases e with
  |non=>cases j;cases h;exact⟨EqAt.same _,.none_none,.none_none⟩
  |bl b=>cases j;cases h;exact⟨.none_bool _,.none_bool _,.none_bool _⟩
  |int b=>obtain⟨t,rfl⟩:=j;cases h;exact⟨.none_int _ _,.none_int _ _,.none_int _ _⟩
  |str b=>obtain⟨t,rfl⟩:=j;cases h;exact⟨.none_str _ _,.none_str _ _,.none_str _ _⟩
  |_=>cases h
 |bl i=>
  cases z
  cases e with
  |non=>cases j;cases h;exact⟨.bool_none _,.bool_none _,.bool_none _⟩
  |bl b=>cases j;cases h;exact⟨.bool_bool _ _,.bool_bool _ _,.bool_bool _ _⟩
  |str b=>obtain⟨t,rfl⟩:=j;cases h;exact⟨.bool_str _ _ _,.bool_str _ _ _,.bool_str _ _ _⟩
  |_=>cases h
 |int i=>
  obtain⟨N,rfl⟩:=z
  cases e with
  |non=>cases j;cases h;exact⟨.int_none _ _,.int_none _ _,.int_none _ _⟩
  |int b=>obtain⟨t,rfl⟩:=j;cases h;exact⟨.int_int _ _ _ _,.int_int _ _ _ _,.int_int _ _ _ _⟩
  |str b=>obtain⟨t,rfl⟩:=j;cases h;exact⟨.int_str _ _ _ _,.int_str _ _ _ _,.int_str _ _ _ _⟩
  |_=>cases h
 |str i=>
  obtain⟨N,rfl⟩:=z
  cases e with
  |non=>cases j;cases h;exact⟨.str_none _ _,.str_none _ _,.str_none _ _⟩
  |bl b=>cases j;cases h;exact⟨.str_bool _ _ _,.str_bool _ _ _,.str_bool _ _ _⟩
  |int b=>obtain⟨t,rfl⟩:=j;cases h;exact⟨.str_int _ _ _ _,.str_int _ _ _ _,.str_int _ _ _ _⟩
  |str b=>obtain⟨t,rfl⟩:=j;cases h;exact⟨.str_str _ _ _ _,.str_str _ _ _ _,.str_str _ _ _ _⟩
  |_=>cases h
 |_=>cases h
theorem yb2 {n:Nat}{d e:D}{k:Bool}(h:eqF (n+1) d e=some k):eqS d e=some k\/(∃ ds es,d= .lst ds/\e= .lst es/\(if ds.length=es.length then zipE (eqF n) ds es else some false)=some k)\/∃ ds es kk,d= .tup ds/\e= .tup es/\zipE (eqF n) ds es=some kk/\(kk&&ds.length==es.length)=k:=by
 cases d with
 |lst ds=>
  cases e with
  |lst es=>exact .inr (.inl ⟨ds,es,rfl,rfl,h⟩)
  |_=>exact .inl h
 |tup ds=>
  cases e with
  |tup es=>
   have h:((zipE (eqF n) ds es).map fun b=>b&&ds.length==es.length)=some k:=h
   cases hz:zipE (eqF n) ds es with
   |none=>rw[hz]at h;cases h
   |some kk=>rw[hz]at h;exact .inr (.inr ⟨ds,es,kk,rfl,rfl,hz,Option.some.inj h⟩)
  |_=>exact .inl h
 |_=>exact .inl h
theorem zk7 {K:W.Frag}{H:Hp}{A:Around}{s:Shared}{n:Nat}{xs ys:List V}{ds es:List D}{its z:List Value}{g:Nat->Bool}(ih:∀{x y:V}{v u:Value}{d e:D}{k:Bool},Rep K H x d->Rep K H y e->RelV x v->RelV y u->eqF n d e=some k->PySem.SeqAt.EqAt A s v u k)(rs:Reps K H xs ds)(N:Reps K H ys es)(vr:Vals xs its)(G:Vals ys z)
  (g1:∀(j:Nat) d e,ds[j]? =some d->es[j]? =some e->eqF n d e=some (g j)) (j:Nat) (h1:j<its.toArray.size) (h2:j<z.toArray.size):PySem.SeqAt.EqAt A s its.toArray[j] z.toArray[j] (g j):=by
 have z1:its.length=ds.length:=by rw[<-vr.length,rs.length]
 have z2:z.length=es.length:=by rw[<-G.length,N.length]
 simp only[size_toArray]at h1 h2
 obtain⟨d',U⟩:∃ d',ds[j]? =some d':=⟨_,getElem?_eq_getElem (z1 ▸ h1)⟩
 obtain⟨e',O⟩:∃ e',es[j]? =some e':=⟨_,getElem?_eq_getElem (z2 ▸ h2)⟩
 obtain⟨v',a2,Y⟩:=rs.get U
 obtain⟨u',a3,Z⟩:=N.get O
 obtain⟨p,hp,rp⟩:=vr.get a2
 obtain⟨p2,hp2,a1⟩:=G.get a3
 have e1:its.toArray[j]=p:=by
  rw[getElem?_eq_getElem h1]at hp
  simpa using hp
 have e2:z.toArray[j]=p2:=by
  rw[getElem?_eq_getElem h2]at hp2
  simpa using hp2
 rw[e1,e2]
 exact ih Y Z rp a1 (g1 j d' e' U O)
open PySem.SeqAt in
theorem yw6 (I:Inv X pins σ H s):∀(n:Nat){A:Around}{x y:V}{v u:Value}{d e:D}{k:Bool},A.units+n<cLine->Rep X.K H x d->Rep X.K H y e->RelV x v->RelV y u->eqF n d e=some k->EqAt A s v u k/\RcAt A s v u k/\RcNeAt A s v u (!k)
 |0,A,x,y,v,u,d,e,k,hu,r1,r2,q1,q2,h=>by simp[eqF]at h
 |n+1,A,x,y,v,u,d,e,k,hu,r1,r2,q1,q2,h=>by
  have N:A.units<cLine:=by omega
  have a3:A.in1.units+n<cLine:=by show A.units+1+n<cLine;omega
  rcases yb2 h with h1|⟨ds,es,rfl,rfl,h1⟩|⟨ds,es,kk,rfl,rfl,hz,hk⟩
  .exact xr8 r1 r2 q1 q2 h1
  .obtain⟨a,xs,rfl,sq,rs⟩:=r1.l'
   obtain⟨b,ys,rfl,U,G⟩:=r2.l'
   cases q1;cases q2
   obtain⟨its,vr,⟨o,m,ho,hc,_,hd⟩,_⟩:=I.list sq
   obtain⟨j,O,⟨o2,m2,Y,a1,_,Z⟩,_⟩:=I.list U
   have L1:s.heap.IsList a its.toArray:=⟨o,ho,hc,m,hd⟩
   have L2:s.heap.IsList b j.toArray:=⟨o2,Y,a1,m2,Z⟩
   clear ho hc hd Y a1 Z
   have z1:its.length=ds.length:=by rw[<-vr.length,rs.length]
   have z2:j.length=es.length:=by rw[<-O.length,G.length]
   have z:RcAt A s (.ref a) (.ref b) k/\RcNeAt A s (.ref a) (.ref b) (!k):=by
    by_cases hl:ds.length=es.length
    .rw[if_pos hl]at h1
     obtain⟨g,g1,g2⟩:=D4 h1
     have he:=zk7 (fun a b c d e=>(yw6 I n a3 a b c d e).1) rs G vr O g1
     have hz:its.toArray.size=j.toArray.size:=by simp only[size_toArray];rw[z1,z2,hl]
     have hk:k=(List.range its.toArray.size).all g:=by
      rw[g2];simp only[size_toArray];rw[z1,hl,Nat.min_self]
     rw[hk]
     exact⟨.lists L1 L2 hz N he,.lists L1 L2 hz N he⟩
    .rw[if_neg hl]at h1
     cases h1
     have hz:(its.toArray.size != j.toArray.size)=true:=by simp only[size_toArray];rw[z1,z2];exact bne_iff_ne.mpr hl
     exact⟨.lists_lengths L1 L2 hz N,.lists_lengths L1 L2 hz N⟩
   refine⟨?_,z⟩
   by_cases a2:a=b
   .subst a2
    rw[Rep.eqT I (n+1) (.lst sq rs) (.lst U G) h]
    exact EqAt.same _
   .exact .of_refs a2 z.1
  .obtain⟨a,xs,rfl,sq,rs⟩:=r1.t'
   obtain⟨b,ys,rfl,U,G⟩:=r2.t'
   cases q1;cases q2
   obtain⟨its,vr,⟨o,ho,hc,m,hd⟩,_⟩:=I.tuple sq
   obtain⟨j,O,⟨o2,Y,a1,m2,Z⟩,_⟩:=I.tuple U
   have L1:s.heap.IsTuple a its.toArray:=⟨o,ho,hc,m,hd⟩
   have L2:s.heap.IsTuple b j.toArray:=⟨o2,Y,a1,m2,Z⟩
   clear ho hc hd Y a1 Z
   have z1:its.length=ds.length:=by rw[<-vr.length,rs.length]
   have z2:j.length=es.length:=by rw[<-O.length,G.length]
   have z:RcAt A s (.ref a) (.ref b) k/\RcNeAt A s (.ref a) (.ref b) (!k):=by
    obtain⟨g,g1,g2⟩:=D4 hz
    have he:=zk7 (fun a b c d e=>(yw6 I n a3 a b c d e).1) rs G vr O g1
    have hk:k=((List.range (min its.toArray.size j.toArray.size)).all g&&its.toArray.size==j.toArray.size):=by
     rw[<-hk,g2];simp only[size_toArray];rw[z1,z2]
    rw[hk]
    exact⟨.tuples L1 L2 N he,.tuples L1 L2 N he⟩
   refine⟨?_,z⟩
   by_cases a2:a=b
   .subst a2
    rw[Rep.eqT I (n+1) (.tup sq rs) (.tup U G) h]
    exact EqAt.same _
   .exact .of_refs a2 z.1
end
end
section
section
variable {X:Cx}{a b c e:Expr}{ma mb:ME}{la lb:ML}{pos:Pos}
def rEqF (K:W.Frag)(neg:Bool):R2:=fun x y H Q=>∃ d e k,Rep K H x d/\Rep K H y e/\eqF 8 d e=some k/\Q (.bl (if neg then !k else k)) H
theorem zm0 (hu:X.A.units+64<cLine):OpR X (compareOp .Eq) (rEqF X.K false):=by
 intro pins s σ H x y v u Q I z j h
 obtain⟨d,e,k,r1,r2,h,q⟩:=h
 exact(yw6 I 8 (by omega) r1 r2 z j h).2.1 X.prog X.w _ _ ⟨.bl k,H,I,rfl,q⟩
theorem xv8 (hu:X.A.units+64<cLine):OpR X (compareOp .NotEq) (rEqF X.K true):=by
 intro pins s σ H x y v u Q I z j h
 obtain⟨d,e,k,r1,r2,h,q⟩:=h
 exact(yw6 I 8 (by omega) r1 r2 z j h).2.2 X.prog X.w _ _ ⟨.bl (!k),H,I,rfl,q⟩
noncomputable def eqFD (neg:Bool)(d e:D):Option D:=(eqF 8 d e).map fun k=>.bl (if neg then !k else k)
@[irreducible] noncomputable def meqB (neg:Bool)(x y:ML):ME:=fun ρ=>(x ρ).bind fun ds=>(y ρ).bind fun es=>eqFD neg (.lst ds) (.lst es)
theorem xq0 {neg:Bool}{σ:St}{H:Hp}{Q:VK}(h:TD X.K (meqB neg la lb) σ H Q):tOp (rEqF X.K neg) (TB X.K la) (TB X.K lb) σ H Q:=by
 obtain⟨F0,H0,F,ρ,g,G,e,q⟩:=h
 unfold meqB at e
 cases h1:la ρ with
 |none=>rw[h1]at e;cases e
 |some ds=>
  cases h2:lb ρ with
  |none=>rw[h1,h2]at e;cases e
  |some es=>
   rw[h1,h2]at e
   have e:eqFD neg (.lst ds) (.lst es)=some g:=e
   refine⟨F0,H0,F,ρ,ds,G,h1,fun p xs F1 H1 z s1 r1=>⟨F0,H0,F1,ρ,es,G.go z,h2,fun p2 N F2 H2 j s2 r2=>?_⟩⟩
   unfold eqFD at e
   cases hk:eqF 8 (.lst ds) (.lst es)with
   |none=>rw[hk]at e;cases e
   |some k=>
    rw[hk]at e;cases e
    exact⟨_,_,k,.lst (j.hh.seq s1) (r1.mono (j.ff.trans j.fh)),.lst s2 (r2.mono j.fh),hk,q _ F2 H2 (z.trans j) (.bl _)⟩
theorem za3 {op:CmpOp}{neg:Bool}(j:OpR X (compareOp op) (rEqF X.K neg))(ha:PB X a la)(z:PB X b lb)(hm:behindInMarks op b=false):PD X (.Compare a [op] [b] pos) (meqB neg la lb):=(zb7 j ha z hm).imp fun _ _ _ h=>xq0 h
theorem yj1 {op:CmpOp}{neg:Bool}(G:OpR X (compareOp op) (rEqF X.K neg))(ha:PB X a la)(N:PB X b lb)(hm:behindInMarks op b=false):PC' X (.Compare a [op] [b] pos) (w6 (meqB neg la lb)):=(zt5 G ha N hm).imp fun σ H Q j=>by
 obtain⟨F0,H0,F,ρ,g,z,e,q⟩:=j
 unfold w6 at e
 split at e
 .rename_i k hk
  cases e
  refine xq0 ⟨F0,H0,F,ρ,.bl g,z,hk,fun v F' H' x r=>?_⟩
  cases r
  exact⟨_,rfl,q F' H' x⟩
 .cases e
noncomputable def tyD:D->String
 | .non=>"NoneType"| .bl _=>"bool"| .int _=>"int"| .str _=>"str"| .lst _=>"list"| .tup _=>"tuple"| .exc _=>"?"| .ptr _=>"?"| .obj _ _ _=>"?"
noncomputable def kitB (t c:String):Option Bool:=if t="?" then none else if (Value.type t==Value.type c)=true then some true else if W.kitMeta c=true then (fastBuiltinMro t).map (·.contains (Value.type c))else none
theorem xt2 {K:W.Frag}{t c:String}{k:Bool}(h:kitB t c=some k):t≠"?"/\W.kitOne K (.type t) (.type c)=some k:=by
 unfold kitB at h
 split at h
 .cases h
 .rename_i z;exact⟨z,h⟩
theorem yc1 {pins:List (Addr×Obj)}{σ:St}{H:Hp}{s:Shared}{A:Around}{E:Value->Shared->Prop}{Q:Value->Shared->Prop}{c:Value}{k:Bool}{x:V}{d:D}{u:Value}(I:Inv X pins σ H s)(j:RelV x u)(r:Rep X.K H x d)
  (e:tyD d≠"?"/\W.kitOne X.K (.type (tyD d)) c=some k) (h:∀ tk,Q (.bool k) { s with toks:=tk }):wpAny (model X.prog X.w) A (call (.builtin "isinstance") [u,c]) Q E s:=by
 obtain⟨N,e⟩:=e
 cases r with
 |exc _ _=>exact absurd rfl N
 |ptr _=>exact absurd rfl N
 |obj _ _ _ _ _=>exact absurd rfl N
 |non=>exact Q0 I j .non e h
 |bl y=>exact Q0 I j (.bl y) e h
 |int i=>exact Q0 I j (.int i) e h
 |str y=>exact Q0 I j (.str y) e h
 |lst G Y=>
  cases j
  obtain⟨its,vr,⟨o,m,O,U,_,hd⟩,_⟩:=I.list G
  exact W.kia_one W.kitx_list I.kIn ⟨_,O,U⟩ e (fun z=>nomatch z) h
 |tup G Y=>
  cases j
  obtain⟨its,vr,⟨o,O,U,m,hd⟩,_⟩:=I.tuple G
  exact W.kia_one W.kitx_tuple I.kIn ⟨_,O,U⟩ e (fun z=>nomatch z) h
def rIsi (K:W.Frag)(c:String):List V->Hp->VK->Prop:=fun vs H Q=>∃ x d k,vs=[x,.ty c]/\Rep K H x d/\kitB (tyD d) c=some k/\Q (.bl k) H
theorem ym2 {c:String}:Q8 X (.builtin "isinstance") (rIsi X.K c):=by
 intro pins s σ H xs us Q I r h
 obtain⟨x,d,k,rfl,G,e,q⟩:=h
 obtain⟨u,w,rfl,z,j⟩:=ys4 r
 cases j
 exact yc1 I z G (xt2 e) fun tk=>⟨.bl k,H,I.tok _,rfl,q⟩
@[irreducible] noncomputable def misi (c:String)(m:ME):ME:=fun ρ=>(m ρ).bind fun d=>(kitB (tyD d) c).map .bl
theorem za2 {c:Str}{C:String}{p p2:Pos}(Z:Gl X "isinstance")(hm:X.mg "isinstance"=none)(O:Gl X c)(N:X.mg c=none)(hv:bootBuiltins c=some (.type C))(ha:PD X a ma)
  (hn:c≠"__name__":=by decide) (hd:(c==("__debug__":Str))=false:=by decide)
  (hs:starEach (a::[.Name c p2]) X.env=(false,eval a X.env)::starEach [.Name c p2] X.env:=by rfl) (z:starEach [.Name c p2] X.env=(false,eval (.Name c p2) X.env)::starEach [] X.env:=by rfl)
  (G:(backTo pos (starEach [.Name c p2] X.env)).any (·.1)=false:=by rfl):PD X (.Call (.Name "isinstance" p) [a,.Name c p2] [] pos) (misi C ma):=
 (Z0 (ym2 (c:=C)) Z hm PyProof.Rows.boot_isinstance (m9 ha (m9 (yf9 (v:=.ty C) O N hv rfl hn hd) pa_nil z) hs) (by decide) (by decide) hs G).imp fun σ H Q j=>by
  obtain⟨F0,H0,F,ρ,g,Y,e,q⟩:=j
  unfold misi at e
  cases h1:ma ρ with
  |none=>rw[h1]at e;cases e
  |some d=>
   rw[h1]at e
   have e:(kitB (tyD d) C).map D.bl=some g:=e
   cases h2:kitB (tyD d) C with
   |none=>rw[h2]at e;cases e
   |some k=>
    rw[h2]at e;cases e
    exact⟨F0,H0,F,ρ,d,Y,h1,fun v F1 H1 U r1=>⟨v,d,k,rfl,r1.mono U.fh,h2,q _ F1 H1 U (.bl _)⟩⟩
end
end
section
section
variable {X:Cx}{a b c e k:Expr}{te:TE}{ma mb:ME}{la lb:ML}{pos p2:Pos}{st:Stmt}
end
end
section
section
variable {X:Cx}{a b c e:Expr}{ma mb:ME}{la lb:ML}{pos:Pos}{st:Stmt}
end
end
section
section
variable {K:W.Frag}{F0 H0 F H:Hp}{σ:St}{ρ:Ro}
end
noncomputable def isSc:D->Bool
 | .lst _=>false
 | .tup _=>false
 | .exc _=>false
 | .ptr _=>false
 | .obj _ _ _=>false
 |_=>true
theorem xx1 {K:W.Frag}{F G:Hp}{v:V}{d:D}(h:isSc d=true)(r:Rep K F v d):Rep K G v d:=by
 cases r with
 |non=>exact .non
 |bl b=>exact .bl b
 |int i=>exact .int i
 |str x=>exact .str x
 |lst _ _=>cases h
 |tup _ _=>cases h
 |exc _ _=>cases h
 |ptr _=>cases h
 |obj _ _ _ _ _=>cases h
end
section
section
variable {X:Cx}{a b c e:Expr}{ma mb mz:ME}{la lb:ML}{pos:Pos}
noncomputable def maxI:List Int->Int
 |[]=>0
 |a::r=>r.foldl (fun x y=>if y>x then y else x) a
theorem zr9:∀(r:List Int)(a:Int),(r.foldl (fun x y=>if y>x then y else x) a∈a::r)/\∀ y∈a::r,y<=r.foldl (fun x y=>if y>x then y else x) a
 |[],a=>⟨by simp,fun y j=>by simp at j;subst j;exact Int.le_refl _⟩
 |b::r,a=>by
  obtain⟨h1,h2⟩:=zr9 r (if b>a then b else a)
  rw[foldl_cons]
  refine⟨?_,fun y j=>?_⟩
  .rcases List.mem_cons.mp h1 with h|h
   .rw[h];split <;> simp
   .exact mem_cons_of_mem _ (mem_cons_of_mem _ h)
  .have h0:=h2 _ mem_cons_self
   rcases List.mem_cons.mp j with h|h
   .subst h;refine Int.le_trans ?_ h0;split <;> omega
   .rcases List.mem_cons.mp h with h|h
    .subst h;refine Int.le_trans ?_ h0;split <;> omega
    .exact h2 y (mem_cons_of_mem _ h)
theorem zk1 {ns:List Int}(h:ns≠[]):maxI ns∈ns:=by
 cases ns with
 |nil=>exact absurd rfl h
 |cons a r=>exact(zr9 r a).1
theorem yy3 {ns:List Int}{y:Int}(h:y∈ns):y<=maxI ns:=by
 cases ns with
 |nil=>cases h
 |cons a r=>exact(zr9 r a).2 y h
theorem R1:∀{ns:List Int}{its:List Value},Vals (ns.map V.int) its->∃ xs:List (Int×Tok),its.toArray=intItems xs.toArray/\xs.map (·.1)=ns
 |[],_,.nil=>⟨[],by unfold intItems;simp,rfl⟩
 |n::ns,_,.cons r t=>by
  obtain⟨k,rfl⟩:=r
  obtain⟨xs,h1,h2⟩:=R1 t
  refine⟨(n,k)::xs,?_,by rw[map_cons,h2]⟩
  have:=congrArg Array.toList h1
  unfold intItems at this ⊢
  simp at this ⊢
  exact this
theorem zx8 (xs:List (Int×Tok)){i:Nat}(h:i<xs.length):numAt xs.toArray i=(xs[i]).1:=by
 unfold numAt
 simp[h]
def xn8 (K:W.Frag):List V->Hp->VK->Prop:=fun vs H Q=>∃ p ns,vs=[.ref p]/\SqL K H p (ns.map V.int)/\ns≠[]/\Q (.int (maxI ns)) H
theorem yu5 (hc:X.calm=true):Q8 X (.builtin "max") (xn8 X.K):=by
 intro pins s σ H xs us Q I r h
 obtain⟨p,ns,rfl,Z,N,q⟩:=h
 obtain⟨u,rfl,rx⟩:=T9 r
 cases rx
 obtain⟨its,vr,pl,hz⟩:=I.list Z
 obtain⟨z,h1,h2⟩:=R1 vr
 have hp:=pl.isList
 rw[h1]at hp
 have O:0<z.length:=by
  cases z with
  |nil=>simp at h2;exact absurd h2.symm (by simpa using N)
  |cons _ _=>simp
 refine max_intList (I.ok.hd hc) hp (by simpa using O) fun v h' tk e k=>?_
 obtain⟨Y,U⟩:=argBest_gt (numAt z.toArray) (z.toArray.size-1)
 rw[size_toArray]at Y U e
 generalize hi:argBest (fun i j=>decide (numAt z.toArray i>numAt z.toArray j)) (z.length-1)=i at Y U e
 have G:i<z.length:=by omega
 have hv:v=Value.int (z[i]).1 (z[i]).2:=by
  unfold intItems at e
  simp[G]at e
  exact e.symm
 have hm:(z[i]).1=maxI ns:=by
  have m1:(z[i]).1∈ns:=by rw[<-h2];exact mem_map_of_mem (getElem_mem G)
  refine Int.le_antisymm (yy3 m1) ?_
  have m2:=zk1 N
  rw[<-h2]at m2
  obtain⟨t,ht,e2⟩:=List.mem_map.mp m2
  obtain⟨j,hj,e3⟩:=getElem_of_mem ht
  have:=U j (by omega)
  rw[zx8 z hj,zx8 z G,e3,e2,h2]at this
  exact this
 subst hv
 exact⟨.int (maxI ns),H,I.kept k,⟨_,by rw[hm]⟩,q⟩
noncomputable def O3:List D->Option (List Int)
 |[]=>some []
 | .int i::r=>match O3 r with |some ns=>some (i::ns)|none=>none
 |_=>none
theorem O2 {K:W.Frag}{F:Hp}:∀{vs:List V}{ds:List D}{ns:List Int},Reps K F vs ds->O3 ds=some ns->vs=ns.map V.int
 |_,_,_,.nil,h=>by cases h;rfl
 |_,_,_,.cons (d:=d) (ds:=ds) r t,h=>by
  cases r with
  |int i=>
   unfold O3 at h
   cases h1:O3 ds with
   |none=>simp only[h1]at h;cases h
   |some ns=>simp only[h1]at h;cases h;rw[O2 t h1];rfl
  |_=>cases h
theorem K6:∀ ns:List Int,O3 (ns.map D.int)=some ns
 |[]=>rfl
 |n::ns=>by show (match O3 (ns.map D.int)with |some ns=>some (n::ns)|none=>none)=_;rw[K6 ns]
@[irreducible] noncomputable def zw2 (m:ML):ME:=fun ρ=>match m ρ with |some ds=>(match O3 ds with |some (n::ns)=>some (.int (maxI (n::ns)))|_=>none)|none=>none
theorem za0 {p:Pos}{m:ML}(Y:X.calm=true)(O:Gl X "max")(hm:X.mg "max"=none)(ha:PB X e m)(hs:starEach (e::[]) X.env=(false,eval e X.env)::starEach [] X.env:=by rfl)(U:starEach [e] X.env=(false,eval e X.env)::starEach [] X.env:=by rfl)(z:(backTo pos (starEach [] X.env)).any (·.1)=false:=by rfl):PD X (.Call (.Name "max" p) [e] [] pos) (zw2 m):=
 (Z0 (yu5 Y) O hm PyProof.Rows.boot_max (m9 ha pa_nil hs) (by decide) (by decide) U z).imp fun σ H Q j=>by
  obtain⟨F0,H0,F,ρ,g,N,e,q⟩:=j
  unfold zw2 at e
  cases h1:m ρ with
  |none=>rw[h1]at e;cases e
  |some ds=>
   rw[h1]at e
   cases h2:O3 ds with
   |none=>simp only[h2]at e;cases e
   |some ns=>
    cases ns with
    |nil=>simp only[h2]at e;cases e
    |cons n ns=>
     simp only[h2]at e;cases e
     refine⟨F0,H0,F,ρ,ds,N,h1,fun p xs F1 H1 G s1 r1=>⟨p,n::ns,rfl,?_,by simp,q _ F1 H1 G (.int _)⟩⟩
     rw[<-O2 r1 h2];exact s1
noncomputable def xy4:List (Str×Str)->List DictEntry->Prop
 |[],[]=>True
 | (k,v)::r,e::es=>(∃ t,e.key= .str k t)/\(∃ t,e.val= .str v t)/\xy4 r es
 |_,_=>False
structure KTab (w:World)(K:W.Frag)(a:Addr)(tab:List (Str×Str)):Prop where
 ns:(a==sysModules)=false
 nd:(tab.map (·.1)).Nodup
 obj:∃ es ep,K.lookup a=some ⟨.type "dict",none,.dict es ep,#[]⟩/\xy4 tab es.toList/\∀ e∈es.toList,∀ k t,e.key= .str k t->e.hash=hashStr w k
end
end
section
section
variable {prog:Program}{w:World}{A:Around}{E:Value->Shared->Prop}{s:Shared}
structure ApT (z TO i1 i2 l:Addr):Prop where
 lz:l≠z
 lTO:l≠TO
 l1:l≠i1
 l2:l≠i2
end
end
section
section
variable {prog:Program}{w:World}{A:Around}{E:Value->Shared->Prop}{s:Shared}
end
section
variable {X:Cx}
end
end
section
section
variable {X:Cx}{a b c e:Expr}{ma mb:ME}{la lb:ML}{pos:Pos}
end
section
variable {K:W.Frag}{F0 H0 F H H':Hp}{σ:St}{ρ:Ro}
end
section
variable {X:Cx}{a b c e3:Expr}{ma mb:ME}{la lb:ML}{pos:Pos}{E:XK}{es:List Expr}{mf:MF}{m:ML}{rb:List Stmt}{mx:MS}{cc:MB}{y:D}
end
end
section
noncomputable abbrev MEm:=Ro->Option (D×Ro)
noncomputable abbrev MLm:=Ro->Option (List D×Ro)
def TDm (K:W.Frag)(m:MEm):TE:=fun σ H Q=>∃ F0 H0 F ρ d ρ',Rl K F0 H0 F H σ ρ/\m ρ=some (d,ρ')/\∀ v F' H',Rl K F0 H0 F' H' σ ρ'->Same F F'->Rep K F' v d->Q v H'
def TAm (K:W.Frag)(m:MLm):TA:=fun σ H Q=>∃ F0 H0 F ρ ds ρ',Rl K F0 H0 F H σ ρ/\m ρ=some (ds,ρ')/\∀ vs F' H',Rl K F0 H0 F' H' σ ρ'->Same F F'->Reps K F' vs ds->Q vs H'
def PDm (X:Cx)(e:Expr)(m:MEm):Prop:=PE X e (TDm X.K m)
def PAm (X:Cx)(es:List Expr)(m:MLm):Prop:=PA X es (TAm X.K m)
section
variable {X:Cx}{a b c e:Expr}{ma mb:ME}{na nb:MEm}{pos:Pos}{es:List Expr}
@[irreducible] noncomputable def mpu (m:ME):MEm:=fun ρ=>match m ρ with |some d=>some (d,ρ)|none=>none
@[irreducible] noncomputable def apu (m:ML):MLm:=fun ρ=>match m ρ with |some d=>some (d,ρ)|none=>none
theorem w4 (h:PD X e ma):PDm X e (mpu ma):=h.imp fun σ H Q j=>by
 obtain⟨F0,H0,F,ρ,d,ρ',z,e,q⟩:=j
 unfold mpu at e
 split at e
 .rename_i d' hm;cases e;exact⟨F0,H0,F,ρ,d,z,hm,fun v F' H' x r=>q v F' H' (z.go x) x.ff r⟩
 .cases e
theorem y9 {m:ML}(h:PAs X es m):PAm X es (apu m):=h.imp fun σ H Q j=>by
 obtain⟨F0,H0,F,ρ,d,ρ',z,e,q⟩:=j
 unfold apu at e
 split at e
 .rename_i d' hm;cases e;exact⟨F0,H0,F,ρ,d,z,hm,fun v F' H' x r=>q v F' H' (z.go x) x.ff r⟩
 .cases e
@[irreducible] noncomputable def m2m (f:D->D->Option D)(x y:MEm):MEm:=fun ρ=>match x ρ with
 |some (d,ρ1)=>(match y ρ1 with |some (e,ρ2)=>(match f d e with |some g=>some (g,ρ2)|none=>none)|none=>none)
 |none=>none
theorem ye3 {r:R2}{f:D->D->Option D}(U:OpD X.K r f){σ:St}{H:Hp}{Q:VK}(h:TDm X.K (m2m f na nb) σ H Q):tOp r (TDm X.K na) (TDm X.K nb) σ H Q:=by
 obtain⟨F0,H0,F,ρ,g,ρ',N,e,q⟩:=h
 unfold m2m at e
 split at e
 .rename_i d ρ1 h1
  split at e
  .rename_i d2 ρ2 h2
   split at e
   .rename_i g' h3
    cases e
    refine⟨F0,H0,F,ρ,d,ρ1,N,h1,fun x F1 H1 z s1 r1=>⟨F0,H0,F1,ρ1,d2,ρ',z,h2,fun y F2 H2 j s2 r2=>?_⟩⟩
    exact U F2 H2 x y d d2 g Q j.fh (r1.mono s2) r2 h3 fun v F' H' G O=>q v F' H' (j.go G) (s1.trans (s2.trans G.ff)) O
   .cases e
  .cases e
 .cases e
theorem Z1 {op:Operator}{r:R2}{f:D->D->Option D}(j:OpR X (binaryOp op) r)(z:OpD X.K r f)(ha:PDm X a na)(G:PDm X b nb):PDm X (.BinOp a op b pos) (m2m f na nb):=(yq6 j ha G).imp fun _ _ _ h=>ye3 z h
noncomputable def ixLD:D->D->Option D
 | .lst ds,.int k=>atI ds k
 |_,_=>none
theorem ye6 {K:W.Frag}:OpD K (rIxL K) ixLD:=by
 intro F H x y d e w Q s r1 r2 h q
 cases d with
 |lst ds=>
  cases e with
  |int k=>
   obtain⟨a,xs,e1,j,z⟩:=r1.l'
   obtain⟨v,N,G⟩:=zi6 z (show atI _ k=some w from h)
   exact⟨_,_,k,v,e1,r2.i',s.seq j,N,q v F H (.refl s) G⟩
  |_=>cases h
 |_=>cases h
theorem zn3 (ha:PDm X a na)(j:PDm X b nb)(hs:zp6 b:=by exact fun _ _=>rfl):PDm X (.Subscript a b pos) (m2m ixLD na nb):=(yf7 zr7 ha j hs).imp fun σ H Q h=>ye3 ye6 h
@[irreducible] noncomputable def v6 (x:MEm)(r:MLm):MLm:=fun ρ=>match x ρ with |some (d,ρ1)=>(match r ρ1 with |some (ds,ρ2)=>some (d::ds,ρ2)|none=>none)|none=>none
theorem t5 {m:MLm}(ha:PDm X a na)(hr:PAm X es m)(hs:starEach (a::es) X.env=(false,eval a X.env)::starEach es X.env:=by rfl):PAm X (a::es) (v6 na m):=(m9 ha hr hs).imp fun σ H Q j=>by
 obtain⟨F0,H0,F,ρ,g,ρ',N,e,q⟩:=j
 unfold v6 at e
 split at e
 .rename_i d ρ1 h1
  split at e
  .rename_i ds ρ2 h2
   cases e
   refine⟨F0,H0,F,ρ,d,ρ1,N,h1,fun x F1 H1 G s1 r1=>⟨F0,H0,F1,ρ1,ds,ρ',G,h2,fun xs F2 H2 z s2 r2=>?_⟩⟩
   exact q _ F2 H2 z (s1.trans s2) (.cons (r1.mono s2) r2)
  .cases e
 .cases e
@[irreducible] noncomputable def yz8 (m:MLm):MEm:=fun ρ=>match m ρ with |some (ds,ρ1)=>if ds.length<=sizeLine then some (.lst ds,ρ1)else none|none=>none
theorem ye0 {m:MLm}(h:PAm X es m):PDm X (.List es pos) (yz8 m):=(zb5 h).imp fun σ H Q z=>by
 obtain⟨F0,H0,F,ρ,g,ρ',G,e,q⟩:=z
 unfold yz8 at e
 split at e
 .rename_i ds ρ1 h1
  split at e
  .rename_i hz
   cases e
   refine⟨F0,H0,F,ρ,ds,ρ',G,h1,fun vs F1 H1 j s1 r1=>⟨by rw[r1.length];exact hz,fun p hp=>?_⟩⟩
   have x:=Ext.laid (o:=.lst vs) j.fh hp
   exact q _ _ _ (j.go x) (s1.trans x.ff) (.lst (SqL.of y2) (r1.mono x.ff))
  .cases e
 .cases e
variable {st:Stmt}
@[irreducible] noncomputable def V6 (i:Nat)(x:MEm):MS:=fun ρ=>match x ρ with |some (d,ρ1)=>some (.nx (ρ1.set i (some (.sh d))))|none=>none
theorem f9 {i:Nat}{x:Str}{pos':Pos}(Z:X.N.Nodup)(hi:X.N[i]? =some x)(O:Loc X.env.scope x)(Y:PDm X e na)(hs:swapsWith e (some (.Name x pos')) pos.line X.env=pure false:=by rfl)(U:X.fn x=true\/X.env.scope.names.lookup x=some .local:=by first|exact .inl rfl|exact .inr rfl|assumption):
  PSd X (.Assign [.Name x pos'] e pos) (V6 i na):=(zo9 Z hi O Y hs U).imp fun D σ H j=>by
 obtain⟨F0,H0,F,ρ,o,G,e,ok⟩:=j
 unfold V6 at e
 split at e
 .rename_i d ρ1 h1
  cases e
  exact⟨F0,H0,F,ρ,d,ρ1,G,h1,fun v F1 H1 z s1 r1=>ok F1 H1 _ (z.set r1) s1⟩
 .cases e
@[irreducible] noncomputable def V8 (i:Nat)(x:MEm):MS:=fun ρ=>match x ρ with
 |some (d,ρ1)=>(match ρ1[i]? with |some (some (.ob p r))=>some (.rg d p r)|_=>none)
 |none=>none
theorem i7 (i:Nat)(Y:PDm X e na):PSd X (.Return (some e) pos) (V8 i na):=(F9 Y).imp fun D σ H z=>by
 obtain⟨F0,H0,F,ρ,o,G,e,ok⟩:=z
 unfold V8 at e
 split at e
 .rename_i d ρ1 h1
  split at e
  .rename_i p r h2
   cases e
   refine⟨F0,H0,F,ρ,d,ρ1,G,h1,fun v F1 H1 j s1 r1=>?_⟩
   obtain⟨Z,U,o3,xs,O,N⟩:=j.ob i p r h2
   exact ok v F1 H1 xs j.ext r1 U O N
  .cases e
 .cases e
end
noncomputable abbrev MG:=Addr->List D->List D->Option (Rt×List D)
noncomputable def del (H:Hp)(p:Addr):Hp:=fun b=>if b=p then none else H b
theorem M8 {H:Hp}{p:Addr}:del H p p=none:=by unfold del;rw[if_pos rfl]
theorem W7 {H:Hp}{p b:Addr}(h:b≠p):del H p b=H b:=by unfold del;rw[if_neg h]
noncomputable def okG (K:W.Frag)(F H:Hp)(p:Addr)(Q:VK)(r':List D):Rt->Prop
 | .sh d=>∀ v F' H' xs,Ext F (del H p) F' H'->Rep K F' v d->F' p=none->H' p=some (.lst xs)->Reps K F' xs r'->Q v H'
 | .fr ds=>∀ q ys F' H' xs,Ext F (del H p) F' H'->H q=none->F' q=none->H' q=some (.lst ys)->Reps K F' ys ds->F' p=none->H' p=some (.lst xs)->Reps K F' xs r'->Q (.ref q) H'
 | .pr _ _=>False
def spG (K:W.Frag)(n:Nat)(m:MG):Sp:=fun vs H Q _=>vs.length=n/\∃ p ws F r0 ds r r1 xs,vs= .ref p::ws/\H p=some (.lst xs)/\F p=none/\Same F H/\Reps K F xs r0/\Reps K F ws ds/\m p r0 ds=some (r,r1)/\okG K F H p Q r1 r
noncomputable def R3 (n:Nat)(p:Addr)(r:List D)(ds:List D):Ro:=some (.ob p r)::w8 (n-1) ds
noncomputable def runG (n:Nat)(m:MS):MG:=fun p r ds=>match m (R3 n p r ds)with
 |some (.rg d q r')=>if q=p then some (.sh d,r')else none
 |some (.rgf es q r')=>if q=p then some (.fr es,r')else none
 |_=>none
theorem zd4 {K:W.Frag}{F H:Hp}{N:List Str}{p:Addr}{xs ws:List V}{r ds:List D}(hn:0<N.length)(s:Same F H)(Y:F p=none)(U:H p=some (.lst xs))(hr:Reps K F xs r)(O:Reps K F ws ds):Rl K F (del H p) F H (start N (.ref p::ws)) (R3 N.length p r ds):=by
 have Z:start N (.ref p::ws)=some (.ref p)::start N.tail ws:=by
  unfold start
  rw[map_cons,cons_append,length_cons,length_tail]
  congr 2
  congr 1
  omega
 have e1:R3 N.length p r ds=some (.ob p r)::w8 N.tail.length ds:=by unfold R3;rw[length_tail]
 have base:=M3 (N:=N.tail) s O
 have only:∀(j:Nat) x,(w8 N.tail.length ds)[j]? =some (some x)->∃ d,x=S.sh d:=fun j x e=>by
  unfold w8 at e
  by_cases hi:j<ds.length
  .rw[getElem?_append_left (by simpa using hi),getElem?_map]at e
   cases q:ds[j]? with
   |none=>rw[q]at e;cases e
   |some d=>rw[q]at e;cases e;exact⟨d,rfl⟩
  .rw[getElem?_append_right (by simpa using hi),getElem?_replicate]at e
   split at e <;> cases e
 rw[Z,e1]
 refine⟨⟨Same.refl F,fun b o e=>?_,s,fun b e n=>absurd e n,fun _ _ _ z=>z⟩,by rw[length_cons,length_cons,base.len],fun i d e=>?_,fun i es e=>?_,fun i j q es G _ e=>?_,fun i q es e=>?_,fun i j q es G e e2=>?_,fun i j q q' es G e e2=>?_⟩
 .by_cases hb:b=p
  .subst hb;rw[M8]at e;cases e
  .rw[W7 hb]at e;exact e
 .cases i with
  |zero=>cases e
  |succ i=>exact base.sh i d e
 .cases i with
  |zero=>cases e
  |succ i=>obtain⟨d,z⟩:=only i _ e;cases z
 .cases i with
  |zero=>cases e
  |succ i=>obtain⟨d,z⟩:=only i _ e;cases z
 .cases i with
  |zero=>cases e;exact⟨rfl,Y,M8,xs,U,hr⟩
  |succ i=>obtain⟨d,z⟩:=only i _ e;cases z
 .cases j with
  |zero=>cases e2
  |succ j=>obtain⟨d,z⟩:=only j _ e2;cases z
 .cases i with
  |zero=>
   cases j with
   |zero=>rfl
   |succ j=>obtain⟨d,z⟩:=only j _ e2;cases z
  |succ i=>obtain⟨d,z⟩:=only i _ e;cases z
theorem Fun.okGl {P:Program}{w:World}{K:W.Frag}{mg:Str->Option Value}{base:Heap}{x qual:Str}{st:Stmt}{f:Addr}{fd:FuncData}{N ps:List Str}{k:Nat}{m:MS}(Fn:Fun K x qual st f fd)(Sc:FnScope N ps (z9 st))(hn:0<N.length)
  (G:∀(cdv:Value)(A:Around)(outer:List Env)(s:Shared)(H:Hp)(E:XK),Room k (A.deeper (envOfC qual (z9 st) s.heap.objs.size f cdv))->PSsd (cxOf CX0 P w K mg base N qual (z9 st) f cdv A outer s H E).nox (j2 st) m):
  FnOk P w K mg base CX0 (k+1) f fd ps (spG K ps.length (runG N.length m)):=by
 refine Fn.ok Sc (fun vs H Q E h=>h.1) fun cdv A outer s H vs Q E hr h=>?_
 obtain⟨hl,p,ws,F,r0,ds,r,r1,xs,rfl,hH,hF,sf,rx,rs,e,ok⟩:=h
 unfold runG at e
 cases h1:m (R3 N.length p r0 ds)with
 |none=>rw[h1]at e;cases e
 |some o=>
  rw[h1]at e
  refine⟨_,G cdv A outer s H E hr,F,del H p,F,R3 N.length p r0 ds,o,zd4 hn sf hF hH rx rs,h1,?_⟩
  cases o with
  |rg d q O=>
   have e:(if q=p then some (Rt.sh d,O)else none)=some (r,r1):=e
   by_cases z:q=p
   .rw[if_pos z]at e
    cases e
    subst z
    exact fun v F' H' j x rv Z h1 rr=>ok v F' H' j x rv Z h1 rr
   .rw[if_neg z]at e;cases e
  |rgf es q O=>
   have e:(if q=p then some (Rt.fr es,O)else none)=some (r,r1):=e
   by_cases z:q=p
   .rw[if_pos z]at e
    cases e
    subst z
    exact fun q' ys F' H' j x h0 f0 Y U rq Z h1 rr=>ok q' ys F' H' j x (by rw[W7 Y]at h0;exact h0) f0 U rq Z h1 rr
   .rw[if_neg z]at e;cases e
  |nx _=>cases e
  |bk _=>cases e
  |ct _=>cases e
  |rt _=>cases e
  |rf _=>cases e
  |rp _ _=>cases e
end
section
section
variable {K:W.Frag}{F0 H0 F H F' H':Hp}{σ:St}{ρ:Ro}
theorem Ext.lent (a:Ext F0 H0 F H){p:Addr}(N:H0 p=none)(x:Ext F (del H p) F' H'):Ext F0 H0 F' H':=
 ⟨a.ff.trans x.ff,fun b o e=>by
  have j:b≠p:=fun z=>by rw[z,N]at e;cases e
  exact x.hh b o (by rw[W7 j];exact a.hh b o e),x.fh,fun b e n=>by
  by_cases G:F b=none
  .by_cases j:b=p
   .rw[j];exact N
   .have:=x.new b G n
    rw[W7 j]at this
    exact a.hh.free this
  .exact a.new b e G,fun b o u z=>a.nf b o u (x.nf b o u z)⟩
theorem Rl.lent (r:Rl K F0 H0 F H σ ρ){i:Nat}{p:Addr}{xs:List V}{r0 r1:List D}(h:ρ[i]? =some (some (.own r0)))(hp:σ[i]? =some (some (.ref p)))(x:Ext F (del H p) F' H')(hF:F' p=none)(hH:H' p=some (.lst xs))(hr:Reps K F' xs r1):Rl K F0 H0 F' H' σ (ρ.set i (some (.own r1))):=by
 obtain⟨p',a4,a,b,c,d,z⟩:=r.own i r0 h
 rw[hp]at a;cases a
 have hl:i<ρ.length:=(List.getElem?_eq_some_iff.mp h).1
 have O:∀ q,q≠p->F q=none->(∃ o,H q=some o)->F' q=none:=fun q hq f Z=>by
  obtain⟨o,ho⟩:=Z
  cases w:F' q with
  |none=>rfl
  |some u=>have:=x.new q f (by rw[w];simp);rw[W7 hq,ho]at this;cases this
 have N:∀ q o,q≠p->H q=some o->H' q=some o:=fun q o hq ho=>x.hh q o (by rw[W7 hq];exact ho)
 have G:∀(j:Nat) fs,(ρ.set i (some (S.own r1)))[j]? =some (some (.own fs))->(j=i/\fs=r1)\/(i≠j/\ρ[j]? =some (some (.own fs))):=fun j fs e=>by
  by_cases Y:i=j
  .subst Y;rw[getElem?_set_self hl]at e;cases e;exact .inl ⟨rfl,rfl⟩
  .rw[getElem?_set_ne Y]at e;exact .inr ⟨Y,e⟩
 refine⟨r.ext.lent z x,by simp[r.len],fun j d' q=>?_,fun j fs q=>?_,fun j k q fs fs' a1 e1 e2 e3 e4=>?_,fun j q fs e1=>?_,fun j k q fs fs' e1 e2 e3=>?_,fun j k q q' es a3 e1 e2=>r.ob1 j k q q' es a3 (t9 e1).2 (t9 e2).2⟩
 .by_cases Y:i=j
  .subst Y;rw[getElem?_set_self hl]at q;cases q
  .rw[getElem?_set_ne Y]at q
   obtain⟨v,v1,v2⟩:=r.sh j d' q
   exact⟨v,v1,v2.mono x.ff⟩
 .rcases G j fs q with⟨rfl,rfl⟩|⟨n,e⟩
  .exact⟨p,xs,hp,hF,hH,hr,z⟩
  .obtain⟨p2,xs2,a2,b2,c2,d2,z2⟩:=r.own j fs e
   have U:p2≠p:=fun w=>r.inj i j p r0 fs n h e hp (by rw[<-w];exact a2)
   exact⟨p2,xs2,a2,O p2 U b2 ⟨_,c2⟩,N _ _ U c2,d2.mono x.ff,z2⟩
 .have b1:∃ g,ρ[j]? =some (some (.own g)):=by
   rcases G j fs e1 with⟨rfl,_⟩|⟨_,w⟩
   .exact⟨_,h⟩
   .exact⟨_,w⟩
  have b2:∃ g,ρ[k]? =some (some (.own g)):=by
   rcases G k fs' e2 with⟨rfl,_⟩|⟨_,w⟩
   .exact⟨_,h⟩
   .exact⟨_,w⟩
  obtain⟨g1,w1⟩:=b1
  obtain⟨g2,w2⟩:=b2
  exact r.inj j k q g1 g2 a1 w1 w2 e3 e4
 .obtain⟨n,e1⟩:=t9 e1
  obtain⟨o1,o2,o3,zs,o4,o5⟩:=r.ob j q fs e1
  have U:q≠p:=fun w=>r.obn j i q fs r0 e1 h (by rw[w];exact hp)
  exact⟨o1,O q U o2 ⟨_,o4⟩,o3,zs,N _ _ U o4,o5.mono x.ff⟩
 .obtain⟨n,e5⟩:=t9 e1
  rcases G k fs' e2 with⟨e6,_⟩|⟨_,w⟩
  .rw[e6]at e3;exact r.obn j i q fs r0 e5 h e3
  .exact r.obn j k q fs fs' e5 w e3
theorem Rl.lentB (r:Rl K F0 H0 F H σ ρ){i:Nat}{p:Addr}{xs:List V}{r0 r1:List D}(h:ρ[i]? =some (some (.ob p r0)))(x:Ext F (del H p) F' H')(hF:F' p=none)(hH:H' p=some (.lst xs))(hr:Reps K F' xs r1):Rl K F0 H0 F' H' σ (ρ.set i (some (.ob p r1))):=by
 obtain⟨a,b,z,a4,c,d⟩:=r.ob i p r0 h
 have hl:i<ρ.length:=(List.getElem?_eq_some_iff.mp h).1
 have U:∀ q,q≠p->F q=none->(∃ o,H q=some o)->F' q=none:=fun q hq f Z=>by
  obtain⟨o,ho⟩:=Z
  cases w:F' q with
  |none=>rfl
  |some u=>have:=x.new q f (by rw[w];simp);rw[W7 hq,ho]at this;cases this
 have O:∀ q o,q≠p->H q=some o->H' q=some o:=fun q o hq ho=>x.hh q o (by rw[W7 hq];exact ho)
 have G:∀(j:Nat) q fs,(ρ.set i (some (S.ob p r1)))[j]? =some (some (.ob q fs))->j=i/\q=p/\fs=r1:=fun j q fs e=>by
  by_cases N:i=j
  .subst N;rw[getElem?_set_self hl]at e;cases e;exact⟨rfl,rfl,rfl⟩
  .rw[getElem?_set_ne N]at e;exact absurd (r.ob1 i j p q r0 fs h e) N
 have other:∀(j:Nat) fs,(ρ.set i (some (S.ob p r1)))[j]? =some (some (.own fs))->i≠j/\ρ[j]? =some (some (.own fs)):=fun j fs e=>by
  by_cases N:i=j
  .subst N;rw[getElem?_set_self hl]at e;cases e
  .rw[getElem?_set_ne N]at e;exact⟨N,e⟩
 refine⟨r.ext.lent z x,by simp[r.len],fun j d' q=>?_,fun j fs q=>?_,fun j k q fs fs' a3 e1 e2 e3 e4=>r.inj j k q fs fs' a3 (other j fs e1).2 (other k fs' e2).2 e3 e4,fun j q fs e1=>?_,fun j k q fs fs' e1 e2 e3=>?_,fun j k q q' fs fs' e1 e2=>?_⟩
 .by_cases N:i=j
  .subst N;rw[getElem?_set_self hl]at q;cases q
  .rw[getElem?_set_ne N]at q
   obtain⟨v,v1,v2⟩:=r.sh j d' q
   exact⟨v,v1,v2.mono x.ff⟩
 .obtain⟨n,e⟩:=other j fs q
  obtain⟨p2,a1,a2,b2,c2,d2,z2⟩:=r.own j fs e
  have Y:p2≠p:=fun w=>r.obn i j p r0 fs h e (by rw[<-w];exact a2)
  exact⟨p2,a1,a2,U p2 Y b2 ⟨_,c2⟩,O _ _ Y c2,d2.mono x.ff,z2⟩
 .obtain⟨e2,e3,e4⟩:=G j q fs e1
  subst e2 e3 e4
  exact⟨a,hF,z,xs,hH,hr⟩
 .obtain⟨e4,e5,_⟩:=G j q fs e1
  subst e4 e5
  exact r.obn j k q r0 fs' h (other k fs' e2).2 e3
 .rw[(G j q fs e1).1,(G k q' fs' e2).1]
end
open Classical in
noncomputable def anyP {α:Type}(f:Addr->Option α):Option α:=if h:∃ x,∀ p,f p=some x then some (Classical.choose h)else none
theorem yt5 {α:Type}{f:Addr->Option α}{x:α}(h:anyP f=some x):∀ p,f p=some x:=by
 unfold anyP at h
 split at h
 .rename_i hx
  cases h
  exact Classical.choose_spec hx
 .cases h
theorem ya9 {α:Type}{f:Addr->Option α}{x:α}(h:∀ p,f p=some x):anyP f=some x:=by
 unfold anyP
 have j:∃ x,∀ p,f p=some x:=⟨x,h⟩
 rw[dif_pos j]
 have:=Classical.choose_spec j 0
 rw[h 0]at this
 exact this.symm
noncomputable def rtD:Rt->Option D
 | .sh d=>some d
 | .fr es=>some (.lst es)
 | .pr _ _=>none
@[irreducible] noncomputable def y7 (f:MG)(i:Nat)(m:MLm):MEm:=fun ρ=>match ρ[i]? with
 |some (some (.own _))=>(match m ρ with
  |some (ds,ρ1)=>(match ρ1[i]? with
   |some (some (.own r0))=>(match anyP (fun p=>f p r0 ds)with
    |some (t,r1)=>(match rtD t with |some d=>some (d,ρ1.set i (some (.own r1)))|none=>none)
    |none=>none)
   |_=>none)
  |none=>none)
 |some (some (.ob _ _))=>(match m ρ with
  |some (ds,ρ1)=>(match ρ1[i]? with
   |some (some (.ob p r0))=>(match f p r0 ds with
    |some (t,r1)=>(match rtD t with |some d=>some (d,ρ1.set i (some (.ob p r1)))|none=>none)
    |none=>none)
   |_=>none)
  |none=>none)
 |_=>none
theorem x9 {m:ML}{n:Nat}(h:∀ ρ ds,m ρ=some ds->ds.length=n)(ρ:Ro)(ds:List D)(ρ':Ro)(e:apu m ρ=some (ds,ρ')):ds.length=n:=by
 unfold apu at e
 split at e
 .rename_i d hm;cases e;exact h ρ _ hm
 .cases e
theorem n6 {x:MEm}{r:MLm}{n:Nat}(hr:∀ ρ ds ρ',r ρ=some (ds,ρ')->ds.length=n)(ρ:Ro)(ds:List D)(ρ':Ro)(h:v6 x r ρ=some (ds,ρ')):ds.length=n+1:=by
 unfold v6 at h
 split at h
 .rename_i d ρ1 h1
  split at h
  .rename_i ds' ρ2 h2;cases h;rw[length_cons,hr ρ1 ds' _ h2]
  .cases h
 .cases h
section
variable {X:Cx}{e:Expr}{pos:Pos}{es:List Expr}{E:XK}{mf:MG}{m:MLm}
theorem y8 {n i:Nat}{x:Str}{px:Pos}(h:∀ t,PA X (.Name x px::es) t->PE X e (zh2 (spG X.K n mf) [] E t))(hl:es.length+1=n)(hv:PE X (.Name x px) (tVar i))(ha:PAm X es m)(hm:∀ ρ ds ρ',m ρ=some (ds,ρ')->ds.length=es.length)
  (hs:starEach (.Name x px::es) X.env=(false,eval (.Name x px) X.env)::starEach es X.env:=by rfl):PDm X e (y7 mf i m):=(h _ (m9 hv ha hs)).imp fun σ H Q a7=>by
 obtain⟨F0,H0,F,ρ,d,ρ',rl,e,q⟩:=a7
 unfold y7 at e
 split at e
 .rename_i r00 h0
  obtain⟨p,xs,Y,a2,a3,a4,a5⟩:=rl.own i r00 h0
  split at e
  .rename_i ds ρ1 h1
   split at e
   .rename_i r0 h2
    split at e
    .rename_i t r1 h3
     split at e
     .rename_i d' h4
      cases e
      have h3:=yt5 h3
      refine⟨_,Y,F0,H0,F,ρ,ds,ρ1,rl,h1,fun vs F1 H1 j s1 rv=>?_⟩
      obtain⟨p',ys,b1,b2,b3,b4,b5⟩:=j.own i r0 h2
      rw[Y]at b1;cases b1
      show spG X.K n mf ((.ref p::vs)++[]) H1 Q E
      rw[append_nil]
      refine⟨by rw[length_cons,rv.length,hm ρ ds ρ1 h1,hl],p,vs,F1,r0,ds,t,r1,ys,rfl,b3,b2,j.fh,b4,rv,h3 p,?_⟩
      cases t with
      |sh g=>
       cases h4
       exact fun v F' H' zs x rg U O N=>q v F' H' (j.lent h2 Y x U O N) (s1.trans x.ff) rg
      |fr gs=>
       cases h4
       intro w zs F' H' us x hw fw a6 Z U O N
       have G:w≠p:=fun z=>by rw[z,b3]at hw;cases hw
       have a8:=j.lent h2 Y x U O N
       have fz:Ext F' H' (upd F' w (.lst zs)) H'->True:=fun _=>True.intro
       have x2:Ext F1 (del H1 p) (upd F' w (.lst zs)) H':=x.freeze fw (by rw[W7 G];exact hw) a6
       have s2:Same F' (upd F' w (.lst zs)):=(Same.refl F').put fw
       exact q _ (upd F' w (.lst zs)) H' (j.lent h2 Y x2 (by rw[y3 (Ne.symm G)];exact U) O (N.mono s2)) (s1.trans x2.ff) (.lst (SqL.of y2) (Z.mono s2))
      |pr _ _=>cases h4
     .cases e
    .cases e
   .cases e
  .cases e
 .rename_i p00 r00 h0
  obtain⟨Y,a2,a5,xs,a3,a4⟩:=rl.ob i p00 r00 h0
  split at e
  .rename_i ds ρ1 h1
   split at e
   .rename_i p r0 h2
    split at e
    .rename_i t r1 h3
     split at e
     .rename_i d' h4
      cases e
      refine⟨_,Y,F0,H0,F,ρ,ds,ρ1,rl,h1,fun vs F1 H1 j s1 rv=>?_⟩
      obtain⟨b1,b2,b5,ys,b3,b4⟩:=j.ob i p r0 h2
      rw[Y]at b1;cases b1
      show spG X.K n mf ((.ref p00::vs)++[]) H1 Q E
      rw[append_nil]
      refine⟨by rw[length_cons,rv.length,hm ρ ds ρ1 h1,hl],p00,vs,F1,r0,ds,t,r1,ys,rfl,b3,b2,j.fh,b4,rv,h3,?_⟩
      cases t with
      |sh g=>
       cases h4
       exact fun v F' H' zs x rg U O N=>q v F' H' (j.lentB h2 x U O N) (s1.trans x.ff) rg
      |fr gs=>
       cases h4
       intro w zs F' H' us x hw fw a6 Z U O N
       have G:w≠p00:=fun z=>by rw[z,b3]at hw;cases hw
       have x2:Ext F1 (del H1 p00) (upd F' w (.lst zs)) H':=x.freeze fw (by rw[W7 G];exact hw) a6
       have s2:Same F' (upd F' w (.lst zs)):=(Same.refl F').put fw
       exact q _ (upd F' w (.lst zs)) H' (j.lentB h2 x2 (by rw[y3 (Ne.symm G)];exact U) O (N.mono s2)) (s1.trans x2.ff) (.lst (SqL.of y2) (Z.mono s2))
      |pr _ _=>cases h4
     .cases e
    .cases e
   .cases e
  .cases e
 .cases e
end
end
section
section
variable {X:Cx}{a b c e:Expr}{ma mb:ME}{pos:Pos}
end
end
section
def LtAt (A:Around)(s:Shared)(v u:Value)(k:Bool):Prop:=∀(prog:Program)(w:World)(E:Value->Shared->Prop)(Q:Value->Shared->Prop),Q (.bool k) s->wpAny (model prog w) A (richCompare .Lt v u) Q E s
noncomputable def zf7 (A:Around)(s:Shared):List Value->List Value->Bool->Prop
 |[],[],k=>k=false
 |[],_::_,k=>k=true
 |_::_,[],k=>k=false
 |y::ys,x::xs,k=>∃ e,SeqAt.EqAt A s y x e/\((e=true/\zf7 A s ys xs k)\/(e=false/\LtAt A s y x k))
section
open PySem.SeqAt
open PySem.AutoSeq1 (wpAny_loadPart')
open PySem.MeetsSeq PySem.MeetsSeq2 PySem.MeetsSeq3
set_option maxHeartbeats 4000000 in
theorem xy0 (l b:Addr)(items j:Array Value)(n n2:Nat)(dd a2:Option Addr)(sl Y:Array (Option Value))(k:Bool):
  Meets (Builtin.«tuple.__lt__» ⟨[.ref l,.ref b],[]⟩)
   (fun A R s=>s.heap.get? l=some { cls:=.type "tuple",dict:=dd,data:=.seq items n,slots:=sl }/\s.heap.get? b=some { cls:=.type "tuple",dict:=a2,data:=.seq j n2,slots:=Y }/\
    zf7 A.in1 s items.toList j.toList k/\R (.ok (.ret (.bool k))) s):=
 .of_wp fun prog w A R s h=>by
  obtain⟨hp,g,d,tk,os⟩:=s;obtain⟨hl,hb,hx,h⟩:=h
  have f2:=AutoSeq1.sub_tuple_tuple
  wp_walk using wpAny_loadPart' hl,wpAny_loadPart' hb,wpAny_forIn_list _ (fun rest b s'=>b.1=none/\s'=⟨hp,g,d,tk,os⟩/\∃(vs ws:List Value),rest=vs.zip ws/\
   vs.length+j.size=ws.length+items.size/\zf7 A.in1 ⟨hp,g,d,tk,os⟩ vs ws k) _
  case turn=>
   rintro⟨y,x⟩ rest b s' ⟨U,rfl,vs,ws,N,z,G⟩
   cases vs with
   |nil=>rw[zip_nil_left]at N;cases N
   |cons a vs=>
    cases ws with
    |nil=>rw[zip_nil_right]at N;cases N
    |cons c ws=>
     rw[zip_cons_cons]at N
     injection N with Z O
     injection Z with hy a1
     subst hy a1
     simp only[length_cons]at z
     obtain⟨e,he,G⟩:=G
     refine wpAny_bind (he prog w _ _ ?_)
     rcases G with⟨rfl,G⟩|⟨rfl,G⟩
     .wp_walk
      exact⟨rfl,rfl,vs,ws,O,by omega,G⟩
     .have hri:=G prog w
      wp_walk using hri
      exact⟨_,rfl,by simpa using h⟩
  case fin=>
   rintro⟨b1,b2⟩ s' ⟨U,rfl,vs,ws,N,z,G⟩
   simp only at U
   subst U
   have hv:k=decide (items.size<j.size):=by
    cases vs with
    |nil=>
     cases ws with
     |nil=>
      simp only[length_nil]at z
      rw[show k=false from G]
      exact(decide_eq_false (by omega)).symm
     |cons c ws=>
      simp only[length_nil,length_cons]at z
      rw[show k=true from G]
      exact(decide_eq_true (by omega)).symm
    |cons a vs=>
     cases ws with
     |nil=>
      simp only[length_nil,length_cons]at z
      rw[show k=false from G]
      exact(decide_eq_false (by omega)).symm
     |cons c ws=>
      rw[zip_cons_cons]at N
      cases N
   rw[hv]at h
   wp_walk
   exact⟨_,rfl,by simpa[Builtin.Tuple.tupleCompareSizes]using h⟩
  case h=>
   exact⟨rfl,rfl,items.toList,j.toList,rfl,by simp;omega,hx⟩
set_option maxHeartbeats 4000000 in
theorem zr5 (l b:Addr)(items j:Array Value)(n n2:Nat)(dd a2:Option Addr)(sl a1:Array (Option Value))(r:Bool)(k:Nat):
  ∀ i:Nat,items.size-i=k->i<=items.size->i<=j.size->Meets (Builtin.«list.__eq__.loop» ⟨[.ref l,.ref b,rawInt i,rawInt 0],[]⟩)
   (fun A R s=>s.heap.get? l=some { cls:=.type "list",dict:=dd,data:=.seq items n,slots:=sl }/\s.heap.get? b=some { cls:=.type "list",dict:=a2,data:=.seq j n2,slots:=a1 }/\
    zf7 A.in1 s (items.toList.drop i) (j.toList.drop i) r/\R (.ok (.ret (.bool r))) s):=by
 induction k with
 |zero=>
  intro i hk h1 h2 prog w A R s h
  obtain⟨hp,g,d,tk,os⟩:=s;obtain⟨U,Y,G,h⟩:=h
  wp_walk using wpAny_loadPart' U,wpAny_loadPart' Y
  have N:items[((i:Nat):Int).toNat]? =none:=by simp;omega
  have e1:items.toList.drop i=[]:=drop_eq_nil_of_le (by simp;omega)
  rw[e1]at G
  have hr:r=decide (items.size<j.size):=by
   cases e2:j.toList.drop i with
   |nil=>
    rw[e2]at G
    have:j.size<=i:=by simpa using e2
    rw[show r=false from G]
    exact(decide_eq_false (by omega)).symm
   |cons c ws=>
    rw[e2]at G
    have:i<j.size:=by
     rcases Nat.lt_or_ge i j.size with z|z
     .exact z
     .rw[drop_eq_nil_of_le (by simpa using z)]at e2;cases e2
    rw[show r=true from G]
    exact(decide_eq_true (by omega)).symm
  rw[N]
  wp_walk using wpAny_loadPart' U,wpAny_loadPart' Y
  rw[hr]at h
  exact h
 |succ k ih=>
  intro i hk h1 h2 prog w A R s h
  obtain⟨hp,g,d,tk,os⟩:=s;obtain⟨U,Y,G,h⟩:=h
  have Z:i<items.size:=by omega
  have N:items[((i:Nat):Int).toNat]? =some items[i]:=by simp[Z]
  have e1:items.toList.drop i=items[i]::items.toList.drop (i+1):=by rw[drop_eq_getElem_cons (by simpa using Z)];simp
  have hc:((i:Int)+1)=((i+1:Nat):Int):=by push_cast;rfl
  rw[e1]at G
  by_cases O:i<j.size
  .have hi2:j[((i:Nat):Int).toNat]? =some j[i]:=by simp[O]
   have e2:j.toList.drop i=j[i]::j.toList.drop (i+1):=by rw[drop_eq_getElem_cons (by simpa using O)];simp
   rw[e2]at G
   obtain⟨e,he,G⟩:=G
   wp_walk using wpAny_loadPart' U,wpAny_loadPart' Y
   rw[N,hi2]
   refine wpAny_bind (he prog w _ _ ?_)
   rcases G with⟨rfl,G⟩|⟨rfl,G⟩
   .wp_walk
    rw[hc]
    exact⟨plainId_quiet plain_eq_loop _,codeAny_builtin entry_eq_loop (by
     rw[Around.under_plainId plain_eq_loop _]
     exact ih (i+1) (by omega) (by omega) (by omega) prog w A R _ ⟨U,Y,G,h⟩)⟩
   .have hri:=G prog w
    wp_walk using wpAny_loadPart' U,wpAny_loadPart' Y
    rw[N,hi2]
    wp_walk using hri
    exact h
  .have hi2:j[((i:Nat):Int).toNat]? =none:=by simp;omega
   have e2:j.toList.drop i=[]:=drop_eq_nil_of_le (by simp;omega)
   rw[e2]at G
   have hr:r=decide (items.size<j.size):=by
    rw[show r=false from G]
    exact(decide_eq_false (by omega)).symm
   wp_walk using wpAny_loadPart' U,wpAny_loadPart' Y
   rw[N,hi2]
   wp_walk using wpAny_loadPart' U,wpAny_loadPart' Y
   rw[hr]at h
   exact h
set_option maxHeartbeats 4000000 in
theorem xt1 (l b:Addr)(items j:Array Value)(n N:Nat)(Y G:Option Addr)(sl z:Array (Option Value))(r:Bool):
  Meets (Builtin.«list.__lt__» ⟨[.ref l,.ref b],[]⟩)
   (fun A R s=>s.heap.get? l=some { cls:=.type "list",dict:=Y,data:=.seq items n,slots:=sl }/\s.heap.get? b=some { cls:=.type "list",dict:=G,data:=.seq j N,slots:=z }/\
    zf7 A.in1 s items.toList j.toList r/\R (.ok (.ret (.bool r))) s):=by
 intro prog w A R s h
 obtain⟨hp,g,d,tk,os⟩:=s;obtain⟨O,U,Z,h⟩:=h
 have f3:=AutoSeq1.sub_list_list
 wp_walk using wpAny_loadPart' O,wpAny_loadPart' U
 exact⟨plainId_quiet plain_eq_loop _,codeAny_builtin entry_eq_loop (by
  rw[Around.under_plainId plain_eq_loop _]
  exact zr5 l b items j n N Y G sl z r _ 0 rfl (Nat.zero_le _) (Nat.zero_le _) prog w A R _ ⟨O,U,by simpa using Z,h⟩)⟩
end
noncomputable def lexF (eq lt:D->D->Option Bool):List D->List D->Option Bool
 |[],[]=>some false
 |[],_::_=>some true
 |_::_,[]=>some false
 |d::ds,e::es=>match eq d e with
  |some true=>lexF eq lt ds es
  |some false=>lt d e
  |none=>none
noncomputable def ltF:Nat->D->D->Option Bool
 |0,_,_=>none
 |n+1,.lst ds,.lst es=>lexF (eqF n) (ltF n) ds es
 |n+1,.tup ds,.tup es=>lexF (eqF n) (ltF n) ds es
 |_+1,.int i,.int j=>some (decide (i<j))
 |_+1,_,_=>none
section
variable {X:Cx}{pins:List (Addr×Obj)}{σ:St}{H:Hp}{s:Shared}
theorem yx0 (I:Inv X pins σ H s)(n:Nat){A:Around}(hu:A.units+n<cLine)(j:∀{x y:V}{v u:Value}{d e:D}{k:Bool},Rep X.K H x d->Rep X.K H y e->RelV x v->RelV y u->ltF n d e=some k->LtAt A s v u k):
  ∀{xs ys:List V}{vs us:List Value}{ds es:List D}{k:Bool},Reps X.K H xs ds->Reps X.K H ys es->Vals xs vs->Vals ys us->lexF (eqF n) (ltF n) ds es=some k->zf7 A s vs us k
 |_,_,_,_,_,_,k,.nil,.nil,.nil,.nil,h=>by cases h;exact rfl
 |_,_,_,_,_,_,k,.nil,.cons _ _,.nil,.cons _ _,h=>by cases h;exact rfl
 |_,_,_,_,_,_,k,.cons _ _,.nil,.cons _ _,.nil,h=>by cases h;exact rfl
 |_,_,_,_,_,_,k,.cons (d:=d) r1 t1,.cons (d:=e) r2 t2,.cons q1 p1,.cons q2 p2,h=>by
  unfold lexF at h
  cases hq:eqF n d e with
  |none=>rw[hq]at h;cases h
  |some b=>
   rw[hq]at h
   refine⟨b,(yw6 I n hu r1 r2 q1 q2 hq).1,?_⟩
   cases b with
   |true=>exact .inl ⟨rfl,yx0 I n hu j t1 t2 p1 p2 h⟩
   |false=>exact .inr ⟨rfl,j r1 r2 q1 q2 h⟩
theorem yo5 (I:Inv X pins σ H s):∀(n:Nat){A:Around}{x y:V}{v u:Value}{d e:D}{k:Bool},A.units+n<cLine->Rep X.K H x d->Rep X.K H y e->RelV x v->RelV y u->ltF n d e=some k->LtAt A s v u k
 |0,A,x,y,v,u,d,e,k,hu,r1,r2,q1,q2,h=>by simp[ltF]at h
 |n+1,A,x,y,v,u,d,e,k,hu,r1,r2,q1,q2,h=>by
  have a6:A.units<cLine:=by omega
  have U:A.in1.units+n<cLine:=by show A.units+1+n<cLine;omega
  cases d with
  |int i=>
   cases e with
   |int j=>
    obtain rfl:=r1.i'
    obtain rfl:=r2.i'
    obtain⟨t,rfl⟩:=q1
    obtain⟨t',rfl⟩:=q2
    cases h
    exact fun prog w E Q hQ=>HT.rcLt_int A s i t j t' prog w E Q hQ
   |_=>cases h
  |lst ab=>
   cases e with
   |lst aa=>
    obtain⟨a1,a9,rfl,sq,rs⟩:=r1.l'
    obtain⟨a2,a8,rfl,Z,a4⟩:=r2.l'
    cases q1;cases q2
    obtain⟨its,vr,⟨⟨cls,dd,data,sl⟩,m,ho,hc,ad,hd⟩,_⟩:=I.list sq
    obtain⟨z,Y,⟨⟨a7,a5,data2,a3⟩,m2,G,O,ac,N⟩,_⟩:=I.list Z
    simp only at hc hd O N
    subst hc hd O N
    have L:=yx0 I n U (fun a b c d e=>yo5 I n U a b c d e) rs a4 vr Y (show lexF (eqF n) (ltF n) _ _=some k from h)
    intro prog w E Q hQ
    exact richCompare_meets_room (op:=.Lt) ⟨_,ho,rfl⟩ ⟨_,G,rfl⟩ PySem.F.slot_list_lt PySem.F.entry_list_lt (PySem.F.args_list_lt_2 _ _) (xt1 _ _ its.toArray z.toArray m m2 dd a5 sl a3 k)
     ⟨ho,G,by simpa using L,show Value.bool k≠Value.notImplemented/\Q (.bool k) s from⟨(fun x=>nomatch x),hQ⟩⟩ a6
   |_=>cases h
  |tup ab=>
   cases e with
   |tup aa=>
    obtain⟨a1,a9,rfl,sq,rs⟩:=r1.t'
    obtain⟨a2,a8,rfl,Z,a4⟩:=r2.t'
    cases q1;cases q2
    obtain⟨its,vr,⟨⟨cls,dd,data,sl⟩,ho,hc,m,hd⟩,_⟩:=I.tuple sq
    obtain⟨z,Y,⟨⟨a7,a5,data2,a3⟩,G,O,m2,N⟩,_⟩:=I.tuple Z
    simp only at hc hd O N
    subst hc hd O N
    have L:=yx0 I n U (fun a b c d e=>yo5 I n U a b c d e) rs a4 vr Y (show lexF (eqF n) (ltF n) _ _=some k from h)
    intro prog w E Q hQ
    exact richCompare_meets_room (op:=.Lt) ⟨_,ho,rfl⟩ ⟨_,G,rfl⟩ PySem.F.slot_tuple_lt PySem.F.entry_tuple_lt (PySem.F.args_tuple_lt_2 _ _) (xy0 _ _ its.toArray z.toArray m m2 dd a5 sl a3 k)
     ⟨ho,G,by simpa using L,show Value.bool k≠Value.notImplemented/\Q (.bool k) s from⟨(fun x=>nomatch x),hQ⟩⟩ a6
   |_=>cases h
  |_=>cases h
end
end
section
def zp7 (X:Cx)(kv:Value)(mk:D->Option D):Prop:=∀(pins:List (Addr×Obj))(σ:St)(H F:Hp)(s:Shared)(x:V)(u:Value)(d kd:D),Inv X pins σ H s->Same F H->Rep X.K F x d->RelV x u->mk d=some kd->
 wpAny (model X.prog X.w) X.A.in1 (call kv [u]) (fun w s'=>∃ y F' H',Inv X pins σ H' s'/\RelV y w/\Ext F H F' H'/\Rep X.K F' y kd) (fun _ _=>False) s
noncomputable def shOf:Option Rt->Option D
 |some (.sh d)=>some d
 |some (.fr es)=>some (.lst es)
 |_=>none
theorem A6 {X:Cx}{k:Nat}{f:Addr}{fd:FuncData}{p:Str}{m:MF}(F:FnOk X.prog X.w X.K X.mg X.base CX0 k f fd [p] (spR X.K 1 m))(hr:Room k X.A.in1)(hb:Binds X.K fd [p] []):zp7 X (.ref f) (fun d=>shOf (m [d])):=by
 intro pins σ H O s x u d Y I U r rx hm
 have hm:shOf (m [d])=some Y:=hm
 have sp:spR X.K 1 m [x] H (fun v H'=>∃ F',Ext O H F' H'/\Rep X.K F' v Y) E0:=by
  cases h:m [d]with
  |none=>rw[h]at hm;cases hm
  |some t=>
   rw[h]at hm
   cases t with
   |sh g=>cases hm;exact⟨rfl,O,[d],_,U,.cons r .nil,h,fun v F' H' z N=>⟨F',z,N⟩⟩
   |fr gs=>cases hm;exact⟨rfl,O,[d],_,U,.cons r .nil,h,fun q xs F' H' z hp Z hH rs=>⟨upd F' q (.lst xs),z.freeze Z hp hH,.lst (SqL.of y2) (rs.mono ((Same.refl F').put Z))⟩⟩
   |pr _ _=>cases hm
 have j:=I.env0
 have env:Env0 X.prog X.w X.K X.mg X.base X.A.in1 X.stack s H:=⟨j.frames,j.mod,j.bs,j.bsz,j.funs,j.frf,j.hok,j.bare⟩
 refine wpAny_call (codeAny_mono (F.run X.A.in1 X.stack s H ⟨[u],[]⟩ [u] [x] _ E0 hr env (hb s [u] I.kIn rfl) (.cons rx .nil) sp) fun r s' G=>?_)
 cases r with
 |error e=>exact G.elim
 |ok fl=>
  cases fl with
  |ret v=>
   obtain⟨y,H',I',ry,F',z,N⟩:=I.after G
   exact⟨y,F',H',I',ry,z,N⟩
  |next=>exact G.elim
  |brk=>exact G.elim
  |cont=>exact G.elim
noncomputable def minF (mk:D->Option D):List D->D->D->Option D
 |[],b,_=>some b
 |d::ds,b,kb=>match mk d with
  |some kd=>(match ltF 8 kd kb with |some true=>minF mk ds d kd|some false=>minF mk ds b kb|none=>none)
  |none=>none
section
variable {X:Cx}{pins:List (Addr×Obj)}{σ:St}
theorem FpOk.now {H H':Hp}{b:Addr}(h:FpOk X pins H b)(hn:H' b=none):FpOk X pins H' b:=⟨hn,h.2⟩
theorem Inv.pin2 {H:Hp}{s:Shared}{a b:Addr}{j ob:Obj}(I:Inv X pins σ H s)(ha:FpOk X pins H a)(z:FpOk X pins H b)(N:s.heap.get? a=some j)(G:s.heap.get? b=some ob)(U:∀ v,j.data≠ .cell v)(O:∀ v,ob.data≠ .cell v):Inv X (pins++[(a,j),(b,ob)]) σ H s:=
 I.pins_of fun p hp=>by
  rcases List.mem_append.mp hp with hp|hp
  .exact I.pin p (mem_append_right _ hp)
  .simp only[mem_cons,not_mem_nil,or_false]at hp
   rcases hp with rfl|rfl
   .exact⟨N,ha.1,ha.2.1,ha.2.2.1,U⟩
   .exact⟨G,z.1,z.2.1,z.2.2.1,O⟩
set_option maxHeartbeats 8000000 in
theorem yp8 {q:Addr}{mk:D->Option D}(hk:zp7 X (.ref q) mk)(hc:X.calm=true)(hu:X.A.units+64<cLine){l I S:Addr}{xs:List V}{ds:List D}{kw:List (Str×Value)}{dm:D}(a3:I≠S)(ai:l≠I)(ah:l≠S):
  ∀(r j:Nat)(H F H0 F0:Hp)(s:Shared)(xb yb:V)(Y Z:Value)(db N:D)(c:Nat)(R:Result->Shared->Prop),
   ds.length-(j+1)=r->j+1<=ds.length->Inv X pins σ H s->Ext F0 H0 F H->SqL X.K H l xs->Reps X.K F xs ds->s.heap.IsListIter I l (j+1)->s.heap.get? S=some (seqObj "list" #[Y,Z] c)->FpOk X pins H I->FpOk X pins H S->
   RelV xb Y->Rep X.K F xb db->RelV yb Z->Rep X.K F yb N->minF mk (ds.drop (j+1)) db N=some dm->
   (∀ x v F' H' s',Inv X pins σ H' s'->RelV x v->Ext F0 H0 F' H'->Rep X.K F' x dm->R (.ok (.ret v)) s')->
   codeAny (model X.prog X.w) X.A (.builtin "min.loop" ⟨[.ref I,.ref q,.ref S],kw⟩) R s:=by
 have U:(toString "min"++toString ".loop":String)="min.loop":=by decide
 intro r
 induction r with
 |zero=>
  intro j H F H0 F0 s xb yb Y Z db N c R hr hj I' ext sq rs a2 hS fI fS rb pb ry py hm hR
  have ad:j+1=ds.length:=by omega
  obtain⟨its,vr,pl,_⟩:=I'.list sq
  have zl:its.length=ds.length:=by rw[<-vr.length,rs.length]
  rw[ad,drop_length]at hm
  have hm:some db=some dm:=hm
  cases hm
  refine codeAny_builtin PySem.F.entry_min_loop ?_
  rw[Around.under_plainId PySem.F.plain_min_loop _]
  show wpAny _ X.A.in1 (seqItems? (.ref S) >>= _) _ _ _
  refine wpAny_bind (wpAny_seqItems hS rfl ?_)
  show wpAny _ X.A.in1 (tryCatch (pyNext (.ref I)) _ >>= _) _ _ _
  refine wpAny_bind (wpAny_tryCatch (wpAny_pyNext_list_end (I'.ok.hd hc) a2 pl.isList (by simp;omega) fun h' a8=>?_))
  have ag:h'.get? S=some (seqObj "list" #[Y,Z] c):=a8 S _ (Ne.symm a3) hS
  have s1:=Heap.SameBut.update h' S (Obj.mapSeq fun _=>(#[]:Array Value))
  show wpAny _ X.A.in1 (updateSeq S (fun _=>#[]) >>= _) _ _ _
  refine wpAny_bind ?_
  refine wpAny_updateSeq ag rfl (wpAny_bind (wpAny_letGo (wpAny_pure ?_)))
  have I9:Inv X pins σ H { s with heap:=h'.update S (Obj.mapSeq fun _=>(#[]:Array Value)),toks:=s.toks }:=I'.turnedL (fp:=[I,S]) (t':=s.toks) (fun b o G e=>by
   simp only[mem_cons,not_mem_nil,or_false,not_or]at G
   exact(s1.2 b G.2).trans (a8 b o G.1 e)) (fun b G=>by
   simp only[mem_cons,not_mem_nil,or_false]at G
   rcases G with rfl|rfl <;> assumption)
  exact hR xb Y F H _ I9 rb ext pb
 |succ r ih=>
  intro j H F H0 F0 s xb yb Y Z db N c R hr hj I' ext sq rs a2 hS fI fS rb pb ry py hm hR
  have a1:j+1<ds.length:=by omega
  obtain⟨its,vr,pl,_⟩:=I'.list sq
  have zl:its.length=ds.length:=by rw[<-vr.length,rs.length]
  obtain⟨d,hd⟩:∃ d,ds[j+1]? =some d:=⟨_,getElem?_eq_getElem a1⟩
  obtain⟨x,hx,px⟩:=rs.get hd
  obtain⟨v,hv,rx⟩:=vr.get hx
  rw[i9 hd]at hm
  unfold minF at hm
  cases hkd:mk d with
  |none=>rw[hkd]at hm;cases hm
  |some kd=>
   rw[hkd]at hm
   dsimp only at hm
   refine codeAny_builtin PySem.F.entry_min_loop ?_
   rw[Around.under_plainId PySem.F.plain_min_loop _]
   show wpAny _ X.A.in1 (seqItems? (.ref S) >>= _) _ _ _
   refine wpAny_bind (wpAny_seqItems hS rfl ?_)
   show wpAny _ X.A.in1 (tryCatch (pyNext (.ref I)) _ >>= _) _ _ _
   refine wpAny_bind (wpAny_tryCatch (wpAny_pyNext_list_item a2 pl.isList (by simpa using hv) fun h1 aa s1=>?_))
   have I1:Inv X pins σ H { s with heap:=h1,toks:=s.toks }:=I'.turnedL (fp:=[I]) (fun b o G e=>s1.extBut b o (by simpa using G) e) (fun b G=>by rw[List.mem_singleton.mp G];exact fI)
   have af:h1.get? S=some (seqObj "list" #[Y,Z] c):=s1.extBut _ _ (Ne.symm a3) hS
   obtain⟨oI,eI,cI,dI⟩:=id aa
   have Ip:=I1.pin2 fI fS eI af (fun v z=>by rw[dI]at z;cases z) (fun v z=>by cases z)
   show wpAny _ X.A.in1 (tryCatch (holding [v] (call (.ref q) [v])) _ >>= _) _ _ _
   refine wpAny_bind (wpAny_tryCatch (wpAny_holding (wpAny_mono (hk (pins++[(I,oI),(S,seqObj "list" #[Y,Z] c)]) σ H F _ x v d kd Ip ext.fh px rx hkd) (fun w s2 hw=>?_) fun _ _ z=>z.elim)))
   obtain⟨y,F2,H2,I2,a6,O,a7⟩:=hw
   have pI:=I2.pin (I,oI) (by simp)
   have pS:=I2.pin (S,seqObj "list" #[Y,Z] c) (by simp)
   have a5:Inv X pins σ H2 s2:=I2.unpinned
   have ac:FpOk X pins H2 I:=fI.now pI.2.1
   have a4:FpOk X pins H2 S:=fS.now pS.2.1
   have a9:s2.heap.IsListIter I l (j+1+1):=⟨oI,pI.1,cI,dI⟩
   cases hlt8:ltF 8 kd N with
   |none=>rw[hlt8]at hm;cases hm
   |some bt=>
    rw[hlt8]at hm
    have ab:=yo5 a5 8 (A:=X.A.in1) (by show X.A.units+1+8<cLine;omega) (a7.mono O.fh) ((py.mono O.ff).mono O.fh) a6 ry hlt8
    show wpAny _ X.A.in1 (tryCatch (holding [v,w] (richCompare .Lt w Z >>= _)) _ >>= _) _ _ _
    refine wpAny_bind (wpAny_tryCatch (wpAny_holding (wpAny_bind (ab X.prog X.w _ _ ?_))))
    refine wpAny_bind (wpAny_holding (wpAny_truthy_bool ?_))
    refine wpAny_bind (wpAny_letGo (wpAny_pure ?_))
    cases bt with
    |true=>
     have s3:=Heap.SameBut.update s2.heap S (Obj.mapSeq fun _=>#[v,w])
     obtain⟨c2,ae⟩:∃ c2,(s2.heap.update S (Obj.mapSeq fun _=>#[v,w])).get? S=some (seqObj "list" #[v,w] c2):=⟨_,get?_update_seq pS.1 fun _=>#[v,w]⟩
     simp only[if_true]
     refine wpAny_bind ?_
     refine wpAny_updateSeq pS.1 rfl (wpAny_bind (wpAny_letGo ?_))
     rw[U]
     have I3:Inv X pins σ H2 { s2 with heap:=s2.heap.update S (Obj.mapSeq fun _=>#[v,w]),toks:=s2.toks }:=a5.turnedL (fp:=[S]) (fun b o G e=>(s3.2 b (by simpa using G)).trans e) (fun b G=>by rw[List.mem_singleton.mp G];exact a4)
     refine wpAny_pure ⟨plainId_quiet PySem.F.plain_min_loop _,ih (j+1) H2 F2 H0 F0 _ x y v w d kd c2 R (by omega) a1 I3 (ext.trans O) (O.hh.seq sq) (rs.mono O.ff) ⟨oI,(s3.2 I a3).trans pI.1,cI,dI⟩ ae ac a4 rx (px.mono O.ff) a6 a7 hm hR⟩
    |false=>
     simp only[Bool.false_eq_true,if_false]
     refine wpAny_bind (wpAny_letGo ?_)
     rw[U]
     refine wpAny_pure ⟨plainId_quiet PySem.F.plain_min_loop _,ih (j+1) H2 F2 H0 F0 _ xb yb Y Z db N c R (by omega) a1 a5 (ext.trans O) (O.hh.seq sq) (rs.mono O.ff) a9 pS.1 ac a4 rb (pb.mono O.ff) ry (py.mono O.ff) hm hR⟩
end
end
section
theorem zp2 (a v u:Value):argsOk "min" ⟨[a],[(Str.ofString "key",v),(Str.ofString "default",u)]⟩:=by unfold argsOk;kernel_rfl
noncomputable def minD (mk:D->Option D)(ds:List D)(d0:D):Option D:=match ds with
 |[]=>some d0
 |d::ds=>(match mk d with |some kd=>minF mk ds d kd|none=>none)
section
variable {X:Cx}{pins:List (Addr×Obj)}{σ:St}
set_option maxHeartbeats 8000000 in
theorem yd3 {q:Addr}{mk:D->Option D}(hk:zp7 X (.ref q) mk)(hc:X.calm=true)(hu:X.A.units+64<cLine){l:Addr}{xs:List V}{ds:List D}{dm d0:D}{H F:Hp}{s:Shared}{x0:V}{U:Value}{E:Value->Shared->Prop}{Q:Value->Shared->Prop}
  (I:Inv X pins σ H s) (sf:Same F H) (sq:SqL X.K H l xs) (rs:Reps X.K F xs ds) (r0:RelV x0 U) (p0:Rep X.K F x0 d0) (hm:minD mk ds d0=some dm)
  (hQ:∀ x v F' H' s',Inv X pins σ H' s'->RelV x v->Ext F H F' H'->Rep X.K F' x dm->Q v s'):
  wpAny (model X.prog X.w) X.A (call (.builtin "min") [.ref l] [(Str.ofString "key",.ref q),(Str.ofString "default",U)]) Q E s:=by
 have G:(toString "min"++toString ".loop":String)="min.loop":=by decide
 obtain⟨its,vr,pl,_⟩:=I.list sq
 have a2:=pl.isList
 obtain⟨ol,a9,_⟩:=id a2
 have a3:l<s.heap.objs.size:=Heap.lt_size a9
 refine kmk_tree PySem.F.kind_min PySem.F.plain_min PySem.F.entry_min (zp2 _ _ _) ?_
 show wpAny _ X.A.in1 (Builtin.Builtins.bindParams "min" ["key","default"] 0 ⟨[],[(Str.ofString "key",.ref q),(Str.ofString "default",U)]⟩ >>= _) _ _ s
 refine wpAny_bind (wpAny_of_eq (show Builtin.Builtins.bindParams "min" ["key","default"] 0 ⟨[],[(Str.ofString "key",.ref q),(Str.ofString "default",U)]⟩=pure [some (.ref q),some U]from rfl) ?_)
 refine wpAny_bind (wpAny_pure ?_)
 refine wpAny_bind (wpAny_pyIter_list a2 ?_)
 refine wpAny_bind (wpAny_newList ?_ (Nat.zero_le _))
 rw[G]
 refine wpAny_pure ⟨plainId_quiet PySem.F.plain_min_loop _,?_⟩
 generalize N:({ cls:=.type "list_iterator",data:=.fields #[.ref l,.int 0 0] }:Obj)=oI0
 have hS:(s.heap.push oI0).objs.size=s.heap.objs.size+1:=size_push' ..
 have ab:l≠s.heap.objs.size:=Nat.ne_of_lt a3
 have aa:l≠(s.heap.push oI0).objs.size:=by rw[hS];exact Nat.ne_of_lt (Nat.lt_succ_of_lt a3)
 have O:s.heap.objs.size≠(s.heap.push oI0).objs.size:=by rw[hS];exact Nat.ne_of_lt (Nat.lt_succ_self _)
 have gI:((s.heap.push oI0).push (seqObj "list" #[] 0)).get? s.heap.objs.size=some oI0:=Heap.get?_push_of_some _ (Heap.get?_push_size _ (by rw[<-N];rfl))
 have gS:((s.heap.push oI0).push (seqObj "list" #[] 0)).get? (s.heap.push oI0).objs.size=some (seqObj "list" #[] 0):=Heap.get?_push_size _ rfl
 have fI:FpOk X pins H s.heap.objs.size:=I.fpOk (Nat.le_refl _) (I.hok.fresh (Nat.le_refl _))
 have fS:FpOk X pins H (s.heap.push oI0).objs.size:=I.fpOk (by rw[hS];exact Nat.le_succ _) (I.hok.fresh (by rw[hS];exact Nat.le_succ _))
 have I0:Inv X pins σ H { s with heap:=(s.heap.push oI0).push (seqObj "list" #[] 0),toks:=s.toks }:=I.turnedL (fp:=[]) (fun b o _ e=>Heap.get?_push_of_some _ (Heap.get?_push_of_some _ e)) (fun b j=>by cases j)
 generalize (s.heap.push oI0).objs.size=S at*
 generalize hI:s.heap.objs.size=J at*
 generalize (s.heap.push oI0).push (seqObj "list" #[] 0)=h0 at*
 have a5:h0.IsListIter J l 0:=⟨_,gI,by rw[<-N],by rw[<-N];rfl⟩
 have zl:its.length=ds.length:=by rw[<-vr.length,rs.length]
 obtain⟨its',Z,a1,_⟩:=I0.list sq
 have Y:its'.length=ds.length:=by rw[<-Z.length,rs.length]
 refine codeAny_builtin PySem.F.entry_min_loop ?_
 rw[Around.under_plainId PySem.F.plain_min_loop _]
 show wpAny _ X.A.in1 (seqItems? (.ref S) >>= _) _ _ _
 refine wpAny_bind (wpAny_seqItems gS rfl ?_)
 show wpAny _ X.A.in1 (tryCatch (pyNext (.ref J)) _ >>= _) _ _ _
 cases ds with
 |nil=>
  have hm:some d0=some dm:=hm
  cases hm
  refine wpAny_bind (wpAny_tryCatch (wpAny_pyNext_list_end (I.ok.hd hc) a5 a1.isList (by simp at Y ⊢;simp[Y]) fun h' ac=>?_))
  refine wpAny_bind (wpAny_rule (wpAny_pure ?_))
  have I9:=I0.turnedL (h':=h') (fp:=[J]) (t':=s.toks) (fun b o j e=>ac b o (by simpa using j) e) (fun b j=>by rw[List.mem_singleton.mp j];exact fI)
  exact hQ x0 U F H _ I9 r0 (Ext.refl sf) p0
 |cons d ds=>
  obtain⟨x,hx,px⟩:=rs.get (i:=0) (d:=d) rfl
  obtain⟨v,hv,rx⟩:=Z.get hx
  unfold minD at hm
  dsimp only at hm
  cases hkd:mk d with
  |none=>rw[hkd]at hm;cases hm
  |some kd=>
   rw[hkd]at hm
   dsimp only at hm
   refine wpAny_bind (wpAny_tryCatch (wpAny_pyNext_list_item a5 a1.isList (by simpa using hv) fun h1 a4 s1=>?_))
   have I1:=I0.turnedL (h':=h1) (t':=s.toks) (fp:=[J]) (fun b o j e=>s1.extBut b o (by simpa using j) e) (fun b j=>by rw[List.mem_singleton.mp j];exact fI)
   have ae:h1.get? S=some (seqObj "list" #[] 0):=s1.extBut _ _ (Ne.symm O) gS
   obtain⟨oI,eI,cI,dI⟩:=id a4
   have Ip:=I1.pin2 fI fS eI ae (fun v z=>by rw[dI]at z;cases z) (fun v z=>by cases z)
   show wpAny _ X.A.in1 (tryCatch (holding [v] (call (.ref q) [v])) _ >>= _) _ _ _
   refine wpAny_bind (wpAny_tryCatch (wpAny_holding (wpAny_mono (hk (pins++[(J,oI),(S,seqObj "list" #[] 0)]) σ H F _ x v d kd Ip sf px rx hkd) (fun w s2 hw=>?_) fun _ _ z=>z.elim)))
   obtain⟨y,F2,H2,I2,a7,x2,a8⟩:=hw
   have pI:=I2.pin (J,oI) (by simp)
   have pS:=I2.pin (S,seqObj "list" #[] 0) (by simp)
   have ag:Inv X pins σ H2 s2:=I2.unpinned
   have af:FpOk X pins H2 J:=fI.now pI.2.1
   have a6:FpOk X pins H2 S:=fS.now pS.2.1
   have s3:=Heap.SameBut.update s2.heap S (Obj.mapSeq fun _=>#[v,w])
   obtain⟨c2,ad⟩:∃ c2,(s2.heap.update S (Obj.mapSeq fun _=>#[v,w])).get? S=some (seqObj "list" #[v,w] c2):=⟨_,get?_update_seq pS.1 fun _=>#[v,w]⟩
   show wpAny _ X.A.in1 (updateSeq S (fun _=>#[v,w]) >>= _) _ _ _
   refine wpAny_bind (wpAny_updateSeq pS.1 rfl ?_)
   rw[G]
   have I3:Inv X pins σ H2 { s2 with heap:=s2.heap.update S (Obj.mapSeq fun _=>#[v,w]),toks:=s2.toks }:=ag.turnedL (fp:=[S]) (fun b o j e=>(s3.2 b (by simpa using j)).trans e) (fun b j=>by rw[List.mem_singleton.mp j];exact a6)
   refine wpAny_pure ⟨plainId_quiet PySem.F.plain_min_loop _,yp8 hk hc hu (ds:=d::ds) (dm:=dm) O ab aa _ 0 H2 F2 H F _ x y v w d kd c2 _ rfl (by simp) I3 x2 (x2.hh.seq sq) (rs.mono x2.ff) ⟨oI,(s3.2 J O).trans pI.1,cI,dI⟩ ad af a6 rx (px.mono x2.ff) a7 a8 hm fun x v F' H' s' a b c d=>hQ x v F' H' s' a b c d⟩
@[irreducible] noncomputable def zg2 (mk:D->Option D)(m:ML)(md:ME):ME:=fun ρ=>(m ρ).bind fun ds=>(md ρ).bind fun d0=>minD mk ds d0
theorem zg1 {mk:D->Option D}{m:ML}{j:ME}{ρ:Ro}{g:D}(h:zg2 mk m j ρ=some g):∃ ds z,m ρ=some ds/\j ρ=some z/\minD mk ds z=some g:=by
 unfold zg2 at h
 cases h1:m ρ with
 |none=>rw[h1]at h;cases h
 |some d=>
  cases h2:j ρ with
  |none=>rw[h1,h2]at h;cases h
  |some e=>rw[h1,h2]at h;exact⟨d,e,rfl,rfl,h⟩
theorem yp5 {mk:D->Option D}{m:ML}{j:ME}{ρ:Ro}{ds:List D}{z:D}(h1:m ρ=some ds)(h2:j ρ=some z):zg2 mk m j ρ=minD mk ds z:=by
 unfold zg2
 rw[h1,h2];rfl
theorem ye1 {q:Addr}{mk:D->Option D}{x:Str}{p pf kp G pos:Pos}{e ed:Expr}{m:ML}{md:ME}(hk:zp7 X (.ref q) mk)(hc:X.calm=true)(hu:X.A.units+64<cLine)(hg:Gl X "min")(hm:X.mg "min"=none)(Z:Gl X x)(Y:X.mg x=some (.ref q))(ha:PB X e m)(hd:PD X ed md)
  (a1:(x==("__debug__":Str))=false:=by decide) (hs:starEach (e::[]) X.env=(false,eval e X.env)::starEach [] X.env:=by rfl):
  PD X (.Call (.Name "min" p) [e] [⟨some "key",.Name x pf,kp⟩,⟨some "default",ed,G⟩] pos) (zg2 mk m md):=by
 intro pins s σ H Q I h
 obtain⟨F0,H0,F,ρ,g,rl,em,q0⟩:=h
 obtain⟨ds,d0,h1,h2,h3⟩:=zg1 em
 refine wpAny_Call_Name_kw (W6 I hg hm PyProof.Rows.boot_min ?_ (by decide) (by decide))
 have A:=m9 ha pa_nil hs pos pins s σ H (fun vs H1=>∃ p xs F1,vs=[.ref p]/\Ext F H F1 H1/\SqL X.K H1 p xs/\Reps X.K F1 xs ds) I ⟨F0,H0,F,ρ,ds,rl,h1,fun p xs F1 H1 N s1 r1=>⟨p,xs,F1,rfl,N,s1,r1⟩⟩
 refine callWith_kw (thn A fun us s1 j=>?_) (by rw[hs];rfl) (by rw[hs];rfl)
 obtain⟨vs,H1,I1,r1,p,xs,F1,ev,N,sq,rs⟩:=j
 subst ev
 obtain⟨u,rfl,ru⟩:=T9 r1
 cases ru
 have B:=C3 (nm:=some "key") (kpos:=kp) (zb6 (v:=.ref q) (pos:=pf) Z Y rfl a1) (C3 (nm:=some "default") (kpos:=G) hd zc8) pos pins s1 σ H1 (fun vs H2=>∃ y F2,vs=[.ref q,y]/\Ext F1 H1 F2 H2/\Rep X.K F2 y d0) I1 ⟨F0,H0,F1,ρ,d0,rl.go N,h2,fun y F2 H2 z r2=>⟨y,F2,rfl,z,r2⟩⟩
 refine thn B fun us s2 j=>?_
 obtain⟨vs,H2,I2,r2,y,F2,ev,z,p0⟩:=j
 subst ev
 obtain⟨u1,u2,rfl,U,O⟩:=ys4 r2
 cases U
 exact yd3 hk hc hu I2 z.fh (z.hh.seq sq) (rs.mono z.ff) O p0 h3 fun x v F' H' s' I' rx x3 px=>⟨x,H',I',rx,q0 x F' H' ((N.trans z).trans x3) px⟩
end
end
section
section
variable {prog:Program}{w:World}{A:Around}{E:Value->Shared->Prop}{s:Shared}
theorem N9:isSubtype (.type "range_iterator") (.type "reversed")=pure false:=by rw[isSubtype_type];kernel_rfl
noncomputable def zy4 (x left step:Int):Obj:={ cls:=.type "range_iterator",dict:=none,data:=.fields #[rawInt x,rawInt left,rawInt step],slots:=#[] }
theorem S8 {l:Addr}{j:Int}{t u v:Tok}{Q:Value->Shared->Prop}(z:IsRange s.heap l 0 j 1 t u v)(h1:-(2^62)<=j)(h2:j<2^62)
  (h:Q (.ref s.heap.objs.size) { s with heap:=s.heap.push (zy4 ((j.toNat:Int)-1) j.toNat (-1)) }):wpAny (model prog w) A (call (.builtin "range.__reversed__") [.ref l]) Q E s:=by
 have O:s.TypeIs (.ref l) "range":=⟨_,z,rfl⟩
 refine wpAny_call_entry F.slot_range_reversed O F.entry_range_reversed ?_ (F.args_range_reversed_1 _)
 have G:Builtin.Range.rangeSize 0 j 1=(j.toNat:Int):=by rw[rangeSize_one];split <;> omega
 unfold Builtin.«range.__reversed__»
 refine wpAny_bind (wpAny_of_eq (a:=Value.ref l) rfl ?_)
 unfold Builtin.Range.rangeFields
 refine wpAny_bind ?_
 refine wpAny_bind (wpAny_field z rfl (x:=.int 0 t) rfl ?_)
 refine wpAny_bind (wpAny_of_eq (a:=some (0:Int)) rfl ?_)
 refine wpAny_bind (wpAny_field z rfl (x:=.int j u) rfl ?_)
 refine wpAny_bind (wpAny_of_eq (a:=some j) rfl ?_)
 refine wpAny_bind (wpAny_field z rfl (x:=.int 1 v) rfl ?_)
 refine wpAny_bind (wpAny_of_eq (a:=some (1:Int)) rfl ?_)
 refine wpAny_pure ?_
 dsimp only
 rw[G]
 have N:(Builtin.Range.rangeFitsLong 0&&Builtin.Range.rangeFitsLong j&&Builtin.Range.rangeFitsLong 1&&Builtin.Range.rangeFitsLong (-1)&&Builtin.Range.rangeFitsLong (0-1)&&Builtin.Range.rangeFitsLong (j.toNat:Int))=true:=by
  simp only[Builtin.Range.rangeFitsLong,Bool.and_eq_true,decide_eq_true_eq]
  omega
 simp only[N,Bool.not_true,Bool.false_eq_true,if_false,if_true]
 have e:(0:Int)+((j.toNat:Int)-1)*1=(j.toNat:Int)-1:=by omega
 rw[e]
 exact wpAny_bind (wpAny_newObj_type (wpAny_pure ⟨_,rfl,h⟩))
theorem Q2 {l:Addr}{j:Int}{t u v:Tok}{Q₁:Value->Shared->Prop}(z:IsRange s.heap l 0 j 1 t u v)(h1:-(2^62)<=j)(h2:j<2^62)
  (h:Q₁ (.ref s.heap.objs.size) { s with heap:=s.heap.push (zy4 ((j.toNat:Int)-1) j.toNat (-1)) }):
  codeAny (model prog w) A (.call (.builtin "reversed.__new__") ⟨[.type "reversed",.ref l],[]⟩) (wants Q₁ E) s:=by
 have G:s.TypeIs (.ref l) "range":=⟨_,z,rfl⟩
 refine codeAny_of_tree ?_
 show wpAny _ A.in1 (do checkBuiltinCall "reversed.__new__" ⟨[.type "reversed",.ref l],[]⟩;again (.builtin "reversed.__new__" ⟨[.type "reversed",.ref l],[]⟩)) _ _ s
 refine wpAny_bind (wpAny_of_eq (F.newCall_reversed_1 _) (wpAny_pure ⟨plainId_quiet F.plain_reversed_new _,codeAny_builtin F.entry_reversed_new ?_⟩))
 rw[Around.under_plainId F.plain_reversed_new _]
 unfold Builtin.«reversed.__new__»
 refine wpAny_bind (wpAny_of_eq (newClass_reversed _) ?_)
 try dsimp only
 refine wpAny_bind (wpAny_of_eq (a:=()) (by first|rfl|kernel_rfl) ?_)
 refine wpAny_bind (wpAny_of_eq (a:=()) (by first|rfl|kernel_rfl) ?_)
 try dsimp only
 refine wpAny_bind (wpAny_specialOf G F.slot_range_reversed.lookup ?_)
 try dsimp only
 refine wpAny_bind (wpAny_of_eq (F.slot_range_reversed.bind _) ?_)
 try dsimp only
 first
 |rw[if_neg (show ¬ ((Value.builtin "range.__reversed__"==Value.none)=true)from Bool.false_ne_true)]
 | (show wpAny _ _ (if (Value.builtin "range.__reversed__"==Value.none)=true then _ else _) _ _ _;rw[if_neg (show ¬ ((Value.builtin "range.__reversed__"==Value.none)=true)from Bool.false_ne_true)])
 refine wpAny_bind (wpAny_rule ?_)
 refine wpAny_bind (m:=runValue (.call (.builtin "range.__reversed__") ⟨[.ref l],[]⟩)) (show wpAny _ _ (call (.builtin "range.__reversed__") [.ref l]) _ _ _ from S8 z h1 h2 ?_)
 first
 |exact wpAny_pure h
 |exact wpAny_bind (wpAny_pure (wpAny_pure h))
theorem S7 {l:Addr}{j:Int}{t u v:Tok}{Q:Value->Shared->Prop}(G:IsRange s.heap l 0 j 1 t u v)(h1:-(2^62)<=j)(h2:j<2^62)
  (h:Q (.ref s.heap.objs.size) { s with heap:=s.heap.push (zy4 ((j.toNat:Int)-1) j.toNat (-1)) }):wpAny (model prog w) A (call (.type "reversed") [.ref l]) Q E s:=by
 refine callType_other (U:="range_iterator") (Q₁:=fun obj z=>obj= .ref s.heap.objs.size/\z={ s with heap:=s.heap.push (zy4 ((j.toNat:Int)-1) j.toNat (-1)) }) (by decide +kernel) F.create_reversed ⟨_,_,F.mro_reversed⟩ F.made_reversed N9 (F.typeCall_reversed_1 _) (Q2 G h1 h2 ⟨rfl,rfl⟩) ?_
 rintro obj z ⟨rfl,rfl⟩
 exact⟨⟨_,Heap.get?_push_size _ rfl,rfl⟩,h⟩
end
noncomputable def Itdn (hi:Int)(n:Nat):It:=⟨fun i _=>i<n,fun i H x H'=>H'=H/\x= .int (hi-i),fun i _=>n<=i⟩
theorem zz8 {P:Program}{w:World}{K:PySem.W.Frag}{tg:Expr}(it:Addr)(lo:Int)(n:Nat):Turn P w K tg (Itdn lo n) [it] it (fun i h=>IsRangeIter h it (lo+(i:Nat)*(-1)) ((n:Int)-(i:Nat)) (-1)) where
 mem:=by simp
 obj:=fun i h st b j=>by
  have e:b=it:=by simpa using j
  subst e
  exact⟨_,st,fun v z=>by
   have z':Data.fields _=Data.cell v:=z
   cases z'⟩
 keep:=fun i h h' st k=>k it (by simp) _ st
 item:=by
  intro X Y hw Z U i pins s σ H E I N st O
  subst Y hw Z
  obtain⟨f0,f1,f2,f3,f4,f5⟩:=N it (by simp)
  have W:=Walks.range (prog:=X.prog) (w:=X.w) (I.ok.hd U) it lo (-1) n
  refine W.item i s _ _ O st fun v h' tk hv G kk=>?_
  obtain⟨t,rfl⟩:=hv
  have I1:Inv X pins σ H { s with heap:=h',toks:=tk }:=I.turned (fun b o j e=>kk b o (by simpa using j) e) f0 f1 f3 f4 f5
  refine⟨_,rfl,yc6 (s:={ s with heap:=h',toks:=tk }) (n:="range_iterator") G rfl rfl (by decide) ⟨.int (lo-i),H,I1,⟨t,?_⟩,⟨rfl,rfl⟩,G,fun b j=>(N b j).1⟩⟩
  rw[show lo+(i:Int)*(-1)=lo-i by omega]
 done:=by
  intro X Y hw Z U i pins s σ H E I N st O
  subst Y hw Z
  obtain⟨f0,f1,f2,f3,f4,f5⟩:=N it (by simp)
  exact wpAny_pyNext_range_end (I.ok.hd U) st (by have:n<=i:=O;omega) fun h' eb=>⟨rfl,I.turned (t':=s.toks) (fun b o j e=>eb b o j e) f0 f1 f3 f4 f5⟩
 self:=fun _ _ _ _ _ st h=>wpAny_pyIter_rangeiter st h
section
variable {X:Cx}
noncomputable def M2 (n:Nat):List D:=(List.range n).map fun(i:Nat)=>D.int ((n:Int)-1-(i:Int))
theorem N4 (n:Nat):(M2 n).length=n:=by unfold M2;simp
theorem zk8 {K:W.Frag}{F:Hp}{n:Nat}:ItD K F (Itdn ((n:Int)-1) n) (M2 n) where
 go:=fun i F1 H1 a b hi=>by rw[N4]at hi;exact hi
 yld:=fun i F1 H1 x H2 d a b e y=>by
  obtain⟨rfl,rfl⟩:=y
  unfold M2 at e
  rw[getElem?_map]at e
  have hi:i<n:=by
   rcases Nat.lt_or_ge i n with h|h
   .exact h
   .rw[getElem?_eq_none (by simpa using h)]at e;cases e
  rw[getElem?_range hi]at e
  cases e
  exact⟨F1,.refl b,.int _⟩
 stop:=fun F1 H1 a b=>by rw[N4];exact Nat.le_refl n
noncomputable def rngD:List D->Option (List D)
 |[.int j]=>if okR j=true then some (M2 j.toNat)else none
 |_=>none
theorem zc9 {tg a:Expr}{m:ML}{p p2 pos z:Pos}(hg:Gl X "reversed")(hm:X.mg "reversed"=none)(a2:Gl X "range")(a1:X.mg "range"=none)(ha:PAs X [a] m)(he:starEach [a] X.env=(false,eval a X.env)::starEach [] X.env:=by rfl)
  (G:∀ pos,(backTo pos (starEach [] X.env)).any (·.1)=false:=by intro _;rfl)
  (hs:starEach (Expr.Call (.Name "range" p2) [a] [] z::[]) X.env=(false,eval (Expr.Call (.Name "range" p2) [a] [] z) X.env)::starEach [] X.env:=by rfl):
  PId X tg (.Call (.Name "reversed" p) [.Call (.Name "range" p2) [a] [] z] [] pos) (u8 rngD m):=by
 intro pins s σ H R I h
 obtain⟨F0,H0,F,ρ,its,rl,e,q⟩:=h
 obtain⟨ds,h1,h2⟩:=X2 e
 have A:=m9 (R5 yu3 a2 a1 boot_range ha (by decide) (by decide) he (G _)) pa_nil hs pos pins s σ H (fun vs H1=>∃ p j F1 H2,vs=[.ref p]/\ds=[.int j]/\H2 p=none/\H1=upd H2 p (.rng 0 j)/\Ext F H F1 H2) I ⟨F0,H0,F,ρ,ds,rl,h1,fun vs F1 H1 U r1=>by
  unfold rngD at h2
  split at h2
  .rename_i j
   cases r1 with
   |cons r rr=>
    cases rr;cases r
    exact⟨j,rfl,fun p hp=>⟨p,j,F1,H1,rfl,rfl,hp,rfl,U⟩⟩
  .cases h2⟩
 refine Call_ (W6 I hg hm boot_reversed (PyProof.Rows.callWith_type1 (thn A fun us s1 N=>?_) hs (G _)))
 obtain⟨vs,H1,Z,r1,q1⟩:=N
 obtain⟨l,j,F1,H2,ev,ed,hn,eH,U⟩:=q1
 subst ev ed eH
 obtain⟨u,rfl,ru⟩:=T9 r1
 cases ru
 have h2:(if okR j=true then some (M2 j.toNat)else none)=some its:=h2
 split at h2
 case isFalse=>cases h2
 rename_i Y
 cases h2
 unfold okR at Y
 simp only[Bool.and_eq_true,decide_eq_true_eq]at Y
 obtain⟨t,u,v,eo⟩:=Z.hok l _ y2
 refine S7 (j:=j) eo Y.1 Y.2 ?_
 have O:IsRangeIter (s1.heap.push (zy4 ((j.toNat:Int)-1) j.toNat (-1))) s1.heap.objs.size ((j.toNat:Int)-1) j.toNat (-1):=Heap.get?_push_size _ rfl
 refine wpAny_pyIter_rangeiter O ?_
 have x2:Ext F H F1 (upd H2 l (.rng 0 j)):=U.trans (Ext.own U.fh hn)
 refine⟨s1.heap.objs.size,[s1.heap.objs.size],_,_,_,rfl,Z.kept (t':=s1.toks) fun b o e=>Heap.get?_push_of_some _ e,zz8 _ ((j.toNat:Int)-1) j.toNat,?_,fun b hb=>?_,q _ F1 _ x2 zk8⟩
 .have e1:((j.toNat:Int)-1)+((0:Nat):Int)*(-1)=(j.toNat:Int)-1:=by simp
  have e2:((j.toNat:Nat):Int)-((0:Nat):Int)=j.toNat:=by simp
  show IsRangeIter _ _ (((j.toNat:Int)-1)+((0:Nat):Int)*(-1)) (((j.toNat:Nat):Int)-((0:Nat):Int)) (-1)
  rw[e1,e2]
  exact O
 .have e:b=s1.heap.objs.size:=by simpa using hb
  subst e
  exact Z.fpOk (Nat.le_refl _) (Z.hok.fresh (Nat.le_refl _))
end
end
section
section
variable {X:Cx}{a b:Expr}{pos:Pos}
end
end
section
section
variable {X:Cx}{e:Expr}{pos:Pos}{es:List Expr}{E:XK}{mf:MG}{st:Stmt}{na:MEm}
end
section
variable {X:Cx}{a b:Expr}{pos:Pos}
noncomputable def G2 (n:Nat)(k:Int):Bool:=decide (-(2^62)<=k)&&decide (k<2^62)&&decide (n*k.toNat<=sizeLine)
@[irreducible] noncomputable def mrep (x:ML)(y:ME):ML:=fun ρ=>(x ρ).bind fun ds=>match y ρ with
 |some (.int k)=>if G2 ds.length k=true then some (List.replicate k.toNat ds).flatten else none
 |_=>none
theorem yz5 {x:ML}{y:ME}{ρ:Ro}{j:List D}(h:mrep x y ρ=some j):∃ ds k,x ρ=some ds/\y ρ=some (.int k)/\G2 ds.length k=true/\j=(List.replicate k.toNat ds).flatten:=by
 unfold mrep at h
 cases h1:x ρ with
 |none=>rw[h1]at h;cases h
 |some ds=>
  rw[h1,Option.bind_some]at h
  split at h
  .rename_i k h2
   split at h
   .rename_i hk
    exact⟨ds,k,rfl,h2,hk,(Option.some.inj h).symm⟩
   .cases h
  .cases h
theorem yz6 {x:ML}{y:ME}{ρ:Ro}{ds:List D}{k:Int}(h1:x ρ=some ds)(h2:y ρ=some (.int k))(j:G2 ds.length k=true):mrep x y ρ=some (List.replicate k.toNat ds).flatten:=by
 unfold mrep
 rw[h1,Option.bind_some,h2]
 simp only[j,if_true]
theorem zy6 {K:W.Frag}{F:Hp}{xs:List V}{ds:List D}(r:Reps K F xs ds):∀ k:Nat,Reps K F (List.replicate k xs).flatten (List.replicate k ds).flatten
 |0=>.nil
 |k+1=>by
  rw[replicate_succ,replicate_succ,flatten_cons,flatten_cons]
  exact r.append (zy6 r k)
theorem O6 {x:ML}{y:ME}(ha:PF X a x)(Y:PD X b y):PF X (.BinOp a .Mult b pos) (mrep x y):=(yq6 xv6 ha Y).imp fun σ H Q z=>by
 obtain⟨F0,H0,F,ρ,g,U,e,q⟩:=z
 obtain⟨ds,k,h1,h2,G,rfl⟩:=yz5 e
 unfold G2 at G
 simp only[Bool.and_eq_true,decide_eq_true_eq]at G
 refine⟨F0,H0,F,ρ,ds,U,h1,fun p xs F1 H1 O n1 f1 Z r1=>⟨F0,H0,F1,ρ,.int k,U.go O,h2,fun v F2 H2 j r2=>?_⟩⟩
 cases r2
 refine⟨p,k,xs,rfl,rfl,j.hh _ _ Z,by omega,by omega,by rw[r1.length];exact G.2,fun w hw=>?_⟩
 have N:=O.trans j
 exact q w _ F2 _ (N.trans (Ext.own j.fh hw)) (N.hh.free hw) (j.fh.free hw) y2 (zy6 (r1.mono j.ff) k.toNat)
end
end
section
noncomputable def minN (mk:D->Option D)(ds:List D):Option D:=match ds with
 |[]=>none
 |d::ds=>(match mk d with |some kd=>minF mk ds d kd|none=>none)
section
variable {X:Cx}{pins:List (Addr×Obj)}{σ:St}
end
end
section
theorem zp4 (a v u:Value):argsOk "max" ⟨[a],[(Str.ofString "key",v),(Str.ofString "default",u)]⟩:=by unfold argsOk;kernel_rfl
noncomputable def N0:D->Option D
 | .lst ds=>some (.int ds.length)
 |_=>none
noncomputable def gtI:D->D->Option Bool
 | .int i,.int j=>some (decide (i>j))
 |_,_=>none
noncomputable def maxF:List D->D->D->Option D
 |[],b,_=>some b
 |d::ds,b,kb=>match N0 d with
  |some kd=>(match gtI kd kb with |some true=>maxF ds d kd|some false=>maxF ds b kb|none=>none)
  |none=>none
noncomputable def maxD (ds:List D)(d0:D):Option D:=match ds with
 |[]=>some d0
 |d::ds=>(match N0 d with |some kd=>maxF ds d kd|none=>none)
theorem yc5 {d e:D}{k:Bool}(h:gtI d e=some k):∃ i j,d= .int i/\e= .int j/\k=decide (i>j):=by
 cases d with
 |int i=>
  cases e with
  |int j=>cases h;exact⟨i,j,rfl,rfl,rfl⟩
  |_=>cases h
 |_=>cases h
theorem xj3 {K:W.Frag}{F F':Hp}{A:Around}{s:Shared}{x y:V}{v u:Value}{d e:D}{k:Bool}(r1:Rep K F x d)(r2:Rep K F' y e)(G:RelV x v)(z:RelV y u)(h:gtI d e=some k)(prog:Program)(w:World)(E:Value->Shared->Prop)(Q:Value->Shared->Prop)(N:Q (.bool k) s):wpAny (model prog w) A (richCompare .Gt v u) Q E s:=by
 obtain⟨i,j,rfl,rfl,rfl⟩:=yc5 h
 obtain rfl:=r1.i'
 obtain rfl:=r2.i'
 obtain⟨t,rfl⟩:=G
 obtain⟨t',rfl⟩:=z
 exact CmpOf.ints_gt (prog:=prog) (w:=w) (A:=A) (P:=fun n v=>∃ t,v= .int (if n=1 then i else j) t) (fun n=>if n=1 then i else j) (fun i v h=>h) 1 0 _ _ _ _ _ ⟨t,rfl⟩ ⟨t',rfl⟩ N
section
variable {X:Cx}{pins:List (Addr×Obj)}{σ:St}
theorem yx4 (pins:List (Addr×Obj))(σ:St)(H F:Hp)(s:Shared)(x:V)(u:Value)(d G:D)(I:Inv X pins σ H s)(z:Same F H)(r:Rep X.K F x d)(O:RelV x u)(hm:N0 d=some G):
  wpAny (model X.prog X.w) X.A.in1 (call (.builtin "len") [u]) (fun w s'=>∃ y F' H',Inv X pins σ H' s'/\RelV y w/\Ext F H F' H'/\Rep X.K F' y G) (fun _ _=>False) s:=by
 cases r <;> first| (cases hm;done)|skip
 rename_i a xs ds N U
 cases hm
 cases O
 have hn:=zw6
 obtain⟨its,Y,pl,Z⟩:=I.list (z.seq N)
 have j:=Y.length
 refine Calls.call_len_list pl.isList (by simp only[size_toArray] <;> omega) ⟨.int ds.length,F,H,I.tok _,⟨s.toks+1,by rw[size_toArray,<-j,U.length]⟩,.refl z,.int _⟩
set_option maxHeartbeats 8000000 in
theorem yo1 (hc:X.calm=true)(hu:X.A.units+64<cLine){l I S:Addr}{xs:List V}{ds:List D}{kw:List (Str×Value)}{dm:D}(a3:I≠S)(ai:l≠I)(ah:l≠S):
  ∀(r j:Nat)(H F H0 F0:Hp)(s:Shared)(xb yb:V)(U Y:Value)(db N:D)(c:Nat)(R:Result->Shared->Prop),
   ds.length-(j+1)=r->j+1<=ds.length->Inv X pins σ H s->Ext F0 H0 F H->SqL X.K H l xs->Reps X.K F xs ds->s.heap.IsListIter I l (j+1)->s.heap.get? S=some (seqObj "list" #[U,Y] c)->FpOk X pins H I->FpOk X pins H S->
   RelV xb U->Rep X.K F xb db->RelV yb Y->Rep X.K F yb N->maxF (ds.drop (j+1)) db N=some dm->
   (∀ x v F' H' s',Inv X pins σ H' s'->RelV x v->Ext F0 H0 F' H'->Rep X.K F' x dm->R (.ok (.ret v)) s')->
   codeAny (model X.prog X.w) X.A (.builtin "max.loop" ⟨[.ref I,.builtin "len",.ref S],kw⟩) R s:=by
 have O:(toString "max"++toString ".loop":String)="max.loop":=by decide
 intro r
 induction r with
 |zero=>
  intro j H F H0 F0 s xb yb U Y db N c R hr hj I' ext sq rs a2 hS fI fS rb pb ry py hm hR
  have ad:j+1=ds.length:=by omega
  obtain⟨its,vr,pl,_⟩:=I'.list sq
  have zl:its.length=ds.length:=by rw[<-vr.length,rs.length]
  rw[ad,drop_length]at hm
  have hm:some db=some dm:=hm
  cases hm
  refine codeAny_builtin PySem.F.entry_max_loop ?_
  rw[Around.under_plainId PySem.F.plain_max_loop _]
  show wpAny _ X.A.in1 (seqItems? (.ref S) >>= _) _ _ _
  refine wpAny_bind (wpAny_seqItems hS rfl ?_)
  show wpAny _ X.A.in1 (tryCatch (pyNext (.ref I)) _ >>= _) _ _ _
  refine wpAny_bind (wpAny_tryCatch (wpAny_pyNext_list_end (I'.ok.hd hc) a2 pl.isList (by simp;omega) fun h' a7=>?_))
  have ag:h'.get? S=some (seqObj "list" #[U,Y] c):=a7 S _ (Ne.symm a3) hS
  have s1:=Heap.SameBut.update h' S (Obj.mapSeq fun _=>(#[]:Array Value))
  show wpAny _ X.A.in1 (updateSeq S (fun _=>#[]) >>= _) _ _ _
  refine wpAny_bind ?_
  refine wpAny_updateSeq ag rfl (wpAny_bind (wpAny_letGo (wpAny_pure ?_)))
  have I9:Inv X pins σ H { s with heap:=h'.update S (Obj.mapSeq fun _=>(#[]:Array Value)),toks:=s.toks }:=I'.turnedL (fp:=[I,S]) (t':=s.toks) (fun b o G e=>by
   simp only[mem_cons,not_mem_nil,or_false,not_or]at G
   exact(s1.2 b G.2).trans (a7 b o G.1 e)) (fun b G=>by
   simp only[mem_cons,not_mem_nil,or_false]at G
   rcases G with rfl|rfl <;> assumption)
  exact hR xb U F H _ I9 rb ext pb
 |succ r ih=>
  intro j H F H0 F0 s xb yb U Y db N c R hr hj I' ext sq rs a2 hS fI fS rb pb ry py hm hR
  have a1:j+1<ds.length:=by omega
  obtain⟨its,vr,pl,_⟩:=I'.list sq
  have zl:its.length=ds.length:=by rw[<-vr.length,rs.length]
  obtain⟨d,hd⟩:∃ d,ds[j+1]? =some d:=⟨_,getElem?_eq_getElem a1⟩
  obtain⟨x,hx,px⟩:=rs.get hd
  obtain⟨v,hv,rx⟩:=vr.get hx
  rw[i9 hd]at hm
  unfold maxF at hm
  cases hkd:N0 d with
  |none=>rw[hkd]at hm;cases hm
  |some kd=>
   rw[hkd]at hm
   dsimp only at hm
   refine codeAny_builtin PySem.F.entry_max_loop ?_
   rw[Around.under_plainId PySem.F.plain_max_loop _]
   show wpAny _ X.A.in1 (seqItems? (.ref S) >>= _) _ _ _
   refine wpAny_bind (wpAny_seqItems hS rfl ?_)
   show wpAny _ X.A.in1 (tryCatch (pyNext (.ref I)) _ >>= _) _ _ _
   refine wpAny_bind (wpAny_tryCatch (wpAny_pyNext_list_item a2 pl.isList (by simpa using hv) fun h1 a9 s1=>?_))
   have I1:Inv X pins σ H { s with heap:=h1,toks:=s.toks }:=I'.turnedL (fp:=[I]) (fun b o G e=>s1.extBut b o (by simpa using G) e) (fun b G=>by rw[List.mem_singleton.mp G];exact fI)
   have af:h1.get? S=some (seqObj "list" #[U,Y] c):=s1.extBut _ _ (Ne.symm a3) hS
   obtain⟨oI,eI,cI,dI⟩:=id a9
   have Ip:=I1.pin2 fI fS eI af (fun v z=>by rw[dI]at z;cases z) (fun v z=>by cases z)
   show wpAny _ X.A.in1 (tryCatch (holding [v] (call (.builtin "len") [v])) _ >>= _) _ _ _
   refine wpAny_bind (wpAny_tryCatch (wpAny_holding (wpAny_mono (yx4 (pins++[(I,oI),(S,seqObj "list" #[U,Y] c)]) σ H F _ x v d kd Ip ext.fh px rx hkd) (fun w s2 hw=>?_) fun _ _ z=>z.elim)))
   obtain⟨y,F2,H2,I2,a5,Z,a6⟩:=hw
   have pI:=I2.pin (I,oI) (by simp)
   have pS:=I2.pin (S,seqObj "list" #[U,Y] c) (by simp)
   have ac:Inv X pins σ H2 s2:=I2.unpinned
   have ab:FpOk X pins H2 I:=fI.now pI.2.1
   have a4:FpOk X pins H2 S:=fS.now pS.2.1
   have a8:s2.heap.IsListIter I l (j+1+1):=⟨oI,pI.1,cI,dI⟩
   cases hlt8:gtI kd N with
   |none=>rw[hlt8]at hm;cases hm
   |some bt=>
    rw[hlt8]at hm
    have aa:=xj3 (A:=X.A.in1) (s:=s2) a6 py a5 ry hlt8
    show wpAny _ X.A.in1 (tryCatch (holding [v,w] (richCompare .Gt w Y >>= _)) _ >>= _) _ _ _
    refine wpAny_bind (wpAny_tryCatch (wpAny_holding (wpAny_bind (aa X.prog X.w _ _ ?_))))
    refine wpAny_bind (wpAny_holding (wpAny_truthy_bool ?_))
    refine wpAny_bind (wpAny_letGo (wpAny_pure ?_))
    cases bt with
    |true=>
     have s3:=Heap.SameBut.update s2.heap S (Obj.mapSeq fun _=>#[v,w])
     obtain⟨c2,ae⟩:∃ c2,(s2.heap.update S (Obj.mapSeq fun _=>#[v,w])).get? S=some (seqObj "list" #[v,w] c2):=⟨_,get?_update_seq pS.1 fun _=>#[v,w]⟩
     simp only[if_true]
     refine wpAny_bind ?_
     refine wpAny_updateSeq pS.1 rfl (wpAny_bind (wpAny_letGo ?_))
     rw[O]
     have I3:Inv X pins σ H2 { s2 with heap:=s2.heap.update S (Obj.mapSeq fun _=>#[v,w]),toks:=s2.toks }:=ac.turnedL (fp:=[S]) (fun b o G e=>(s3.2 b (by simpa using G)).trans e) (fun b G=>by rw[List.mem_singleton.mp G];exact a4)
     refine wpAny_pure ⟨plainId_quiet PySem.F.plain_max_loop _,ih (j+1) H2 F2 H0 F0 _ x y v w d kd c2 R (by omega) a1 I3 (ext.trans Z) (Z.hh.seq sq) (rs.mono Z.ff) ⟨oI,(s3.2 I a3).trans pI.1,cI,dI⟩ ae ab a4 rx (px.mono Z.ff) a5 a6 hm hR⟩
    |false=>
     simp only[Bool.false_eq_true,if_false]
     refine wpAny_bind (wpAny_letGo ?_)
     rw[O]
     refine wpAny_pure ⟨plainId_quiet PySem.F.plain_max_loop _,ih (j+1) H2 F2 H0 F0 _ xb yb U Y db N c R (by omega) a1 ac (ext.trans Z) (Z.hh.seq sq) (rs.mono Z.ff) a8 pS.1 ab a4 rb (pb.mono Z.ff) ry (py.mono Z.ff) hm hR⟩
set_option maxHeartbeats 8000000 in
theorem yd5 (hc:X.calm=true)(hu:X.A.units+64<cLine){l:Addr}{xs:List V}{ds:List D}{dm d0:D}{H F:Hp}{s:Shared}{x0:V}{U:Value}{E:Value->Shared->Prop}{Q:Value->Shared->Prop}
  (I:Inv X pins σ H s) (sf:Same F H) (sq:SqL X.K H l xs) (rs:Reps X.K F xs ds) (r0:RelV x0 U) (p0:Rep X.K F x0 d0) (hm:maxD ds d0=some dm)
  (hQ:∀ x v F' H' s',Inv X pins σ H' s'->RelV x v->Ext F H F' H'->Rep X.K F' x dm->Q v s'):
  wpAny (model X.prog X.w) X.A (call (.builtin "max") [.ref l] [(Str.ofString "key",.builtin "len"),(Str.ofString "default",U)]) Q E s:=by
 have G:(toString "max"++toString ".loop":String)="max.loop":=by decide
 obtain⟨its,vr,pl,_⟩:=I.list sq
 have a2:=pl.isList
 obtain⟨ol,a9,_⟩:=id a2
 have a3:l<s.heap.objs.size:=Heap.lt_size a9
 refine kmk_tree PySem.F.kind_max PySem.F.plain_max PySem.F.entry_max (zp4 _ _ _) ?_
 show wpAny _ X.A.in1 (Builtin.Builtins.bindParams "max" ["key","default"] 0 ⟨[],[(Str.ofString "key",.builtin "len"),(Str.ofString "default",U)]⟩ >>= _) _ _ s
 refine wpAny_bind (wpAny_of_eq (show Builtin.Builtins.bindParams "max" ["key","default"] 0 ⟨[],[(Str.ofString "key",.builtin "len"),(Str.ofString "default",U)]⟩=pure [some (.builtin "len"),some U]from rfl) ?_)
 refine wpAny_bind (wpAny_pure ?_)
 refine wpAny_bind (wpAny_pyIter_list a2 ?_)
 refine wpAny_bind (wpAny_newList ?_ (Nat.zero_le _))
 rw[G]
 refine wpAny_pure ⟨plainId_quiet PySem.F.plain_max_loop _,?_⟩
 generalize N:({ cls:=.type "list_iterator",data:=.fields #[.ref l,.int 0 0] }:Obj)=oI0
 have hS:(s.heap.push oI0).objs.size=s.heap.objs.size+1:=size_push' ..
 have ab:l≠s.heap.objs.size:=Nat.ne_of_lt a3
 have aa:l≠(s.heap.push oI0).objs.size:=by rw[hS];exact Nat.ne_of_lt (Nat.lt_succ_of_lt a3)
 have O:s.heap.objs.size≠(s.heap.push oI0).objs.size:=by rw[hS];exact Nat.ne_of_lt (Nat.lt_succ_self _)
 have gI:((s.heap.push oI0).push (seqObj "list" #[] 0)).get? s.heap.objs.size=some oI0:=Heap.get?_push_of_some _ (Heap.get?_push_size _ (by rw[<-N];rfl))
 have gS:((s.heap.push oI0).push (seqObj "list" #[] 0)).get? (s.heap.push oI0).objs.size=some (seqObj "list" #[] 0):=Heap.get?_push_size _ rfl
 have fI:FpOk X pins H s.heap.objs.size:=I.fpOk (Nat.le_refl _) (I.hok.fresh (Nat.le_refl _))
 have fS:FpOk X pins H (s.heap.push oI0).objs.size:=I.fpOk (by rw[hS];exact Nat.le_succ _) (I.hok.fresh (by rw[hS];exact Nat.le_succ _))
 have I0:Inv X pins σ H { s with heap:=(s.heap.push oI0).push (seqObj "list" #[] 0),toks:=s.toks }:=I.turnedL (fp:=[]) (fun b o _ e=>Heap.get?_push_of_some _ (Heap.get?_push_of_some _ e)) (fun b j=>by cases j)
 generalize (s.heap.push oI0).objs.size=S at*
 generalize hI:s.heap.objs.size=J at*
 generalize (s.heap.push oI0).push (seqObj "list" #[] 0)=h0 at*
 have a5:h0.IsListIter J l 0:=⟨_,gI,by rw[<-N],by rw[<-N];rfl⟩
 have zl:its.length=ds.length:=by rw[<-vr.length,rs.length]
 obtain⟨its',Z,a1,_⟩:=I0.list sq
 have Y:its'.length=ds.length:=by rw[<-Z.length,rs.length]
 refine codeAny_builtin PySem.F.entry_max_loop ?_
 rw[Around.under_plainId PySem.F.plain_max_loop _]
 show wpAny _ X.A.in1 (seqItems? (.ref S) >>= _) _ _ _
 refine wpAny_bind (wpAny_seqItems gS rfl ?_)
 show wpAny _ X.A.in1 (tryCatch (pyNext (.ref J)) _ >>= _) _ _ _
 cases ds with
 |nil=>
  have hm:some d0=some dm:=hm
  cases hm
  refine wpAny_bind (wpAny_tryCatch (wpAny_pyNext_list_end (I.ok.hd hc) a5 a1.isList (by simp at Y ⊢;simp[Y]) fun h' ac=>?_))
  refine wpAny_bind (wpAny_rule (wpAny_pure ?_))
  have I9:=I0.turnedL (h':=h') (fp:=[J]) (t':=s.toks) (fun b o j e=>ac b o (by simpa using j) e) (fun b j=>by rw[List.mem_singleton.mp j];exact fI)
  exact hQ x0 U F H _ I9 r0 (Ext.refl sf) p0
 |cons d ds=>
  obtain⟨x,hx,px⟩:=rs.get (i:=0) (d:=d) rfl
  obtain⟨v,hv,rx⟩:=Z.get hx
  unfold maxD at hm
  dsimp only at hm
  cases hkd:N0 d with
  |none=>rw[hkd]at hm;cases hm
  |some kd=>
   rw[hkd]at hm
   dsimp only at hm
   refine wpAny_bind (wpAny_tryCatch (wpAny_pyNext_list_item a5 a1.isList (by simpa using hv) fun h1 a4 s1=>?_))
   have I1:=I0.turnedL (h':=h1) (t':=s.toks) (fp:=[J]) (fun b o j e=>s1.extBut b o (by simpa using j) e) (fun b j=>by rw[List.mem_singleton.mp j];exact fI)
   have ae:h1.get? S=some (seqObj "list" #[] 0):=s1.extBut _ _ (Ne.symm O) gS
   obtain⟨oI,eI,cI,dI⟩:=id a4
   have Ip:=I1.pin2 fI fS eI ae (fun v z=>by rw[dI]at z;cases z) (fun v z=>by cases z)
   show wpAny _ X.A.in1 (tryCatch (holding [v] (call (.builtin "len") [v])) _ >>= _) _ _ _
   refine wpAny_bind (wpAny_tryCatch (wpAny_holding (wpAny_mono (yx4 (pins++[(J,oI),(S,seqObj "list" #[] 0)]) σ H F _ x v d kd Ip sf px rx hkd) (fun w s2 hw=>?_) fun _ _ z=>z.elim)))
   obtain⟨y,F2,H2,I2,a7,x2,a8⟩:=hw
   have pI:=I2.pin (J,oI) (by simp)
   have pS:=I2.pin (S,seqObj "list" #[] 0) (by simp)
   have ag:Inv X pins σ H2 s2:=I2.unpinned
   have af:FpOk X pins H2 J:=fI.now pI.2.1
   have a6:FpOk X pins H2 S:=fS.now pS.2.1
   have s3:=Heap.SameBut.update s2.heap S (Obj.mapSeq fun _=>#[v,w])
   obtain⟨c2,ad⟩:∃ c2,(s2.heap.update S (Obj.mapSeq fun _=>#[v,w])).get? S=some (seqObj "list" #[v,w] c2):=⟨_,get?_update_seq pS.1 fun _=>#[v,w]⟩
   show wpAny _ X.A.in1 (updateSeq S (fun _=>#[v,w]) >>= _) _ _ _
   refine wpAny_bind (wpAny_updateSeq pS.1 rfl ?_)
   rw[G]
   have I3:Inv X pins σ H2 { s2 with heap:=s2.heap.update S (Obj.mapSeq fun _=>#[v,w]),toks:=s2.toks }:=ag.turnedL (fp:=[S]) (fun b o j e=>(s3.2 b (by simpa using j)).trans e) (fun b j=>by rw[List.mem_singleton.mp j];exact a6)
   refine wpAny_pure ⟨plainId_quiet PySem.F.plain_max_loop _,yo1 hc hu (ds:=d::ds) (dm:=dm) O ab aa _ 0 H2 F2 H F _ x y v w d kd c2 _ rfl (by simp) I3 x2 (x2.hh.seq sq) (rs.mono x2.ff) ⟨oI,(s3.2 J O).trans pI.1,cI,dI⟩ ad af a6 rx (px.mono x2.ff) a7 a8 hm fun x v F' H' s' a b c d=>hQ x v F' H' s' a b c d⟩
@[irreducible] noncomputable def P6 (m:ML)(md:ME):ME:=fun ρ=>(m ρ).bind fun ds=>(md ρ).bind fun d0=>maxD ds d0
theorem zw1 {m:ML}{j:ME}{ρ:Ro}{g:D}(h:P6 m j ρ=some g):∃ ds z,m ρ=some ds/\j ρ=some z/\maxD ds z=some g:=by
 unfold P6 at h
 cases h1:m ρ with
 |none=>rw[h1]at h;cases h
 |some d=>
  cases h2:j ρ with
  |none=>rw[h1,h2]at h;cases h
  |some e=>rw[h1,h2]at h;exact⟨d,e,rfl,rfl,h⟩
theorem zg3 {m:ML}{j:ME}{ρ:Ro}{ds:List D}{z:D}(h1:m ρ=some ds)(h2:j ρ=some z):P6 m j ρ=maxD ds z:=by
 unfold P6
 rw[h1,h2];rfl
theorem zb9 {p pf kp z pos:Pos}{e ed:Expr}{m:ML}{md:ME}(hc:X.calm=true)(hu:X.A.units+64<cLine)(hg:Gl X "max")(hm:X.mg "max"=none)(Y:Gl X "len")(U:X.mg "len"=none)(ha:PB X e m)(hd:PD X ed md)
  (hs:starEach (e::[]) X.env=(false,eval e X.env)::starEach [] X.env:=by rfl):
  PD X (.Call (.Name "max" p) [e] [⟨some "key",.Name "len" pf,kp⟩,⟨some "default",ed,z⟩] pos) (P6 m md):=by
 intro pins s σ H Q I h
 obtain⟨F0,H0,F,ρ,g,rl,em,q0⟩:=h
 obtain⟨ds,d0,h1,h2,h3⟩:=zw1 em
 refine wpAny_Call_Name_kw (W6 I hg hm PyProof.Rows.boot_max ?_ (by decide) (by decide))
 have A:=m9 ha pa_nil hs pos pins s σ H (fun vs H1=>∃ p xs F1,vs=[.ref p]/\Ext F H F1 H1/\SqL X.K H1 p xs/\Reps X.K F1 xs ds) I ⟨F0,H0,F,ρ,ds,rl,h1,fun p xs F1 H1 N s1 r1=>⟨p,xs,F1,rfl,N,s1,r1⟩⟩
 refine callWith_kw (thn A fun us s1 j=>?_) (by rw[hs];rfl) (by rw[hs];rfl)
 obtain⟨vs,H1,I1,r1,p,xs,F1,Z,N,sq,rs⟩:=j
 subst Z
 obtain⟨u,rfl,ru⟩:=T9 r1
 cases ru
 show wpAny _ _ (evalAll ((do let v ← eval (.Name "len" pf) X.env;standAt pos;pure v)::(backToKw pos (keywordEach [⟨some "default",ed,z⟩] X.env)).map (·.2))) _ _ s1
 refine wpAny_evalAll_cons (wpAny_bind (W6 I1 Y U boot_len (wpAny_bind (wpAny_standAt (wpAny_pure ?_))) (by decide) (by decide)))
 have B:=C3 (nm:=some "default") (kpos:=z) hd zc8 pos pins s1 σ H1 (fun vs H2=>∃ y F2,vs=[y]/\Ext F1 H1 F2 H2/\Rep X.K F2 y d0) I1 ⟨F0,H0,F1,ρ,d0,rl.go N,h2,fun y F2 H2 G r2=>⟨y,F2,rfl,G,r2⟩⟩
 refine thn B fun us s2 j=>?_
 obtain⟨vs,H2,I2,r2,y,F2,Z,G,p0⟩:=j
 subst Z
 obtain⟨u2,rfl,O⟩:=T9 r2
 exact yd5 hc hu I2 G.fh (G.hh.seq sq) (rs.mono G.ff) O p0 h3 fun x v F' H' s' I' rx x3 px=>⟨x,H',I',rx,q0 x F' H' ((N.trans G).trans x3) px⟩
end
end
section
section
variable {X:Cx}{pins:List (Addr×Obj)}{σ:St}
end
section
variable {X:Cx}
end
end
section
section
variable {X:Cx}{pins:List (Addr×Obj)}{σ:St}
end
end
end L2
namespace L2
open List
open PySem PySem.Spec PyProof.Rows PySem.Builtin PySem.Builtin.Str
section
section
variable {X:Cx}{a b c e o:Expr}{ma mb mo:ME}{pos:Pos}
end
end
section
section
variable {X:Cx}{a b c e o:Expr}{ma mb mo:ME}{pos:Pos}
end
end
end L2
namespace L2
open List
open PySem PySem.Spec PyProof.Rows
section
theorem zq8 {src:List (Option Nat)}{σ:St}{i k:Nat}{v:V}(h:src[i]? =some (some k))(hv:σ[k]? =some (some v)):(blk0 src σ)[i]? =some (some v):=by
 unfold blk0
 rw[getElem?_map,h]
 simp only[Option.map_some,Option.bind_some,hv];rfl
section
variable {X:Cx}{a b c e o:Expr}{ma mb mo:ME}{pos:Pos}{st:Stmt}
end
end
section
section
variable {prog:Program}{w:World}{A:Around}{E:Value->Shared->Prop}{s:Shared}{l:Addr}{xs:Array (Int×Tok)}
end
section
variable {X:Cx}{a b c e o:Expr}{ma mb mo:ME}{pos:Pos}{st:Stmt}
end
section
variable {X:Cx}{a b c e:Expr}{na nb:MEm}{pos:Pos}{st:Stmt}{es:List Expr}{E:XK}{mf:MF}{m:MLm}
@[irreducible] noncomputable def O9 (f:MF)(m:MLm):MEm:=fun ρ=>match m ρ with
 |some (ds,ρ1)=>(match f ds with |some (.sh d)=>some (d,ρ1)|some (.fr es)=>some (.lst es,ρ1)|_=>none)
 |none=>none
theorem C4 {n:Nat}(h:∀ t,PA X es t->PE X e (zh2 (spR X.K n mf) [] E t))(Y:es.length=n)(ha:PAm X es m)(hm:∀ ρ ds ρ',m ρ=some (ds,ρ')->ds.length=es.length):PDm X e (O9 mf m):=(h _ ha).imp fun σ H Q z=>by
 obtain⟨F0,H0,F,ρ,d,ρ',U,e,q⟩:=z
 unfold O9 at e
 split at e
 .rename_i ds ρ1 h1
  refine⟨F0,H0,F,ρ,ds,ρ1,U,h1,fun vs F1 H1 j s1 r1=>?_⟩
  show spR X.K n mf (vs++[]) H1 Q E
  rw[append_nil]
  refine⟨by rw[r1.length,hm ρ ds ρ1 h1,Y],F1,ds,?_⟩
  split at e
  .rename_i d' h2
   cases e
   exact⟨_,j.fh,r1,h2,fun v F2 H2 G r2=>q v F2 H2 (j.go G) (s1.trans G.ff) r2⟩
  .rename_i es' h2
   cases e
   refine⟨_,j.fh,r1,h2,fun p xs F2 H2 G hp O Z r2=>?_⟩
   have N:=G.freeze O hp Z
   exact q _ (upd F2 p (.lst xs)) H2 (j.go N) (s1.trans N.ff) (.lst (SqL.of y2) (r2.mono ((Same.refl F2).put O)))
  .cases e
 .cases e
noncomputable abbrev MBm:=Ro->Option (Bool×Ro)
def TCm (K:W.Frag)(c:MBm):TT:=fun σ H Q=>∃ F0 H0 F ρ b ρ',Rl K F0 H0 F H σ ρ/\c ρ=some (b,ρ')/\∀ F' H',Rl K F0 H0 F' H' σ ρ'->Same F F'->Q b H'
@[irreducible] noncomputable def Z2 (x:MEm):MBm:=fun ρ=>match x ρ with |some (.bl b,ρ1)=>some (b,ρ1)|_=>none
theorem za8 {op:CmpOp}{r:R2}{f:D->D->Option D}(N:OpR X (compareOp op) r)(O:OpD X.K r f)(ha:PDm X a na)(U:PDm X b nb)(hm:behindInMarks op b=false):PT X (.Compare a [op] [b] pos) (TCm X.K (Z2 (m2m f na nb))):=(zt5 N ha U hm).imp fun σ H Q j=>by
 obtain⟨F0,H0,F,ρ,g,ρ',G,e,q⟩:=j
 unfold Z2 at e
 split at e
 .rename_i k ρ1 hk
  cases e
  refine ye3 O ⟨F0,H0,F,ρ,.bl g,ρ',G,hk,fun v F' H' z s' r=>?_⟩
  cases r
  exact⟨_,rfl,q F' H' z s'⟩
 .cases e
@[irreducible] noncomputable def mifm (c:MBm)(x y:MS):MS:=fun ρ=>match c ρ with |some (true,ρ1)=>x ρ1|some (false,ρ1)=>y ρ1|none=>none
theorem L7 {ca:MBm}{x y:List Stmt}{mx N:MS}(Y:PT X c (TCm X.K ca))(U:PSsd X x mx)(O:PSsd X y N):PSd X (.If c x y pos) (mifm ca mx N):=(yq2 Y U O).imp fun D σ H z=>by
 obtain⟨F0,H0,F,ρ,o,G,e,ok⟩:=z
 unfold mifm at e
 split at e
 .rename_i ρ1 h1
  exact⟨F0,H0,F,ρ,_,ρ1,G,h1,fun F1 H1 j s1=>iteT ⟨F0,H0,F1,ρ1,o,j,e,ok.mono s1⟩⟩
 .rename_i ρ1 h1
  exact⟨F0,H0,F,ρ,_,ρ1,G,h1,fun F1 H1 j s1=>iteF ⟨F0,H0,F1,ρ1,o,j,e,ok.mono s1⟩⟩
 .cases e
end
end
section
section
variable {X:Cx}{a b c e:Expr}{na nb:MEm}{pos:Pos}{st:Stmt}{es:List Expr}{m:MLm}
end
noncomputable def j9 (elt:MEm):List D->Ro->List D->Option (List D×Ro)
 |[],ρ,acc=>some (acc,ρ)
 |d::ds,ρ,acc=>match elt (ρ.set 0 (some (.sh d)))with
  |some (x,ρ1)=>if acc.length<sizeLine then j9 elt ds ρ1 (acc++[x])else none
  |none=>none
theorem Rl.rebaseB {K:W.Frag}{F1 F H B:Hp}{σ:St}{ρ:Ro}{p:Addr}{xs ys:List V}(r:Rl K F1 (upd B p (.lst xs)) F H σ ρ)(G:F p=none):Rl K F1 (upd B p (.lst ys)) F (upd H p (.lst ys)) σ ρ:=by
 have ne:∀ q,upd B p (.lst xs) q=none->q≠p:=fun q z w=>by rw[w,y2]at z;cases z
 refine⟨⟨r.ext.ff,fun b u e=>?_,r.fh.put G,fun b e n=>?_,r.ext.nf⟩,r.len,r.sh,fun i ds e=>?_,r.inj,fun i q ds e=>?_,r.obn,r.ob1⟩
 .by_cases hb:b=p
  .subst hb;rw[y2]at e ⊢;exact e
  .rw[y3 hb]at e ⊢
   exact r.ext.hh b u (by rw[y3 hb];exact e)
 .have hb:b≠p:=fun w=>by rw[w,G]at n;exact n rfl
  have:=r.ext.new b e n
  rw[y3 hb]at this ⊢;exact this
 .obtain⟨q,zs,a,b,c,d,z⟩:=r.own i ds e
  have j:=ne q z
  rw[y3 j]at z
  exact⟨q,zs,a,b,by rw[y3 j];exact c,d,by rw[y3 j];exact z⟩
 .obtain⟨a,b,z,zs,c,d⟩:=r.ob i q ds e
  have j:=ne q z
  rw[y3 j]at z
  exact⟨a,b,by rw[y3 j];exact z,zs,by rw[y3 j];exact c,d⟩
theorem zq5 {j:MEm}{d:D}{ds acc:List D}{ρ:Ro}{r:List D×Ro}(h:j9 j (d::ds) ρ acc=some r):∃ x ρ1,j (ρ.set 0 (some (.sh d)))=some (x,ρ1)/\acc.length<sizeLine/\j9 j ds ρ1 (acc++[x])=some r:=by
 rw[j9]at h
 cases h4:j (ρ.set 0 (some (.sh d)))with
 |none=>rw[h4]at h;cases h
 |some z=>
  rw[h4]at h
  obtain⟨x,ρ1⟩:=z
  simp only at h
  by_cases G:acc.length<sizeLine
  .rw[if_pos G]at h;exact⟨x,ρ1,rfl,G,h⟩
  .rw[if_neg G]at h;cases h
theorem Rl.stayB {K:W.Frag}{F1 F H B:Hp}{σ:St}{ρ:Ro}{p:Addr}{o:HO}(r:Rl K F1 (upd B p o) F H σ ρ)(h:F1 p=none):F p=none:=by
 cases w:F p with
 |none=>rfl
 |some u=>have:=r.ext.new p h (by rw[w];simp);rw[y2]at this;cases this
theorem E9 {K:PySem.W.Frag}{src:List (Option Nat)}{a3:MEm}{its out r1:List D}{ρb a7:Ro}{j:Nat}{F1 H1:Hp}{σ:St}{p rr:Addr}{J:It}{Q:VK}(f1:Same F1 H1)(hp:H1 p=none)(a9:rr≠p)(hj:j≠0)(I:ItD K F1 J its)(rb:Rl K F1 (upd (del H1 rr) p (.lst [])) F1 (upd H1 p (.lst [])) (blk0 src σ) a7)(a4:(blk0 src σ)[j]? =some (some (.ref rr)))(h2:j9 a3 its a7 []=some (out,ρb))(h3:ρb[j]? =some (some (.own r1)))
  (q:∀ xs zs F' H',Ext F1 (del H1 rr) F' H'->F' rr=none->H' rr=some (.lst zs)->Reps K F' zs r1->F' p=some (.lst xs)->Reps K F' xs out->Q (.ref p) H'):
  ∃ W:Nat->Nat->St->Hp->Prop,(∃ m,W 0 m (blk0 src σ) (upd H1 p (.lst [])))/\∀ i m U H',W i m U H'->
   (J.stop i H'/\Q (.ref p) H')\/(J.go i H'/\∃ N:St->Hp->Prop,(∀ O H2,N O H2->∃ m',m'<m/\W (i+1) m' O H2)/\∀ x H2,J.yld i H' x H2->Y2 0 x U H2 fun Z H3=>tYes Z H3 fun b H4=>
    if b=true then TDm K a3 Z H4 fun y H5=>∃ xs,H5 p=some (.lst xs)/\xs.length<sizeLine/\N Z (upd H5 p (.lst (xs++[y])))else N Z H4):=by
 have ac:F1 p=none:=f1.free hp
 have ab:del H1 rr p=none:=by rw[W7 (Ne.symm a9)];exact hp
 refine⟨fun k m U H'=>∃ F' ρ' acc xs,Rl K F1 (upd (del H1 rr) p (.lst xs)) F' H' U ρ'/\Reps K F' xs acc/\U[j]? =some (some (.ref rr))/\k<=its.length/\m=its.length-k/\j9 a3 (its.drop k) ρ' acc=some (out,ρb),
  ⟨_,F1,_,[],[],rb,.nil,a4,Nat.zero_le _,rfl,h2⟩,?_⟩
 clear rb a4 h2
 rintro k m U H' ⟨F',ρ',acc,xs,z,ra,a8,ae,rfl,e'⟩
 by_cases Y:k<its.length
 .right
  have hd:=getElem?_eq_getElem Y
  refine⟨I.go k F' H' z.ext.ff z.fh Y,fun O H2=>∃ F2 a1 G a2,Rl K F1 (upd (del H1 rr) p (.lst a2)) F2 H2 O a1/\Reps K F2 a2 G/\O[j]? =some (some (.ref rr))/\j9 a3 (its.drop (k+1)) a1 G=some (out,ρb),?_,fun x H2 y=>?_⟩
  .rintro O H2 ⟨F2,a1,G,a2,b1,b2,b3,b4⟩
   exact⟨its.length-(k+1),Nat.sub_lt_sub_left Y (Nat.lt_succ_self k),F2,a1,G,a2,b1,b2,b3,Y,rfl,b4⟩
  .obtain⟨F2,x2,r2⟩:=I.yld k F' H' x H2 _ z.ext.ff z.fh hd y
   rw[i9 hd]at e'
   obtain⟨d,ρ1,h4,hz,e4⟩:=zq5 e'
   clear e' I q y hd h3
   unfold Y2 tYes
   refine iteT ⟨F1,_,F2,_,d,ρ1,(z.go x2).set r2,h4,fun v F5 H5 a5 s5 r5=>?_⟩
   exact⟨xs,a5.ext.hh p _ y2,by rw[ra.length];exact hz,F5,ρ1,acc++[d],xs++[v],a5.rebaseB (a5.stayB ac),(ra.mono (x2.ff.trans s5)).append (.cons r5 .nil),by rw[getElem?_set_ne (Ne.symm hj)];exact a8,e4⟩
 .left
  have aa:k=its.length:=Nat.le_antisymm ae (Nat.le_of_not_lt Y)
  subst aa
  rw[drop_length]at e'
  have e':some (acc,ρ')=some (out,ρb):=e'
  cases e'
  refine⟨I.stop F' H' z.ext.ff z.fh,?_⟩
  have a6:=z.stayB ac
  obtain⟨q',zs,ad,f2,f3,f4,f5⟩:=z.own j r1 h3
  rw[a8]at ad;cases ad
  have x:Ext F1 (del H1 rr) F' H':=⟨z.ext.ff,fun b u hb=>z.ext.hh b u (by
    have:b≠p:=fun w=>by rw[w,ab]at hb;cases hb
    rw[y3 this];exact hb),z.fh,fun b hb n=>by
    have nb:b≠p:=fun w=>by rw[w,a6]at n;exact n rfl
    have:=z.ext.new b hb n
    rwa [y3 nb]at this,z.ext.nf⟩
  have s2:Same F' (upd F' p (.lst xs)):=(Same.refl F').put a6
  exact q xs zs _ H' (x.freeze a6 ab (z.ext.hh p _ y2)) (by rw[y3 a9];exact f2) f3 (f4.mono s2) y2 (ra.mono s2)
section
variable {X:Cx}{pos:Pos}
end
end
section
section
variable {X:Cx}{e:Expr}{na:MEm}{pos:Pos}{st:Stmt}{es:List Expr}{m:ML}{mf:MG}{E:XK}
noncomputable def zx7:List D->Bool
 |[]=>true
 | .int _::r=>zx7 r
 |_=>false
theorem zy5 {K:W.Frag}{F F':Hp}:∀{vs:List V}{ds:List D},zx7 ds=true->Reps K F vs ds->Reps K F' vs ds
 |_,[],_,.nil=>.nil
 |_,d::ds,h,.cons r rr=>by
  cases r with
  |int k=>exact .cons (.int k) (zy5 h rr)
  |_=>cases h
open Classical in
end
end
section
noncomputable def rng3:List D->Option (List D)
 |[.int i,.int j,.int k]=>if -1<=i/\i<2^61/\j= -1/\k= -1 then some (M2 (i+1).toNat)else none
 |_=>none
theorem zy3 (i:Int)(h:-1<=i):Builtin.Range.rangeSize i (-1) (-1)=((i+1).toNat:Int):=by
 unfold Builtin.Range.rangeSize
 rw[if_neg (by decide)]
 split
 .rw[show (-(-1):Int)=1 by decide,Int.ediv_one];omega
 .omega
theorem zh5 (i:Int)(h:-1<=i)(h2:i<2^61):Builtin.Range.small i (-1) (-1)=true:=by
 unfold Builtin.Range.small
 rw[zy3 i h]
 unfold Builtin.Range.rangeFitsLong
 simp
 omega
section
variable {X:Cx}
theorem zh8 {tg a b c:Expr}{m:ML}{p pos:Pos}(hg:Gl X "range")(hm:X.mg "range"=none)(ha:PAs X [a,b,c] m)(he:starEach [a,b,c] X.env=(false,eval a X.env)::starEach [b,c] X.env:=by rfl)(Z:(backTo pos (starEach [b,c] X.env)).any (·.1)=false:=by rfl):
  PId X tg (.Call (.Name "range" p) [a,b,c] [] pos) (u8 rng3 m):=by
 intro pins s σ H R I h
 obtain⟨F0,H0,F,ρ,its,rl,e,q⟩:=h
 obtain⟨ds,h1,h2⟩:=X2 e
 refine Call_ (W6 I hg hm boot_range (PyProof.Rows.callWith_type1 (thn (ha pos pins s σ H (fun vs H1=>∃ i:Int,vs=[.int i,.int (-1),.int (-1)]/\ -1<=i/\i<2^61/\R (Itdn i (i+1).toNat) H1) I ⟨F0,H0,F,ρ,ds,rl,h1,fun vs F1 H1 x1 r1=>?_⟩) fun us s1 ⟨vs,H1,I1,r1,q1⟩=>?_) he Z))
 .unfold rng3 at h2
  split at h2
  .rename_i i j k
   split at h2
   .rename_i hk
    obtain⟨G,Y,rfl,rfl⟩:=hk
    cases h2
    cases r1 with
    |cons r rr=>
     cases rr with
     |cons r2 rr=>
      cases rr with
      |cons U rr=>
       cases rr;cases r;cases r2;cases U
       refine⟨i,rfl,G,Y,q _ F1 H1 x1 ?_⟩
       have:i=((i+1).toNat:Int)-1:=by omega
       have z:=zk8 (K:=X.K) (F:=F1) (n:=(i+1).toNat)
       rw[<-this]at z
       exact z
   .cases h2
  .cases h2
 .obtain⟨i,e,G,Y,q⟩:=q1
  subst e
  cases r1 with
  |cons r rr=>
   cases rr with
   |cons r2 rr=>
    cases rr with
    |cons U rr=>
     cases rr
     obtain⟨t,rfl⟩:=r
     obtain⟨O,rfl⟩:=r2
     obtain⟨N,rfl⟩:=U
     refine call_range_3 (by decide) ?_ (Or.inl (PyProof.noPylong_small (by omega)))
     refine wpAny_pyIter_range (IsRange.new ..) (zh5 i G Y) ?_
     have I2:Inv X pins σ H1 { s1 with heap:=s1.heap.push { cls:=.type "range",data:=.fields #[.int i t,.int (-1) O,.int (-1) N] },toks:=s1.toks }:=I1.kept fun b o e=>Heap.get?_push_of_some _ e
     refine⟨_,[(s1.heap.push { cls:=.type "range",data:=.fields #[.int i t,.int (-1) O,.int (-1) N] }).objs.size],_,_,H1,rfl,
      I2.kept (t':=s1.toks) fun b o e=>Heap.get?_push_of_some _ e,zz8 _ i (i+1).toNat,?_,fun b hb=>?_,q⟩
     .have e1:i+((0:Nat):Int)*(-1)=i:=by simp
      have e2:(((i+1).toNat:Nat):Int)-((0:Nat):Int)=Builtin.Range.rangeSize i (-1) (-1):=by rw[zy3 i G];simp
      show IsRangeIter _ _ (i+((0:Nat):Int)*(-1)) ((((i+1).toNat:Nat):Int)-((0:Nat):Int)) (-1)
      rw[e1,e2]
      exact Heap.get?_push_size _ rfl
     .have e:b=(s1.heap.push { cls:=.type "range",data:=.fields #[.int i t,.int (-1) O,.int (-1) N] }).objs.size:=by simpa using hb
      subst e
      exact I2.fpOk (Nat.le_refl _) (I2.hok.fresh (Nat.le_refl _))
end
end
section
section
variable {X:Cx}{e:Expr}{pos:Pos}
@[irreducible] noncomputable def many (m:ML):ME:=fun ρ=>match m ρ with |some ds=>(match O3 ds with |some ns=>some (.bl (ns.any fun i=>i != 0))|none=>none)|none=>none
end
end
section
section
variable {X:Cx}{e:Expr}{ma:ME}{pos:Pos}
end
end
section
section
variable {X:Cx}{e:Expr}{ma:ME}{pos:Pos}
end
end
section
section
variable {prog:Program}{w:World}{A:Around}{E:Value->Shared->Prop}{s:Shared}
end
section
variable {X:Cx}
end
end
section
section
variable {X:Cx}{a:Expr}{na:MEm}{pos:Pos}{ca:MBm}
theorem C6 (ha:PDm X a na)(N:∀ j,isTrue a X.env j=(do let v ← j;standAt a.pos;holding [v] (truthy v)):=by intro _;rfl):PT X a (TCm X.K (Z2 na)):=(zo7 ha N).imp fun σ H Q O=>by
 obtain⟨F0,H0,F,ρ,b,ρ',G,e,q⟩:=O
 unfold Z2 at e
 split at e
 .rename_i b' ρ1 h1
  cases e
  refine⟨F0,H0,F,ρ,_,_,G,h1,fun x F1 H1 z s1 r1=>⟨b,?_,q F1 H1 z s1⟩⟩
  cases r1
  rfl
 .cases e
@[irreducible] noncomputable def zv7 (c:MBm):MBm:=fun ρ=>match c ρ with |some (b,ρ1)=>some (!b,ρ1)|none=>none
theorem zs2 (ha:PT X a (TCm X.K ca)):PT X (.UnaryOp .Not a pos) (TCm X.K (zv7 ca)):=(yk6 ha).imp fun σ H Q G=>by
 obtain⟨F0,H0,F,ρ,b,ρ',z,e,q⟩:=G
 unfold zv7 at e
 split at e
 .rename_i k ρ1 h1
  cases e
  exact⟨F0,H0,F,ρ,k,ρ',z,h1,fun F1 H1 j s1=>q F1 H1 j s1⟩
 .cases e
end
end
section
section
variable {X:Cx}{a b:Expr}{m:ML}{pos:Pos}
end
end
end L2
namespace L2
open List
open PySem
section
section
open PySem.Sem (wp)
end
end
end L2
namespace L2
open List
open PySem PySem.Spec PyProof.Rows
section
section
variable {M:Model}{A:Around}{E:Value->Shared->Prop}{s:Shared}{base:Heap}{env:Env}{outer:List Env}{L e:Addr}
end
end
end L2
namespace L2
open List
open PySem PySem.Spec PyProof.Rows PySem.W PySem.Builtin PySem.Builtin.ObjectAttr PySem.Builtin.Getset_descriptor
section
structure XCls (K:W.Frag)(C:Addr):Prop where
 ga:findIn K (.ref C) "__getattribute__"=some (some (.builtin "BaseException.__getattribute__"))
 nog:findIn K (.ref C) "__getattr__"=some none
 cl:findIn K (.ref C) "__class__"=some (some (.builtin "object.__class__"))
 ob:mroIn K C (.type "object")=some true
 be:mroIn K C (.type "BaseException")=some true
section
variable {prog:Program}{w:World}{A:Around}{E:Value->Shared->Prop}{K:W.Frag}{x C:Addr}{ox:Obj}{h:Heap}{g:Array GenState}{d:Drawn}{t:Nat}{os:OsState}
end
end
end L2
namespace L2
open List
open PySem PySem.Spec PyProof.Rows
section
structure Flown (P:Program)(w:World)(outer:List Env)(H:Hp)(s:Shared)(H':Hp)(B h':Heap):Prop where
 un:Un (frs outer) [] H H' s.heap h'
 ok:HOk P w H' h'
 st:B.StaysIn h'
 trk:∀ b o,H' b=some o->∃ ob,B.get? b=some ob
 old:∀ b o,s.heap.get? b=some o->b∉frs outer->∃ ob,B.get? b=some ob
section
variable {P:Program}{w:World}{outer:List Env}{H H':Hp}{s:Shared}{B h1 h2 base:Heap}
end
structure Top (X:Cx):Prop where
 stk:X.stack=X.env::X.outer
 frm:X.env.frame=some X.env.locals
 ex:X.ex=[]
section
variable {X:Cx}{pins:List (Addr×Obj)}{σ:St}{H H':Hp}{s:Shared}{B h1:Heap}
end
def XC (K:W.Frag)(c:Str)(C:Addr):Prop:=W.nsIn K mainGlobals c=some (some (.ref C))/\xz7 K C=some c
section
variable {X:Cx}{pins:List (Addr×Obj)}{σ:St}{H:Hp}{s:Shared}{W:Str->St->Hp->Prop}
end
section
variable {X:Cx}{pins pins':List (Addr×Obj)}{σ:St}{H:Hp}{s:Shared}{E:Value->Shared->Prop}
variable (nx:X.xe=noE)
include nx
end
end
section
section
variable {X:Cx}{st:Stmt}{rest:List Stmt}{e c:Expr}{pos:Pos}
end
end
section
section
variable {X:Cx}{pins:List (Addr×Obj)}{E:Value->Shared->Prop}(nx:X.xe=noE)
include nx
end
section
variable {X:Cx}{e c:Expr}{pos:Pos}{st:Stmt}{rest:List Stmt}
end
end
section
section
variable {X:Cx}{pins:List (Addr×Obj)}{σ:St}{H:Hp}{s:Shared}{a C:Addr}
end
section
variable {X:Cx}{pos np hpos:Pos}
end
end
section
structure RoomN (k:Nat)(A:Around):Prop where
 dp:A.depth+3*k+5<recursionLimit
 un:A.units+16*k+200<cLine
structure FnOkN (P:Program)(w:World)(K:W.Frag)(mg:Str->Option Value)(base:Heap)(CX:CXT)(k:Nat)(f:Addr)(fd:FuncData)(ps:List Str)(sp:Sp):Prop where
 len:∀ vs H Q E,sp vs H Q E->vs.length=ps.length
 run:∀(A:Around)(outer:List Env)(s:Shared)(H:Hp)(args:Args)(us:List Value)(vs:List V)(Q:VK)(E:XK),RoomN k A->Env0 P w K mg base A outer s H->BindsTo s fd args (ps.zip us)->Vals vs us->sp vs H Q E->
  codeAny (model P w) A (.call (.ref f) args) (CR CX outer P w H s Q E) s
section
variable {X:Cx}{CX:CXT}{k:Nat}{f:Addr}{fd:FuncData}{ps:List Str}{sp:Sp}{dvs:List V}{ds:List Value}{E:XK}{x:Str}{p pos:Pos}{e:Expr}{es:List Expr}{t:TA}
end
section
variable {X:Cx}{a:Expr}{ma:ME}{pos:Pos}
end
end
section
section
variable {X:Cx}{a:Expr}{ma:ME}{pos:Pos}
theorem vals_refs:∀{j:List Addr}{us:List Value},Vals (j.map V.ref) us->us=j.map Value.ref
 |[],_,.nil=>rfl
 |_::_,_,.cons r t=>by
  cases r
  rw[vals_refs t];rfl
open PySem.SeqAt in
end
end
section
@[irreducible] noncomputable def U0 (src:List (Option Nat))(mi:ML)(i j:Nat)(elt:MEm):MEm:=fun ρ=>match ρ[i]? with
 |some (some (.ob rr r0))=>(match mi ρ with
  |some its=>(match j9 elt its ((Y3 src ρ).set j (some (.own r0))) []with
   |some (out,ρb)=>(match ρb[j]? with |some (some (.own r1))=>some (.lst out,ρ.set i (some (.ob rr r1)))|_=>none)
   |none=>none)
  |none=>none)
 |_=>none
theorem Rl.blkJB {K:W.Frag}{F0 H0 F H:Hp}{σ:St}{ρ:Ro}(r:Rl K F0 H0 F H σ ρ){src:List (Option Nat)}{i j:Nat}{r0:List D}{rr p:Addr}(hs:src[j]? =some (some i))(hi:ρ[i]? =some (some (.ob rr r0)))(hp:H p=none):
  Rl K F (upd (del H rr) p (.lst [])) F (upd H p (.lst [])) (blk0 src σ) ((Y3 src ρ).set j (some (.own r0))):=by
 obtain⟨rb,no⟩:=r.blk src
 obtain⟨ha,b,z,xs,c,d⟩:=r.ob i rr r0 hi
 have N:rr≠p:=fun w=>by rw[w,hp]at c;cases c
 have Z:F p=none:=r.fh.free hp
 have only:∀ k ds,((Y3 src ρ).set j (some (S.own r0)))[k]? =some (some (.own ds))->k=j/\ds=r0:=fun k ds e=>by
  by_cases O:j=k
  .subst O
   have U:j<(Y3 src ρ).length:=by
    rcases Nat.lt_or_ge j (Y3 src ρ).length with w|w
    .exact w
    .rw[getElem?_eq_none (by simpa using w)]at e;cases e
   rw[getElem?_set_self U]at e;cases e;exact⟨rfl,rfl⟩
  .rw[getElem?_set_ne O]at e;exact absurd e (no k ds).1
 have G:∀(k:Nat)(q:Addr)(ds:List D),((Y3 src ρ).set j (some (S.own r0)))[k]? ≠some (some (S.ob q ds)):=fun k q ds e=>(no k ds).2 q (t9 e).2
 refine⟨⟨Same.refl F,fun b u e=>?_,r.fh.put Z,fun b e n=>absurd e n,fun _ _ _ z=>z⟩,by simp[rb.len],fun k d' e=>?_,fun k ds e=>?_,fun k l q ds es Y e1 e2=>?_,fun k q ds e=>absurd e (G k q ds),fun k l q ds es e=>absurd e (G k q ds),fun k l q q' ds es e=>absurd e (G k q ds)⟩
 .by_cases hb:b=p
  .subst hb;rw[y2]at e ⊢;exact e
  .rw[y3 hb]at e ⊢
   by_cases hr:b=rr
   .rw[hr,M8]at e;cases e
   .rw[W7 hr]at e;exact e
 .by_cases O:j=k
  .subst O
   have U:j<(Y3 src ρ).length:=by
    rcases Nat.lt_or_ge j (Y3 src ρ).length with w|w
    .exact w
    .rw[getElem?_eq_none (by simpa using w)]at e;cases e
   rw[getElem?_set_self U]at e;cases e
  .rw[getElem?_set_ne O]at e
   exact rb.sh k d' e
 .obtain⟨rfl,rfl⟩:=only k ds e
  exact⟨rr,xs,zq8 hs ha,b,by rw[y3 N];exact c,d,by rw[y3 N,M8]⟩
 .exact absurd ((only k ds e1).1.trans (only l es e2).1.symm) Y
theorem yv4 {K:W.Frag}{src:List (Option Nat)}{Z:ML}{i j:Nat}{G:MEm}(hs:src[j]? =some (some i))(hj:j≠0){σ:St}{H:Hp}{Q:VK}(h:TDm K (U0 src Z i j G) σ H Q):J9 src (TId K Z) (Y2 0) tYes (TDm K G) σ H Q:=by
 obtain⟨F0,H0,F,ρ,g,ρ',Y,e,q⟩:=h
 unfold U0 at e
 split at e
 .rename_i rr r0 hi
  split at e
  .rename_i its h1
   split at e
   .rename_i out ρb h2
    split at e
    .rename_i r1 h3
     cases e
     refine⟨F0,H0,F,ρ,its,Y,h1,fun J F1 H1 N I p hp=>?_⟩
     have z:=Y.go N
     obtain⟨a1,a2,a5,ys,a3,a4⟩:=z.ob i rr r0 hi
     have O:rr≠p:=fun w=>by rw[w,hp]at a3;cases a3
     exact E9 N.fh hp O hj I (z.blkJB hs hi hp) (zq8 hs a1) h2 h3 fun xs zs F' H' U b1 b2 b3 b4 b5=>q _ _ _ (z.lentB hi U b1 b2 b3) (N.ff.trans U.ff) (.lst (SqL.of b4) b5)
    .cases e
   .cases e
  .cases e
 .cases e
section
variable {X:Cx}{pos:Pos}
end
end
section
section
variable {X:Cx}{v:Expr}{mv:ME}{pos:Pos}
end
end
section
noncomputable def insI (a:Int):List Int->List Int
 |[]=>[a]
 |b::r=>if a<=b then a::b::r else b::insI a r
noncomputable def O1:List Int->List Int
 |[]=>[]
 |a::r=>insI a (O1 r)
theorem K8 (a:Int):∀ r,(insI a r).Perm (a::r)
 |[]=>.refl _
 |b::r=>by
  unfold insI
  split
  .exact .refl _
  .exact((K8 a r).cons b).trans (.swap a b r)
theorem O0:∀ ns,(O1 ns).Perm ns
 |[]=>.refl _
 |a::r=>(K8 a _).trans ((O0 r).cons a)
theorem K7 (a:Int):∀ r,r.Pairwise (·<=·)->(insI a r).Pairwise (·<=·)
 |[],_=>pairwise_singleton ..
 |b::r,h=>by
  have h':=List.pairwise_cons.mp h
  unfold insI
  split
  .rename_i hab
   refine List.pairwise_cons.mpr ⟨fun x j=>?_,h⟩
   rcases List.mem_cons.mp j with e|j
   .rw[e];exact hab
   .exact Int.le_trans hab (h'.1 x j)
  .rename_i hab
   refine List.pairwise_cons.mpr ⟨fun x j=>?_,K7 a r h'.2⟩
   rcases List.mem_cons.mp ((K8 a r).mem_iff.mp j)with e|j
   .rw[e];omega
   .exact h'.1 x j
theorem N1:∀ ns,(O1 ns).Pairwise (·<=·)
 |[]=>.nil
 |a::r=>K7 a _ (N1 r)
theorem L4:∀{a b:List Int},a.Perm b->a.Pairwise (·<=·)->b.Pairwise (·<=·)->a=b
 |[],b,p,_,_=>(List.Perm.nil_eq p)
 |x::a,[],p,_,_=>absurd p.length_eq (by simp)
 |x::a,y::b,p,ha,hb=>by
  have h1:=List.pairwise_cons.mp ha
  have h2:=List.pairwise_cons.mp hb
  have e:x=y:=by
   have m1:x∈y::b:=p.mem_iff.mp mem_cons_self
   have m2:y∈x::a:=p.mem_iff.mpr mem_cons_self
   rcases List.mem_cons.mp m1 with e|m1
   .exact e
   .rcases List.mem_cons.mp m2 with e|m2
    .exact e.symm
    .have:=h2.1 x m1
     have:=h1.1 y m2
     omega
  subst e
  rw[L4 ((perm_cons x).mp p) h1.2 h2.2]
theorem N2 (ns:List Int):(O1 ns).length=ns.length:=(O0 ns).length_eq
theorem K4:∀{ns:List Int}{its:List Value},Vals (ns.map V.int) its->IntsAre its ns
 |[],_,.nil=>.nil
 |n::ns,_,.cons r t=>by
  obtain⟨k,rfl⟩:=r
  exact .cons n k (K4 t)
theorem G8:∀{ns:List Int}{its:List Value},IntsAre its ns->Vals (ns.map V.int) its
 |[],_,.nil=>.nil
 |n::ns,_,.cons _ k t=>.cons ⟨k,rfl⟩ (G8 t)
section
variable {X:Cx}{e:Expr}{pos:Pos}
def yg3 (K:W.Frag):List V->Hp->VK->Prop:=fun vs H Q=>∃(p:Addr)(ns:List Int),vs=[.ref p]/\SqL K H p (ns.map V.int)/\ns.length<64/\∀ q,H q=none->Q (.ref q) (upd H q (.lst ((O1 ns).map V.int)))
theorem zq7:Q8 X (.builtin "sorted") (yg3 X.K):=by
 intro pins s σ H xs us Q I r h
 obtain⟨p,ns,rfl,N,G,q⟩:=h
 obtain⟨u,rfl,O⟩:=T9 r
 cases O
 obtain⟨its,vr,pl,hz⟩:=I.list N
 have U:its.length=ns.length:=by rw[<-vr.length,length_map]
 refine sorted_ints pl.isList (K4 vr) (by rw[U];exact G) fun out j a1 a2 Z=>?_
 have e:j=O1 ns:=L4 (a2.trans (O0 ns).symm) Z (N1 ns)
 subst e
 obtain⟨c,Y⟩:=sortedAll_at s.heap its out
 refine⟨.ref (s.heap.objs.size+1),_,I.laid (t':=s.toks) (o:=.lst ((O1 ns).map V.int)) (fun b o z=>sortedAll_old z) (Nat.le_succ _) ⟨?_,out.toList,c,G8 a1,by simpa using Y⟩,rfl,q _ (I.hok.fresh (Nat.le_succ _))⟩
 rw[length_map,N2,sizeLine_eq];omega
@[irreducible] noncomputable def B6 (m:ML):ML:=fun ρ=>match m ρ with |some ds=>(match O3 ds with |some ns=>if ns.length<64 then some ((O1 ns).map .int)else none|none=>none)|none=>none
theorem zb4 {p:Pos}{m:ML}(O:Gl X "sorted")(hm:X.mg "sorted"=none)(ha:PB X e m)(hv:bootBuiltins "sorted"=some (.builtin "sorted"))(hs:starEach (e::[]) X.env=(false,eval e X.env)::starEach [] X.env:=by rfl)(U:starEach [e] X.env=(false,eval e X.env)::starEach [] X.env:=by rfl)(G:(backTo pos (starEach [] X.env)).any (·.1)=false:=by rfl):PF X (.Call (.Name "sorted" p) [e] [] pos) (B6 m):=
 (Z0 zq7 O hm hv (m9 ha pa_nil hs) (by decide) (by decide) U G).imp fun σ H Q j=>by
  obtain⟨F0,H0,F,ρ,g,N,e,q⟩:=j
  unfold B6 at e
  cases h1:m ρ with
  |none=>simp only[h1]at e;cases e
  |some ds=>
   simp only[h1]at e
   cases h2:O3 ds with
   |none=>simp only[h2]at e;cases e
   |some ns=>
    simp only[h2]at e
    split at e
    .rename_i h64
     cases e
     refine⟨F0,H0,F,ρ,ds,N,h1,fun p xs F1 H1 z s1 r1=>⟨p,ns,rfl,?_,h64,fun w hw=>?_⟩⟩
     .rw[<-O2 r1 h2];exact s1
     .exact q w _ F1 _ (z.trans (Ext.own z.fh hw)) (z.hh.free hw) (z.fh.free hw) y2 (L6 _)
    .cases e
end
end
section
section
variable {X:Cx}{pins:List (Addr×Obj)}{σ:St}
set_option maxHeartbeats 8000000 in
theorem yy0 {q:Addr}{mk:D->Option D}(hk:zp7 X (.ref q) mk)(hc:X.calm=true)(hu:X.A.units+64<cLine){l I S:Addr}{xs:List V}{ds:List D}{kw:List (Str×Value)}{dm:D}(a3:I≠S)(ai:l≠I)(ah:l≠S):
  ∀(r j:Nat)(H F H0 F0:Hp)(s:Shared)(xb yb:V)(Y Z:Value)(db N:D)(c:Nat)(R:Result->Shared->Prop),
   ds.length-(j+1)=r->j+1<=ds.length->Inv X pins σ H s->Ext F0 H0 F H->SqT X.K H l xs->Reps X.K F xs ds->s.heap.IsTupleIter I l (j+1)->s.heap.get? S=some (seqObj "list" #[Y,Z] c)->FpOk X pins H I->FpOk X pins H S->
   RelV xb Y->Rep X.K F xb db->RelV yb Z->Rep X.K F yb N->minF mk (ds.drop (j+1)) db N=some dm->
   (∀ x v F' H' s',Inv X pins σ H' s'->RelV x v->Ext F0 H0 F' H'->Rep X.K F' x dm->R (.ok (.ret v)) s')->
   codeAny (model X.prog X.w) X.A (.builtin "min.loop" ⟨[.ref I,.ref q,.ref S],kw⟩) R s:=by
 have U:(toString "min"++toString ".loop":String)="min.loop":=by decide
 intro r
 induction r with
 |zero=>
  intro j H F H0 F0 s xb yb Y Z db N c R hr hj I' ext sq rs a2 hS fI fS rb pb ry py hm hR
  have ad:j+1=ds.length:=by omega
  obtain⟨its,vr,pl,_⟩:=I'.tuple sq
  have zl:its.length=ds.length:=by rw[<-vr.length,rs.length]
  rw[ad,drop_length]at hm
  have hm:some db=some dm:=hm
  cases hm
  refine codeAny_builtin PySem.F.entry_min_loop ?_
  rw[Around.under_plainId PySem.F.plain_min_loop _]
  show wpAny _ X.A.in1 (seqItems? (.ref S) >>= _) _ _ _
  refine wpAny_bind (wpAny_seqItems hS rfl ?_)
  show wpAny _ X.A.in1 (tryCatch (pyNext (.ref I)) _ >>= _) _ _ _
  refine wpAny_bind (wpAny_tryCatch (wpAny_pyNext_tuple_end (I'.ok.hd hc) a2 pl (by simp;omega) fun h' a8=>?_))
  have ag:h'.get? S=some (seqObj "list" #[Y,Z] c):=a8 S _ (Ne.symm a3) hS
  have s1:=Heap.SameBut.update h' S (Obj.mapSeq fun _=>(#[]:Array Value))
  show wpAny _ X.A.in1 (updateSeq S (fun _=>#[]) >>= _) _ _ _
  refine wpAny_bind ?_
  refine wpAny_updateSeq ag rfl (wpAny_bind (wpAny_letGo (wpAny_pure ?_)))
  have I9:Inv X pins σ H { s with heap:=h'.update S (Obj.mapSeq fun _=>(#[]:Array Value)),toks:=s.toks }:=I'.turnedL (fp:=[I,S]) (t':=s.toks) (fun b o G e=>by
   simp only[mem_cons,not_mem_nil,or_false,not_or]at G
   exact(s1.2 b G.2).trans (a8 b o G.1 e)) (fun b G=>by
   simp only[mem_cons,not_mem_nil,or_false]at G
   rcases G with rfl|rfl <;> assumption)
  exact hR xb Y F H _ I9 rb ext pb
 |succ r ih=>
  intro j H F H0 F0 s xb yb Y Z db N c R hr hj I' ext sq rs a2 hS fI fS rb pb ry py hm hR
  have a1:j+1<ds.length:=by omega
  obtain⟨its,vr,pl,_⟩:=I'.tuple sq
  have zl:its.length=ds.length:=by rw[<-vr.length,rs.length]
  obtain⟨d,hd⟩:∃ d,ds[j+1]? =some d:=⟨_,getElem?_eq_getElem a1⟩
  obtain⟨x,hx,px⟩:=rs.get hd
  obtain⟨v,hv,rx⟩:=vr.get hx
  rw[i9 hd]at hm
  unfold minF at hm
  cases hkd:mk d with
  |none=>rw[hkd]at hm;cases hm
  |some kd=>
   rw[hkd]at hm
   dsimp only at hm
   refine codeAny_builtin PySem.F.entry_min_loop ?_
   rw[Around.under_plainId PySem.F.plain_min_loop _]
   show wpAny _ X.A.in1 (seqItems? (.ref S) >>= _) _ _ _
   refine wpAny_bind (wpAny_seqItems hS rfl ?_)
   show wpAny _ X.A.in1 (tryCatch (pyNext (.ref I)) _ >>= _) _ _ _
   refine wpAny_bind (wpAny_tryCatch (wpAny_pyNext_tuple_item a2 pl (by simpa using hv) fun h1 aa s1=>?_))
   have I1:Inv X pins σ H { s with heap:=h1,toks:=s.toks }:=I'.turnedL (fp:=[I]) (fun b o G e=>s1.extBut b o (by simpa using G) e) (fun b G=>by rw[List.mem_singleton.mp G];exact fI)
   have af:h1.get? S=some (seqObj "list" #[Y,Z] c):=s1.extBut _ _ (Ne.symm a3) hS
   obtain⟨oI,eI,cI,dI⟩:=id aa
   have Ip:=I1.pin2 fI fS eI af (fun v z=>by rw[dI]at z;cases z) (fun v z=>by cases z)
   show wpAny _ X.A.in1 (tryCatch (holding [v] (call (.ref q) [v])) _ >>= _) _ _ _
   refine wpAny_bind (wpAny_tryCatch (wpAny_holding (wpAny_mono (hk (pins++[(I,oI),(S,seqObj "list" #[Y,Z] c)]) σ H F _ x v d kd Ip ext.fh px rx hkd) (fun w s2 hw=>?_) fun _ _ z=>z.elim)))
   obtain⟨y,F2,H2,I2,a6,O,a7⟩:=hw
   have pI:=I2.pin (I,oI) (by simp)
   have pS:=I2.pin (S,seqObj "list" #[Y,Z] c) (by simp)
   have a5:Inv X pins σ H2 s2:=I2.unpinned
   have ac:FpOk X pins H2 I:=fI.now pI.2.1
   have a4:FpOk X pins H2 S:=fS.now pS.2.1
   have a9:s2.heap.IsTupleIter I l (j+1+1):=⟨oI,pI.1,cI,dI⟩
   cases hlt8:ltF 8 kd N with
   |none=>rw[hlt8]at hm;cases hm
   |some bt=>
    rw[hlt8]at hm
    have ab:=yo5 a5 8 (A:=X.A.in1) (by show X.A.units+1+8<cLine;omega) (a7.mono O.fh) ((py.mono O.ff).mono O.fh) a6 ry hlt8
    show wpAny _ X.A.in1 (tryCatch (holding [v,w] (richCompare .Lt w Z >>= _)) _ >>= _) _ _ _
    refine wpAny_bind (wpAny_tryCatch (wpAny_holding (wpAny_bind (ab X.prog X.w _ _ ?_))))
    refine wpAny_bind (wpAny_holding (wpAny_truthy_bool ?_))
    refine wpAny_bind (wpAny_letGo (wpAny_pure ?_))
    cases bt with
    |true=>
     have s3:=Heap.SameBut.update s2.heap S (Obj.mapSeq fun _=>#[v,w])
     obtain⟨c2,ae⟩:∃ c2,(s2.heap.update S (Obj.mapSeq fun _=>#[v,w])).get? S=some (seqObj "list" #[v,w] c2):=⟨_,get?_update_seq pS.1 fun _=>#[v,w]⟩
     simp only[if_true]
     refine wpAny_bind ?_
     refine wpAny_updateSeq pS.1 rfl (wpAny_bind (wpAny_letGo ?_))
     rw[U]
     have I3:Inv X pins σ H2 { s2 with heap:=s2.heap.update S (Obj.mapSeq fun _=>#[v,w]),toks:=s2.toks }:=a5.turnedL (fp:=[S]) (fun b o G e=>(s3.2 b (by simpa using G)).trans e) (fun b G=>by rw[List.mem_singleton.mp G];exact a4)
     refine wpAny_pure ⟨plainId_quiet PySem.F.plain_min_loop _,ih (j+1) H2 F2 H0 F0 _ x y v w d kd c2 R (by omega) a1 I3 (ext.trans O) (O.hh.seqT sq) (rs.mono O.ff) ⟨oI,(s3.2 I a3).trans pI.1,cI,dI⟩ ae ac a4 rx (px.mono O.ff) a6 a7 hm hR⟩
    |false=>
     simp only[Bool.false_eq_true,if_false]
     refine wpAny_bind (wpAny_letGo ?_)
     rw[U]
     refine wpAny_pure ⟨plainId_quiet PySem.F.plain_min_loop _,ih (j+1) H2 F2 H0 F0 _ xb yb Y Z db N c R (by omega) a1 a5 (ext.trans O) (O.hh.seqT sq) (rs.mono O.ff) a9 pS.1 ac a4 rb (pb.mono O.ff) ry (py.mono O.ff) hm hR⟩
theorem zp3 (a b v:Value):argsOk "min" ⟨[a,b],[(Str.ofString "key",v)]⟩:=by unfold argsOk;kernel_rfl
set_option maxHeartbeats 8000000 in
theorem yp7 {q:Addr}{mk:D->Option D}(hk:zp7 X (.ref q) mk)(hc:X.calm=true)(hu:X.A.units+64<cLine){xs:List V}{ds:List D}{dm:D}{N U:Hp}{j:Shared}{E:Value->Shared->Prop}{Q:Value->Shared->Prop}
  {u1 u2:Value} (Ib:Inv X pins σ N j) (a6:Same U N) (vb:Vals xs [u1,u2]) (a8:Reps X.K U xs ds) (hm:minN mk ds=some dm)
  (hQ:∀ x v F' H' s',Inv X pins σ H' s'->RelV x v->Ext U N F' H'->Rep X.K F' x dm->Q v s'):
  wpAny (model X.prog X.w) X.A (call (.builtin "min") [u1,u2] [(Str.ofString "key",.ref q)]) Q E j:=by
 have G:(toString "min"++toString ".loop":String)="min.loop":=by decide
 refine kmk_tree PySem.F.kind_min PySem.F.plain_min PySem.F.entry_min (zp3 _ _ _) ?_
 show wpAny _ X.A.in1 (Builtin.Builtins.bindParams "min" ["key","default"] 0 ⟨[],[(Str.ofString "key",.ref q)]⟩ >>= _) _ _ j
 refine wpAny_bind (wpAny_of_eq (show Builtin.Builtins.bindParams "min" ["key","default"] 0 ⟨[],[(Str.ofString "key",.ref q)]⟩=pure [some (.ref q),none]from rfl) ?_)
 have ab:xs.length=2:=vb.length
 have ag:N j.heap.objs.size=none:=Ib.hok.fresh (Nat.le_refl _)
 show wpAny _ X.A.in1 (newTuple [u1,u2] >>= _) _ _ j
 refine wpAny_bind (wpAny_newTuple ?_ (by show 2<=sizeLine;rw[sizeLine_eq];decide))
 have I:Inv X pins σ (upd N j.heap.objs.size (.tup xs)) { j with heap:=j.heap.push (seqObj "tuple" #[u1,u2] 0),toks:=j.toks }:=Ib.laid (t':=j.toks) (fun b u e=>Heap.get?_push_of_some _ e) (Nat.le_refl _) ⟨by rw[ab,sizeLine_eq];decide,_,vb,⟨_,Heap.get?_push_size _ rfl,rfl,_,rfl⟩⟩
 have xb:Ext U N (upd U j.heap.objs.size (.tup xs)) (upd N j.heap.objs.size (.tup xs)):=Ext.laid a6 ag
 have sf:Same (upd U j.heap.objs.size (.tup xs)) (upd N j.heap.objs.size (.tup xs)):=xb.fh
 have sq:SqT X.K (upd N j.heap.objs.size (.tup xs)) j.heap.objs.size xs:=SqT.of y2
 have rs:Reps X.K (upd U j.heap.objs.size (.tup xs)) xs ds:=a8.mono xb.ff
 have hQ:∀ x v F' H' s',Inv X pins σ H' s'->RelV x v->Ext (upd U j.heap.objs.size (.tup xs)) (upd N j.heap.objs.size (.tup xs)) F' H'->Rep X.K F' x dm->Q v s':=fun x v F' H' s' a b c d=>hQ x v F' H' s' a b (xb.trans c) d
 generalize upd U j.heap.objs.size (.tup xs)=F at*
 generalize upd N j.heap.objs.size (.tup xs)=H at*
 show wpAny _ X.A.in1 (pyIter (.ref j.heap.objs.size) >>= _) _ _ { j with heap:=j.heap.push (seqObj "tuple" #[u1,u2] 0),toks:=j.toks }
 generalize j.heap.objs.size=l at*
 generalize ({ j with heap:=j.heap.push (seqObj "tuple" #[u1,u2] 0),toks:=j.toks }:Shared)=s at*
 obtain⟨its,vr,pl,_⟩:=I.tuple sq
 have a2:=pl
 obtain⟨ol,ac,_⟩:=id a2
 have a3:l<s.heap.objs.size:=Heap.lt_size ac
 refine wpAny_bind (wpAny_pyIter_tuple a2 ?_)
 refine wpAny_bind (wpAny_newList ?_ (Nat.zero_le _))
 rw[G]
 refine wpAny_pure ⟨plainId_quiet PySem.F.plain_min_loop _,?_⟩
 generalize Y:({ cls:=.type "tuple_iterator",data:=.fields #[.ref l,.int 0 0] }:Obj)=oI0
 have hS:(s.heap.push oI0).objs.size=s.heap.objs.size+1:=size_push' ..
 have ae:l≠s.heap.objs.size:=Nat.ne_of_lt a3
 have ad:l≠(s.heap.push oI0).objs.size:=by rw[hS];exact Nat.ne_of_lt (Nat.lt_succ_of_lt a3)
 have Z:s.heap.objs.size≠(s.heap.push oI0).objs.size:=by rw[hS];exact Nat.ne_of_lt (Nat.lt_succ_self _)
 have gI:((s.heap.push oI0).push (seqObj "list" #[] 0)).get? s.heap.objs.size=some oI0:=Heap.get?_push_of_some _ (Heap.get?_push_size _ (by rw[<-Y];rfl))
 have gS:((s.heap.push oI0).push (seqObj "list" #[] 0)).get? (s.heap.push oI0).objs.size=some (seqObj "list" #[] 0):=Heap.get?_push_size _ rfl
 have fI:FpOk X pins H s.heap.objs.size:=I.fpOk (Nat.le_refl _) (I.hok.fresh (Nat.le_refl _))
 have fS:FpOk X pins H (s.heap.push oI0).objs.size:=I.fpOk (by rw[hS];exact Nat.le_succ _) (I.hok.fresh (by rw[hS];exact Nat.le_succ _))
 have I0:Inv X pins σ H { s with heap:=(s.heap.push oI0).push (seqObj "list" #[] 0),toks:=s.toks }:=I.turnedL (fp:=[]) (fun b o _ e=>Heap.get?_push_of_some _ (Heap.get?_push_of_some _ e)) (fun b O=>by cases O)
 generalize (s.heap.push oI0).objs.size=S at*
 generalize hI:s.heap.objs.size=J at*
 generalize (s.heap.push oI0).push (seqObj "list" #[] 0)=h0 at*
 have af:h0.IsTupleIter J l 0:=⟨_,gI,by rw[<-Y],by rw[<-Y];rfl⟩
 have zl:its.length=ds.length:=by rw[<-vr.length,rs.length]
 obtain⟨its',a1,aa,_⟩:=I0.tuple sq
 have al:its'.length=ds.length:=by rw[<-a1.length,rs.length]
 refine codeAny_builtin PySem.F.entry_min_loop ?_
 rw[Around.under_plainId PySem.F.plain_min_loop _]
 show wpAny _ X.A.in1 (seqItems? (.ref S) >>= _) _ _ _
 refine wpAny_bind (wpAny_seqItems gS rfl ?_)
 show wpAny _ X.A.in1 (tryCatch (pyNext (.ref J)) _ >>= _) _ _ _
 cases ds with
 |nil=>cases hm
 |cons d ds=>
  obtain⟨x,hx,px⟩:=rs.get (i:=0) (d:=d) rfl
  obtain⟨v,hv,rx⟩:=a1.get hx
  unfold minN at hm
  dsimp only at hm
  cases hkd:mk d with
  |none=>rw[hkd]at hm;cases hm
  |some kd=>
   rw[hkd]at hm
   dsimp only at hm
   refine wpAny_bind (wpAny_tryCatch (wpAny_pyNext_tuple_item af aa (by simpa using hv) fun h1 a4 s1=>?_))
   have I1:=I0.turnedL (h':=h1) (t':=s.toks) (fp:=[J]) (fun b o O e=>s1.extBut b o (by simpa using O) e) (fun b O=>by rw[List.mem_singleton.mp O];exact fI)
   have ai:h1.get? S=some (seqObj "list" #[] 0):=s1.extBut _ _ (Ne.symm Z) gS
   obtain⟨oI,eI,cI,dI⟩:=id a4
   have Ip:=I1.pin2 fI fS eI ai (fun v z=>by rw[dI]at z;cases z) (fun v z=>by cases z)
   show wpAny _ X.A.in1 (tryCatch (holding [v] (call (.ref q) [v])) _ >>= _) _ _ _
   refine wpAny_bind (wpAny_tryCatch (wpAny_holding (wpAny_mono (hk (pins++[(J,oI),(S,seqObj "list" #[] 0)]) σ H F _ x v d kd Ip sf px rx hkd) (fun w s2 hw=>?_) fun _ _ z=>z.elim)))
   obtain⟨y,F2,H2,I2,a7,x2,a9⟩:=hw
   have pI:=I2.pin (J,oI) (by simp)
   have pS:=I2.pin (S,seqObj "list" #[] 0) (by simp)
   have ak:Inv X pins σ H2 s2:=I2.unpinned
   have aj:FpOk X pins H2 J:=fI.now pI.2.1
   have a5:FpOk X pins H2 S:=fS.now pS.2.1
   have s3:=Heap.SameBut.update s2.heap S (Obj.mapSeq fun _=>#[v,w])
   obtain⟨c2,ah⟩:∃ c2,(s2.heap.update S (Obj.mapSeq fun _=>#[v,w])).get? S=some (seqObj "list" #[v,w] c2):=⟨_,get?_update_seq pS.1 fun _=>#[v,w]⟩
   show wpAny _ X.A.in1 (updateSeq S (fun _=>#[v,w]) >>= _) _ _ _
   refine wpAny_bind (wpAny_updateSeq pS.1 rfl ?_)
   rw[G]
   have I3:Inv X pins σ H2 { s2 with heap:=s2.heap.update S (Obj.mapSeq fun _=>#[v,w]),toks:=s2.toks }:=ak.turnedL (fp:=[S]) (fun b o O e=>(s3.2 b (by simpa using O)).trans e) (fun b O=>by rw[List.mem_singleton.mp O];exact a5)
   refine wpAny_pure ⟨plainId_quiet PySem.F.plain_min_loop _,yy0 hk hc hu (ds:=d::ds) (dm:=dm) Z ae ad _ 0 H2 F2 H F _ x y v w d kd c2 _ rfl (by simp) I3 x2 (x2.hh.seqT sq) (rs.mono x2.ff) ⟨oI,(s3.2 J Z).trans pI.1,cI,dI⟩ ah aj a5 rx (px.mono x2.ff) a7 a9 hm fun x v F' H' s' a b c d=>hQ x v F' H' s' a b c d⟩
@[irreducible] noncomputable def K2 (mk:D->Option D)(m:ML):ME:=fun ρ=>(m ρ).bind fun ds=>minN mk ds
theorem yz7 {mk:D->Option D}{m:ML}{ρ:Ro}{ds:List D}(h1:m ρ=some ds):K2 mk m ρ=minN mk ds:=by
 unfold K2
 rw[h1];rfl
theorem zn4 {q:Addr}{mk:D->Option D}{x:Str}{p pf kp pos:Pos}{e1 e2:Expr}{m:ML}(hk:zp7 X (.ref q) mk)(hc:X.calm=true)(hu:X.A.units+64<cLine)(hg:Gl X "min")(hm:X.mg "min"=none)(Y:Gl X x)(O:X.mg x=some (.ref q))(ha:PAs X [e1,e2] m)(hl:∀ ρ ds,m ρ=some ds->ds.length=2)
  (Z:(x==("__debug__":Str))=false:=by decide) (hs:starEach [e1,e2] X.env=(false,eval e1 X.env)::starEach [e2] X.env:=by rfl) (N:(backTo pos (starEach [e2] X.env)).any (·.1)=false:=by rfl):
  PD X (.Call (.Name "min" p) [e1,e2] [⟨some "key",.Name x pf,kp⟩] pos) (K2 mk m):=by
 intro pins s σ H Q I h
 obtain⟨F0,H0,F,ρ,g,rl,em,q0⟩:=h
 unfold K2 at em
 cases h1:m ρ with
 |none=>rw[h1]at em;cases em
 |some ds=>
  rw[h1,Option.bind_some]at em
  refine wpAny_Call_Name_kw (W6 I hg hm PyProof.Rows.boot_min ?_ (by decide) (by decide))
  have A:=ha pos pins s σ H (fun vs H1=>∃ F1,Ext F H F1 H1/\Reps X.K F1 vs ds) I ⟨F0,H0,F,ρ,ds,rl,h1,fun vs F1 H1 z r1=>⟨F1,z,r1⟩⟩
  refine callWith_kw (thn A fun us s1 j=>?_) (by rw[hs];rfl) (by rw[hs];show ((false,eval e1 X.env)::backTo pos (starEach [e2] X.env)).any (·.1)=false;rw[any_cons,N];rfl)
  obtain⟨vs,H1,I1,r1,F1,z,rs⟩:=j
  have B:=C3 (nm:=some "key") (kpos:=kp) (zb6 (v:=.ref q) (pos:=pf) Y O rfl Z) zc8 pos pins s1 σ H1 (fun vs H2=>vs=[.ref q]/\H2=H1) I1 ⟨rfl,rfl⟩
  refine thn B fun a1 s2 j=>?_
  obtain⟨ws,H2,I2,r2,ev,eH⟩:=j
  subst ev eH
  obtain⟨w1,rfl,G⟩:=T9 r2
  cases G
  have U:us.length=2:=by rw[<-r1.length,rs.length,hl ρ ds h1]
  match us,U,r1 with
  |[u1,u2],_,r1=>exact yp7 hk hc hu I2 z.fh r1 rs em fun x v F' H' s' I' rx x3 px=>⟨x,H',I',rx,q0 x F' H' (z.trans x3) px⟩
end
end
section
inductive RPs (K:W.Frag)(F H:Hp):List Addr->List (List D)->Prop
 |nil:RPs K F H [] []
 |cons {q:Addr} {xs:List V} {ds:List D} {qs:List Addr} {dss:List (List D)}:H q=some (.lst xs)->Reps K F xs ds->RPs K F H qs dss->RPs K F H (q::qs) (ds::dss)
section
variable {K:W.Frag}{F H F' H':Hp}
theorem RPs.mono (e:Same F F')(k:Same H H'):∀{qs:List Addr}{dss:List (List D)},RPs K F H qs dss->RPs K F' H' qs dss
 |_,_,.nil=>.nil
 |_,_,.cons h r t=>.cons (k _ _ h) (r.mono e) (RPs.mono e k t)
theorem RPs.keep (e:Same F F'):∀{qs:List Addr}{dss:List (List D)},(∀ q∈qs,∀ o,H q=some o->H' q=some o)->RPs K F H qs dss->RPs K F' H' qs dss
 |_,_,_,.nil=>.nil
 |_,_,k,.cons h r t=>.cons (k _ mem_cons_self _ h) (r.mono e) (RPs.keep e (fun q j=>k q (mem_cons_of_mem _ j)) t)
theorem RPs.snoc {q:Addr}{xs:List V}{ds:List D}(h:H q=some (.lst xs))(r:Reps K F xs ds):∀{qs:List Addr}{dss:List (List D)},RPs K F H qs dss->RPs K F H (qs++[q]) (dss++[ds])
 |_,_,.nil=>.cons h r .nil
 |_,_,.cons a b t=>.cons a b (RPs.snoc h r t)
theorem RPs.length:∀{qs:List Addr}{dss:List (List D)},RPs K F H qs dss->qs.length=dss.length
 |_,_,.nil=>rfl
 |_,_,.cons _ _ t=>congrArg (·+1) (RPs.length t)
theorem RPs.get:∀{qs:List Addr}{dss:List (List D)}{i:Nat}{ds:List D},RPs K F H qs dss->dss[i]? =some ds->∃ q xs,qs[i]? =some q/\H q=some (.lst xs)/\Reps K F xs ds
 |_,_,_,_,.nil,e=>by simp at e
 |_,_,0,_,.cons a b _,e=>by simp at e;subst e;exact⟨_,_,rfl,a,b⟩
 |_,_,i+1,ds,.cons _ _ t,e=>by
  obtain⟨q,xs,h1,h2⟩:=RPs.get (i:=i) (ds:=ds) t (by simpa using e)
  exact⟨q,xs,by simpa using h1,h2⟩
theorem RPs.some:∀{qs:List Addr}{dss:List (List D)},RPs K F H qs dss->∀ q∈qs,∃ o,H q=some o
 |_,_,.cons a _ t,q,j=>by
  rcases List.mem_cons.mp j with e|j
  .rw[e];exact⟨_,a⟩
  .exact RPs.some t q j
end
noncomputable abbrev MP:=Ro->Option (List (List D))
structure Pots (K:W.Frag)(H F' H':Hp)(p:Addr)(qs:List Addr)(dss:List (List D)):Prop where
 hp:H p=none
 fp:F' p=none
 at':H' p=some (.lst (qs.map V.ref))
 new:∀ q∈qs,H q=none/\F' q=none
 nd:(p::qs).Nodup
 rep:RPs K F' H' qs dss
def TPt (K:W.Frag)(m:MP):TE:=fun σ H Q=>∃ F0 H0 F ρ dss,Rl K F0 H0 F H σ ρ/\m ρ=some dss/\∀ p qs F' H',Ext F H F' H'->Pots K H F' H' p qs dss->Q (.ref p) H'
def PP (X:Cx)(e:Expr)(m:MP):Prop:=PE X e (TPt X.K m)
theorem Ext.stays {F H F' H':Hp}{p:Addr}{o:HO}(x:Ext F H F' H')(z:F p=none)(j:H p=some o):F' p=none:=by
 cases q:F' p with
 |none=>rfl
 |some u=>have:=x.new p z (by rw[q];simp);rw[this]at j;cases j
section
variable {X:Cx}{a b c e:Expr}{pos:Pos}
noncomputable def yz9 (m:ML):MP:=fun ρ=>(m ρ).map fun ds=>[ds]
theorem yg7 {m:ML}(ha:PF X a m)(hs:starEach (a::[]) X.env=(false,eval a X.env)::starEach [] X.env:=by rfl):PP X (.List [a] pos) (yz9 m):=(zb5 (m9 ha pa_nil hs)).imp fun σ H Q j=>by
 obtain⟨F0,H0,F,ρ,dss,Y,e,q⟩:=j
 unfold yz9 at e
 cases h1:m ρ with
 |none=>rw[h1]at e;cases e
 |some ds=>
  rw[h1]at e;cases e
  refine⟨F0,H0,F,ρ,ds,Y,h1,fun w xs F1 H1 N hw hF O U=>⟨by show 1<=sizeLine;rw[sizeLine_eq];decide,fun p hp=>?_⟩⟩
  have G:w≠p:=fun z=>by rw[z,hp]at O;cases O
  refine q p [w] F1 _ (N.trans (Ext.own N.fh hp)) ⟨N.hh.free hp,N.fh.free hp,y2,fun z Z=>?_,?_,.cons (by rw[y3 G];exact O) U .nil⟩
  .rw[List.mem_singleton.mp Z];exact⟨hw,hF⟩
  .simp only[nodup_cons,mem_singleton,not_mem_nil,not_false_eq_true,nodup_nil,and_true]
   exact fun z=>G z.symm
noncomputable def O4 (g:Tg)(elt:ML):List D->Ro->List (List D)->Option (List (List D))
 |[],_,acc=>some acc
 |it::its,ρ,acc=>match tgD g it ρ with
  |some ρ1=>(match elt ρ1 with
   |some ds=>if acc.length<sizeLine then O4 g elt its ρ1 (acc++[ds])else none
   |none=>none)
  |none=>none
noncomputable def U1 (src:List (Option Nat))(mi:ML)(g:Tg)(elt:ML):MP:=fun ρ=>(mi ρ).bind fun its=>O4 g elt its (Y3 src ρ) []
theorem yv2 {K:W.Frag}{src:List (Option Nat)}{mi:ML}{g:Tg}{a1:ML}{σ:St}{H:Hp}{Q:VK}(h:TPt K (U1 src mi g a1) σ H Q):J9 src (TId K mi) (TGd K g) (TC K cyes) (TF K a1) σ H Q:=by
 obtain⟨F0,H0,F,ρ,out,rl,e,q⟩:=h
 unfold U1 at e
 cases h1:mi ρ with
 |none=>rw[h1]at e;cases e
 |some its=>
  rw[h1]at e
  have e:O4 g a1 its (Y3 src ρ) []=some out:=e
  refine⟨F0,H0,F,ρ,its,rl,h1,fun J F1 H1 x1 I=>?_⟩
  intro p hp
  obtain⟨rb,no⟩:=(rl.go x1).blk src
  have af:F1 p=none:=x1.fh.free hp
  refine⟨fun i m ab H'=>∃ F' ρ' acc qs,Rl K F1 H1 F' H' ab ρ'/\NoOwn ρ'/\H' p=some (.lst (qs.map V.ref))/\F' p=none/\RPs K F' H' qs acc/\(∀ w∈qs,H1 w=none/\F' w=none)/\(p::qs).Nodup/\i<=its.length/\m=its.length-i/\O4 g a1 (its.drop i) ρ' acc=some out,
   ⟨_,F1,Y3 src ρ,[],[],rb.other no hp af,no,y2,af,.nil,(fun w hw=>by cases hw),by simp,Nat.zero_le _,rfl,e⟩,?_⟩
  rintro i m ab H' ⟨F',ρ',acc,qs,j,ai,a3,a9,ra,N,a7,ao,rfl,G⟩
  by_cases a8:i<its.length
  .right
   have hd:=getElem?_eq_getElem a8
   refine⟨I.go i F' H' j.ext.ff j.fh a8,fun aa H2=>∃ F2 a2 O Z,Rl K F1 H1 F2 H2 aa a2/\NoOwn a2/\H2 p=some (.lst (Z.map V.ref))/\F2 p=none/\RPs K F2 H2 Z O/\(∀ w∈Z,H1 w=none/\F2 w=none)/\(p::Z).Nodup/\O4 g a1 (its.drop (i+1)) a2 O=some out,?_,fun x H2 y=>?_⟩
   .rintro aa H2 ⟨F2,a2,O,Z,b1,b2,b3,b4,b5,b6,b7,b8⟩
    exact⟨its.length-(i+1),by omega,F2,a2,O,Z,b1,b2,b3,b4,b5,b6,b7,a8,rfl,b8⟩
   .obtain⟨F2,x2,r2⟩:=I.yld i F' H' x H2 _ j.ext.ff j.fh hd y
    rw[i9 hd]at G
    unfold O4 at G
    cases h2:tgD g its[i] ρ' with
    |none=>simp only[h2]at G;cases G
    |some ρ1=>
     simp only[h2]at G
     refine⟨F1,H1,F2,ρ',_,ρ1,j.go x2,r2,h2,fun F3 H3 an a4 x3=>?_⟩
     have ac:=ai.tg h2
     have ag:=x2.trans x3
     refine⟨F1,H1,F3,ρ1,true,a4,rfl,fun F4 H4 x4=>iteT ?_⟩
     have a5:=ag.trans x4
     cases h4:a1 ρ1 with
     |none=>simp only[h4]at G;cases G
     |some ds=>
      simp only[h4]at G
      split at G
      .rename_i hz
       refine⟨F1,H1,F4,ρ1,ds,a4.go x4,h4,fun w xs F5 H5 x5 hw al ak r5=>?_⟩
       have Y:=a5.trans x5
       have am:=Y.hh _ _ a3
       have ad:w≠p:=fun z=>by rw[z,a5.hh _ _ a3]at hw;cases hw
       have ah:RPs K F5 H5 qs acc:=ra.mono Y.ff Y.hh
       have aj:w∉qs:=fun z=>by
        obtain⟨o,ho⟩:=ra.some w z
        rw[a5.hh _ _ ho]at hw;cases hw
       refine⟨qs.map V.ref,am,by rw[length_map,ra.length];exact hz,F5,ρ1,acc++[ds],qs++[w],((a4.go x4).go x5).other ac hp (Y.stays a9 a3),ac,by rw[y2,map_append];rfl,Y.stays a9 a3,?_,fun z a6=>?_,?_,G⟩
       .refine((ah.snoc ak r5)).keep (Same.refl _) fun z a6 o ho=>?_
        have:z≠p:=by
         rcases List.mem_append.mp a6 with U|U
         .exact fun zz=>(List.nodup_cons.mp a7).1 (zz ▸ U)
         .rw[List.mem_singleton.mp U];exact ad
        rw[y3 this];exact ho
       .rcases List.mem_append.mp a6 with U|U
        .obtain⟨o,ho⟩:=ra.some z U
         exact⟨(N z U).1,Y.stays (N z U).2 ho⟩
        .rw[List.mem_singleton.mp U]
         exact⟨(a4.go x4).ext.hh.free hw,al⟩
       .have hn:=List.nodup_cons.mp a7
        refine List.nodup_cons.mpr ⟨fun z=>?_,List.nodup_append.mpr ⟨hn.2,by simp,fun a ha b hb=>?_⟩⟩
        .rcases List.mem_append.mp z with U|U
         .exact hn.1 U
         .exact ad (List.mem_singleton.mp U).symm
        .rw[List.mem_singleton.mp hb];exact fun zz=>aj (zz ▸ ha)
      .cases G
  .left
   have ae:i=its.length:=by omega
   subst ae
   rw[drop_length]at G
   have G:some acc=some out:=G
   cases G
   exact⟨I.stop F' H' j.ext.ff j.fh,q p qs F' H' (x1.trans j.ext) ⟨x1.hh.free hp,a9,a3,fun w hw=>⟨x1.hh.free (N w hw).1,(N w hw).2⟩,a7,ra⟩⟩
theorem yg8 {sc:Scope}{N:List Str}{src:List (Option Nat)}{tg j iter:Expr}{G:ML}{g:Tg}{z:ML}(B:Blk X sc N src)(Y:X.calm=true)
  (hi:PId X tg iter G) (O:∀ C fp s H,PGd (d6 X sc C N fp s H) tg g) (U:∀ C fp s H,PF (d6 X sc C N fp s H) j z)
  (hs:∀ x,foldedSetIterable iter X.env x=pure x:=by intro _;rfl):
  PP X (.ListComp j [⟨tg,iter,[],0⟩] sc pos) (U1 src G g z):=(zt8 (g:=TGd X.K g) (tc:=TC X.K cyes) (te:=TF X.K z) B Y hi (fun C fp s H=>O C fp s H) (fun C fp s H=>X5) (fun C fp s H=>U C fp s H) hs).imp fun _ _ _ h=>yv2 h
end
noncomputable abbrev MFP:=List D->Option (List (List D))
def spP (K:W.Frag)(n:Nat)(m:MFP):Sp:=fun vs H Q _=>vs.length=n/\∃ F ds dss,Same F H/\Reps K F vs ds/\m ds=some dss/\∀ p qs F' H',Ext F H F' H'->Pots K H F' H' p qs dss->Q (.ref p) H'
noncomputable def runP (n:Nat)(c:MB)(m1 m2:MP):MFP:=fun ds=>match c (w8 n ds)with
 |some true=>m1 (w8 n ds)
 |some false=>m2 (w8 n ds)
 |none=>none
theorem Fun.okP {P:Program}{w:World}{K:W.Frag}{mg:Str->Option Value}{base:Heap}{x qual:Str}{st:Stmt}{f:Addr}{fd:FuncData}{N ps:List Str}{k:Nat}{c e1 e2:Expr}{p1 p2 p3:Pos}{cc:MB}{m1 m2:MP}(Fn:Fun K x qual st f fd)(Sc:FnScope N ps (z9 st))
  (Y:j2 st=[.If c [.Return (some e1) p1] [] p2,.Return (some e2) p3])
  (hc:∀(cdv:Value)(A:Around)(outer:List Env)(s:Shared)(H:Hp)(E:XK),Room k (A.deeper (envOfC qual (z9 st) s.heap.objs.size f cdv))->PC' (cxOf CX0 P w K mg base N qual (z9 st) f cdv A outer s H E).nox c cc)
  (h1:∀(cdv:Value)(A:Around)(outer:List Env)(s:Shared)(H:Hp)(E:XK),Room k (A.deeper (envOfC qual (z9 st) s.heap.objs.size f cdv))->PP (cxOf CX0 P w K mg base N qual (z9 st) f cdv A outer s H E).nox e1 m1)
  (h2:∀(cdv:Value)(A:Around)(outer:List Env)(s:Shared)(H:Hp)(E:XK),Room k (A.deeper (envOfC qual (z9 st) s.heap.objs.size f cdv))->PP (cxOf CX0 P w K mg base N qual (z9 st) f cdv A outer s H E).nox e2 m2):
  FnOk P w K mg base CX0 (k+1) f fd ps (spP K ps.length (runP N.length cc m1 m2)):=by
 refine Fn.ok Sc (fun vs H Q E h=>h.1) fun cdv A outer s H vs Q E hr h=>?_
 obtain⟨hl,F,ds,dss,Z,rs,e,ok⟩:=h
 rw[Y]
 refine⟨_,M4 (yq2 (hc cdv A outer s H E hr) (D9 (F9 (h1 cdv A outer s H E hr))) pss_nil) (D9 (F9 (h2 cdv A outer s H E hr))),?_⟩
 have U:=M3 (N:=N) Z rs
 unfold runP at e
 cases q:cc (w8 N.length ds)with
 |none=>simp only[q]at e;cases e
 |some b=>
  simp only[q]at e
  refine⟨F,H,F,w8 N.length ds,b,U,q,fun F1 H1 j=>?_⟩
  cases b with
  |true=>
   refine iteT ⟨F,H,F1,_,dss,U.go j,e,fun p qs F2 H2 O pt=>?_⟩
   exact ok p qs F2 H2 (j.trans O) ⟨j.hh.free pt.hp,pt.fp,pt.at',fun z G=>⟨j.hh.free (pt.new z G).1,(pt.new z G).2⟩,pt.nd,pt.rep⟩
  |false=>
   refine iteF ⟨F,H,F1,_,dss,U.go j,e,fun p qs F2 H2 O pt=>?_⟩
   exact ok p qs F2 H2 (j.trans O) ⟨j.hh.free pt.hp,pt.fp,pt.at',fun z G=>⟨j.hh.free (pt.new z G).1,(pt.new z G).2⟩,pt.nd,pt.rep⟩
end
section
noncomputable def Hx (H0 H1:Hp)(A:List Addr):Hp:=fun b=>if b∈A then H1 b else H0 b
theorem zp8 {H0 H1:Hp}{A:List Addr}{b:Addr}(h:b∈A):Hx H0 H1 A b=H1 b:=if_pos h
theorem N8 {H0 H1:Hp}{A:List Addr}{b:Addr}(h:b∉A):Hx H0 H1 A b=H0 b:=if_neg h
theorem Ext.less {F0 H0 H0' F H:Hp}(s:Same H0 H0')(x:Ext F0 H0' F H):Ext F0 H0 F H:=⟨x.ff,s.trans x.hh,x.fh,fun b e n=>s.free (x.new b e n),x.nf⟩
section
variable {K:W.Frag}{F0 H0 H0' F H:Hp}{σ:St}{ρ:Ro}
theorem Rl.less (s:Same H0 H0')(r:Rl K F0 H0' F H σ ρ):Rl K F0 H0 F H σ ρ where
 ext:=r.ext.less s
 len:=r.len
 sh:=r.sh
 own:=fun i ds h=>let ⟨p,xs,a,b,c,d,z⟩:=r.own i ds h;⟨p,xs,a,b,c,d,s.free z⟩
 inj:=r.inj
 ob:=fun i p ds h=>let ⟨a,b,c,d⟩:=r.ob i p ds h;⟨a,b,s.free c,d⟩
 obn:=r.obn
 ob1:=r.ob1
theorem okO.less {G:Hp}{N:Ends}(s:Same H0 H0'):∀{o:Out},okO K F0 H0 G N o->okO K F0 H0' G N o
 | .nx _,h=>fun F H σ z q=>h F H σ (z.less s) q
 | .bk _,h=>fun F H σ z q=>h F H σ (z.less s) q
 | .ct _,h=>fun F H σ z q=>h F H σ (z.less s) q
 | .rt _,h=>fun v F H x r=>h v F H (x.less s) r
 | .rf _,h=>fun p xs F H x a b c d=>h p xs F H (x.less s) (s.free a) b c d
 | .rp _ _,h=>fun t v p xs F H x a b c d e f g i j=>h t v p xs F H (x.less s) (s.free a) (s.free b) c d e f g i j
 | .rg _ _ _,h=>fun v F H xs x a b c d=>h v F H xs (x.less s) a b c d
 | .rgf _ _ _,h=>fun q ys F H xs x a b c d e f g i=>h q ys F H xs (x.less s) (s.free a) b c d e f g i
end
section
variable {X:Cx}{a b c e:Expr}{pos:Pos}{st:Stmt}
variable {E:XK}{es:List Expr}{m:ML}
noncomputable def zk0 (f:MFP)(m:ML):MP:=fun ρ=>(m ρ).bind f
theorem yg9 {n:Nat}{mf:MFP}(h:∀ t,PA X es t->PE X e (zh2 (spP X.K n mf) [] E t))(Y:es.length=n)(ha:PAs X es m)(hm:∀ ρ ds,m ρ=some ds->ds.length=es.length):PP X e (zk0 mf m):=(h _ ha).imp fun σ H Q j=>by
 obtain⟨F0,H0,F,ρ,d,U,e,q⟩:=j
 unfold zk0 at e
 cases h1:m ρ with
 |none=>rw[h1]at e;cases e
 |some ds=>
  rw[h1]at e
  refine⟨F0,H0,F,ρ,ds,U,h1,fun vs F1 H1 G r1=>?_⟩
  show spP X.K n mf (vs++[]) H1 Q E
  rw[append_nil]
  refine⟨by rw[r1.length,hm ρ ds h1,Y],F1,ds,d,G.fh,r1,e,fun p qs F2 H2 O pt=>?_⟩
  exact q p qs F2 H2 (G.trans O) ⟨G.hh.free pt.hp,pt.fp,pt.at',fun z N=>⟨G.hh.free (pt.new z N).1,(pt.new z N).2⟩,pt.nd,pt.rep⟩
theorem xj9 {t:TE}{i:Nat}{na:MEm}(h:PS X st (tAsg t (Y2 i)))(N:∀ σ H Q,TDm X.K na σ H Q->t σ H Q):PSd X st (V6 i na):=h.imp fun D σ H j=>by
 obtain⟨F0,H0,F,ρ,o,G,e,ok⟩:=j
 unfold V6 at e
 split at e
 .rename_i d ρ1 h1
  cases e
  exact N _ _ _ ⟨F0,H0,F,ρ,d,ρ1,G,h1,fun v F1 H1 z s1 r1=>ok F1 H1 _ (z.set r1) s1⟩
 .cases e
theorem zh7 {k i j:Nat}{src:List (Option Nat)}{G:ML}{N:MEm}(z:src[j]? =some (some i))(O:j≠0)(h:PS X st (tAsg (J9 src (TId X.K G) (Y2 0) tYes (TDm X.K N)) (Y2 k))):PSd X st (V6 k (U0 src G i j N)):=xj9 h fun _ _ _ q=>yv4 z O q
end
end
section
section
variable {K:W.Frag}{F0 H0 F H:Hp}{σ:St}{ρ:Ro}
theorem Rl.freezeQ (r:Rl K F0 H0 F H σ ρ){i:Nat}{ds:List D}(h:ρ[i]? =some (some (.own ds))):∃ p xs,F p=none/\Reps K F xs ds/\Rl K F0 H0 (upd F p (.lst xs)) H σ (ρ.set i (some (.sh (.lst ds)))):=by
 obtain⟨p,xs,a,b,c,d,z⟩:=r.own i ds h
 have N:i<ρ.length:=(List.getElem?_eq_some_iff.mp h).1
 have e:Ext F0 H0 (upd F p (.lst xs)) H:=r.ext.freeze b z c
 have ff:Same F (upd F p (.lst xs)):=(Same.refl F).put b
 refine⟨p,xs,b,d,⟨e,by simp[r.len],fun j d' q=>?_,fun j es q=>?_,fun j k q es G Y e1 e2 e3 e4=>?_,fun j q es e1=>?_,fun j k q es G e1 e2 e3=>?_,fun j k q q' es G e1 e2=>r.ob1 j k q q' es G (t9 e1).2 (t9 e2).2⟩⟩
 .by_cases hj:i=j
  .subst hj
   rw[getElem?_set_self N]at q
   cases q
   exact⟨_,a,.lst (SqL.of y2) (d.mono ff)⟩
  .rw[getElem?_set_ne hj]at q
   obtain⟨v,v1,v2⟩:=r.sh j d' q
   exact⟨v,v1,v2.mono ff⟩
 .by_cases hj:i=j
  .subst hj
   rw[getElem?_set_self N]at q
   cases q
  .rw[getElem?_set_ne hj]at q
   obtain⟨Z,O,a',b',c',d',z'⟩:=r.own j es q
   have hp:Z≠p:=fun w=>r.inj i j p ds es hj h q a (by rw[<-w];exact a')
   exact⟨Z,O,a',by rw[y3 hp];exact b',c',d'.mono ff,z'⟩
 .have n1:i≠j:=fun w=>by subst w;rw[getElem?_set_self N]at e1;cases e1
  have U:i≠k:=fun w=>by subst w;rw[getElem?_set_self N]at e2;cases e2
  rw[getElem?_set_ne n1]at e1
  rw[getElem?_set_ne U]at e2
  exact r.inj j k q es G Y e1 e2 e3 e4
 .obtain⟨n,e1⟩:=t9 e1
  obtain⟨o1,o2,o3,zs,o4,o5⟩:=r.ob j q es e1
  have hp:q≠p:=fun w=>r.obn j i q es ds e1 h (by rw[w];exact a)
  exact⟨o1,by rw[y3 hp];exact o2,o3,zs,o4,o5.mono ff⟩
 .obtain⟨n,e1⟩:=t9 e1
  have U:i≠k:=fun w=>by subst w;rw[getElem?_set_self N]at e2;cases e2
  rw[getElem?_set_ne U]at e2
  exact r.obn j k q es G e1 e2 e3
end
noncomputable def hasL:List D->Bool
 |[]=>false
 | .lst _::_=>true
 |_::r=>hasL r
theorem yw1 {K:W.Frag}{F:Hp}:∀{xs:List V}{ds es:List D},hasL ds=true->zx7 es=true->Reps K F xs ds->Reps K F xs es->False
 |_,[],_,h,_,_,_=>by cases h
 |_,d::ds,[],h,_,.cons _ _,r=>by cases r
 |_,d::ds,e::es,h,h2,.cons a r,.cons b r2=>by
  cases e with
  |int k=>
   cases b
   cases a
   exact yw1 (show hasL ds=true from h) (show zx7 es=true from h2) r r2
  |_=>cases h2
noncomputable def ys7 (ds:List D):D->Bool
 | .lst es=>zx7 es&&hasL ds
 |_=>false
@[irreducible] noncomputable def zs9 (i:Nat)(m:ME):ME:=fun ρ=>match ρ[i]? with
 |some (some (.own ds))=>(match m (ρ.set i (some (.sh (.lst ds))))with |some d=>if ys7 ds d=true then some d else none|none=>none)
 |_=>m ρ
theorem ze7 {K:W.Frag}{F:Hp}{p:Addr}{xs:List V}{ds:List D}{v:V}{d:D}(hp:F p=some (.lst xs))(N:Reps K F xs ds)(h:ys7 ds d=true)(r:Rep K F v d):Rep K (fun b=>if b=p then none else F b) v d:=by
 cases r with
 |lst j G=>
  rename_i a ys es
  have h:(zx7 es&&hasL ds)=true:=h
  rw[Bool.and_eq_true]at h
  refine .lst ?_ (zy5 h.1 G)
  rcases j with (j|⟨o,j⟩)|j
  .have hne:a≠p:=fun z=>by
    rw[z,hp]at j;cases j
    exact yw1 h.2 h.1 N G
   exact .inl (.inl (by show (if a=p then none else F a)=_;rw[if_neg hne];exact j))
  .have hne:a≠p:=fun z=>by rw[z,hp]at j;cases j
   exact .inl (.inr ⟨o,by show (if a=p then none else F a)=_;rw[if_neg hne];exact j⟩)
  .exact .inr j
 |_=>cases h
theorem za5 {X:Cx}{e:Expr}{m:ME}(i:Nat)(h:PD X e m):PD X e (zs9 i m):=h.imp fun σ H Q N=>by
 obtain⟨F0,H0,F,ρ,d,U,e,q⟩:=N
 unfold zs9 at e
 split at e
 .rename_i ds h1
  obtain⟨p,xs,hp,Y,O⟩:=U.freezeQ h1
  split at e
  .rename_i d' h2
   split at e
   .rename_i hs
    cases e
    refine⟨F0,H0,_,_,d,O,h2,fun v F2 H2 G r2=>?_⟩
    have hp2:F2 p=some (.lst xs):=G.ff _ _ y2
    refine q v (fun b=>if b=p then none else F2 b) H2 ⟨fun b o j=>?_,G.hh,fun b o j=>?_,fun b j hn=>?_,fun b o u z=>by
     have z:(if b=p then none else F2 b)=some (.frz o u):=z
     split at z
     .cases z
     .rename_i hne
      have:=G.nf b o u z
      rwa [y3 hne]at this⟩ (ze7 hp2 (Y.mono (((Same.refl F).put hp).trans G.ff)) hs r2)
    .have hne:b≠p:=fun w=>by rw[w,hp]at j;cases j
     show (if b=p then none else F2 b)=some o
     rw[if_neg hne]
     exact G.ff b o (by rw[y3 hne];exact j)
    .have j:(if b=p then none else F2 b)=some o:=j
     split at j
     .cases j
     .exact G.fh b o j
    .have hn:(if b=p then none else F2 b)≠none:=hn
     split at hn
     .exact absurd rfl hn
     .rename_i hne
      exact G.new b (by rw[y3 hne];exact j) hn
   .cases e
  .cases e
 .exact⟨F0,H0,F,ρ,d,U,e,q⟩
end
section
section
variable {X:Cx}{a b:Expr}{ma mb:ME}{pos:Pos}
end
section
variable {X:Cx}{a b:Expr}
open PySem.SeqAt in
end
end
section
section
variable {X:Cx}{a b c e o:Expr}{ma mb mo:ME}{pos:Pos}{st:Stmt}
end
open Classical in
section
variable {X:Cx}{pos:Pos}
end
end
section
section
variable {X:Cx}{st:Stmt}
end
end
section
inductive Fl where
 |v (d:D)|l (ds:List D)
inductive Cell where
 |ins (c:Str) (ns:List Str) (fs:List Fl)
 |row (fs:List Fl)
 |tb (P:Addr) (mw:Str) (pos:Pos) (q:Str)
def xp6 (c:Addr)(q:Str):Heap->Prop:=fun h=>h.CodeRec (.ref c) q
structure CodeT (K:W.Frag)(cdv:Value)(P:Addr):Prop where
 hd:∃ c,cdv= .ref c/\∀ h:Heap,K.In h->W.CodeHd h c P
 ne:mainGlobals≠P
def TabF (K:W.Frag)(mw:Str)(P:Addr):Prop:=∃ f oc od fd sl,W.nsIn K mainGlobals mw=some (some (.ref f))/\K.lookup f=some ⟨oc,od,.func fd,sl⟩/\CodeT K fd.code P
noncomputable abbrev Bx:=List (Addr×Cell)
inductive FlR (K:W.Frag)(F B:Hp):List Addr->List V->List Fl->Prop
 |nil:FlR K F B [] [] []
 |v {fp:List Addr} {x:V} {d:D} {xs:List V} {fs:List Fl}:Rep K F x d->FlR K F B fp xs fs->FlR K F B fp (x::xs) (.v d::fs)
 |l {fp:List Addr} {q:Addr} {ys:List V} {ds:List D} {xs:List V} {fs:List Fl}:B q=some (.lst ys)->Reps K F ys ds->FlR K F B fp xs fs->FlR K F B (q::fp) (.ref q::xs) (.l ds::fs)
inductive CellR (K:W.Frag)(F B:Hp):List Addr->Addr->Cell->Prop
 |ins {fp:List Addr} {p dx C:Addr} {c:Str} {ns:List Str} {xs:List V} {fs:List Fl}:W.nsIn K mainGlobals c=some (some (.ref C))->ns.length=xs.length->B p=some (.ins C dx (ns.zip xs))->B dx=some (.own p)->FlR K F B fp xs fs->
   CellR K F B (p::dx::fp) p (.ins c ns fs)
 |row {fp:List Addr} {p:Addr} {xs:List V} {fs:List Fl}:B p=some (.lst xs)->FlR K F B fp xs fs->CellR K F B (p::fp) p (.row fs)
 |tb {P:Addr} {mw:Str} {pos:Pos} {q:Str} {ps:Array Value}:TabF K mw P->B P=some (.tbl ps)->TriplesOk ps.toList->(codeAmong pos ps.toList=none\/∃ c,codeAmong pos ps.toList=some (.ref c)/\F c=some (.ext (xp6 c q)))->CellR K F B [P] P (.tb P mw pos q)
inductive BxR (K:W.Frag)(F B:Hp):List Addr->Bx->Prop
 |nil:BxR K F B [] []
 |cons {fp fq:List Addr} {p:Addr} {c:Cell} {β:Bx}:CellR K F B fp p c->BxR K F B fq β->BxR K F B (fp++fq) ((p,c)::β)
section
variable {K:W.Frag}{F F' B B':Hp}
theorem FlR.mono (e:Same F F'){fp:List Addr}{xs:List V}{fs:List Fl}(h:FlR K F B fp xs fs)(k:∀ a∈fp,B' a=B a):FlR K F' B' fp xs fs:=by
 induction h with
 |nil=>exact .nil
 |v r _ j=>exact .v (r.mono e) (j k)
 |l b r _ j=>exact .l (by rw[k _ (by simp)];exact b) (r.mono e) (j fun a ha=>k a (mem_cons_of_mem _ ha))
theorem CellR.mono (e:Same F F'){fp:List Addr}{p:Addr}{c:Cell}(h:CellR K F B fp p c)(k:∀ a∈fp,B' a=B a):CellR K F' B' fp p c:=by
 cases h with
 |ins a l b d r=>exact .ins a l (by rw[k _ (by simp)];exact b) (by rw[k _ (by simp)];exact d) (r.mono e fun a ha=>k a (by simp[ha]))
 |row b r=>exact .row (by rw[k _ (by simp)];exact b) (r.mono e fun a ha=>k a (by simp[ha]))
 |tb a b t h=>exact .tb a (by rw[k _ (by simp)];exact b) t (h.imp id fun⟨c,h1,h2⟩=>⟨c,h1,e _ _ h2⟩)
theorem BxR.mono (e:Same F F'){fp:List Addr}{β:Bx}(h:BxR K F B fp β)(k:∀ a∈fp,B' a=B a):BxR K F' B' fp β:=by
 induction h with
 |nil=>exact .nil
 |cons c _ j=>exact .cons (c.mono e fun a ha=>k a (by simp[ha])) (j fun a ha=>k a (by simp[ha]))
theorem FlR.mem {fp:List Addr}{xs:List V}{fs:List Fl}(h:FlR K F B fp xs fs):∀ a∈fp,B a≠none:=by
 induction h with
 |nil=>intro a ha;cases ha
 |v _ _ j=>exact j
 |l b _ _ j=>
  intro a ha
  rcases List.mem_cons.mp ha with rfl|ha
  .rw[b];simp
  .exact j a ha
theorem CellR.mem {fp:List Addr}{p:Addr}{c:Cell}(h:CellR K F B fp p c):∀ a∈fp,B a≠none:=by
 intro a ha
 cases h with
 |ins _ _ b d r=>
  rcases List.mem_cons.mp ha with rfl|ha
  .rw[b];simp
  .rcases List.mem_cons.mp ha with rfl|ha
   .rw[d];simp
   .exact r.mem a ha
 |row b r=>
  rcases List.mem_cons.mp ha with rfl|ha
  .rw[b];simp
  .exact r.mem a ha
 |tb _ b _ _=>rw[List.mem_singleton.mp ha,b];simp
theorem BxR.mem {fp:List Addr}{β:Bx}(h:BxR K F B fp β):∀ a∈fp,B a≠none:=by
 induction h with
 |nil=>intro a ha;cases ha
 |cons c _ j=>
  intro a ha
  rcases List.mem_append.mp ha with ha|ha
  .exact c.mem a ha
  .exact j a ha
end
noncomputable def jn (H0 B:Hp):Hp:=fun a=>match B a with |some o=>some o|none=>H0 a
theorem g9 {H0 B:Hp}{a:Addr}{o:HO}(h:B a=some o):jn H0 B a=some o:=by unfold jn;rw[h]
theorem Y1 {H0 B:Hp}{a:Addr}(h:B a=none):jn H0 B a=H0 a:=by unfold jn;rw[h]
theorem f6 {H0 B:Hp}{a:Addr}(h:jn H0 B a=none):B a=none/\H0 a=none:=by
 cases b:B a with
 |none=>rw[Y1 b]at h;exact⟨rfl,h⟩
 |some o=>rw[g9 b]at h;cases h
structure BxOk (K:W.Frag)(F0 H0 F B:Hp)(fp:List Addr)(β:Bx):Prop where
 out:∀ a,B a≠none->H0 a=none/\F0 a=none
 bx:BxR K F B fp β
 nd:fp.Nodup
 plain:∀ a o u,B a≠some (.frz o u)
theorem BxOk.mono {K:W.Frag}{F0 H0 F F' B:Hp}{fp:List Addr}{β:Bx}(h:BxOk K F0 H0 F B fp β)(e:Same F F'):BxOk K F0 H0 F' B fp β:=⟨h.out,h.bx.mono e fun _ _=>rfl,h.nd,h.plain⟩
def RlW (K:W.Frag)(F0 H0 F H:Hp)(σ:St)(ρ:Ro)(β:Bx):Prop:=∃ B fp,Rl K F0 (jn H0 B) F H σ ρ/\BxOk K F0 H0 F B fp β
noncomputable abbrev MW:=Ro->Bx->Option (Out×Bx)
noncomputable def okW (K:W.Frag)(F0 H0 Fb:Hp)(Dn:Ends):Out->Bx->Prop
 | .nx ρ,β=>∀ F H σ,RlW K F0 H0 F H σ ρ β->Same Fb F->Dn.nx σ H
 | .bk ρ,β=>∀ F H σ,RlW K F0 H0 F H σ ρ β->Same Fb F->Dn.bk σ H
 | .ct ρ,β=>∀ F H σ,RlW K F0 H0 F H σ ρ β->Same Fb F->Dn.ct σ H
 | .rt d,β=>∀ v F H B fp,Ext F0 (jn H0 B) F H->BxOk K F0 H0 F B fp β->Rep K F v d->Dn.rt v H
 | .rf ds,β=>∀ p xs F H B fp,Ext F0 (jn H0 B) F H->BxOk K F0 H0 F B fp β->jn H0 B p=none->F p=none->H p=some (.lst xs)->Reps K F xs ds->Dn.rt (.ref p) H
 | .rg d p r,β=>∀ v F H xs B fp,Ext F0 (jn H0 B) F H->BxOk K F0 H0 F B fp β->Rep K F v d->jn H0 B p=none->F p=none->H p=some (.lst xs)->Reps K F xs r->Dn.rt v H
 | .rp _ _,_=>False
 | .rgf _ _ _,_=>False
theorem okW.mono {K:W.Frag}{F0 H0 G z:Hp}{N:Ends}(s:Same G z):∀{o:Out}{β:Bx},okW K F0 H0 G N o β->okW K F0 H0 z N o β
 | .nx _,_,h=>fun F H σ j q=>h F H σ j (s.trans q)
 | .bk _,_,h=>fun F H σ j q=>h F H σ j (s.trans q)
 | .ct _,_,h=>fun F H σ j q=>h F H σ j (s.trans q)
 | .rt _,_,h=>h
 | .rf _,_,h=>h
 | .rp _ _,_,h=>h
 | .rg _ _ _,_,h=>h
 | .rgf _ _ _,_,h=>h
def TSw (K:W.Frag)(m:MW):TS:=fun Dn σ H=>∃ F0 H0 F ρ β o β',RlW K F0 H0 F H σ ρ β/\m ρ β=some (o,β')/\okW K F0 H0 F Dn o β'
def TDw (K:W.Frag)(m:Ro->Bx->Option D):TE:=fun σ H Q=>∃ F0 H0 F ρ β d,RlW K F0 H0 F H σ ρ β/\m ρ β=some d/\∀ v F' H',RlW K F0 H0 F' H' σ ρ β->Same F F'->Same H H'->Rep K F' v d->Q v H'
def TCw (K:W.Frag)(m:Ro->Bx->Option Bool):TT:=fun σ H Q=>∃ F0 H0 F ρ β b,RlW K F0 H0 F H σ ρ β/\m ρ β=some b/\∀ F' H',RlW K F0 H0 F' H' σ ρ β->Same F F'->Q b H'
def PSw (X:Cx)(st:Stmt)(m:MW):Prop:=PS X st (TSw X.K m)
def PSsw (X:Cx)(st:List Stmt)(m:MW):Prop:=PSs X st (TSw X.K m)
def PDw (X:Cx)(e:Expr)(m:Ro->Bx->Option D):Prop:=PE X e (TDw X.K m)
def PCw' (X:Cx)(e:Expr)(m:Ro->Bx->Option Bool):Prop:=PT X e (TCw X.K m)
section
variable {X:Cx}{a b c e:Expr}{pos:Pos}{st:Stmt}{rest:List Stmt}
noncomputable def wS (m:MS):MW:=fun ρ β=>match m ρ with |some (.nx ρ')=>some (.nx ρ',β)|some (.bk ρ')=>some (.bk ρ',β)|some (.ct ρ')=>some (.ct ρ',β)|_=>none
noncomputable def wE {α:Type}(m:Ro->Option α):Ro->Bx->Option α:=fun ρ _=>m ρ
theorem psw {m:MS}(h:PSd X st m):PSw X st (wS m):=PS.imp h fun U σ H ⟨F0,H0,F,ρ,β,o,O,⟨B,fp,N,ok⟩,e,k⟩=>by
 unfold wS at e
 split at e
 .rename_i ρ' h1
  cases e
  exact⟨F0,jn H0 B,F,ρ,_,N,h1,fun F' H' j z G=>k F' H' j ⟨B,fp,z,ok.mono G⟩ G⟩
 .rename_i ρ' h1
  cases e
  exact⟨F0,jn H0 B,F,ρ,_,N,h1,fun F' H' j z G=>k F' H' j ⟨B,fp,z,ok.mono G⟩ G⟩
 .rename_i ρ' h1
  cases e
  exact⟨F0,jn H0 B,F,ρ,_,N,h1,fun F' H' j z G=>k F' H' j ⟨B,fp,z,ok.mono G⟩ G⟩
 .cases e
theorem pcw {m:MB}(h:PC' X e m):PCw' X e (wE m):=PT.imp h fun σ H Q ⟨F0,H0,F,ρ,β,d,⟨B,fp,j,ok⟩,e,q⟩=>
 ⟨F0,jn H0 B,F,ρ,d,j,e,fun F' H' x=>q F' H' ⟨B,fp,j.go x,ok.mono x.ff⟩ x.ff⟩
noncomputable def M1 (x y:MW):MW:=fun ρ β=>match x ρ β with |some (.nx ρ',β')=>y ρ' β'|o=>o
theorem U9 {m:MW}(h:PSw X st m):PSsw X [st] m:=D9 h
theorem zo8:PSsw X [] (wS h6):=PSs.imp pss_nil fun G σ H ⟨F0,H0,F,ρ,β,o,j,⟨B,fp,z,ok⟩,e,k⟩=>by
 cases e
 exact k F H σ ⟨B,fp,z,ok⟩ (Same.refl _)
theorem Y5 {m1 m2':MW}(h1:PSw X st m1)(h2:PSsw X rest m2'):PSsw X (st::rest) (M1 m1 m2'):=PSs.imp (M4 h1 h2) fun D σ H G=>by
 obtain⟨F0,H0,F,ρ,β,o,N,j,e,ok⟩:=G
 unfold M1 at e
 cases h:m1 ρ β with
 |none=>rw[h]at e;cases e
 |some ob=>
  obtain⟨Z,z⟩:=ob
  rw[h]at e
  cases Z with
  |nx ρ1=>exact⟨F0,H0,F,ρ,β,_,z,j,h,fun F' H' U O Y=>⟨F0,H0,F',ρ1,z,o,N,O,e,ok.mono Y⟩⟩
  |bk ρ1=>cases e;exact⟨F0,H0,F,ρ,β,_,_,j,h,ok⟩
  |ct ρ1=>cases e;exact⟨F0,H0,F,ρ,β,_,_,j,h,ok⟩
  |rt d=>cases e;exact⟨F0,H0,F,ρ,β,_,_,j,h,ok⟩
  |rf d=>cases e;exact⟨F0,H0,F,ρ,β,_,_,j,h,ok⟩
  |rp d ds=>cases e;exact⟨F0,H0,F,ρ,β,_,_,j,h,ok⟩
  |rg d p r=>cases e;exact⟨F0,H0,F,ρ,β,_,_,j,h,ok⟩
  |rgf d p r=>cases e;exact⟨F0,H0,F,ρ,β,_,_,j,h,ok⟩
noncomputable def mifW (c:Ro->Bx->Option Bool)(x y:MW):MW:=fun ρ β=>match c ρ β with |some true=>x ρ β|some false=>y ρ β|none=>none
theorem yk7 {ca:Ro->Bx->Option Bool}{x y:List Stmt}{mx O:MW}(Z:PCw' X c ca)(Y:PSsw X x mx)(U:PSsw X y O):PSw X (.If c x y pos) (mifW ca mx O):=PS.imp (yq2 Z Y U) fun D σ H G=>by
 obtain⟨F0,H0,F,ρ,β,o,j,z,e,ok⟩:=G
 unfold mifW at e
 split at e
 .rename_i h1
  exact⟨F0,H0,F,ρ,β,_,z,h1,fun F1 H1 r1 N=>iteT ⟨F0,H0,F1,ρ,β,o,j,r1,e,ok.mono N⟩⟩
 .rename_i h1
  exact⟨F0,H0,F,ρ,β,_,z,h1,fun F1 H1 r1 N=>iteF ⟨F0,H0,F1,ρ,β,o,j,r1,e,ok.mono N⟩⟩
 .cases e
noncomputable def zs6 (i:Nat)(x:Ro->Bx->Option D):MW:=fun ρ β=>(x ρ β).map fun d=>(.nx (ρ.set i (some (.sh d))),β)
theorem yg6 {i:Nat}{x:Str}{pos':Pos}{ma:Ro->Bx->Option D}(hN:X.N.Nodup)(hi:X.N[i]? =some x)(Y:Loc X.env.scope x)(he:PDw X e ma)(hs:swapsWith e (some (.Name x pos')) pos.line X.env=pure false:=by rfl)(Z:X.fn x=true\/X.env.scope.names.lookup x=some .local:=by first|exact .inl rfl|exact .inr rfl):
  PSw X (.Assign [.Name x pos'] e pos) (zs6 i ma):=PS.imp (zo9 hN hi Y he hs Z) fun D σ H j=>by
 obtain⟨F0,H0,F,ρ,β,o,G,z,e,ok⟩:=j
 unfold zs6 at e
 cases h1:ma ρ β with
 |none=>rw[h1]at e;cases e
 |some d=>
  rw[h1]at e;cases e
  refine⟨F0,H0,F,ρ,β,d,z,h1,fun v F1 H1 r1 O _ rp=>?_⟩
  obtain⟨B,fp,U,k⟩:=r1
  exact ok F1 H1 _ ⟨B,fp,U.set rp,k⟩ O
noncomputable def forW (g:Tg)(body:MW):List D->MW
 |[],ρ,β=>some (.nx ρ,β)
 |d::ds,ρ,β=>match tgD g d ρ with
  |some ρ1=>match body ρ1 β with
   |some (.nx ρ2,β2)=>forW g body ds ρ2 β2
   |some (.ct ρ2,β2)=>forW g body ds ρ2 β2
   |some (.bk ρ2,β2)=>some (.nx ρ2,β2)
   |o=>o
  |none=>none
noncomputable def zs8 (mi:ML)(g:Tg)(body:MW):MW:=fun ρ β=>(mi ρ).bind fun its=>forW g body its ρ β
theorem zt6 {tg iter:Expr}{body:List Stmt}{mi:ML}{g:Tg}{mb:MW}(hp:PassesOwn (model X.prog X.w) X.A X.env X.xe)(hc:X.calm=true)(hi:PId X tg iter mi)(hg:PGd X tg g)(hb:PSsw X body mb)
  (hs:∀ x,foldedSetIterable iter X.env x=pure x:=by intro _;rfl):PSw X (.For tg iter body [] pos) (zs8 mi g mb):=PS.imp (zc3 hp hc hi hg hb hs) fun Dn σ H ⟨F0,H0,F,ρ,β,o,Y,⟨B,fp,rl,ok⟩,e,k⟩=>by
 unfold zs8 at e
 cases h1:mi ρ with
 |none=>rw[h1]at e;cases e
 |some its=>
  rw[h1]at e
  have e:forW g mb its ρ β=some (o,Y):=e
  refine⟨F0,jn H0 B,F,ρ,its,rl,h1,fun J F1 H1 Z I=>?_⟩
  refine⟨fun i m a2 H'=>∃ F' ρ' N,RlW X.K F0 H0 F' H' a2 ρ' N/\Same F1 F'/\i<=its.length/\m=its.length-i/\forW g mb (its.drop i) ρ' N=some (o,Y),⟨_,F1,ρ,β,⟨B,fp,rl.go Z,ok.mono Z.ff⟩,Same.refl _,Nat.zero_le _,rfl,e⟩,?_⟩
  rintro i m a2 H' ⟨F',ρ',N,⟨B1,a7,U,a5⟩,sf,aa,rfl,j⟩
  by_cases a3:i<its.length
  .right
   have hd:=getElem?_eq_getElem a3
   refine⟨I.go i F' H' sf U.fh a3,fun a4 H2=>∃ F2 z G,RlW X.K F0 H0 F2 H2 a4 z G/\Same F1 F2/\forW g mb (its.drop (i+1)) z G=some (o,Y),?_,fun x H2 y=>?_⟩
   .rintro a4 H2 ⟨F2,z,G,rl2,sf2,e2⟩
    exact⟨its.length-(i+1),by omega,F2,z,G,rl2,sf2,a3,rfl,e2⟩
   .obtain⟨F2,x2,r2⟩:=I.yld i F' H' x H2 _ sf U.fh hd y
    rw[i9 hd]at j
    unfold forW at j
    cases h2:tgD g its[i] ρ' with
    |none=>simp only[h2]at j;cases j
    |some ρ1=>
     simp only[h2]at j
     refine⟨F0,jn H0 B1,F2,ρ',_,ρ1,U.go x2,r2,h2,fun F3 H3 a9 a8 x3=>?_⟩
     have s3:Same F1 F3:=(sf.trans x2.ff).trans x3.ff
     cases h3:mb ρ1 N with
     |none=>simp only[h3]at j;cases j
     |some ob=>
      obtain⟨o1,G⟩:=ob
      simp only[h3]at j
      refine⟨F0,H0,F3,ρ1,N,o1,G,⟨B1,a7,a8,a5.mono (x2.ff.trans x3.ff)⟩,h3,?_⟩
      cases o1 with
      |nx z=>exact fun F5 H5 a1 O s5=>⟨F5,z,G,O,s3.trans s5,j⟩
      |ct z=>exact fun F5 H5 a1 O s5=>⟨F5,z,G,O,s3.trans s5,j⟩
      |bk z=>
       cases j
       exact fun F5 H5 a1 O s5=>k F5 H5 a1 O ((Z.ff.trans s3).trans s5)
      |rt d=>cases j;exact k.mono (Z.ff.trans s3)
      |rf d=>cases j;exact k.mono (Z.ff.trans s3)
      |rp d ds=>cases j;exact k.mono (Z.ff.trans s3)
      |rg d p r=>cases j;exact k.mono (Z.ff.trans s3)
      |rgf d p r=>cases j;exact k.mono (Z.ff.trans s3)
  .left
   have a6:i=its.length:=by omega
   subst a6
   rw[drop_length]at j
   have j:some (Out.nx ρ',N)=some (o,Y):=j
   cases j
   exact⟨I.stop F' H' sf U.fh,k F' H' a2 ⟨B1,a7,U,a5⟩ (Z.ff.trans sf)⟩
noncomputable def flD:Fl->D
 | .v d=>d
 | .l ds=>.lst ds
noncomputable def yv8:Cell->D
 | .ins c ns fs=>.obj c ns (fs.map flD)
 | .row fs=>.lst (fs.map flD)
 | .tb P _ _ _=>.ptr P
noncomputable def thawD (β:Bx):D->D
 | .ptr p=>match β.lookup p with |some c=>yv8 c|none=>.ptr p
 |d=>d
noncomputable def L3 (β:Bx):Option S->Option S
 |some (.sh (.ptr p))=>match β.lookup p with |some c=>some (.sh (yv8 c))|none=>some (.sh (.ptr p))
 |some (.sh (.tup ds))=>some (.sh (.tup (ds.map (thawD β))))
 |x=>x
noncomputable def thaw (ρ:Ro)(β:Bx):Ro:=ρ.map (L3 β)
noncomputable def A4 (m:ME):Ro->Bx->Option D:=fun ρ β=>(m (thaw ρ β)).bind fun d=>if isSc d=true then some d else none
end
section
variable {K:W.Frag}{F0 H0 F H B:Hp}{σ:St}{ρ:Ro}{β:Bx}{fp:List Addr}
theorem FlR.rep {G:Hp}{xs:List V}{fs:List Fl}(z:Same F G)(N:Same B G)(h:FlR K F B fp xs fs):Reps K G xs (fs.map flD):=by
 induction h with
 |nil=>exact .nil
 |v r _ j=>exact .cons (r.mono z) j
 |l b r _ j=>exact .cons (.lst (SqL.of (N _ _ b)) (r.mono z)) j
theorem CellR.rep {G:Hp}{p:Addr}{c:Cell}(z:Same F G)(j:Same B G)(h:CellR K F B fp p c):Rep K G (.ref p) (yv8 c):=by
 cases h with
 |ins a l b d r=>exact .obj a l (j _ _ b) (j _ _ d) (r.rep z j)
 |row b r=>exact .lst (SqL.of (j _ _ b)) (r.rep z j)
 |tb _ _ _ _=>exact .ptr _
theorem BxR.at' {p:Addr}{c:Cell}:∀{fp:List Addr}{β:Bx},BxR K F B fp β->β.lookup p=some c->∃ fq,CellR K F B fq p c
 |_,_,.nil,e=>by cases e
 |_,_,.cons (p:=q) h r,e=>by
  rw[lookup_cons]at e
  split at e
  .rename_i z
   have z:=beq_iff_eq.mp z
   subst z
   cases e
   exact⟨_,h⟩
  .exact r.at' e
theorem Rep.thawD {G:Hp}{v:V}{d:D}(j:Same F G)(O:Same B G)(N:BxR K F B fp β)(h:Rep K F v d):Rep K G v (L2.thawD β d):=by
 cases d with
 |ptr p=>
  cases h
  cases hc:β.lookup p with
  |none=>simp only[L2.thawD,hc];exact .ptr p
  |some c=>obtain⟨fq,z⟩:=N.at' hc;simp only[L2.thawD,hc];exact z.rep j O
 |_=>exact h.mono j
theorem Reps.thawD {G:Hp}(z:Same F G)(N:Same B G)(j:BxR K F B fp β):∀{xs:List V}{ds:List D},Reps K F xs ds->Reps K G xs (ds.map (L2.thawD β))
 |_,_,.nil=>.nil
 |_,_,.cons h r=>.cons (h.thawD z N j) (Reps.thawD z N j r)
theorem RlW.frozen (z:Rl K F0 (jn H0 B) F H σ ρ)(ok:BxOk K F0 H0 F B fp β):Rl K (jn F0 B) (jn H0 B) (jn F B) H σ (thaw ρ β)/\Same F (jn F B):=by
 have bh:Same B H:=fun a o e=>z.ext.hh a o (g9 e)
 have fn:∀ a,B a≠none->F a=none:=fun a h=>by
  cases q:F a with
  |none=>rfl
  |some o=>
   have:=z.ext.new a (ok.out a h).2 (by rw[q];simp)
   exact absurd (f6 this).1 h
 have Z:Same F (jn F B):=fun a o e=>by
  cases q:B a with
  |none=>rw[Y1 q];exact e
  |some u=>rw[fn a (by rw[q];simp)]at e;cases e
 have bj:Same B (jn F B):=fun a o e=>g9 e
 have N:∀(i:Nat) x,(thaw ρ β)[i]? =some x->∃ y,ρ[i]? =some y/\x=L3 β y:=fun i x e=>by
  unfold thaw at e
  rw[getElem?_map]at e
  cases q:ρ[i]? with
  |none=>rw[q]at e;cases e
  |some y=>rw[q]at e;cases e;exact⟨y,rfl,rfl⟩
 have tO:∀{y:Option S}{ds:List D},some (.own ds)=L3 β y->y=some (.own ds):=fun{y ds} e=>by
  unfold L3 at e
  split at e
  .split at e <;> cases e
  .cases e
  .exact e.symm
 have tB:∀{y:Option S}{p:Addr}{ds:List D},some (.ob p ds)=L3 β y->y=some (.ob p ds):=fun{y p ds} e=>by
  unfold L3 at e
  split at e
  .split at e <;> cases e
  .cases e
  .exact e.symm
 have G:∀(i:Nat) ds,(thaw ρ β)[i]? =some (some (.own ds))->ρ[i]? =some (some (.own ds)):=fun i ds e=>by
  obtain⟨y,e1,e2⟩:=N i _ e
  rw[e1,tO e2]
 have U:∀(i:Nat) p ds,(thaw ρ β)[i]? =some (some (.ob p ds))->ρ[i]? =some (some (.ob p ds)):=fun i p ds e=>by
  obtain⟨y,e1,e2⟩:=N i _ e
  rw[e1,tB e2]
 have jf:∀ p,F p=none->jn H0 B p=none->jn F B p=none:=fun p h h2=>by rw[Y1 (f6 h2).1];exact h
 refine⟨⟨⟨fun a o e=>?_,z.ext.hh,fun a o e=>?_,fun b e n=>?_,fun b o u e=>?_⟩,by unfold thaw;rw[length_map];exact z.len,fun i d e=>?_,fun i ds e=>?_,fun i j p ds es a6 e1 e2 e3 e4=>z.inj i j p ds es a6 (G i ds e1) (G j es e2) e3 e4,fun i p ds e=>?_,fun i j p ds es e1 e2 e3=>z.obn i j p ds es (U i p ds e1) (G j es e2) e3,fun i j p q ds es e1 e2=>z.ob1 i j p q ds es (U i p ds e1) (U j q es e2)⟩,Z⟩
 .cases q:B a with
  |none=>rw[Y1 q]at e;rw[Y1 q];exact z.ext.ff a o e
  |some u=>rw[g9 q]at e;rw[g9 q];exact e
 .cases q:B a with
  |none=>rw[Y1 q]at e;exact z.ext.fh a o e
  |some u=>rw[g9 q]at e;cases e;exact bh a _ q
 .obtain⟨e1,e2⟩:=f6 e
  rw[Y1 e1]at n
  exact z.ext.new b e2 n
 .cases q:B b with
  |none=>rw[Y1 q]at e ⊢;exact z.ext.nf b o u e
  |some w=>rw[g9 q]at e ⊢;exact e
 .obtain⟨y,e1,e2⟩:=N i _ e
  unfold L3 at e2
  split at e2
  .rename_i p
   obtain⟨v,O,Y⟩:=z.sh i _ e1
   cases Y
   split at e2
   .rename_i c hc
    cases e2
    obtain⟨fq,hq⟩:=ok.bx.at' hc
    exact⟨_,O,hq.rep Z bj⟩
   .cases e2
    exact⟨_,O,.ptr p⟩
  .obtain⟨v,O,Y⟩:=z.sh i _ e1
   cases e2
   cases Y with
   |tup s r=>exact⟨_,O,.tup (Z.seqT s) (r.thawD Z bj ok.bx)⟩
  .subst e2
   obtain⟨v,O,Y⟩:=z.sh i d e1
   exact⟨v,O,Y.mono Z⟩
 .obtain⟨p,xs,O,Y,a3,a4,a5⟩:=z.own i ds (G i ds e)
  exact⟨p,xs,O,jf p Y a5,a3,a4.mono Z,a5⟩
 .obtain⟨O,Y,a3,xs,a4,a5⟩:=z.ob i p ds (U i p ds e)
  exact⟨O,jf p Y a3,a3,xs,a4,a5.mono Z⟩
theorem RlW.melt {F2 H2:Hp}(j:Rl K F0 (jn H0 B) F H σ ρ)(ok:BxOk K F0 H0 F B fp β)(x:Ext (jn F B) H F2 H2)(G:Same F (jn F B)):RlW K F0 H0 F H2 σ ρ β:=
 ⟨B,fp,j.go ⟨Same.refl _,x.hh,j.fh.trans x.hh,fun b e n=>absurd e n,fun _ _ _ z=>z⟩,ok⟩
end
section
variable {X:Cx}{a b c e:Expr}{pos:Pos}
theorem zn2 {m:ME}(h:PD X e m):PDw X e (A4 m):=PE.imp h fun σ H Q ⟨F0,H0,F,ρ,β,d,⟨B,fp,j,ok⟩,e,q⟩=>by
 unfold A4 at e
 cases h1:m (thaw ρ β)with
 |none=>rw[h1]at e;cases e
 |some d'=>
  rw[h1,Option.bind_some]at e
  split at e
  .rename_i hs
   cases e
   obtain⟨r1,z⟩:=RlW.frozen j ok
   exact⟨_,_,_,_,_,r1,h1,fun v F' H' x r=>q v F H' (RlW.melt j ok x z) (Same.refl _) x.hh (xx1 hs r)⟩
  .cases e
end
end
section
noncomputable def cut (H B:Hp):Hp:=fun a=>match B a with |some _=>none|none=>H a
theorem yv1 {H B:Hp}{a:Addr}(h:B a=none):cut H B a=H a:=by unfold cut;rw[h]
theorem xs0 {H B:Hp}(h:Same B H):jn (cut H B) B=H:=by
 funext a
 cases q:B a with
 |none=>rw[Y1 q,yv1 q]
 |some o=>rw[g9 q,h a o q]
noncomputable abbrev MFW:=List D->Bx->Option (Rt×Bx)
noncomputable def okTW (K:W.Frag)(F H B:Hp)(Q:VK):Rt->Bx->Prop
 | .sh d,β=>∀ v F' H' B' fp',Ext F (jn (cut H B) B') F' H'->BxOk K F (cut H B) F' B' fp' β->Rep K F' v d->Q v H'
 | .fr ds,β=>∀ p xs F' H' B' fp',Ext F (jn (cut H B) B') F' H'->BxOk K F (cut H B) F' B' fp' β->jn (cut H B) B' p=none->F' p=none->H' p=some (.lst xs)->Reps K F' xs ds->Q (.ref p) H'
 | .pr _ _,_=>False
def spW (K:W.Frag)(n:Nat)(m:MFW):Sp:=fun vs H Q _=>vs.length=n/\∃ F B fp ds β r β',Same F H/\Same B H/\BxOk K F (cut H B) F B fp β/\Reps K F vs ds/\m ds β=some (r,β')/\okTW K F H B Q r β'
noncomputable def runW (n:Nat)(m:MW):MFW:=fun ds β=>match m (w8 n ds) β with
 |some (.nx _,β')=>some (.sh .non,β'.drop (β'.length-β.length))
 |some (.rt d,β')=>some (.sh d,β'.drop (β'.length-β.length))
 |some (.rf es,β')=>some (.fr es,β'.drop (β'.length-β.length))
 |_=>none
theorem BxR.drop {K:W.Frag}{F B:Hp}:∀{fp:List Addr}{β:Bx}(k:Nat),BxR K F B fp β->∃ fq,BxR K F B fq (β.drop k)/\fq.Sublist fp
 |_,_,0,h=>⟨_,h,List.Sublist.refl _⟩
 |_,_,k+1,.nil=>⟨_,.nil,List.Sublist.refl _⟩
 |_,_,k+1,.cons c r=>by
  obtain⟨fq,h,s⟩:=BxR.drop k r
  exact⟨fq,h,s.trans (sublist_append_right _ _)⟩
theorem BxOk.drop {K:W.Frag}{F0 H0 F B:Hp}{fp:List Addr}{β:Bx}(h:BxOk K F0 H0 F B fp β)(k:Nat):∃ fq,BxOk K F0 H0 F B fq (β.drop k):=by
 obtain⟨fq,r,s⟩:=h.bx.drop k
 exact⟨fq,h.out,r,h.nd.sublist s,h.plain⟩
theorem Fun.okW {P:Program}{w:World}{K:W.Frag}{mg:Str->Option Value}{base:Heap}{x qual:Str}{st:Stmt}{f:Addr}{fd:FuncData}{N ps:List Str}{k:Nat}{m:MW}(Fn:Fun K x qual st f fd)(Sc:FnScope N ps (z9 st))
  (j:∀(cdv:Value)(A:Around)(outer:List Env)(s:Shared)(H:Hp)(E:XK),Room k (A.deeper (envOfC qual (z9 st) s.heap.objs.size f cdv))->PSsw (cxOf CX0 P w K mg base N qual (z9 st) f cdv A outer s H E).nox (j2 st) m):
  FnOk P w K mg base CX0 (k+1) f fd ps (spW K ps.length (runW N.length m)):=by
 refine Fn.ok Sc (fun vs H Q E h=>h.1) fun cdv A outer s H vs Q E hr h=>?_
 obtain⟨hl,F,B,fp,ds,β,r,Z,sf,sb,bo,rs,e,ok⟩:=h
 unfold runW at e
 refine⟨_,j cdv A outer s H E hr,F,cut H B,F,w8 N.length ds,β,?_⟩
 have start:RlW K F (cut H B) F H (start N vs) (w8 N.length ds) β:=⟨B,fp,by rw[xs0 sb];exact M3 sf rs,bo⟩
 split at e
 .rename_i ρ β1 h1
  cases e
  refine⟨_,_,start,h1,fun F' H' Y rl _=>?_⟩
  obtain⟨B',O,U,G⟩:=rl
  obtain⟨fq,z⟩:=G.drop (β1.length-β.length)
  exact ok .non F' H' B' fq U.ext z .non
 .rename_i d β1 h1
  cases e
  refine⟨_,_,start,h1,fun v F' H' B' O x G rp=>?_⟩
  obtain⟨fq,z⟩:=G.drop (β1.length-β.length)
  exact ok v F' H' B' fq x z rp
 .rename_i es β1 h1
  cases e
  refine⟨_,_,start,h1,fun p xs F' H' B' O x G a1 a2 a3 a4=>?_⟩
  obtain⟨fq,z⟩:=G.drop (β1.length-β.length)
  exact ok p xs F' H' B' fq x z a1 a2 a3 a4
 .cases e
section
variable {K:W.Frag}{F0 H0 F H B:Hp}{σ:St}{ρ:Ro}{β:Bx}{fp:List Addr}
end
section
variable {X:Cx}{a b c e o:Expr}{pos:Pos}{st:Stmt}{rest:List Stmt}{E:XK}{es:List Expr}{mf:MFW}{m:ML}
end
end
section
section
variable {X:Cx}{a b c e o:Expr}{pos apos:Pos}{E:XK}{es:List Expr}{m:ML}{mo:ME}
end
noncomputable def updB (p:Addr)(c':Cell):Bx->Bx
 |[]=>[]
 | (q,c)::β=>if q=p then (q,c')::β else (q,c)::updB p c' β
section
variable {K:W.Frag}{F0 H0 F H B:Hp}{σ:St}{ρ:Ro}{β:Bx}{fp:List Addr}
theorem BxR.upd {p:Addr}{c:Cell}:∀{fp:List Addr}{β:Bx},BxR K F B fp β->fp.Nodup->β.lookup p=some c->∃ fq,CellR K F B fq p c/\fq.Nodup/\(∀ a∈fq,a∈fp)/\
  ∀(Y:Cell)(j:List Addr)(B' F':Hp),Same F F'->CellR K F' B' j p Y->j.Nodup->(∀ a∈fp,a∉fq->B' a=B a)->(∀ a∈j,a∈fq\/a∉fp)->∃ G,BxR K F' B' G (updB p Y β)/\G.Nodup/\∀ a∈G,a∈fp\/a∈j
 |_,_,.nil,_,e=>by cases e
 |_,_,.cons (fp:=f0) (fq:=f1) (p:=q) (c:=c0) (β:=β) h r,nd,e=>by
  obtain⟨n0,n1,n2⟩:=List.nodup_append.mp nd
  have U:∀ a,a∈f0->a∈f1->False:=fun a h1 h2=>n2 a h1 a h2 rfl
  rw[lookup_cons]at e
  cases z:p==q with
  |true=>
   rw[z]at e
   have z:=beq_iff_eq.mp z
   subst z
   cases e
   refine⟨f0,h,n0,fun a ha=>mem_append_left _ ha,fun Y j B' F' Z hc nq ag fr=>?_⟩
   unfold updB
   rw[if_pos rfl]
   refine⟨j++f1,.cons hc (r.mono Z fun a ha=>ag a (mem_append_right _ ha) fun z=>U a z ha),List.nodup_append.mpr ⟨nq,n1,fun a h1 b h2 O=>?_⟩,fun a ha=>?_⟩
   .subst O
    rcases fr a h1 with z|z
    .exact U a z h2
    .exact z (mem_append_right _ h2)
   .rcases List.mem_append.mp ha with z|z
    .exact .inr z
    .exact .inl (mem_append_right _ z)
  |false=>
   rw[z]at e
   have a4:¬ q=p:=fun y=>by rw[y,beq_self_eq_true]at z;cases z
   obtain⟨fq,h1,a1,N,a3⟩:=r.upd n1 e
   refine⟨fq,h1,a1,fun a ha=>mem_append_right _ (N a ha),fun Y j B' F' Z hc nq ag fr=>?_⟩
   obtain⟨G,r',a2,hm⟩:=a3 Y j B' F' Z hc nq (fun a ha hn=>ag a (mem_append_right _ ha) hn) fun a ha=>(fr a ha).imp id fun z y=>z (mem_append_right _ y)
   unfold updB
   rw[if_neg a4]
   refine⟨f0++G,.cons (h.mono Z fun a ha=>ag a (mem_append_left _ ha) fun y=>U a ha (N a y)) r',List.nodup_append.mpr ⟨n0,a2,fun a h1 b h2 O=>?_⟩,fun a ha=>?_⟩
   .subst O
    rcases hm a h2 with z|z
    .exact U a h1 z
    .rcases fr a z with y|y
     .exact U a h1 (N a y)
     .exact y (mem_append_left _ h1)
   .rcases List.mem_append.mp ha with z|z
    .exact .inl (mem_append_left _ z)
    .exact(hm a z).imp (mem_append_right _) id
theorem Rl.putB {a:Addr}{o:HO}(j:Rl K F0 (jn H0 B) F H σ ρ)(out:∀ b,B b≠none->H0 b=none/\F0 b=none)(ha:B a≠none\/H a=none):Rl K F0 (jn H0 (upd B a o)) F (upd H a o) σ ρ/\F a=none/\H0 a=none/\F0 a=none:=by
 have O:F a=none/\H0 a=none/\F0 a=none:=by
  rcases ha with h|h
  .refine⟨?_,out a h⟩
   cases q:F a with
   |none=>rfl
   |some u=>exact absurd (f6 (j.ext.new a (out a h).2 (by rw[q];simp))).1 h
  .have f:F a=none:=j.fh.free h
   exact⟨f,(f6 (j.ext.hh.free h)).2,j.ext.ff.free f⟩
 have N:∀ b,b≠a->jn H0 (upd B a o) b=jn H0 B b:=fun b G=>by unfold jn;rw[y3 G]
 have ne:∀ p xs,jn H0 B p=none->H p=some (.lst xs)->p≠a:=fun p xs e1 e2 e3=>by
  subst e3
  rcases ha with h|h
  .exact h (f6 e1).1
  .rw[h]at e2;cases e2
 refine⟨⟨⟨j.ext.ff,fun b u e=>?_,j.ext.fh.put O.1,fun b e n=>?_,j.ext.nf⟩,j.len,j.sh,fun i ds e=>?_,j.inj,fun i p ds e=>?_,j.obn,j.ob1⟩,O⟩
 .by_cases G:b=a
  .subst G
   rw[g9 y2]at e
   rw[y2];exact e
  .rw[N b G]at e
   rw[y3 G]
   exact j.ext.hh b u e
 .have G:b≠a:=fun z=>by subst z;exact n O.1
  rw[N b G]
  exact j.ext.new b e n
 .obtain⟨p,xs,a1,a2,a3,a4,a5⟩:=j.own i ds e
  have hp:=ne p xs a5 a3
  exact⟨p,xs,a1,a2,by rw[y3 hp];exact a3,a4,by rw[N p hp];exact a5⟩
 .obtain⟨a1,a2,a3,xs,a4,a5⟩:=j.ob i p ds e
  have hp:=ne p xs a3 a4
  exact⟨a1,a2,by rw[N p hp];exact a3,xs,by rw[y3 hp];exact a4,a5⟩
end
end
section
section
variable {K:W.Frag}{F0 H0 F H B:Hp}{σ:St}{ρ:Ro}{β:Bx}{fp:List Addr}
theorem FlR.length {xs:List V}{fs:List Fl}(h:FlR K F B fp xs fs):xs.length=fs.length:=by
 induction h with
 |nil=>rfl
 |v _ _ j=>simp[j]
 |l _ _ _ j=>simp[j]
theorem yi6 {a:Addr}{o:HO}(out:∀ b,B b≠none->H0 b=none/\F0 b=none)(h:H0 a=none/\F0 a=none):∀ b,upd B a o b≠none->H0 b=none/\F0 b=none:=fun b j=>by
 by_cases z:b=a
 .subst z;exact h
 .rw[y3 z]at j;exact out b j
theorem ze2 {a:Addr}{o:HO}(pl:∀ b o u,B b≠some (.frz o u))(h:∀ p u,o≠ .frz p u):∀ b p u,upd B a o b≠some (.frz p u):=fun b p u j=>by
 by_cases z:b=a
 .subst z;rw[y2]at j;exact h p u (Option.some.inj j)
 .rw[y3 z]at j;exact pl b p u j
end
section
variable {X:Cx}{value o:Expr}{pos pos':Pos}{f:Str}
end
end
section
section
variable {X:Cx}{value e o:Expr}{pos pos' apos cpos:Pos}{f:Str}{st:Stmt}{rest:List Stmt}
end
end
section
theorem Rl.forget {K:W.Frag}{F0 H0 F H:Hp}{σ:St}{ρ:Ro}(r:Rl K F0 H0 F H σ ρ)(i:Nat):Rl K F0 H0 F H σ (ρ.set i none):=by
 have G:∀(j:Nat) x,(ρ.set i none)[j]? =some (some x)->ρ[j]? =some (some x):=fun j x e=>by
  by_cases O:i=j
  .subst O
   rcases Nat.lt_or_ge i ρ.length with z|z
   .rw[getElem?_set_self z]at e;cases e
   .rw[getElem?_eq_none (by simpa using z)]at e;cases e
  .rw[getElem?_set_ne O]at e;exact e
 exact⟨r.ext,by simp[r.len],fun j d e=>r.sh j d (G j _ e),fun j ds e=>r.own j ds (G j _ e),fun j k p ds es N e1 e2=>r.inj j k p ds es N (G j _ e1) (G k _ e2),fun j p ds e=>r.ob j p ds (G j _ e),fun j k p ds es e1 e2=>r.obn j k p ds es (G j _ e1) (G k _ e2),fun j k p q ds es e1 e2=>r.ob1 j k p q ds es (G j _ e1) (G k _ e2)⟩
open Classical in
noncomputable def anyN {α:Type}(β:Bx)(f:Addr->Option α):Option α:=if h:∃ r,∀ x,x∉β.map Prod.fst->f x=some r then some (Classical.choose h)else none
theorem yt6 {α:Type}{β:Bx}{f:Addr->Option α}{r:α}(h:anyN β f=some r):∀ x,x∉β.map Prod.fst->f x=some r:=by
 unfold anyN at h
 split at h
 .rename_i hx
  cases h
  exact Classical.choose_spec hx
 .cases h
theorem zg7 (l:List Addr):∃ x,x∉l:=by
 have G:∀ l:List Addr,∃ b,∀ a∈l,a<b:=by
  intro l
  induction l with
  |nil=>exact⟨0,fun a h=>by cases h⟩
  |cons a l N=>
   obtain⟨b,z⟩:=N
   refine⟨max b (a+1),fun c j=>?_⟩
   rcases List.mem_cons.mp j with rfl|j
   .have:=Nat.le_max_right b (c+1);exact Nat.lt_of_lt_of_le (Nat.lt_succ_self c) this
   .exact Nat.lt_of_lt_of_le (z c j) (Nat.le_max_left _ _)
 obtain⟨b,z⟩:=G l
 exact⟨b,fun h=>Nat.lt_irrefl _ (z b h)⟩
theorem xz0 {α:Type}{β:Bx}{f:Addr->Option α}{r:α}(h:∀ x,x∉β.map Prod.fst->f x=some r):anyN β f=some r:=by
 unfold anyN
 have j:∃ r,∀ x,x∉β.map Prod.fst->f x=some r:=⟨r,h⟩
 rw[dif_pos j]
 obtain⟨x,hn⟩:=zg7 (β.map Prod.fst)
 have:=Classical.choose_spec j x hn
 rw[h x hn]at this
 exact this.symm
noncomputable def letGo (i:Nat)(k:Nat):Out×Bx->Out×Bx
 | (.nx ρ,β)=>(.nx (ρ.set i none),β.drop (β.length-k))
 | (.bk ρ,β)=>(.bk (ρ.set i none),β.drop (β.length-k))
 | (.ct ρ,β)=>(.ct (ρ.set i none),β.drop (β.length-k))
 | (o,β)=>(o,β.drop (β.length-k))
theorem okW.letGo {K:W.Frag}{F0 H0 N:Hp}{O:Ends}{i k:Nat}:∀{o:Out}{β:Bx},okW K F0 H0 N O (letGo i k (o,β)).1 (letGo i k (o,β)).2->okW K F0 H0 N O o β
 | .nx ρ,β,h=>fun F H σ ⟨B,fp,G,ok⟩ s=>let ⟨fq,z⟩:=ok.drop (β.length-k);h F H σ ⟨B,fq,G.forget i,z⟩ s
 | .bk ρ,β,h=>fun F H σ ⟨B,fp,G,ok⟩ s=>let ⟨fq,z⟩:=ok.drop (β.length-k);h F H σ ⟨B,fq,G.forget i,z⟩ s
 | .ct ρ,β,h=>fun F H σ ⟨B,fp,G,ok⟩ s=>let ⟨fq,z⟩:=ok.drop (β.length-k);h F H σ ⟨B,fq,G.forget i,z⟩ s
 | .rt d,β,h=>fun v F H B fp x ok r=>let ⟨fq,z⟩:=ok.drop (β.length-k);h v F H B fq x z r
 | .rf ds,β,h=>fun p xs F H B fp x ok a b c r=>let ⟨fq,z⟩:=ok.drop (β.length-k);h p xs F H B fq x z a b c r
 | .rg d p r,β,h=>fun v F H xs B fp x ok a j b c e=>let ⟨fq,z⟩:=ok.drop (β.length-k);h v F H xs B fq x z a j b c e
 | .rp _ _,_,h=>h
 | .rgf _ _ _,_,h=>h
section
variable {X:Cx}{e:Expr}{es:List Expr}{st:Stmt}{rest:List Stmt}{E:XK}{mf:MFW}{m:ML}
theorem BxR.keys {K:W.Frag}{F B:Hp}:∀{fp:List Addr}{β:Bx},BxR K F B fp β->∀ p∈β.map Prod.fst,B p≠none
 |_,_,.nil,p,h=>by cases h
 |_,_,.cons (p:=q) c r,p,h=>by
  rw[map_cons]at h
  rcases List.mem_cons.mp h with z|z
  .subst z
   cases c with
   |ins _ _ b _ _=>rw[b];simp
   |row b _=>rw[b];simp
   |tb _ b _ _=>rw[b];simp
  .exact r.keys p z
end
noncomputable def plainW (mf:MFW):MF:=fun ds=>match mf ds []with |some (.sh d,_)=>some (.sh d)|some (.fr es,_)=>some (.fr es)|_=>none
theorem Ext.unjn {F H B F' H':Hp}(d:∀ a,B a≠none->H a=none)(x:Ext F (jn H B) F' H'):Ext F H F' H':=
 ⟨x.ff,fun a o e=>x.hh a o (by
  cases q:B a with
  |none=>rw[Y1 q];exact e
  |some u=>rw[d a (by rw[q];simp)]at e;cases e),x.fh,fun b e n=>(f6 (x.new b e n)).2,x.nf⟩
theorem FnOk.plainW {P:Program}{w:World}{K:W.Frag}{mg:Str->Option Value}{base:Heap}{CX:CXT}{k:Nat}{f:Addr}{fd:FuncData}{ps:List Str}{n:Nat}{mf:MFW}(G:FnOk P w K mg base CX k f fd ps (spW K n mf)):FnOk P w K mg base CX k f fd ps (spR K n (plainW mf)):=G.imp fun vs H Q E z=>by
 obtain⟨hl,F,ds,r,O,U,e,ok⟩:=z
 have Y:cut H (fun _=>none)=H:=funext fun a=>yv1 rfl
 have Z:BxOk K F (cut H fun _=>none) F (fun _=>none) [] []:=⟨fun a h=>absurd rfl h,.nil,nodup_nil,fun a o u h=>by cases h⟩
 refine⟨hl,F,fun _=>none,[],ds,[],?_⟩
 unfold L2.plainW at e
 split at e
 .rename_i d β h1
  cases e
  refine⟨_,_,O,fun a o h=>(by cases h),Z,U,h1,fun v F' H' B' N x j r=>?_⟩
  rw[Y]at x j
  exact ok v F' H' (x.unjn fun a h=>(j.out a h).1) r
 .rename_i es β h1
  cases e
  refine⟨_,_,O,fun a o h=>(by cases h),Z,U,h1,fun p xs F' H' B' N x j a1 a2 a3 a4=>?_⟩
  rw[Y]at x j a1
  exact ok p xs F' H' (x.unjn fun a h=>(j.out a h).1) (f6 a1).2 a2 a3 a4
 .cases e
end
section
section
variable {X:Cx}{a b c e o:Expr}{pos:Pos}{st:Stmt}{rest:List Stmt}{E:XK}{es:List Expr}{mf:MFW}
end
end
section
section
variable {X:Cx}{e o:Expr}{E:XK}
end
end
section
section
variable {X:Cx}{e:Expr}{pos:Pos}
end
end
section
section
variable {K:W.Frag}{F0 H0 F H B:Hp}{σ:St}{ρ:Ro}{β:Bx}{fp:List Addr}
end
noncomputable abbrev MGW:=Addr->List D->List D->Bx->Option (D×List D×Bx)
section
variable {X:Cx}{e:Expr}{pos:Pos}{st:Stmt}{es:List Expr}{E:XK}{mf:MGW}{m:ML}
end
end
section
end
section
def qfnD (K:W.Frag)(nm ql:Str)(st:Stmt)(x:Addr):Prop:=∃(oc:Value)(o1:Option Addr)(kV dc pm:Value)(o2:Option Addr)(cd ct:Value)(sl:Array (Option Value)),K.lookup x=some ⟨oc,o1,.func (W.fnOf nm ql (X8 st) (j2 st) (z9 st) .none kV dc pm o2 cd ct),sl⟩/\W.codeIn K cd ql=true/\W.keepIn K (.ref x)=true
def QDn (K:W.Frag)(nm:Str)(st:Stmt):Prop:=∃ x:Addr,W.nsIn K mainGlobals nm=some (some (.ref x))/\qfnD K nm nm st x
def QMn (K:W.Frag)(C:Addr)(nm ql:Str)(st:Stmt):Prop:=∃ x:Addr,W.findIn K (.ref C) nm=some (some (.ref x))/\W.isFn K (.ref x)=true/\qfnD K nm ql st x
theorem QDn.of {K:W.Frag}{nm:Str}{st:Stmt}{x:Addr}{oc:Value}{G:Option Addr}{kV N pm:Value}{z:Option Addr}{j ct:Value}{sl:Array (Option Value)}(e:W.nsIn K mainGlobals nm=some (some (.ref x)))(l:K.lookup x=some ⟨oc,G,.func (W.fnOf nm nm (X8 st) (j2 st) (z9 st) .none kV N pm z j ct),sl⟩)(c:W.codeIn K j nm=true)(k:W.keepIn K (.ref x)=true):QDn K nm st:=⟨x,e,oc,G,kV,N,pm,z,j,ct,sl,l,c,k⟩
theorem QMn.of {K:W.Frag}{C:Addr}{nm ql:Str}{st:Stmt}{x:Addr}{oc:Value}{G:Option Addr}{kV N pm:Value}{z:Option Addr}{j ct:Value}{sl:Array (Option Value)}(e:W.findIn K (.ref C) nm=some (some (.ref x)))(i:W.isFn K (.ref x)=true)(l:K.lookup x=some ⟨oc,G,.func (W.fnOf nm ql (X8 st) (j2 st) (z9 st) .none kV N pm z j ct),sl⟩)(c:W.codeIn K j ql=true)(k:W.keepIn K (.ref x)=true):QMn K C nm ql st:=⟨x,e,i,oc,G,kV,N,pm,z,j,ct,sl,l,c,k⟩
abbrev QBdD (nm ql:Str)(st:Stmt)(ps:List Str)(us:List Value):Prop:=∀(kV doc pm:Value)(an:Option Addr)(cdv ct:Value),bindArgs (W.fnOf nm ql (X8 st) (j2 st) (z9 st) .none kV doc pm an cdv ct) ⟨us,[]⟩=pure (ps.zip us)
section
variable {P:Program}{w:World}{K:W.Frag}{mg:Str->Option Value}{base h:Heap}{nm ql cn:Str}{st:Stmt}{ps:List Str}{sp:Sp}{n:Nat}{C:Addr}
def QDf (K:W.Frag)(mg:Str->Option Value)(nm:Str)(st:Stmt)(ps:List Str):Prop:=∃ f fd,Fun K nm nm st f fd/\Binds K fd ps []/\mg nm=some (.ref f)
def QHd (P:Program)(w:World)(K:W.Frag)(mg:Str->Option Value)(base:Heap)(n:Nat)(nm:Str)(ps:List Str)(sp:Sp):Prop:=∃ f fd,FnOk P w K mg base CX0 n f fd ps sp/\Binds K fd ps []/\W.keepIn K (.ref f)=true/\mg nm=some (.ref f)
theorem qfnD.mk {x:Addr}(D:qfnD K nm ql st x)(z:∀ us:List Value,us.length=ps.length->QBdD nm ql st ps us):∃ fd,Fun K nm ql st x fd/\Binds K fd ps []:=by
 obtain⟨oc,N,kV,O,pm,G,U,ct,sl,l,c,k⟩:=D
 exact⟨_,yw3 l c k,(yw3 l c k).binds fun _ _ _ _ _ _ us j=>z us j _ _ _ _ _ _⟩
theorem QDn.df (D:QDn K nm st)(X:K.In h)(G:h.Ns mainGlobals mg)(j:∀ us:List Value,us.length=ps.length->QBdD nm nm st ps us):QDf K mg nm st ps:=by
 obtain⟨x,e,D⟩:=D
 obtain⟨fd,F,b⟩:=D.mk j
 exact⟨x,fd,F,b,W.mg_of X G e⟩
theorem QDf.mk (D:QDf K mg nm st ps)(h:∀ f fd,Fun K nm nm st f fd->FnOk P w K mg base CX0 n f fd ps sp):QHd P w K mg base n nm ps sp:=by
 obtain⟨f,fd,F,b,a⟩:=D
 exact⟨f,fd,h f fd F,b,F.kp,a⟩
theorem qbd1 {P:List Value->Prop}(h:∀ a,P [a]):∀ us:List Value,us.length=1->P us
 |[a],_=>h a
theorem qbd2 {P:List Value->Prop}(h:∀ a b,P [a,b]):∀ us:List Value,us.length=2->P us
 |[a,b],_=>h a b
theorem qbd3 {P:List Value->Prop}(h:∀ a b c,P [a,b,c]):∀ us:List Value,us.length=3->P us
 |[a,b,c],_=>h a b c
end
section
variable {X:Cx}{n k:Nat}{nm cn:Str}{ps:List Str}{sp:Sp}{e o:Expr}{es:List Expr}{ta:TE}{t:TA}{p pos apos:Pos}{C:Addr}{pl:Sem Bool}
theorem qcl (H:QHd X.prog X.w X.K X.mg X.base n nm ps sp)(hr:Room k X.A)(ha:PA X (e::es) t)(hn:n<=k:=by decide)(G:Gl X nm:=by rfl)(z:(nm==("__debug__":Str))=false:=by decide)(N:starEach (e::es) X.env=(false,eval e X.env)::starEach es X.env:=by rfl)(j:(backTo pos (starEach es X.env)).any (·.1)=false:=by rfl):
  PE X (.Call (.Name nm p) (e::es) [] pos) (zh2 sp [] E0 t):=by
 obtain⟨f,fd,F,b,kk,a⟩:=H
 exact yf8 (F.mono hn) hr G a kk b .nil xm2 ha z N j
end
theorem qap {X:Cx}{o e:Expr}{es:List Expr}{to:TE}{t:TA}{apos cpos:Pos}(O:PE X o to)(ha:PA X (e::es) t)
  (G:attributeBase o "append" X.env (eval o X.env)=eval o X.env:=by rfl)
  (N:((backTo cpos (starEach (e::es) X.env)).all (fun x=>!x.1)&&(backToKw cpos (keywordEach [] X.env)).all (fun x=>x.1.isSome)
   &&decide ((e::es).length+([]:List Keyword).length+(if ([]:List Keyword).isEmpty then 0 else 1)<30))=true:=by rfl)
  (z:(apos.endLine==cpos.line)=true:=by rfl) (hs:starEach (e::es) X.env=(false,eval e X.env)::starEach es X.env:=by rfl) (j:(backTo cpos (starEach es X.env)).any (·.1)=false:=by rfl):
  PE X (.Call (.Attribute o "append" apos) (e::es) [] cpos) (tBM X.K "list" zt3 to t):=xm1 PySem.F.plainAttrs_list PySem.F.slot_list_append PySem.F.type_list_append zx9 O ha G N z hs j
section
variable {a b c d e f:ME}(ρ:Ro)(ds:List D)
theorem qal1:z4 a anil ρ=some ds->ds.length=0+1:=J8 Z7 ρ ds
theorem qal2:z4 a (z4 b anil) ρ=some ds->ds.length=0+1+1:=J8 qal1 ρ ds
theorem qal3:z4 a (z4 b (z4 c anil)) ρ=some ds->ds.length=0+1+1+1:=J8 qal2 ρ ds
end
theorem qsc {N P:List Str}{sc:Scope}(a:sc.kind= .function:=by rfl)(b:sc.isCoroutine=false:=by rfl)(c:sc.isGenerator=false:=by rfl)(d:N.Nodup:=by decide +kernel)(e:N.take P.length=P:=by rfl)(f:∀ x∈P,sc.names.lookup x=some .local\/sc.names.lookup x=some .cell:=by decide +kernel)(g:∀ y∈sc.names,y.2≠ .free:=by decide +kernel):FnScope N P sc:=⟨a,b,c,d,e,f,g⟩
end
section
section
variable {X:Cx}{a b c e:Expr}{pos:Pos}{st:Stmt}
@[irreducible] noncomputable def zz0 (x y:MBm):MBm:=fun ρ=>match x ρ with |some (true,ρ1)=>y ρ1|some (false,ρ1)=>some (false,ρ1)|none=>none
theorem zo6 {ca:MBm}(h:PT X a (TCm X.K ca)):PW X (.BoolOp .And [a] pos) (TCm X.K ca):=zd8 h
theorem zd7 {ca cb:MBm}{rest:List Expr}(ha:PT X a (TCm X.K ca))(O:PW X (.BoolOp .And (b::rest) pos) (TCm X.K cb)):PW X (.BoolOp .And (a::b::rest) pos) (TCm X.K (zz0 ca cb)):=(yk5 ha O).imp fun σ H Q z=>by
 obtain⟨F0,H0,F,ρ,g,ρ',N,e,q⟩:=z
 unfold zz0 at e
 split at e
 .rename_i ρ1 h1
  exact⟨F0,H0,F,ρ,_,ρ1,N,h1,fun F1 H1 j s1=>iteT ⟨F0,H0,F1,ρ1,g,ρ',j,e,fun F2 H2 G s2=>q F2 H2 G (s1.trans s2)⟩⟩
 .rename_i ρ1 h1
  cases e
  exact⟨F0,H0,F,ρ,_,_,N,h1,fun F1 H1 j s1=>iteF (q F1 H1 j s1)⟩
 .cases e
theorem xv4 {ca:MBm}(h:PW X a (TCm X.K ca)):PT X a (TCm X.K ca):=h.pt
@[irreducible] noncomputable def cpu (x:MB):MBm:=fun ρ=>match x ρ with |some b=>some (b,ρ)|none=>none
theorem zn5 {ca:MB}(h:PC' X a ca):PT X a (TCm X.K (cpu ca)):=PT.imp h fun σ H Q j=>by
 obtain⟨F0,H0,F,ρ,g,ρ',G,e,q⟩:=j
 unfold cpu at e
 split at e
 .rename_i b h1
  cases e
  exact⟨F0,H0,F,_,_,G,h1,fun F1 H1 z=>q F1 H1 (G.go z) z.ff⟩
 .cases e
def TIm (K:W.Frag)(mi:MLm):TI:=fun σ H R=>∃ F0 H0 F ρ its ρ1,Rl K F0 H0 F H σ ρ/\mi ρ=some (its,ρ1)/\∀ J F' H',Rl K F0 H0 F' H' σ ρ1->Same F F'->ItD K F' J its->R J H'
@[irreducible] noncomputable def O8 (f:List D->Option (List D))(m:MLm):MLm:=fun ρ=>match m ρ with |some (ds,ρ1)=>(match f ds with |some its=>some (its,ρ1)|none=>none)|none=>none
theorem E1 {tg a:Expr}{m:MLm}{p pos:Pos}(O:Gl X "range")(hm:X.mg "range"=none)(ha:PAm X [a] m)(hs:starEach [a] X.env=[(false,eval a X.env)]:=by rfl):PI X tg (.Call (.Name "range" p) [a] [] pos) (TIm X.K (O8 rng1 m)):=PI.imp (zx3 O hm ha hs) fun σ H R z=>by
 obtain⟨F0,H0,F,ρ,its,ρ1,N,e,q⟩:=z
 unfold O8 at e
 split at e
 .rename_i ds ρ2 h1
  split at e
  .rename_i its' h2
   cases e
   refine⟨F0,H0,F,ρ,ds,_,N,h1,fun vs F1 H1 G s1 r1=>?_⟩
   unfold rng1 at h2
   split at h2
   .rename_i j
    split at h2
    .rename_i hk
     cases h2
     unfold okR at hk
     simp only[Bool.and_eq_true,decide_eq_true_eq]at hk
     cases r1 with
     |cons r rr=>
      cases rr
      exact⟨j,by rw[r.i'],hk.1,hk.2,q _ F1 H1 G s1 K3⟩
    .cases h2
   .cases h2
  .cases e
 .cases e
noncomputable def J0 (k j:Nat)(body:MS):Nat->List (List D)->MS
 |_,[],ρ=>some (.nx ρ)
 |n,ds::dss,ρ=>match body ((ρ.set k (some (.sh (.int n)))).set j (some (.own ds)))with
  |some (.nx ρ2)=>J0 k j body (n+1) dss ρ2
  |some (.ct ρ2)=>J0 k j body (n+1) dss ρ2
  |some (.bk ρ2)=>some (.nx ρ2)
  |o=>o
noncomputable def zm7 (mi:MP)(k j:Nat)(body:MS):MS:=fun ρ=>(mi ρ).bind fun dss=>J0 k j body 0 dss ρ
theorem zc1 {iter:Expr}{body:List Stmt}{mi:MP}{k j:Nat}{p0 cpos:Pos}{es:List Expr}{tk:Nat}{tp:Pos}{mb:MS}(hp:PassesOwn (model X.prog X.w) X.A X.env X.xe)(hc:X.calm=true)(b6:Gl X "enumerate")(b0:X.mg "enumerate"=none)(hi:PP X iter mi)(hg:PG X (.Tuple es tk tp) (gTup X.K 2 (yn3 (Y2 k) (yn3 (Y2 j) gNil))))(O:PSsd X body mb)
  (ak:starEach [iter] X.env=[(false,eval iter X.env)]:=by rfl) (hs:∀ v,foldedSetIterable (.Call (.Name "enumerate" p0) [iter] [] cpos) X.env v=pure v:=by intro _;rfl):PSd X (.For (.Tuple es tk tp) (.Call (.Name "enumerate" p0) [iter] [] cpos) body [] pos) (zm7 mi k j mb):=(zc3 hp hc (zb3 b6 b0 (m9 hi pa_nil (by rw[ak];rfl)) ak) hg O hs).imp fun Dn σ H an=>by
 obtain⟨F0,H0,F,ρ,o,rl,e,ok⟩:=an
 unfold zm7 at e
 cases h1:mi ρ with
 |none=>rw[h1]at e;cases e
 |some dss=>
  rw[h1]at e
  have e:J0 k j mb 0 dss ρ=some o:=e
  refine⟨F0,H0,F,ρ,dss,rl,h1,fun p qs F1 H1 x1 pt=>?_⟩
  have pn:=List.nodup_cons.mp pt.nd
  have aq:H0 p=none:=rl.ext.hh.free pt.hp
  have af:∀ q∈qs,H0 q=none:=fun q hq=>rl.ext.hh.free (pt.new q hq).1
  have b7:∀ q∈qs,F0 q=none:=fun q hq=>(rl.ext.ff.trans x1.ff).free (pt.new q hq).2
  have sm:∀ A:List Addr,(∀ b∈A,b=p\/b∈qs)->Same H0 (Hx H0 H1 A):=fun A hA b u e=>by
   by_cases O:b∈A
   .rcases hA b O with z|z
    .rw[z,aq]at e;cases e
    .rw[af b z]at e;cases e
   .rw[N8 O];exact e
  have sub:∀ i,∀ b∈p::qs.drop i,b=p\/b∈qs:=fun i b O=>by
   rcases List.mem_cons.mp O with z|z
   .exact .inl z
   .exact .inr (mem_of_mem_drop z)
  refine⟨p,_,rfl,SqL.of pt.at',?_⟩
  have G:=rl.go x1
  have ah:Rl X.K F0 (Hx H0 H1 (p::qs.drop 0)) F1 H1 σ ρ:=by
   have fr:∀ b∈p::qs.drop 0,H b=none/\F1 b=none:=fun b O=>by
    rcases sub 0 b O with z|z
    .rw[z];exact⟨pt.hp,pt.fp⟩
    .exact pt.new b z
   have ai:∀ b u,H b=some u->b∉p::qs.drop 0:=fun b u e O=>by rw[(fr b O).1]at e;cases e
   refine⟨⟨G.ext.ff,fun b u e=>?_,G.ext.fh,fun b e n=>?_,G.ext.nf⟩,G.len,G.sh,fun i ds h=>?_,G.inj,fun i w ds h=>?_,G.obn,G.ob1⟩
   .by_cases O:b∈p::qs.drop 0
    .rw[zp8 O]at e;exact e
    .rw[N8 O]at e;exact G.ext.hh b u e
   .have nb:b∉p::qs.drop 0:=fun O=>n (fr b O).2
    rw[N8 nb];exact G.ext.new b e n
   .obtain⟨w,xs,a1,a2,a3,a4,a5⟩:=rl.own i ds h
    obtain⟨w',ar,b1,b2,b3,b4,b5⟩:=G.own i ds h
    rw[a1]at b1;cases b1
    exact⟨w,ar,a1,b2,b3,b4,by rw[N8 (ai _ _ a3)];exact b5⟩
   .obtain⟨a1,a2,a3,xs,a4,a5⟩:=rl.ob i w ds h
    obtain⟨b1,b2,b3,b4⟩:=G.ob i w ds h
    exact⟨b1,b2,by rw[N8 (ai _ _ a4)];exact b3,b4⟩
  have hn:qs.length=dss.length:=pt.rep.length
  refine⟨fun i m aa H'=>∃ F' ρ',Rl X.K F0 (Hx H0 H1 (p::qs.drop i)) F' H' aa ρ'/\Same F1 F'/\i<=dss.length/\m=dss.length-i/\J0 k j mb i (dss.drop i) ρ'=some o,⟨_,F1,ρ,ah,Same.refl _,Nat.zero_le _,rfl,e⟩,?_⟩
  clear e ah G
  rintro i m aa H' ⟨F',ρ',Y,sf,b8,rfl,U⟩
  have ae:H' p=some (.lst (qs.map V.ref)):=Y.ext.hh p _ (by rw[zp8 mem_cons_self];exact pt.at')
  by_cases ao:i<dss.length
  .right
   have hd:=getElem?_eq_getElem ao
   obtain⟨q,xs,hq,ad,az⟩:=pt.rep.get hd
   have ac:q∈qs:=mem_of_getElem? hq
   have a7:qs.drop i=q::qs.drop (i+1):=i9 hq
   have a6:H' q=some (.lst xs):=Y.ext.hh q _ (by rw[zp8 (by rw[a7];simp)];exact ad)
   have am:F' q=none:=by
    cases z:F' q with
    |none=>rfl
    |some u=>
     have:=Y.ext.new q (b7 q ac) (by rw[z];simp)
     rw[zp8 (by rw[a7];simp),ad]at this;cases this
   have al:(qs.map V.ref)[i]? =some (V.ref q):=by rw[getElem?_map,hq];rfl
   refine⟨⟨_,_,SqL.of ae,al⟩,fun ag H2=>∃ F2 N,Rl X.K F0 (Hx H0 H1 (p::qs.drop (i+1))) F2 H2 ag N/\Same F1 F2/\J0 k j mb (i+1) (dss.drop (i+1)) N=some o,?_,fun x H2 y=>?_⟩
   .rintro ag H2 ⟨F2,N,rl2,sf2,e2⟩
    exact⟨dss.length-(i+1),by omega,F2,N,rl2,sf2,ao,rfl,e2⟩
   .obtain⟨t,u,rfl,ht,rfl,y⟩:=y
    have yx:=y _ (SqL.of ae)
    rw[al]at yx;cases yx
    have ax:(q::qs.drop (i+1)).Nodup:=by rw[<-a7];exact pn.2.sublist (drop_sublist _ _)
    have aw:q∉p::qs.drop (i+1):=fun z=>by
     rcases List.mem_cons.mp z with z|z
     .exact pn.1 (z ▸ ac)
     .exact(List.nodup_cons.mp ax).1 z
    have av:q∈p::qs.drop i:=by rw[a7];simp
    have aj:Hx H0 H1 (p::qs.drop i) q=some (.lst xs):=by rw[zp8 av];exact ad
    have as:Same (Hx H0 H1 (p::qs.drop (i+1))) (Hx H0 H1 (p::qs.drop i)):=fun b u e=>by
     by_cases O:b∈p::qs.drop (i+1)
     .have a8:b∈p::qs.drop i:=by
       rw[a7]
       rcases List.mem_cons.mp O with z|z
       .rw[z];simp
       .exact mem_cons_of_mem _ (mem_cons_of_mem _ z)
      rw[zp8 O]at e;rw[zp8 a8];exact e
     .rw[N8 O]at e
      by_cases a8:b∈p::qs.drop i
      .rcases sub i b a8 with z|z
       .rw[z,aq]at e;cases e
       .rw[af b z]at e;cases e
      .rw[N8 a8];exact e
    have ab:=(Y.go (Ext.own (o:=.tup [.int i,.ref q]) Y.fh ht)).set (i:=k) (d:=.int i) (.int _)
    have ay:q≠t:=fun z=>by rw[z,ht]at a6;cases a6
    have au:=(ab.less as).setOwn (i:=j) am (by rw[y3 ay];exact a6) (az.mono sf) (by rw[N8 aw];exact af q ac) (fun k es hk e1 e2=>by
     obtain⟨w,zs,a1,a2,a3,a4,a5⟩:=ab.own k es e1
     rw[a1]at e2;cases e2
     rw[aj]at a5;cases a5) (fun k w es e1 z=>by
     obtain⟨a1,a2,a3,_⟩:=ab.ob k w es e1
     rw[z,aj]at a3;cases a3)
    rw[i9 hd]at U
    unfold J0 at U
    refine⟨t,_,rfl,SqT.of y2,rfl,_,_,rfl,_,_,rfl,rfl,?_⟩
    cases h3:mb ((ρ'.set k (some (.sh (.int i)))).set j (some (.own dss[i])))with
    |none=>simp only[h3]at U;cases U
    |some o1=>
     simp only[h3]at U
     refine⟨F0,_,F',_,o1,au,h3,?_⟩
     cases o1 with
     |nx N=>exact fun F4 H4 a9 Z s4=>⟨F4,N,Z,sf.trans s4,U⟩
     |ct N=>exact fun F4 H4 a9 Z s4=>⟨F4,N,Z,sf.trans s4,U⟩
     |bk N=>
      cases U
      exact fun F4 H4 a9 Z s4=>ok F4 H4 a9 (Z.less (sm _ (sub _))) ((x1.ff.trans sf).trans s4)
     |rt d=>cases U;exact okO.less (o:=.rt d) (sm _ (sub _)) ok
     |rf d=>cases U;exact okO.less (o:=.rf d) (sm _ (sub _)) ok
     |rp d ds=>cases U;exact okO.less (o:=.rp d ds) (sm _ (sub _)) ok
     |rg d p r=>cases U;exact okO.less (o:=.rg d p r) (sm _ (sub _)) ok
     |rgf d p r=>cases U;exact okO.less (o:=.rgf d p r) (sm _ (sub _)) ok
  .left
   have ap:i=dss.length:=by omega
   subst ap
   rw[drop_length]at U
   have U:some (Out.nx ρ')=some o:=U
   cases U
   refine⟨⟨_,SqL.of ae,by rw[length_map,hn];exact Nat.le_refl _⟩,?_⟩
   exact ok F' H' aa (Y.less (sm _ (sub _))) (x1.ff.trans sf)
noncomputable def zm4 (i:Nat):MW:=fun ρ β=>match ρ[i]? with |some (some (.own ds))=>some (.rf ds,β)|_=>none
theorem yr9 (i:Nat){x:Str}{pos':Pos}(h:PE X (.Name x pos') (tVar i)):PSw X (.Return (some (.Name x pos')) pos) (zm4 i):=PS.imp (F9 h) fun D σ H ⟨F0,H0,F,ρ,β,o,z,⟨B,fp,j,k⟩,e,ok⟩=>by
 unfold zm4 at e
 split at e
 .rename_i ds h1
  cases e
  obtain⟨p,xs,e1,e2,e3,N,G⟩:=j.own i _ h1
  exact⟨_,e1,ok p xs F H B fp j.ext k G e2 e3 N⟩
 .cases e
end
end
section
section
variable {X:Cx}{st:Stmt}{sts:List Stmt}
end
end
section
section
variable {X:Cx}{a b c e k:Expr}{te:TE}{ma mb:ME}{la lb:ML}{pos p2:Pos}{st:Stmt}
end
end
section
section
variable {X:Cx}{P:Addr}{pos:Pos}{q:Str}{params:Arguments}{body:Expr}{sc:Scope}
end
end
section
section
variable {X:Cx}{pins:List (Addr×Obj)}{σ:St}{H:Hp}{s:Shared}
end
end
section
section
variable {X:Cx}{pins:List (Addr×Obj)}{σ:St}
end
end
section
open Classical in
section
variable {X:Cx}
end
section
variable {P:Program}{w:World}{K:W.Frag}{mg:Str->Option Value}{base:Heap}{nm:Str}{st:Stmt}{ps:List Str}{sp:Sp}{n:Nat}
end
end
section
end
section
noncomputable def insB (B H:Hp)(L:List Addr):Hp:=fun a=>if a∈L then H a else B a
theorem A7 {B H:Hp}{L:List Addr}{a:Addr}(h:a∈L):insB B H L a=H a:=by unfold insB;rw[if_pos h]
theorem M6 {B H:Hp}{L:List Addr}{a:Addr}(h:a∉L):insB B H L a=B a:=by unfold insB;rw[if_neg h]
section
variable {K:W.Frag}{F0 H0 F H B:Hp}{σ:St}{ρ:Ro}{β:Bx}{fp:List Addr}
theorem Rl.takeBs {L:List Addr}(j:Rl K F0 (jn H0 B) F H σ ρ)(O:∀ q∈L,H q≠none)(U:∀ q∈L,F q=none)(Y:∀ q∈L,jn H0 B q=none)(hn:∀ q∈L,∀(i:Nat) ds,ρ[i]? =some (some (.own ds))->σ[i]? ≠some (some (.ref q)))(N:∀ q∈L,∀(i:Nat) p ds,ρ[i]? =some (some (.ob p ds))->p≠q):Rl K F0 (jn H0 (insB B H L)) F H σ ρ:=by
 have G:∀ b,b∉L->jn H0 (insB B H L) b=jn H0 B b:=fun b N=>by unfold jn;rw[M6 N]
 refine⟨⟨j.ext.ff,fun b u e=>?_,j.ext.fh,fun b e n=>?_,j.ext.nf⟩,j.len,j.sh,fun i ds e=>?_,j.inj,fun i p ds e=>?_,j.obn,j.ob1⟩
 .by_cases hq:b∈L
  .have:=O b hq
   unfold jn at e
   rw[A7 hq]at e
   cases z:H b with
   |none=>exact absurd z this
   |some o=>rw[z]at e;exact e
  .rw[G b hq]at e;exact j.ext.hh b u e
 .have hq:b∉L:=fun z=>n (U b z)
  rw[G b hq];exact j.ext.new b e n
 .obtain⟨p,xs,a1,a2,a3,a4,a5⟩:=j.own i ds e
  exact⟨p,xs,a1,a2,a3,a4,by rw[G p (fun z=>hn p z i ds e a1)];exact a5⟩
 .obtain⟨a1,a2,a3,xs,a4,a5⟩:=j.ob i p ds e
  exact⟨a1,a2,by rw[G p (fun z=>N p z i p ds e rfl)];exact a3,xs,a4,a5⟩
theorem zj4 {B':Hp}:∀{qs:List Addr}{dss:List (List D)},RPs K F H qs dss->(∀ q∈qs,B' q=H q)->FlR K F B' qs (qs.map V.ref) (dss.map .l)
 |_,_,.nil,_=>.nil
 |_,_,.cons h r t,k=>.l (by rw[k _ (by simp)];exact h) r (zj4 t fun q j=>k q (mem_cons_of_mem _ j))
theorem RlW.pots {F' H':Hp}{p:Addr}{qs:List Addr}{dss:List (List D)}(N:Rl K F0 (jn H0 B) F H σ ρ)(ok:BxOk K F0 H0 F B fp β)(x:Ext F H F' H')(P:Pots K H F' H' p qs dss):RlW K F0 H0 F' H' σ ρ ((p,.row (dss.map .l))::β)/\B p=none:=by
 have new:∀ q∈p::qs,H q=none/\F' q=none/\H' q≠none:=fun q j=>by
  rcases List.mem_cons.mp j with e|j
  .subst e;exact⟨P.hp,P.fp,by rw[P.at'];simp⟩
  .obtain⟨o,ho⟩:=P.rep.some q j
   exact⟨(P.new q j).1,(P.new q j).2,by rw[ho];simp⟩
 have U:∀ q∈p::qs,jn H0 B q=none:=fun q j=>N.ext.hh.free (new q j).1
 have hB:∀ q∈p::qs,B q=none:=fun q j=>(f6 (U q j)).1
 have O:=(N.go x).takeBs (L:=p::qs) (fun q j=>(new q j).2.2) (fun q j=>(new q j).2.1) U (fun q j i ds e z=>by
  obtain⟨Z,xs,a1,_,a3,_⟩:=N.own i ds e
  rw[z]at a1;cases a1
  rw[(new q j).1]at a3;cases a3) (fun q j i Z ds e z=>by
  obtain⟨_,_,_,xs,a4,_⟩:=N.ob i Z ds e
  rw[z,(new q j).1]at a4;cases a4)
 have G:∀ a∈fp,a∉p::qs:=fun a ha z=>ok.bx.mem a ha (hB a z)
 refine⟨⟨insB B H' (p::qs),(p::qs)++fp,O,fun a h=>?_,.cons (.row (by rw[A7 (by simp)];exact P.at') (zj4 P.rep fun q j=>A7 (mem_cons_of_mem _ j))) (ok.bx.mono x.ff fun a ha=>M6 (G a ha)),List.nodup_append.mpr ⟨P.nd,ok.nd,fun a h1 b h2 z=>by subst z;exact G a h2 h1⟩,fun a o u h=>?_⟩,hB p (by simp)⟩
 .by_cases j:a∈p::qs
  .exact⟨(f6 (U a j)).2,N.ext.ff.free (N.fh.free (new a j).1)⟩
  .rw[M6 j]at h;exact ok.out a h
 .by_cases j:a∈p::qs
  .rw[A7 j]at h
   rcases List.mem_cons.mp j with e|j
   .subst e;rw[P.at']at h;cases h
   .obtain⟨i,hi,hiq⟩:=getElem_of_mem j
    have hr:=P.rep
    have:∃ xs,H' a=some (.lst xs):=by
     clear h
     have Y:∀{qs:List Addr}{dss:List (List D)},RPs K F' H' qs dss->a∈qs->∃ xs,H' a=some (.lst xs):=by
      intro qs dss r
      induction r with
      |nil=>intro h;cases h
      |cons h1 _ _ ih=>
       intro h
       rcases List.mem_cons.mp h with e|h
       .subst e;exact⟨_,h1⟩
       .exact ih h
     exact Y hr j
    obtain⟨xs,e⟩:=this
    rw[e]at h;cases h
  .rw[M6 j]at h;exact ok.plain a o u h
theorem FlR.at' {n:Nat}{ds:List D}:∀{n:Nat}{fp:List Addr}{xs:List V}{fs:List Fl},FlR K F B fp xs fs->fp.Nodup->fs[n]? =some (.l ds)->∃ q ys,xs[n]? =some (.ref q)/\q∈fp/\B q=some (.lst ys)/\Reps K F ys ds/\
  ∀(B' F':Hp) j G,Same F F'->B' q=some (.lst j)->Reps K F' j G->(∀ a∈fp,a≠q->B' a=B a)->FlR K F' B' fp xs (fs.set n (.l G))
 |_,_,_,_,.nil,_,e=>by simp at e
 |0,_,_,_,.v _ _,_,e=>by simp at e
 |n+1,_,_,_,.v r t,nd,e=>by
  obtain⟨q,ys,a1,Z,a3,a4,a5⟩:=FlR.at' (n:=n) t nd (by simpa using e)
  exact⟨q,ys,by simpa using a1,Z,a3,a4,fun B' F' j G N Y U O=>.v (r.mono N) (a5 B' F' j G N Y U O)⟩
 |0,_,_,_,.l (fp:=fp) (q:=q) b r t,nd,e=>by
  simp at e
  subst e
  have hn:=List.nodup_cons.mp nd
  exact⟨q,_,rfl,by simp,b,r,fun B' F' j G N Y U O=>.l Y U (t.mono N fun a ha=>O a (by simp[ha]) fun z=>hn.1 (z ▸ ha))⟩
 |n+1,_,_,_,.l (fp:=fp) (q:=q0) b r t,nd,e=>by
  have hn:=List.nodup_cons.mp nd
  obtain⟨q,ys,a1,Z,a3,a4,a5⟩:=FlR.at' (n:=n) t hn.2 (by simpa using e)
  exact⟨q,ys,by simpa using a1,by simp[Z],a3,a4,fun B' F' j G N Y U O=>.l (by rw[O q0 (by simp) fun z=>hn.1 (z ▸ Z)];exact b) (r.mono N) (a5 B' F' j G N Y U fun a ha hq=>O a (by simp[ha]) hq)⟩
end
noncomputable def yp4 (i:Nat)(mp:MP)(rest:MW):MW:=fun ρ β=>(mp ρ).bind fun dss=>anyN β fun x=>(rest (ρ.set i (some (.sh (.ptr x)))) ((x,.row (dss.map .l))::β)).map (letGo i β.length)
section
variable {X:Cx}{a b c e:Expr}{pos:Pos}{st:Stmt}{rest:List Stmt}{E:XK}{es:List Expr}{mf:MFW}{m:ML}
theorem zc0 {i:Nat}{src:List (Option Nat)}{O:ML}{g:Tg}{j:ML}{N:MW}(hS:PS X st (tAsg (J9 src (TId X.K O) (TGd X.K g) (TC X.K cyes) (TF X.K j)) (Y2 i)))(hr:PSsw X rest N):PSsw X (st::rest) (yp4 i (U1 src O g j) N):=PSs.imp (M4 hS hr) fun Dn σ H ⟨F0,H0,F,ρ,β,o,U,⟨B,fp,rl,ok⟩,e,k⟩=>by
 unfold yp4 at e
 cases h1:U1 src O g j ρ with
 |none=>rw[h1]at e;cases e
 |some dss=>
  rw[h1,Option.bind_some]at e
  show J9 src (TId X.K O) (TGd X.K g) (TC X.K cyes) (TF X.K j) σ H (fun v H'=>TSw X.K N Dn (σ.set i (some v)) H')
  refine yv2 ⟨F0,jn H0 B,F,ρ,dss,rl,h1,fun p qs F' H' x P=>?_⟩
  obtain⟨⟨B2,a2,Y,Z⟩,a1⟩:=RlW.pots rl ok x P
  have e:=yt6 e p fun z=>ok.bx.keys p z a1
  show TSw X.K N Dn (σ.set i (some (.ref p))) H'
  cases h3:N (ρ.set i (some (.sh (.ptr p)))) ((p,.row (dss.map .l))::β)with
  |none=>rw[h3]at e;cases e
  |some ob=>
   obtain⟨o1,G⟩:=ob
   rw[h3]at e
   have e:some (letGo i β.length (o1,G))=some (o,U):=e
   have e:=Option.some.inj e
   refine⟨F0,H0,F',_,_,o1,G,⟨B2,a2,Y.set (.ptr p),Z⟩,h3,okW.letGo (i:=i) (k:=β.length) ?_⟩
   rw[e]
   exact k.mono x.ff
noncomputable def setR (a b:Int)(d:D)(fs:List Fl):Option (List Fl):=match ixN fs.length a with
 |some n=>(match fs[n]? with
  |some (.l ds)=>(match ixN ds.length b with |some m=>some (fs.set n (.l (ds.set m d)))|none=>none)
  |_=>none)
 |none=>none
noncomputable def yz4 (i:Nat)(k1 k2:ME)(v:Ro->Bx->Option D):MW:=fun ρ β=>match v ρ β,ρ[i]?,k1 ρ,k2 ρ with
 |some d,some (some (.sh (.ptr p))),some (.int a),some (.int b)=>(match β.lookup p with
  |some (.row fs)=>(setR a b d fs).map fun fs'=>(.nx ρ,updB p (.row fs') β)
  |_=>none)
 |_,_,_,_=>none
theorem yr8 {i:Nat}{k1 k2:ME}{mv:Ro->Bx->Option D}(hE:PS X st (tAsg (TDw X.K mv) (gSub (tOp (rIxL X.K) (tVar i) (TD X.K k1)) (TD X.K k2) yg4))):PSw X st (yz4 i k1 k2 mv):=PS.imp hE fun Dn σ H Y=>by
 obtain⟨F0,H0,F,ρ,β,o,ag,a7,e,k⟩:=Y
 unfold yz4 at e
 split at e
 .rename_i d p a b h1 hp hk1 hk2
  split at e
  .rename_i fs hb
   cases h2:setR a b d fs with
   |none=>rw[h2]at e;cases e
   |some fs'=>
    rw[h2]at e;cases e
    unfold setR at h2
    split at h2
    .rename_i n hn
     split at h2
     .rename_i ds hfs
      split at h2
      .rename_i m hm
       cases h2
       refine⟨F0,H0,F,ρ,β,d,a7,h1,fun v F1 H1 r1 s1 _ rp=>?_⟩
       obtain⟨B,fp,O,ok⟩:=r1
       obtain⟨w,aa,a6⟩:=O.sh i _ hp
       cases a6
       obtain⟨fq,hc,nq,ai,up⟩:=ok.bx.upd ok.nd hb
       cases hc with
       |@row fq0 _ xs _ b0 fl=>
        have U:=List.nodup_cons.mp nq
        obtain⟨q,ys,a1,a2,a3,a4,a5⟩:=FlR.at' (n:=n) fl U.2 hfs
        refine⟨_,aa,F0,jn H0 B,F1,ρ,_,O,hk1,fun w2 F2 H2 x2 r2=>?_⟩
        cases r2
        have ae:atI xs a=some (.ref q):=by
         unfold atI
         rw[fl.length,hn]
         exact a1
        refine⟨p,xs,a,.ref q,rfl,rfl,SqL.of (x2.hh _ _ (O.ext.hh _ _ (g9 b0))),ae,F0,jn H0 B,F2,ρ,_,O.go x2,hk2,fun w3 Z H3 x3 r3=>?_⟩
        cases r3
        have N:=(O.go x2).go x3
        refine⟨q,ys,b,m,rfl,rfl,N.ext.hh _ _ (g9 a3),by rw[a4.length];exact hm,?_⟩
        obtain⟨a8,_,ac,ab⟩:=N.putB (a:=q) (o:=.lst (ys.set m v)) ok.out (.inl (by rw[a3];simp))
        have pq:p≠q:=fun z=>U.1 (z ▸ a2)
        have j:Same F1 Z:=x2.ff.trans x3.ff
        have G:CellR X.K Z (upd B q (.lst (ys.set m v))) (p::fq0) p (.row (fs.set n (.l (ds.set m d)))):=.row (by rw[y3 pq];exact b0) (a5 _ Z _ _ j y2 ((a4.mono j).set (rp.mono j) m) fun a _ ad=>y3 ad)
        obtain⟨af,r',a9,ah⟩:=up _ _ _ Z j G nq (fun a _ hn=>y3 fun z=>hn (by rw[z];simp[a2])) fun a ha=>.inl ha
        exact k Z _ σ ⟨_,af,a8,yi6 ok.out ⟨ac,ab⟩,r',a9,ze2 ok.plain fun _ _ z=>by cases z⟩ (s1.trans j)
      .cases h2
     .cases h2
    .cases h2
  .cases e
 .cases e
end
end
section
section
variable {X:Cx}{pins:List (Addr×Obj)}{σ:St}
end
section
variable {X:Cx}
end
end
section
section
variable {X:Cx}{pins:List (Addr×Obj)}{σ:St}
end
section
variable {X:Cx}{pos:Pos}
end
end
section
section
variable {X:Cx}{e:Expr}{pos:Pos}{es:List Expr}{m:ML}{mf:MF}{E:XK}
end
section
variable {X:Cx}{pos:Pos}
end
end
section
abbrev Up (xs:Array Nat):Prop:=xs.toList.Pairwise (·<·)
theorem Up.lt {xs:Array Nat}(h:Up xs){i j:Nat}(z:i<j)(G:j<xs.size):xs[i]'(by omega)<xs[j]:=by
 have:=List.pairwise_iff_getElem.mp h i j (by simpa using (by omega:i<xs.size)) (by simpa using G) z
 simpa using this
def IsBelow (xs:Array Nat)(j b:Nat):Prop:=b<=xs.size/\(∀ i (h:i<xs.size),i<b->xs[i]<j)/\∀ i (h:i<xs.size),b<=i->j<=xs[i]
theorem zz2 {xs:Array Nat}(hu:Up xs)(j:Nat):∀(fuel lo hi:Nat),lo<=hi->hi<=xs.size->hi-lo<=fuel->(∀ i (h:i<xs.size),i<lo->xs[i]<j)->(∀ i (h:i<xs.size),hi<=i->j<=xs[i])->IsBelow xs j (SetTable.below.go xs j fuel lo hi)
 |0,lo,hi,h1,h2,h3,ha,hb=>by
  have:lo=hi:=by omega
  subst this
  exact⟨h2,ha,hb⟩
 |fuel+1,lo,hi,h1,h2,h3,ha,hb=>by
  unfold SetTable.below.go
  by_cases q:lo<hi
  .rw[if_pos q]
   dsimp only
   have hm:(lo+hi) / 2<xs.size:=by omega
   have e:xs.getD ((lo+hi) / 2) j=xs[(lo+hi) / 2]:=by simp[Array.getD,hm]
   rw[e]
   by_cases z:xs[(lo+hi) / 2]<j
   .rw[if_pos z]
    refine zz2 hu j fuel _ hi (by omega) h2 (by omega) (fun i h G=>?_) hb
    rcases Nat.lt_or_ge i ((lo+hi) / 2)with y|y
    .exact Nat.lt_trans (hu.lt y hm) z
    .have:i=(lo+hi) / 2:=by omega
     subst this;exact z
   .rw[if_neg z]
    refine zz2 hu j fuel lo _ (by omega) (by omega) (by omega) ha fun i h G=>?_
    rcases Nat.lt_or_ge ((lo+hi) / 2) i with y|y
    .exact Nat.le_trans (by omega) (Nat.le_of_lt (hu.lt y h))
    .have:i=(lo+hi) / 2:=by omega
     subst this;omega
  .rw[if_neg q]
   have:lo=hi:=by omega
   subst this
   exact⟨h2,ha,hb⟩
theorem zz1 {xs:Array Nat}(hu:Up xs)(j:Nat):IsBelow xs j (SetTable.below xs j):=zz2 hu j xs.size 0 xs.size (Nat.zero_le _) (Nat.le_refl _) (by omega) (fun i h z=>by omega) fun i h z=>by omega
theorem IsBelow.uniq {xs:Array Nat}{j b c:Nat}(h:IsBelow xs j b)(k:IsBelow xs j c):b=c:=by
 rcases Nat.lt_trichotomy b c with z|z|z
 .have h1:=h.2.2 b (by have:=k.1;omega) (Nat.le_refl _)
  have h2:=k.2.1 b (by have:=k.1;omega) z
  omega
 .exact z
 .have h1:=k.2.2 c (by have:=h.1;omega) (Nat.le_refl _)
  have h2:=h.2.1 c (by have:=h.1;omega) z
  omega
theorem zf4 {xs:Array Nat}(hu:Up xs):SetTable.below xs 0=0:=(zz1 hu 0).uniq ⟨Nat.zero_le _,fun i h z=>by omega,fun i h z=>Nat.zero_le _⟩
theorem zf5 {xs:Array Nat}(hu:Up xs){i:Nat}(hi:i<xs.size):SetTable.below xs (xs[i]+1)=i+1:=(zz1 hu _).uniq ⟨by omega,fun k h z=>by
 rcases Nat.lt_or_ge k i with y|y
 .have:=hu.lt y hi;omega
 .have:k=i:=by omega
  subst this;omega,fun k h z=>by
 have:=hu.lt (show i<k by omega) h
 omega⟩
theorem yx8 {xs:Array Nat}(hu:Up xs){j:Nat}(hn:xs[SetTable.below xs j]? ≠some j):Up (SetTable.insertAt xs (SetTable.below xs j) j):=by
 have hb:=zz1 hu j
 generalize SetTable.below xs j=b at*
 unfold Up
 rw[SetTable.toList_insertAt,pairwise_append]
 obtain⟨h1,h2,Y⟩:=hb
 refine⟨List.Pairwise.sublist (take_sublist _ _) hu,List.pairwise_cons.mpr ⟨fun x U=>?_,List.Pairwise.sublist (drop_sublist _ _) hu⟩,fun x U y N=>?_⟩
 .obtain⟨i,hi,rfl⟩:=getElem_of_mem U
  rw[length_drop,Array.length_toList]at hi
  rw[getElem_drop,Array.getElem_toList]
  have:=Y (b+i) (by omega) (by omega)
  rcases Nat.lt_or_ge j (xs[b+i]'(by omega))with z|z
  .exact z
  .exfalso
   have e:xs[b+i]'(by omega)=j:=by omega
   have G:b<xs.size:=by omega
   rcases Nat.eq_zero_or_pos i with rfl|Z
   .exact hn (by rw[Array.getElem?_eq_getElem G];exact congrArg some e)
   .have h4:=Y b G (Nat.le_refl _)
    have h5:=hu.lt (show b<b+i by omega) (by omega)
    omega
 .obtain⟨i,hi,rfl⟩:=getElem_of_mem U
  rw[length_take,Array.length_toList]at hi
  rw[getElem_take,Array.getElem_toList]
  have O:=h2 i (by omega) (by omega)
  rcases List.mem_cons.mp N with rfl|N
  .exact O
  .obtain⟨k,hk,rfl⟩:=getElem_of_mem N
   rw[length_drop,Array.length_toList]at hk
   rw[getElem_drop,Array.getElem_toList]
   exact hu.lt (by omega) (by omega)
def GT (led:Bool)(t:SetTable):Prop:=t.led=led/\(t.plain=true->Up t.place)
theorem E8 {α:Type}(l:List α)(i:Nat)(h:i<l.length):(l[i]::l.eraseIdx i).Perm l:=by
 rw[eraseIdx_eq_take_drop_succ]
 have e:l=l.take i++l[i]::l.drop (i+1):=by rw[getElem_cons_drop,take_append_drop]
 exact(List.perm_middle.symm).trans (by rw[<-e])
theorem zb1 {α:Type}(next:Nat->Nat):∀(fuel k:Nat)(left:List α)(out:Array α),left.length=fuel->(pickOrder.go next fuel k left out).toList.Perm (out.toList++left)
 |0,k,left,out,h=>by
  rw[List.length_eq_zero_iff.mp h,append_nil];exact .refl _
 |fuel+1,k,left,out,h=>by
  unfold pickOrder.go
  have j:next k % left.length<left.length:=Nat.mod_lt _ (by omega)
  rw[getElem?_eq_getElem j]
  dsimp only
  refine(zb1 next fuel (k+1) _ _ (by rw[length_eraseIdx_of_lt j];omega)).trans ?_
  rw[Array.toList_push,append_assoc]
  exact List.Perm.append_left _ (E8 left _ j)
theorem zb0 {α:Type}(next:Nat->Nat)(xs:Array α):(pickOrder next xs).toList.Perm xs.toList:=by
 unfold pickOrder
 exact(zb1 next xs.size 0 xs.toList #[] (by simp)).trans (by simp)
end
section
section
variable {prog:Program}{w:World}{A:Around}{E:Value->Shared->Prop}{s:Shared}
noncomputable abbrev KI (prog:Program)(w:World):=intKind prog w
structure SG (prog:Program)(w:World)(h:Heap)(a:Addr)(S:Int->Bool)(n:Nat)(led:Bool)(o:Obj)(fs:Array (Int×Value))(ep:Nat)(u:SetTable):Prop where
 at_:h.get? a=some o
 ex:o.ExactSet
 dat:o.data= .set fs ep u
 el:ElemsOf (KI prog w) fs.toList
 mem:∀ k,S k=true↔∃ e∈fs.toList,(KI prog w).is k e.2=true
 small:fs.size<scanBound
 fit:u.fits fs.size=true
 many:fs.size=n
 good:GT led u
end
end
section
section
variable {prog:Program}{w:World}{A:Around}{E:Value->Shared->Prop}{s:Shared}
section
variable {R:Result->Shared->Prop}{I:Addr}{fp wr:List Addr}{Gn:Array GenState->Array GenState->Prop}{n:Nat}{P:Nat->Value->Prop}{St:Nat->Shared->Prop}
end
noncomputable def A5 (w:World):Bool:=!(w.params.followText "set-order")
noncomputable def d8 (w:World):Obj:={ cls:=.type "set",dict:=none,data:=.set #[] 0 (.fresh 0 0 (A5 w)) }
theorem yv6 (a:Value){Q:Value->Shared->Prop}(h:Q (.ref s.heap.objs.size) { s with heap:=s.heap.push (d8 w) }):
  codeAny (model prog w) A (.call (.builtin "set.__new__") ⟨[.type "set",a],[]⟩) (wants Q E) s:=by
 refine codeAny_of_tree ?_
 show wpAny _ A.in1 (do checkBuiltinCall "set.__new__" ⟨[.type "set",a],[]⟩;again (.builtin "set.__new__" ⟨[.type "set",a],[]⟩)) _ _ s
 refine wpAny_bind (wpAny_of_eq (PySem.F.newCall_set_1 a) (wpAny_pure ⟨plainId_quiet PySem.F.plain_set_new _,codeAny_builtin PySem.F.entry_set_new ?_⟩))
 rw[Around.under_plainId PySem.F.plain_set_new _]
 unfold Builtin.«set.__new__» Builtin.Frozenset.newClass
 have j:=PySem.sub_set_self
 obtain⟨hp,g,d,tk,os⟩:=s
 dsimp only
 wp_walk
 refine wpAny_askSetting (wpAny_pure ?_)
 dsimp only
 simp only[newObj]
 refine wpAny_bind (wpAny_alloc (wpAny_pure ?_))
 exact wpAny_pure h
end
end
section
theorem slot_si_next:Slot "set_iterator" "__next__" "set_iterator.__next__":=
 .of (owner:="set_iterator") (n:="__next__") (by rw[typeLookup_type,builtinLookup_eq_fast];kernel_rfl) (by decide +kernel) (by decide +kernel) (by decide +kernel)
  (by first|exact .inl (by decide +kernel)|exact .inr (by decide +kernel)) (by rw[isSubtype_type];kernel_rfl)
theorem d5:entryFor table "set_iterator.__next__"=some Builtin.«set_iterator.__next__»:=entryFor_of_tree (by kernel_rfl)
theorem Z5 (a:Value):argsOk "set_iterator.__next__" ⟨[a],[]⟩:=by unfold argsOk;kernel_rfl
theorem G6:entryFor table "set.__iter__"=some Builtin.«frozenset.__iter__»:=entryFor_alias (id':="frozenset.__iter__") (by kernel_rfl) rfl (by decide +kernel) (by kernel_rfl)
section
variable {prog:Program}{w:World}{A:Around}{E:Value->Shared->Prop}{s:Shared}
def IsSI (h:Heap)(it:Addr)(first:Value)(i:Nat)(a:Addr)(n ep:Nat):Prop:=∃ o,h.get? it=some o/\o.cls= .type "set_iterator"/\o.data= .fields #[first,.int i 0,.ref a,.int n 0,.int ep 0]
theorem IsSI.typeIs {it:Addr}{first:Value}{i:Nat}{a:Addr}{n ep:Nat}(x:IsSI s.heap it first i a n ep):s.TypeIs (.ref it) "set_iterator":=let ⟨o,j,z,_⟩:=x;⟨o,j,z⟩
theorem Q5 {Q:Bool->Shared->Prop}(h:Q (w.params.followText "set-order") s):wpAny (model prog w) A setsByText Q E s:=by
 unfold setsByText
 exact wpAny_bind (wpAny_askSetting (wpAny_pure h))
variable {a:Addr}{S:Int->Bool}{n ep:Nat}{led:Bool}{o:Obj}{fs:Array (Int×Value)}{u:SetTable}
end
end
section
section
variable {prog:Program}{w:World}{A:Around}{E:Value->Shared->Prop}{s:Shared}
theorem zf1 {src:Source}{n:Nat}(hn:n≠0){Q:Nat->Shared->Prop}(h:∀ v,v<n->Q v { s with drawn:=s.drawn.bump src }):wpAny (model prog w) A (choose src n) Q E s:=fun z p j=>by
 unfold choose
 exact⟨hn,h _ (Nat.mod_lt _ (Nat.pos_of_ne_zero hn))⟩
theorem Q1 {α:Type}:∀(n:Nat)(xs:List α){s:Shared}{Q:List α->Shared->Prop},xs.length=n->(∀ ys d,ys.Perm xs->Q ys { s with drawn:=d })->wpAny (model prog w) A (drawOrder n xs) Q E s
 |0,xs,s,Q,h,q=>by
  rw[List.length_eq_zero_iff.mp h]at q ⊢
  exact wpAny_pure (q [] s.drawn (.refl _))
 |n+1,[],s,Q,h,q=>by cases h
 |n+1,x::xs,s,Q,h,q=>by
  show wpAny _ _ (choose .order (x::xs).length >>= _) _ _ s
  refine wpAny_bind (zf1 (by simp) fun v hv=>?_)
  rw[getElem?_eq_getElem hv]
  dsimp only
  refine wpAny_bind (Q1 n _ (by rw[length_eraseIdx_of_lt hv];omega) fun ys d hp=>?_)
  exact wpAny_pure (q _ d ((hp.cons _).trans (E8 (x::xs) v hv)))
variable {a:Addr}{S:Int->Bool}{n ep:Nat}{led:Bool}{o:Obj}{fs:Array (Int×Value)}{u:SetTable}
end
end
section
section
variable {prog:Program}{w:World}{A:Around}{E:Value->Shared->Prop}{s:Shared}
variable {it a pt:Addr}{i n ep:Nat}{S:Int->Bool}{led:Bool}{o:Obj}{fs:Array (Int×Value)}{u:SetTable}{items:Array Value}
end
end
section
section
variable {prog:Program}{w:World}{A:Around}{E:Value->Shared->Prop}{s:Shared}
def MD (w:World)(h:Heap)(a:Addr)(ws:List Value)(i n ep:Nat)(led:Bool)(fs:Array (Int×Value))(u:SetTable)(first:Value):Prop:=
 (w.params.followText "set-order"=true/\(∃(k:Int),∃ t:Nat,first= .int k t)/\ws=(pickOrder (w.params.setOrder a ep) fs).toList.map (·.2))\/
 (w.params.followText "set-order"=false/\led=true/\(!u.plain&&decide (fs.size>1))=false/\Up u.place/\u.place.size=fs.size/\(∃ k:Nat,∃ t:Nat,first= .int (k:Int) t/\SetTable.below u.place k=i)/\ws=fs.toList.map (·.2))\/
 (∃ pt,∃ ys:List Nat,first= .ref pt/\h.IsTuple pt (ys.map fun(y:Nat)=>Value.int y 0).toArray/\(∀ y∈ys,y<fs.size)/\ws=ys.map fun y=>(fs.getD y default).2)
variable {it a:Addr}{ws:List Value}{i:Nat}
end
end
section
section
variable {prog:Program}{w:World}{A:Around}{E:Value->Shared->Prop}{s:Shared}{it a:Addr}{ws:List Value}
noncomputable def lstO (acc:Array Value)(c:Nat):Obj:={ cls:=.type "list",dict:=none,data:=.seq acc c,slots:=#[] }
end
end
section
section
variable {prog:Program}{w:World}{A:Around}{E:Value->Shared->Prop}{s:Shared}{a:Addr}
theorem yn1 {Q:Bool->Shared->Prop}(G:s.TypeIs (.ref a) "set")(h:Q false s):wpAny (model prog w) A (Builtin.List.listLengthHint (.ref a)) Q E s:=by
 unfold Builtin.List.listLengthHint
 refine wpAny_bind (wpAny_specialOf G PySem.F.slot_set_len.lookup ?_)
 generalize j:("set.__len__":String)=id0
 wp_delta
 rw[show splitId id0=some ("set","__len__")from by subst j;decide +kernel]
 subst j
 refine wpAny_bind (wpAny_isInstance (T:="set") (b:=true) G (by rw[isSubtype_type];kernel_rfl) ?_)
 refine wpAny_ite_split (fun z=>absurd z (by decide)) (fun _=>?_)
 refine wpAny_ite_split (fun _=>?_) (fun z=>absurd (by decide +kernel) z)
 refine wpAny_bind (wpAny_typeOf G ?_)
 exact wpAny_pure h
variable {S:Int->Bool}{n ep:Nat}{led:Bool}{o:Obj}{fs:Array (Int×Value)}{u:SetTable}
theorem ys5 {xs:Array Nat}(h:xs.size<=1):Up xs:=by
 obtain⟨l⟩:=xs
 match l with
 |[]=>exact List.Pairwise.nil
 |[x]=>exact pairwise_singleton ..
 |x::y::r=>simp at h
theorem ze1 {ys:List Nat}(h:ys.Perm (List.range fs.size)):(ys.map fun y=>(fs.getD y default).2).Perm (fs.toList.map (·.2)):=by
 refine(h.map _).trans ?_
 have:(List.range fs.size).map (fun y=>(fs.getD y default).2)=fs.toList.map (·.2):=by
  apply ext_getElem
  .simp
  .intro i h1 h2
   have:i<fs.size:=by simpa using h1
   simp[this]
 rw[this]
end
end
section
structure BlkC (X:Cx)(sc:Scope)(N:List Str)(src:List (Option Nat)):Prop where
 kind:sc.kind= .function
 cells:∀ y∈sc.names,y.2= .cell->sc.names.lookup y.1=some .cell
 names:∀ y∈sc.names,y.2= .local->sc.names.lookup y.1=some .local
 free:∀ y∈sc.names,y.2= .free->X.env.kindOf y.1=some .cell\/X.env.kindOf y.1=some .free
 fv:∀(j i:Nat),src[j]? =some (some i)->∃ x,N[j]? =some x/\X.N[i]? =some x/\sc.names.lookup x=some .free
 len:src.length=N.length
section
variable {X:Cx}{pins:List (Addr×Obj)}{σ:St}{H:Hp}{s:Shared}
end
section
variable {X:Cx}
end
section
variable {X:Cx}{pos:Pos}
end
end
section
section
variable {X:Cx}{pos:Pos}
end
end
section
noncomputable def delB (p:Addr):Bx->Bx
 |[]=>[]
 | (q,c)::β=>match p==q with |true=>β|false=>(q,c)::delB p β
noncomputable def flS:Fl->D
 | .v d=>d
 | .l ds=>.lst ds
section
variable {K:W.Frag}{F0 H0 F H B:Hp}{σ:St}{ρ:Ro}{β:Bx}{fp:List Addr}
theorem BxR.take {p:Addr}{c:Cell}:∀{fp:List Addr}{β:Bx},BxR K F B fp β->β.lookup p=some c->∃ fq fr,CellR K F B fq p c/\BxR K F B fr (delB p β)/\(fq++fr).Perm fp
 |_,_,.nil,e=>by cases e
 |_,_,.cons (fp:=f1) (fq:=f2) (p:=q) (c:=c') (β:=β) h t,e=>by
  rw[lookup_cons]at e
  unfold delB
  cases hq:p==q with
  |true=>
   rw[hq]at e
   cases e
   have:p=q:=by simpa using hq
   subst this
   exact⟨f1,f2,h,t,List.Perm.refl _⟩
  |false=>
   rw[hq]at e
   obtain⟨fq,fr,G,z,j⟩:=BxR.take t e
   refine⟨fq,f1++fr,G,.cons h z,?_⟩
   rw[<-append_assoc]
   refine(List.Perm.append_right fr perm_append_comm).trans ?_
   rw[append_assoc]
   exact List.Perm.append_left f1 j
theorem FlR.shared {F':Hp}{fq:List Addr}{xs:List V}{fs:List Fl}(h:FlR K F B fq xs fs)(s:Same F F')(k:∀ a∈fq,F' a=B a):Reps K F' xs (fs.map flS):=by
 induction h with
 |nil=>exact .nil
 |v r _ j=>exact .cons (r.mono s) (j k)
 |l b r _ j=>exact .cons (.lst (SqL.of (by rw[k _ (by simp)];exact b)) (r.mono s)) (j fun a ha=>k a (mem_cons_of_mem _ ha))
theorem FlR.memL {fq:List Addr}{xs:List V}{fs:List Fl}(h:FlR K F B fq xs fs):∀ a∈fq,∃ ys,B a=some (.lst ys):=by
 induction h with
 |nil=>intro a ha;cases ha
 |v _ _ j=>exact j
 |l b _ _ j=>
  intro a ha
  rcases List.mem_cons.mp ha with rfl|ha
  .exact⟨_,b⟩
  .exact j a ha
theorem yr3 {σ:St}{i:Nat}{x:Option V}(h:σ[i]? =some x):σ.set i x=σ:=by
 apply ext_getElem?
 intro j
 by_cases z:i=j
 .subst z
  rw[getElem?_set_self (List.getElem?_eq_some_iff.mp h).1,h]
 .rw[getElem?_set_ne z]
theorem RlW.openB {p:Addr}{fs:List Fl}(r:RlW K F0 H0 F H σ ρ β)(Z:β.lookup p=some (.row fs)):∃ F',Same F F'/\RlW K F0 H0 F' H σ ρ (delB p β)/\Rep K F' (.ref p) (.lst (fs.map flS)):=by
 obtain⟨B,fp,G,ok⟩:=r
 obtain⟨fq,fr,hc,N,perm⟩:=ok.bx.take Z
 cases hc with
 |@row fq0 _ xs _ b0 fl=>
  have at':∀ a∈p::fq0,∃ ys,B a=some (.lst ys):=fun a ha=>by
   rcases List.mem_cons.mp ha with rfl|ha
   .exact⟨_,b0⟩
   .exact fl.memL a ha
  have nb:∀ a∈p::fq0,B a≠none:=fun a ha=>by obtain⟨ys,e⟩:=at' a ha;rw[e];simp
  have O:∀ a∈p::fq0,F a=none:=fun a ha=>by
   cases hF:F a with
   |none=>rfl
   |some o=>
    have h1:=G.ext.new a (ok.out a (nb a ha)).2 (by rw[hF];simp)
    exact absurd (f6 h1).1 (nb a ha)
  have nd:(p::fq0++fr).Nodup:=(perm.nodup_iff).mpr ok.nd
  have a6:∀ a∈fr,a∉p::fq0:=fun a ha Z=>(List.nodup_append.mp nd).2.2 a Z a ha rfl
  refine⟨fun a=>if a∈p::fq0 then B a else F a,fun a o e=>?_,⟨fun a=>if a∈p::fq0 then none else B a,fr,?_,?_⟩,?_⟩
  .have:a∉p::fq0:=fun z=>by rw[O a z]at e;cases e
   show (if a∈p::fq0 then B a else F a)=some o
   rw[if_neg this];exact e
  .have sF:Same F (fun a=>if a∈p::fq0 then B a else F a):=fun a o e=>by
    have:a∉p::fq0:=fun z=>by rw[O a z]at e;cases e
    show (if a∈p::fq0 then B a else F a)=some o
    rw[if_neg this];exact e
   have U:∀ a,a∉p::fq0->jn H0 (fun a=>if a∈p::fq0 then none else B a) a=jn H0 B a:=fun a ha=>by unfold jn;simp only[if_neg ha]
   have ji:∀ a,a∈p::fq0->jn H0 (fun a=>if a∈p::fq0 then none else B a) a=none:=fun a ha=>by unfold jn;simp only[if_pos ha];exact(ok.out a (nb a ha)).1
   have own:∀ a,jn H0 B a=none->a∉p::fq0:=fun a h z=>nb a z (f6 h).1
   have Y:Rl K F0 (jn H0 (fun a=>if a∈p::fq0 then none else B a)) (fun a=>if a∈p::fq0 then B a else F a) H σ ρ:=by
    refine⟨⟨G.ext.ff.trans sF,fun b u e=>?_,fun b u e=>?_,fun b e n=>?_,fun b o u e=>?_⟩,G.len,fun j d e=>?_,fun j ds e=>?_,G.inj,fun j q ds e=>?_,G.obn,G.ob1⟩
    .by_cases z:b∈p::fq0
     .rw[ji b z]at e;cases e
     .rw[U b z]at e;exact G.ext.hh b u e
    .by_cases z:b∈p::fq0
     .have e:B b=some u:=by
       have e:(if b∈p::fq0 then B b else F b)=some u:=e
       rw[if_pos z]at e;exact e
      exact G.ext.hh b u (g9 e)
     .have e:F b=some u:=by
       have e:(if b∈p::fq0 then B b else F b)=some u:=e
       rw[if_neg z]at e;exact e
      exact G.fh b u e
    .by_cases z:b∈p::fq0
     .exact ji b z
     .rw[U b z]
      have n:(if b∈p::fq0 then B b else F b)≠none:=n
      rw[if_neg z]at n
      exact G.ext.new b e n
    .by_cases z:b∈p::fq0
     .have e:(if b∈p::fq0 then B b else F b)=some (.frz o u):=e
      rw[if_pos z]at e
      exact absurd e (ok.plain b o u)
     .have e:(if b∈p::fq0 then B b else F b)=some (.frz o u):=e
      rw[if_neg z]at e
      exact G.ext.nf b o u e
    .obtain⟨v,a1,a2⟩:=G.sh j d e
     exact⟨v,a1,a2.mono sF⟩
    .obtain⟨q,ys,a1,a2,a3,a4,a5⟩:=G.own j ds e
     have z:=own q a5
     exact⟨q,ys,a1,by show (if q∈p::fq0 then B q else F q)=none;rw[if_neg z];exact a2,a3,a4.mono sF,by rw[U q z];exact a5⟩
    .obtain⟨a1,a2,a3,ys,a4,a5⟩:=G.ob j q ds e
     have z:=own q a3
     exact⟨a1,by show (if q∈p::fq0 then B q else F q)=none;rw[if_neg z];exact a2,by rw[U q z];exact a3,ys,a4,a5.mono sF⟩
   exact Y
  .have sF:Same F (fun a=>if a∈p::fq0 then B a else F a):=fun a o e=>by
    have:a∉p::fq0:=fun z=>by rw[O a z]at e;cases e
    show (if a∈p::fq0 then B a else F a)=some o
    rw[if_neg this];exact e
   refine⟨fun a h=>?_,N.mono sF fun a ha=>?_,(List.nodup_append.mp nd).2.1,fun a o u e=>?_⟩
   .have h:(if a∈p::fq0 then none else B a)≠none:=h
    by_cases z:a∈p::fq0
    .rw[if_pos z]at h;exact absurd rfl h
    .rw[if_neg z]at h;exact ok.out a h
   .show (if a∈p::fq0 then none else B a)=B a
    rw[if_neg (a6 a ha)]
   .have e:(if a∈p::fq0 then none else B a)=some (.frz o u):=e
    by_cases z:a∈p::fq0
    .rw[if_pos z]at e;cases e
    .rw[if_neg z]at e;exact ok.plain a o u e
  .have sF:Same F (fun a=>if a∈p::fq0 then B a else F a):=fun a o e=>by
    have:a∉p::fq0:=fun z=>by rw[O a z]at e;cases e
    show (if a∈p::fq0 then B a else F a)=some o
    rw[if_neg this];exact e
   exact .lst (SqL.of (by show (if p∈p::fq0 then B p else F p)=_;rw[if_pos (by simp)];exact b0)) (fl.shared sF fun a ha=>by show (if a∈p::fq0 then B a else F a)=_;rw[if_pos (mem_cons_of_mem _ ha)])
theorem RlW.freezeR {i:Nat}{p:Addr}{fs:List Fl}(r:RlW K F0 H0 F H σ ρ β)(hi:ρ[i]? =some (some (.sh (.ptr p))))(N:β.lookup p=some (.row fs)):∃ F',Same F F'/\RlW K F0 H0 F' H σ (ρ.set i (some (.sh (.lst (fs.map flS))))) (delB p β):=by
 obtain⟨F',z,⟨B,fp,j,ok⟩,rp⟩:=r.openB N
 obtain⟨v,hv,G⟩:=j.sh i _ hi
 cases G
 have:=j.set (i:=i) rp
 rw[yr3 hv]at this
 exact⟨F',z,B,fp,this,ok⟩
end
noncomputable def M5 (i:Nat)(m:MW):MW:=fun ρ β=>match ρ[i]? with
 |some (some (.sh (.ptr p)))=>(match β.lookup p with |some (.row fs)=>m (ρ.set i (some (.sh (.lst (fs.map flS))))) (delB p β)|_=>none)
 |_=>none
theorem zy8 {X:Cx}{sts:List Stmt}{m:MW}(i:Nat)(h:PSsw X sts m):PSsw X sts (M5 i m):=PSs.imp h fun D σ H j=>by
 obtain⟨F0,H0,F,ρ,β,o,z,r,e,ok⟩:=j
 unfold M5 at e
 split at e
 .rename_i p h1
  split at e
  .rename_i fs h2
   obtain⟨F',s,G⟩:=r.freezeR h1 h2
   exact⟨F0,H0,F',_,_,o,z,G,e,ok.mono s⟩
  .cases e
 .cases e
end
section
section
variable {K:W.Frag}{F0 J F H:Hp}{σ:St}{ρ:Ro}
end
section
variable {X:Cx}{a b c e e1 e2:Expr}{pos p1 p2:Pos}{st:Stmt}
end
end
section
section
variable {X:Cx}{a b e:Expr}{pos:Pos}{ta tb:TE}{ma mb:Ro->Bx->Option D}
end
end
section
section
variable {X:Cx}{pos:Pos}
end
end
section
section
variable {X:Cx}{st:Stmt}{rest:List Stmt}{e o c:Expr}{es:List Expr}{pos apos:Pos}{mo:ME}{m:ML}
end
section
variable {X:Cx}{pos np hpos:Pos}
end
section
variable {X:Cx}{e:Expr}{es:List Expr}{st:Stmt}{E:XK}{mf:MFW}{m:ML}
end
end
section
section
variable {X:Cx}{e:Expr}{es:List Expr}{st:Stmt}{E:XK}{mf:MF}{m:ML}{pos:Pos}
end
section
variable {X:Cx}{e:Expr}{es:List Expr}{pos:Pos}{x:Ro->Bx->Option D}{m:Ro->Bx->Option (List D)}
end
section
variable {K:W.Frag}{F0 J F H:Hp}{σ:St}{ρ:Ro}
end
section
variable {X:Cx}{e:Expr}{E:XK}{mf:MF}
end
end
section
section
variable {X:Cx}{e o:Expr}{E:XK}{mf:MF}{mo:ME}
end
end
section
section
variable {X:Cx}{e:Expr}{es:List Expr}{st:Stmt}{rest:List Stmt}{E:XK}{mf:MFW}{m:MLm}
end
end
end L2
namespace L2
open List
open PySem PySem.Spec PyProof.Rows PySem.W
section
section
variable {M:Model}{A:Around}{E:Value->Shared->Prop}{s:Shared}
end
section
variable {B h h':Heap}{l:List Env}{e C L:Addr}{cls a0 fl:Value}
end
section
variable {X:Cx}{e:Expr}{es:List Expr}{pos:Pos}
end
section
variable {X:Cx}
end
end
section
section
variable {X:Cx}{e:Expr}{pos:Pos}
end
section
variable {X:Cx}{pins:List (Addr×Obj)}{σ:St}{H:Hp}{s:Shared}
end
end
section
section
variable {X:Cx}{st:Stmt}{rest:List Stmt}{e c:Expr}{es:List Expr}{pos:Pos}
end
open Classical in
section
variable {X:Cx}
end
end
end L2
namespace L2
open List
open PySem PySem.Spec PyProof.Rows
section
section
variable {X:Cx}{pos np hpos:Pos}
end
end
section
section
variable {X:Cx}{a b:Expr}{ma mb:ME}{na nb:MEm}{pos:Pos}
end
section
variable {X:Cx}{a b:Expr}{ca cb:Ro->Bx->Option (Bool×Bx)}{pos:Pos}
end
end
section
section
variable {X:Cx}{e:Expr}{es:List Expr}{st:Stmt}{E:XK}{mf:MFW}{m:ML}
end
end
section
section
variable {X:Cx}{e o:Expr}{pos:Pos}{ma mo:ME}
end
end
section
section
variable {X:Cx}{pos:Pos}{e:Expr}{ma mb:ME}
end
end
section
section
variable {X:Cx}{tg e:Expr}{ma mb:ME}{pos:Pos}
variable {a b:Expr}
end
end
section
section
variable {es:List Expr}{env:Env}
theorem se_c {c:Const}{k:Nat}{p:Pos}:starEach (.Constant c k p::es) env=(false,eval (.Constant c k p) env)::starEach es env:=rfl
end
end
section
end
section
section
variable {prog:Program}{w:World}{A:Around}{E:Value->Shared->Prop}{s:Shared}
end
section
variable {X:Cx}{a:Addr}{pos:Pos}{e:Expr}
end
end
section
section
variable {K:W.Frag}{F0 H0 F H B:Hp}{σ:St}{ρ:Ro}{β:Bx}{fp:List Addr}
end
section
variable {X:Cx}{a b c e:Expr}{pos:Pos}{st:Stmt}{rest:List Stmt}
end
end
section
section
variable {K:W.Frag}{F0 H0 F H B:Hp}{σ:St}{ρ:Ro}{β:Bx}{fp:List Addr}
end
section
variable {X:Cx}{a b c e:Expr}{pos:Pos}{st:Stmt}{rest:List Stmt}{E:XK}
end
end
section
@[irreducible] noncomputable def d3 (src:List (Option Nat))(mi:MLm)(i j:Nat)(elt:MEm):MEm:=fun ρ=>match mi ρ with
 |some (its,ρ1)=>U0 src (fun _=>some its) i j elt ρ1
 |none=>none
theorem zg9 {K:W.Frag}{src:List (Option Nat)}{U:MLm}{i j:Nat}{G:MEm}(hs:src[j]? =some (some i))(hj:j≠0){σ:St}{H:Hp}{Q:VK}(h:TDm K (d3 src U i j G) σ H Q):J9 src (TIm K U) (Y2 0) tYes (TDm K G) σ H Q:=by
 obtain⟨F0,H0,F,ρ,g,ρ',Z,e,q⟩:=h
 unfold d3 at e
 split at e
 .rename_i its ρ1 h0
  unfold U0 at e
  split at e
  .rename_i rr r0 hi
   simp only at e
   split at e
   .rename_i out ρb h2
    split at e
    .rename_i r1 h3
     cases e
     refine⟨F0,H0,F,ρ,its,ρ1,Z,h0,fun J F1 H1 z s1 I p hp=>?_⟩
     obtain⟨a1,a2,a5,ys,Y,a4⟩:=z.ob i rr r0 hi
     have N:rr≠p:=fun w=>by rw[w,hp]at Y;cases Y
     exact E9 z.fh hp N hj I (z.blkJB hs hi hp) (zq8 hs a1) h2 h3 fun xs zs F' H' O b1 b2 b3 b4 b5=>q _ _ _ (z.lentB hi O b1 b2 b3) (s1.trans O.ff) (.lst (SqL.of b4) b5)
    .cases e
   .cases e
  .cases e
 .cases e
theorem E2 {X:Cx}{pos:Pos}{sc:Scope}{N:List Str}{src:List (Option Nat)}{tg z iter:Expr}{U:MLm}{i j:Nat}{G:MEm}(O:src[j]? =some (some i))(Y:j≠0)(B:Blk X sc N src)(hc:X.calm=true)
  (hi:PI X tg iter (TIm X.K U)) (Z:∀ C fp s H,PG (d6 X sc C N fp s H) tg (Y2 0)) (he:∀ C fp s H,PDm (d6 X sc C N fp s H) z G)
  (hs:∀ x,foldedSetIterable iter X.env x=pure x:=by intro _;rfl):
  PDm X (.ListComp z [⟨tg,iter,[],0⟩] sc pos) (d3 src U i j G):=(zt8 (g:=Y2 0) (tc:=tYes) (te:=TDm X.K G) B hc hi Z (fun C fp s H=>zt4) (fun C fp s H=>he C fp s H) hs).imp fun _ _ _ h=>zg9 O Y h
end
section
open Classical in
section
variable {X:Cx}{e:Expr}{es:List Expr}{pos:Pos}{mf:MG}{m:ML}{E:XK}
end
end
section
namespace ZT
noncomputable def lt2 (a b c d:Int):Bool:=decide (a<c) || (decide (a=c)&&decide (b<d))
def Tp (h:Heap)(v:Value)(a b:Int):Prop:=∃(p:Addr)(o:Obj)(n t u:Nat),v= .ref p/\h.get? p=some o/\o.cls= .type "tuple"/\o.data= .seq #[.int a t,.int b u] n
theorem Tp.to {h h':Heap}{v:Value}{a b:Int}(x:Tp h v a b)(k:∀ p o,h.get? p=some o->o.cls= .type "tuple"->h'.get? p=some o):Tp h' v a b:=by
 obtain⟨p,o,n,t,u,e,g,c,d⟩:=x
 exact⟨p,o,n,t,u,e,k p o g c,c,d⟩
section
variable {prog:Program}{w:World}{A:Around}{E:Value->Shared->Prop}{s:Shared}
theorem xt5 {x y:Value}{a b c d:Int}(h1:Tp s.heap x a b)(h2:Tp s.heap y c d){Q:Bool->Shared->Prop}(q:Q (lt2 a b c d) s):wpAny (model prog w) A (keyLt' (tuples' true) x y) Q E s:=by
 obtain⟨p,o,n,t,u,rfl,G,Z,O⟩:=h1
 obtain⟨U,o',n',t',j,rfl,z,Y,N⟩:=h2
 refine PySem.W.kat_lt G O z N ?_
 refine PySem.W.kat_cons (p:=.int a t) (q:=.int c t') (r:=[(.int b u,.int d j)]) (wpAny_eqBool_int ?_)
 refine PySem.W.kat_go (fun e=>?_) (fun e=>?_)
 .have e:a=c:=by simpa using e
  subst e
  refine PySem.W.kat_yes (PySem.W.kat_cons (wpAny_eqBool_int ?_))
  refine PySem.W.kat_go (fun e=>?_) (fun e=>?_)
  .have e:b=d:=by simpa using e
   subst e
   refine PySem.W.kat_yes (PySem.W.kat_nil ?_)
   simpa[lt2]using q
  .refine PySem.W.kat_no ?_
   refine PySem.W.kat_one _ _ (PyProof.Rows.lt_int ?_)
   simpa[lt2,PySem.W.BoolBack]using q
 .have e:a≠c:=by simpa using e
  refine PySem.W.kat_no ?_
  refine oneLt_int ?_
  simpa[lt2,e]using q
theorem kas2 {G:Array Nat->Shared->Prop}{j:Nat->Nat->(Bool->Shared->Prop)->Shared->Prop}{st:Shared}(h:j 1 0 (fun c s'=>G (if c=true then #[1,0]else #[0,1]) s') st):(PySem.W.kas_sort 2).kasWp j G st:=by
 have e:(fun c s'=>G (if c=true then #[1,0]else #[0,1]) s')=(fun(c:Bool) s'=>((if c=true then PySem.W.KasT.ret #[1,0]else PySem.W.KasT.ret #[0,1]:PySem.W.KasT (Array Nat))).kasWp j G s'):=by
  funext c s'
  cases c <;> rfl
 rw[e]at h
 have e2:PySem.W.kas_sort 2=PySem.W.KasT.ask 1 0 fun c=>if c=true then PySem.W.KasT.ret #[1,0]else PySem.W.KasT.ret #[0,1]:=by
  have:PySem.W.kas_sort 2=PySem.W.KasT.ask 1 0 fun c=>((if c=true then PySem.W.KasT.ret 1 else PySem.W.kas_asc #[0,1] 0 2).bind fun n=>if (n==2)=true then PySem.W.KasT.ret (n,#[0,1])else if n>1 then .ask 0 (#[0,1].getD (n-1) 0) fun c=>if c=true then .ret (n,#[0,1])else PySem.W.kas_descPart n 2 (PySem.W.kas_rev #[0,1] 0 n)else PySem.W.kas_descPart n 2 #[0,1]).bind fun r=>if r.1<2 then PySem.W.kas_bin (2-max r.1 1) r.2 (max r.1 1)else .ret r.2:=by rfl
  rw[this]
  congr 1
  funext c
  cases c <;> rfl
 rw[e2]
 exact h
end
end ZT
end
section
namespace ZT
structure SG0 (h:Heap)(a:Addr)(n:Nat)(led:Bool)(o:Obj)(fs:Array (Int×Value))(ep:Nat)(u:SetTable):Prop where
 at_:h.get? a=some o
 ex:o.ExactSet
 dat:o.data= .set fs ep u
 small:fs.size<scanBound
 fit:u.fits fs.size=true
 many:fs.size=n
 good:GT led u
section
variable {prog:Program}{w:World}{A:Around}{E:Value->Shared->Prop}{s:Shared}
theorem zz4 {it a:Addr}{slot:Int}{U i n ep nx:Nat}{x:Value}{led:Bool}{o:Obj}{fs:Array (Int×Value)}{u:SetTable}{Q:Option Value->Shared->Prop}(j:IsSI s.heap it (.int slot U) i a n ep)(G:SG0 s.heap a n led o fs ep u)
  (hn:∀(A:Around)(Q:Option (Value×Nat)->Shared->Prop)(E:Value->Shared->Prop),Q (some (x,nx)) s->wpAny (model prog w) A (setNext a slot.toNat i ep) Q E s)
  (Z:∀ h',IsSI h' it (.int nx 0) (i+1) a n ep->Heap.SameBut it s.heap h'->Q (some x) { s with heap:=h' }):
  wpAny (model prog w) A (pyNext (.ref it)) Q E s:=by
 obtain⟨oi,z,Y,hd⟩:=id j
 unfold pyNext
 refine wpAny_bind (wpAny_attempt (wpAny_callSpecial?_slot (name:=Str.ofString "__next__") j.typeIs slot_si_next
  (wpAny_call_entry slot_si_next j.typeIs d5 ?_ (Z5 _))))
 show wpAny _ _ (fieldsOf (.ref it) >>= _) _ _ s
 refine wpAny_bind (wpAny_fieldsOf z hd ?_)
 show wpAny _ _ (setEntries a >>= _) _ _ s
 refine wpAny_bind (wpAny_setEntries_of G.at_ G.dat G.fit ?_)
 rw[if_neg (by rw[G.many];simp)]
 dsimp only
 refine wpAny_bind ?_
 show wpAny _ _ (setNext a slot.toNat (i:Int).toNat (ep:Int).toNat) _ _ s
 rw[Int.toNat_natCast,Int.toNat_natCast]
 refine hn _ _ _ ?_
 dsimp only
 refine wpAny_bind (wpAny_setField z hd (by simp) ?_)
 have O:=Heap.get?_update_self (Obj.mapFields (·.setIfInBounds 0 (rawInt nx))) z (Obj.isFreed_of_fields (Obj.data_mapFields hd _))
 have N:=Obj.data_mapFields hd (·.setIfInBounds 0 (rawInt nx))
 refine wpAny_bind (wpAny_setField O N (by simp) (wpAny_pure ⟨x,rfl,wpAny_pure (Z _ ?_ ((Heap.SameBut.update ..).trans (Heap.SameBut.update ..)))⟩))
 refine⟨_,Heap.get?_update_self _ O (Obj.isFreed_of_fields (Obj.data_mapFields N _)),(Obj.cls_mapFields ..).trans ((Obj.cls_mapFields ..).trans Y),?_⟩
 rw[Obj.data_mapFields N]
 simp[rawInt]
theorem G7 {it a:Addr}{slot:Int}{N i n ep:Nat}{led:Bool}{o:Obj}{fs:Array (Int×Value)}{u:SetTable}{Q:Option Value->Shared->Prop}(hh:A.handled=none)(j:IsSI s.heap it (.int slot N) i a n ep)(G:SG0 s.heap a n led o fs ep u)
  (hn:∀(A:Around)(Q:Option (Value×Nat)->Shared->Prop)(E:Value->Shared->Prop),Q none s->wpAny (model prog w) A (setNext a slot.toNat i ep) Q E s)
  (O:∀ h',Heap.ExtBut it s.heap h'->Q none { s with heap:=h' }):
  wpAny (model prog w) A (pyNext (.ref it)) Q E s:=by
 obtain⟨U,z,Y,hd⟩:=id j
 unfold pyNext
 refine wpAny_bind (wpAny_attempt (wpAny_callSpecial?_slot (name:=Str.ofString "__next__") j.typeIs slot_si_next
  (wpAny_call_entry slot_si_next j.typeIs d5 ?_ (Z5 _))))
 show wpAny _ _ (fieldsOf (.ref it) >>= _) _ _ s
 refine wpAny_bind (wpAny_fieldsOf z hd ?_)
 show wpAny _ _ (setEntries a >>= _) _ _ s
 refine wpAny_bind (wpAny_setEntries_of G.at_ G.dat G.fit ?_)
 rw[if_neg (by rw[G.many];simp)]
 dsimp only
 refine wpAny_bind ?_
 show wpAny _ _ (setNext a slot.toNat (i:Int).toNat (ep:Int).toNat) _ _ s
 rw[Int.toNat_natCast,Int.toNat_natCast]
 refine hn _ _ _ ?_
 dsimp only
 refine wpAny_bind (wpAny_setField z hd (by simp) ?_)
 show wpAny _ _ (newExc (.type "StopIteration") [] >>= _) _ _ _
 refine wpAny_bind ?_
 simp only[newExc,newTuple]
 refine wpAny_bind (wpAny_newObj_type ?_ (by size_fits))
 refine wpAny_bind (m:=firstArgMember _ _) (wpAny_of_eq (a:=Value.none) (by first|rfl| (simp only[firstArgMember];rfl)) ?_)
 refine wpAny_newObj_type ?_ (by size_fits)
 simp only[raiseNew]
 refine wpAny_bind (wpAny_handled ?_)
 first|rw[show A.in1.handled=none from hh]|rw[hh]
 refine wpAny_bind (wpAny_pure (wpAny_throw ?_))
 refine wpAny_bind (wpAny_isInstance (T:="StopIteration") (b:=true) ⟨_,Heap.get?_push_size _ rfl,rfl⟩ isSubtype_stop ?_)
 exact wpAny_pure (O _ (((Heap.SameBut.update ..).extBut.push _).push _))
variable {a:Addr}{n ep:Nat}{led:Bool}{o:Obj}{fs:Array (Int×Value)}{u:SetTable}
theorem S9 (G:SG0 s.heap a n led o fs ep u)(j:w.params.followText "set-order"=true)(slot i:Nat){Q:Option (Value×Nat)->Shared->Prop}(h:Q (((pickOrder (w.params.setOrder a ep) fs)[i]?).map fun e=>(e.2,slot)) s):wpAny (model prog w) A (setNext a slot i ep) Q E s:=by
 unfold setNext
 refine wpAny_bind (wpAny_setState_of G.at_ G.dat G.fit ?_)
 dsimp only
 refine wpAny_bind (Q5 ?_)
 rw[j]
 simp only[if_true,bne_self_eq_false,Bool.false_eq_true,if_false]
 refine wpAny_bind ?_
 unfold setWalk
 refine wpAny_bind (wpAny_setState_of G.at_ G.dat G.fit ?_)
 dsimp only
 refine wpAny_bind (Q5 ?_)
 rw[j]
 simp only[if_true]
 exact wpAny_bind (wpAny_askSetting (wpAny_pure (wpAny_pure h)))
theorem W9 (G:SG0 s.heap a n led o fs ep u)(z:w.params.followText "set-order"=false)(N:led=true)(hp:(!u.plain&&decide (fs.size>1))=false)(slot i:Nat){Q:Option (Value×Nat)->Shared->Prop}
  (h:Q (match fs[SetTable.below u.place slot]?,u.place[SetTable.below u.place slot]? with |some (_,x),some j=>some (x,j+1)|_,_=>none) s):wpAny (model prog w) A (setNext a slot i ep) Q E s:=by
 unfold setNext
 refine wpAny_bind (wpAny_setState_of G.at_ G.dat G.fit ?_)
 dsimp only
 refine wpAny_bind (Q5 ?_)
 rw[z]
 simp only[Bool.false_eq_true,if_false]
 show wpAny _ _ (if (!u.plain&&decide (fs.size>1))=true then _ else _) _ _ s
 rw[hp]
 simp only[Bool.false_eq_true,if_false]
 show wpAny _ _ ((if (!u.led&& !fs.isEmpty)=true then unsupported "set:maker-not-led" else pure ()) >>= _) _ _ s
 rw[G.good.1,N]
 simp only[Bool.not_true,Bool.false_and,Bool.false_eq_true,if_false]
 exact wpAny_bind (wpAny_pure (wpAny_pure h))
end
section
variable {prog:Program}{w:World}{A:Around}{E:Value->Shared->Prop}{s:Shared}
variable {a:Addr}{n ep:Nat}{led:Bool}{o:Obj}{fs:Array (Int×Value)}{u:SetTable}
theorem zf8 (G:SG0 s.heap a n led o fs ep u){Q:Value->Shared->Prop}
  (h1:(w.params.followText "set-order"=true\/(!u.plain&&decide (fs.size>1))=false)->Q (.ref s.heap.objs.size) { s with heap:=s.heap.push { cls:=.type "set_iterator",data:=.fields #[.int 0 0,.int 0 0,.ref a,.int n 0,.int ep 0] } })
  (h2:∀(ys:List Nat) d,ys.Perm (List.range n)->Q (.ref (s.heap.objs.size+1)) { s with heap:=(s.heap.push (seqObj "tuple" (ys.map fun(i:Nat)=>Value.int i 0).toArray 0)).push { cls:=.type "set_iterator",data:=.fields #[.ref s.heap.objs.size,.int 0 0,.ref a,.int n 0,.int ep 0] },drawn:=d }):
  wpAny (model prog w) A (pyIter (.ref a)) Q E s:=by
 have j:s.TypeIs (.ref a) "set":=⟨o,G.at_,G.ex.1⟩
 refine wpAny_pyIter_slot j PySem.F.slot_set_iter (wpAny_call_entry PySem.F.slot_set_iter j G6 ?_ (PySem.F.args_set_iter_1 _))
 show wpAny _ _ (Builtin.Frozenset.sizeOf a >>= _) _ _ s
 unfold Builtin.Frozenset.sizeOf
 refine wpAny_bind (wpAny_bind (wpAny_setEntries_of G.at_ G.dat G.fit (wpAny_pure ?_)))
 show wpAny _ _ (setDrawn a >>= _) _ _ s
 unfold setDrawn
 refine wpAny_bind (wpAny_bind (wpAny_setState_of G.at_ G.dat G.fit ?_))
 dsimp only
 refine wpAny_bind (Q5 (wpAny_pure ?_))
 have last:∀(s1:Shared)(first:Value),s1.heap.get? a=some o->(Q (.ref s1.heap.objs.size) { s1 with heap:=s1.heap.push { cls:=.type "set_iterator",data:=.fields #[first,.int 0 0,.ref a,.int n 0,.int ep 0] } })->
   wpAny (model prog w) A.in1 (do
    let e ← setEpoch a
    let r ← newFields "set_iterator" [first,rawInt 0,.ref a,rawInt fs.size,rawInt e]
    ret r) (fun fin s'=>∃ v,fin=Fin.done (Flow.ret v)/\∃ z r,s'.TypeIs v z/\typeLookup (Value.type z) (Str.ofString "__next__")=pure (some r)/\Q v s') E s1:=fun s1 first ha q=>by
  refine wpAny_bind (wpAny_setEpoch_of ha G.dat G.fit ?_)
  rw[G.many]
  exact wpAny_bind (wpAny_newObj_type (wpAny_pure ⟨_,rfl,"set_iterator",_,⟨_,Heap.get?_push_size _ rfl,rfl⟩,slot_si_next.lookup,q⟩))
 show wpAny _ _ (if (!w.params.followText "set-order"&&(!u.plain&&decide (fs.size>1)))=true then _ else _) _ _ s
 cases hb:(!w.params.followText "set-order"&&(!u.plain&&decide (fs.size>1)))with
 |true=>
  simp only[if_true]
  refine wpAny_bind (Q1 _ _ (by simp) fun ys d hp=>?_)
  refine wpAny_bind (wpAny_newTuple ?_ (by have:=hp.length_eq;have:=fits_of_scanBound G.small;simp at*;omega))
  refine last _ _ (Heap.get?_push_of_some _ G.at_) ?_
  have:=h2 ys d (by rw[<-G.many];exact hp)
  have e:(s.heap.push (seqObj "tuple" (ys.map fun(i:Nat)=>Value.int i 0).toArray 0)).objs.size=s.heap.objs.size+1:=by rw[Heap.size_push]
  rw[<-e]at this
  exact this
 |false=>
  simp only[Bool.false_eq_true,if_false]
  refine last s (rawInt 0) G.at_ (h1 ?_)
  cases ht:w.params.followText "set-order" with
  |true=>exact .inl rfl
  |false=>rw[ht]at hb;exact .inr hb
end
section
variable {prog:Program}{w:World}{A:Around}{E:Value->Shared->Prop}{s:Shared}
variable {it a pt:Addr}{i n ep:Nat}{led:Bool}{o:Obj}{fs:Array (Int×Value)}{u:SetTable}{items:Array Value}
theorem zu7 {y t:Nat}{e:Int×Value}{Q:Option Value->Shared->Prop}(j:IsSI s.heap it (.ref pt) i a n ep)(G:SG0 s.heap a n led o fs ep u)(hp:s.heap.IsTuple pt items)(U:items[i]? =some (.int (y:Int) t))(Y:fs[y]? =some e)
  (hQ:∀ h',IsSI h' it (.ref pt) (i+1) a n ep->Heap.SameBut it s.heap h'->Q (some e.2) { s with heap:=h' }):
  wpAny (model prog w) A (pyNext (.ref it)) Q E s:=by
 obtain⟨oi,N,Z,hd⟩:=id j
 obtain⟨ot,z,_,nt,O⟩:=hp
 unfold pyNext
 refine wpAny_bind (wpAny_attempt (wpAny_callSpecial?_slot (name:=Str.ofString "__next__") j.typeIs slot_si_next
  (wpAny_call_entry slot_si_next j.typeIs d5 ?_ (Z5 _))))
 show wpAny _ _ (fieldsOf (.ref it) >>= _) _ _ s
 refine wpAny_bind (wpAny_fieldsOf N hd ?_)
 show wpAny _ _ (setEntries a >>= _) _ _ s
 refine wpAny_bind (wpAny_setEntries_of G.at_ G.dat G.fit ?_)
 rw[if_neg (by rw[G.many];simp)]
 show wpAny _ _ (seqItems? (.ref pt) >>= _) _ _ s
 refine wpAny_bind (wpAny_seqItems z O ?_)
 simp only[Int.toNat_natCast,U]
 refine wpAny_bind ?_
 unfold setNextDrawn
 refine wpAny_bind (wpAny_setState_of G.at_ G.dat G.fit ?_)
 simp only[bne_self_eq_false,Bool.false_eq_true,if_false,Y]
 refine wpAny_pure ?_
 refine wpAny_bind (wpAny_setField N hd (by simp) (wpAny_pure ⟨e.2,rfl,wpAny_pure (hQ _ ?_ (Heap.SameBut.update ..))⟩))
 exact⟨_,Heap.get?_update_self _ N (Obj.isFreed_of_fields (Obj.data_mapFields hd _)),(Obj.cls_mapFields ..).trans Z,by
  rw[Obj.data_mapFields hd];simp[rawInt]⟩
theorem zz5 {Q:Option Value->Shared->Prop}(hh:A.handled=none)(j:IsSI s.heap it (.ref pt) i a n ep)(G:SG0 s.heap a n led o fs ep u)(hp:s.heap.IsTuple pt items)(U:items[i]? =none)
  (Y:∀ h',Heap.ExtBut it s.heap h'->Q none { s with heap:=h' }):
  wpAny (model prog w) A (pyNext (.ref it)) Q E s:=by
 obtain⟨oi,N,hc,hd⟩:=id j
 obtain⟨ot,z,_,nt,O⟩:=hp
 unfold pyNext
 refine wpAny_bind (wpAny_attempt (wpAny_callSpecial?_slot (name:=Str.ofString "__next__") j.typeIs slot_si_next
  (wpAny_call_entry slot_si_next j.typeIs d5 ?_ (Z5 _))))
 show wpAny _ _ (fieldsOf (.ref it) >>= _) _ _ s
 refine wpAny_bind (wpAny_fieldsOf N hd ?_)
 show wpAny _ _ (setEntries a >>= _) _ _ s
 refine wpAny_bind (wpAny_setEntries_of G.at_ G.dat G.fit ?_)
 rw[if_neg (by rw[G.many];simp)]
 show wpAny _ _ (seqItems? (.ref pt) >>= _) _ _ s
 refine wpAny_bind (wpAny_seqItems z O ?_)
 simp only[Int.toNat_natCast,U]
 have Z:=Heap.get?_update_self (Obj.mapFields (·.setIfInBounds 0 (rawInt 0))) N (Obj.isFreed_of_fields (Obj.data_mapFields hd _))
 have d1:=Obj.data_mapFields hd (·.setIfInBounds 0 (rawInt 0))
 refine wpAny_bind (wpAny_setField N hd (by simp) ?_)
 refine wpAny_bind (wpAny_setField Z d1 (by simp) ?_)
 show wpAny _ _ (newExc (.type "StopIteration") [] >>= _) _ _ _
 refine wpAny_bind ?_
 simp only[newExc,newTuple]
 refine wpAny_bind (wpAny_newObj_type ?_ (by size_fits))
 refine wpAny_bind (m:=firstArgMember _ _) (wpAny_of_eq (a:=Value.none) (by first|rfl| (simp only[firstArgMember];rfl)) ?_)
 refine wpAny_newObj_type ?_ (by size_fits)
 simp only[raiseNew]
 refine wpAny_bind (wpAny_handled ?_)
 first|rw[show A.in1.handled=none from hh]|rw[hh]
 refine wpAny_bind (wpAny_pure (wpAny_throw ?_))
 refine wpAny_bind (wpAny_isInstance (T:="StopIteration") (b:=true) ⟨_,Heap.get?_push_size _ rfl,rfl⟩ isSubtype_stop ?_)
 exact wpAny_pure (Y _ ((((Heap.SameBut.update ..).trans (Heap.SameBut.update ..)).extBut.push _).push _))
end
section
variable {prog:Program}{w:World}{A:Around}{E:Value->Shared->Prop}{s:Shared}
def zStS (w:World)(it a:Addr)(ws:List Value)(i:Nat)(s:Shared):Prop:=∃ n led o fs ep u first,SG0 s.heap a n led o fs ep u/\IsSI s.heap it first i a n ep/\ws.length=n/\MD w s.heap a ws i n ep led fs u first
variable {it a:Addr}{ws:List Value}{i:Nat}
theorem SG0.to {h h':Heap}{n ep:Nat}{led:Bool}{o:Obj}{fs:Array (Int×Value)}{u:SetTable}(G:SG0 h a n led o fs ep u)(k:h'.get? a=some o):SG0 h' a n led o fs ep u:=⟨k,G.ex,G.dat,G.small,G.fit,G.many,G.good⟩
theorem SG0.ne {h:Heap}{n ep m j:Nat}{led:Bool}{o:Obj}{fs:Array (Int×Value)}{u:SetTable}{first:Value}(G:SG0 h a n led o fs ep u)(x:IsSI h it first j a m ep):a≠it:=fun z=>by
 obtain⟨U,O,N,_⟩:=x
 have:=G.at_
 rw[z,O]at this
 cases this
 rw[G.ex.1]at N
 exact absurd N (by decide)
theorem zStS.frame {h':Heap}{tk:Nat}(x:zStS w it a ws i s)(k:∀ b o,s.heap.get? b=some o->o.cls≠ .type "list"->h'.get? b=some o):zStS w it a ws i { s with heap:=h',toks:=tk }:=by
 obtain⟨n,led,o,fs,ep,u,first,G,⟨Z,ho,U,hd⟩,hl,j⟩:=x
 refine⟨n,led,o,fs,ep,u,first,G.to (k _ _ G.at_ (by rw[G.ex.1];decide)),⟨Z,k _ _ ho (by rw[U];decide),U,hd⟩,hl,?_⟩
 rcases j with j|j|⟨pt,ys,e,⟨Y,N,z,nt,O⟩,r⟩
 .exact .inl j
 .exact .inr (.inl j)
 .exact .inr (.inr ⟨pt,ys,e,⟨Y,k _ _ N (by rw[z];decide),z,nt,O⟩,r⟩)
theorem zStS.item {Q:Option Value->Shared->Prop}(x:zStS w it a ws i s)(hi:i<ws.length)(hQ:∀ h',zStS w it a ws (i+1) { s with heap:=h' }->Heap.SameBut it s.heap h'->Q (some ws[i]) { s with heap:=h' }):wpAny (model prog w) A (pyNext (.ref it)) Q E s:=by
 obtain⟨n,led,o,fs,ep,u,first,G,N,hl,md⟩:=x
 have a1:=G.ne N
 rcases md with⟨ht,⟨k,t,rfl⟩,j⟩|⟨ht,Y,hp,hu,a4,⟨k,t,rfl,hb⟩,j⟩|⟨pt,ys,rfl,Z,a2,j⟩
 .have hlen:i<(pickOrder (w.params.setOrder a ep) fs).toList.length:=by rw[j,List.length_map]at hi;exact hi
  refine zz4 (x:=ws[i]) (nx:=k.toNat) N G (fun A Q E q=>S9 G ht _ _ ?_) fun h' y O=>hQ h' ⟨n,led,o,fs,ep,u,_,G.to ((O.2 a a1).trans G.at_),y,hl,.inl ⟨ht,⟨_,_,rfl⟩,j⟩⟩ O
  have e:(pickOrder (w.params.setOrder a ep) fs)[i]? =some ((pickOrder (w.params.setOrder a ep) fs).toList[i]'hlen):=by rw[<-Array.getElem?_toList];exact List.getElem?_eq_getElem hlen
  rw[e]
  have:ws[i]=((pickOrder (w.params.setOrder a ep) fs).toList[i]'hlen).2:=by simp[j]
  rw[this]at q
  exact q
 .have hlen:i<fs.size:=by rw[j,List.length_map,Array.length_toList]at hi;exact hi
  have a3:i<u.place.size:=by omega
  refine zz4 (x:=ws[i]) (nx:=u.place[i]+1) N G (fun A Q E q=>W9 G ht Y hp _ _ ?_) fun h' y O=>hQ h' ⟨n,led,o,fs,ep,u,_,G.to ((O.2 a a1).trans G.at_),y,hl,.inr (.inl ⟨ht,Y,hp,hu,a4,⟨u.place[i]+1,_,rfl,zf5 hu a3⟩,j⟩)⟩ O
  rw[Int.toNat_natCast,hb,Array.getElem?_eq_getElem hlen,Array.getElem?_eq_getElem a3]
  have:ws[i]=fs[i].2:=by simp[j]
  rw[this]at q
  exact q
 .have hlen:i<ys.length:=by rw[j,List.length_map]at hi;exact hi
  have hy:=a2 ys[i] (List.getElem_mem hlen)
  have a5:pt≠it:=fun z=>by
   obtain⟨ot,U,a6,_⟩:=Z
   obtain⟨oi,ho,hc,_⟩:=N
   rw[z,ho]at U;cases U
   rw[a6]at hc
   exact absurd hc (by decide)
  have hw:ws[i]=fs[ys[i]].2:=by simp[j,hy]
  rw[hw]at hQ
  refine zu7 (y:=ys[i]) (t:=0) (e:=fs[ys[i]]) N G Z (by simp[hlen]) (Array.getElem?_eq_getElem hy) fun h' y O=>hQ h' ⟨n,led,o,fs,ep,u,_,G.to ((O.2 a a1).trans G.at_),y,hl,.inr (.inr ⟨pt,ys,rfl,?_,a2,j⟩)⟩ O
  obtain⟨ot,U,r⟩:=Z
  exact⟨ot,(O.2 pt a5).trans U,r⟩
theorem zStS.done {Q:Option Value->Shared->Prop}(hh:A.handled=none)(x:zStS w it a ws ws.length s)(Y:∀ h',Heap.ExtBut it s.heap h'->Q none { s with heap:=h' }):wpAny (model prog w) A (pyNext (.ref it)) Q E s:=by
 obtain⟨n,led,o,fs,ep,u,first,G,z,hl,Z⟩:=x
 rcases Z with⟨U,⟨k,t,rfl⟩,j⟩|⟨U,N,hp,hu,a2,⟨k,t,rfl,hb⟩,j⟩|⟨pt,ys,rfl,O,a1,j⟩
 .refine G7 hh z G (fun A Q E q=>S9 G U _ _ ?_) Y
  rw[Array.getElem?_eq_none (by rw[j,List.length_map,Array.length_toList];exact Nat.le_refl _)]
  exact q
 .refine G7 hh z G (fun A Q E q=>W9 G U N hp _ _ ?_) Y
  rw[Int.toNat_natCast,hb,Array.getElem?_eq_none (by rw[j,List.length_map,Array.length_toList];exact Nat.le_refl _)]
  exact q
 .exact zz5 hh z G O (by simp[j]) Y
end
section
variable {prog:Program}{w:World}{A:Around}{E:Value->Shared->Prop}{s:Shared}{it a:Addr}{ws:List Value}
theorem xp8 {R:Result->Shared->Prop}(hh:A.handled=none)(hz:ws.length<=sizeLine)(L:Addr)(res:Value):
  ∀(r i:Nat)(s:Shared)(acc:Array Value)(c:Nat),ws.length-i=r->i<=ws.length->zStS w it a ws i s->s.heap.get? L=some (lstO acc c)->acc.toList=ws.take i->L≠it->
   (∀ h' c',(∀ b o,b≠L->b≠it->s.heap.get? b=some o->h'.get? b=some o)->h'.get? L=some (lstO ws.toArray c')->R (.ok (.ret res)) { s with heap:=h' })->
   codeAny (model prog w) A (.builtin "list.extend.loop" ⟨[.ref L,.ref it,res],[]⟩) R s:=by
 intro r
 induction r with
 |zero=>
  intro i s acc c hr hi st Z j G fin
  obtain rfl:i=ws.length:=by omega
  refine codeAny_builtin PySem.F.entry_extend_loop ?_
  rw[Around.under_plainId PySem.F.plain_extend_loop _]
  show wpAny _ A.in1 (pyNext (.ref it) >>= _) _ _ s
  refine wpAny_bind (st.done (by simpa using hh) fun h' eb=>?_)
  rw[List.take_length]at j
  have e:acc=ws.toArray:=by rw[<-j]
  subst e
  exact wpAny_pure (fin h' c (fun b o _ z q=>eb b o z q) (eb L _ G Z))
 |succ r ih=>
  intro i s acc c hr hi st Z j G fin
  have lt:i<ws.length:=by omega
  have O:acc.size=i:=by rw[<-Array.length_toList,j,List.length_take];omega
  refine codeAny_builtin PySem.F.entry_extend_loop ?_
  rw[Around.under_plainId PySem.F.plain_extend_loop _]
  show wpAny _ A.in1 (pyNext (.ref it) >>= _) _ _ s
  refine wpAny_bind (st.item lt fun h1 Y sb=>?_)
  have N:h1.get? L=some (lstO acc c):=(sb.2 L G).trans Z
  show wpAny _ A.in1 (updateSeq L (·.push ws[i]) >>= _) _ _ _
  refine wpAny_bind ?_
  refine wpAny_updateSeq N rfl (wpAny_pure ⟨plainId_quiet PySem.F.plain_extend_loop _,ih (i+1) _ (acc.push ws[i]) _ (by omega) lt (Y.frame (tk:=s.toks) fun b o e hc=>?_) (Heap.get?_update_self _ N rfl) ?_ G fun h2 c2 k2 g2=>?_⟩) (by rw[O];omega) (by show (acc.push ws[i]).size<=sizeLine+1;rw[Array.size_push,O];omega)
  .refine(Heap.get?_update_other _ _ (fun z:L=b=>?_)).trans e
   subst z
   have e:h1.get? L=some o:=e
   rw[N]at e;cases e
   exact hc rfl
  .rw[Array.toList_push,j,List.take_append_getElem lt]
  .refine fin h2 c2 (fun b o hb U e=>k2 b o hb U ?_) g2
   exact(Heap.get?_update_other _ _ (Ne.symm hb)).trans ((sb.2 b U).trans e)
end
section
variable {prog:Program}{w:World}{A:Around}{E:Value->Shared->Prop}{s:Shared}{a:Addr}
variable {n ep:Nat}{led:Bool}{o:Obj}{fs:Array (Int×Value)}{u:SetTable}
theorem R0 {s2:Shared}{it L:Addr}{ws:List Value}{R:Result->Shared->Prop}(hh:A.handled=none)(hz:ws.length<=sizeLine)(hT:s2.TypeIs (.ref a) "set")(st:zStS w it a ws 0 s2)(Z:s2.heap.get? L=some (lstO #[] 0))(U:L≠it)
  {P:PySem.Fin->Shared->Prop} {E':Value->Shared->Prop} (hP:∀ j s',(j.quiet=true/\codeAny (model prog w) A j R s')->P (.again j) s')
  (fin:∀ h' j,(∀ b o,b≠L->b≠it->s2.heap.get? b=some o->h'.get? b=some o)->h'.get? L=some (lstO ws.toArray j)->R (.ok (.ret (.ref L))) { s2 with heap:=h' }):
  wpAny (model prog w) A.in1 (do
   let G ← holding [.ref it] (Builtin.List.listLengthHint (.ref a))
   if (G || ["set","frozenset","dict","dict_keys","dict_values","dict_items"].any (Value.type "set"== .type ·))=true then do
    rule "list.extend.makes-room"
    Builtin.List.listTouch (.ref L)
    again (.builtin "list.extend.loop" ⟨[.ref L,.ref it,.ref L],[]⟩)
   else again (.builtin "list.extend.loop" ⟨[.ref L,.ref it,.ref L],[]⟩)) P E' s2:=by
 refine wpAny_bind (wpAny_holding (yn1 hT ?_))
 rw[if_pos (by decide)]
 refine wpAny_bind (wpAny_rule ?_)
 refine wpAny_bind ?_
 show wpAny _ A.in1 (updateSeq L (·.push .none) >>= fun _=>updateSeq L (·.pop)) _ _ _
 refine wpAny_bind (wpAny_updateSeq Z rfl ?_)
 have g2:=Heap.get?_update_self (Obj.mapSeq (·.push Value.none)) Z rfl
 refine wpAny_updateSeq g2 rfl ?_
 have g3:=Heap.get?_update_self (Obj.mapSeq (·.pop)) g2 rfl
 have N:∀ b o,b≠L->s2.heap.get? b=some o->((s2.heap.update L (Obj.mapSeq (·.push Value.none))).update L (Obj.mapSeq (·.pop))).get? b=some o:=fun b o O e=>(Heap.get?_update_other _ _ (Ne.symm O)).trans ((Heap.get?_update_other _ _ (Ne.symm O)).trans e)
 refine wpAny_pure (hP _ _ ⟨plainId_quiet PySem.F.plain_extend_loop _,xp8 hh hz L _ ws.length 0 _ _ _ rfl (Nat.zero_le _) (st.frame (tk:=s2.toks) fun b o e hc=>N b o (fun z=>?_) e) g3 rfl U fun h' j k g=>fin h' j (fun b o O Y e=>k b o O Y (N b o O e)) g⟩)
 subst z
 rw[Z]at e;cases e
 exact hc rfl
end
section
variable {prog:Program}{w:World}{A:Around}{E:Value->Shared->Prop}{s:Shared}{a:Addr}
variable {n ep:Nat}{led:Bool}{o:Obj}{fs:Array (Int×Value)}{u:SetTable}
theorem zu8 (hh:A.handled=none)(G:SG0 s.heap a n led o fs ep u)(a3:led=A5 w){Q:List Value->Shared->Prop}
  (fin:∀ ws h' d,ws.Perm (fs.toList.map (·.2))->(∀ b o,b<s.heap.objs.size->s.heap.get? b=some o->h'.get? b=some o)->s.heap.objs.size<h'.objs.size->Q ws { s with heap:=h',drawn:=d }):
  wpAny (model prog w) A (collect (.ref a)) Q E s:=by
 have a6:a<s.heap.objs.size:=Heap.lt_size G.at_
 have a4:fs.size<=sizeLine:=fits_of_scanBound G.small
 unfold collect
 refine wpAny_bind (wpAny_runValue (codeAny_builtin PySem.F.entry_proto_collect ?_))
 rw[Around.under_plainId PySem.F.plain_proto_collect _]
 show wpAny _ A.in1 (newList [] >>= fun l=>again (.builtin "list.__iadd__" ⟨[l,.ref a],[]⟩)) _ _ s
 refine wpAny_bind (wpAny_newObj_type ?_)
 refine wpAny_pure ⟨plainId_quiet PySem.F.plain_list_iadd _,codeAny_builtin PySem.F.entry_list_iadd ?_⟩
 rw[Around.under_plainId PySem.F.plain_list_iadd _]
 have Y:SG0 (s.heap.push (lstO #[] 0)) a n led o fs ep u:=G.to (Heap.get?_push_of_some _ G.at_)
 have hL:(s.heap.push (lstO #[] 0)).get? s.heap.objs.size=some (lstO #[] 0):=Heap.get?_push_size _ rfl
 have z:(s.heap.push (lstO #[] 0)).objs.size=s.heap.objs.size+1:=by rw[Heap.size_push]
 show wpAny _ A.in1 (Builtin.List.listExtendWith (.ref s.heap.objs.size) (.ref a) (.ref s.heap.objs.size)) _ _ { s with heap:=s.heap.push (lstO #[] 0) }
 unfold Builtin.List.listExtendWith
 have aa:Shared.TypeIs { s with heap:=s.heap.push (lstO #[] 0) } (.ref a) "set":=⟨o,Y.at_,G.ex.1⟩
 refine wpAny_bind (wpAny_typeOf aa ?_)
 have h1:Builtin.List.listSameRef (.ref s.heap.objs.size) (.ref a)=false:=by simp[Builtin.List.listSameRef,Nat.ne_of_gt a6]
 rw[if_neg (by rw[h1];decide)]
 refine wpAny_bind (zf8 Y (fun U=>?_) fun ys d hp=>?_)
 .obtain⟨ws,hp,md⟩:∃ ws:List Value,ws.Perm (fs.toList.map (·.2))/\MD w ((s.heap.push (lstO #[] 0)).push { cls:=.type "set_iterator",data:=.fields #[.int 0 0,.int 0 0,.ref a,.int n 0,.int ep 0] }) a ws 0 n ep led fs u (.int 0 0):=by
   cases ht:w.params.followText "set-order" with
   |true=>exact⟨_,(zb0 _ _).map _,.inl ⟨ht,⟨_,_,rfl⟩,rfl⟩⟩
   |false=>
    have hp:(!u.plain&&decide (fs.size>1))=false:=by
     rcases U with U|U
     .rw[ht]at U;cases U
     .exact U
    have a5:u.place.size=fs.size:=by
     have:=G.fit
     simp only[SetTable.fits,Bool.and_eq_true,beq_iff_eq]at this
     exact this.1
    have hu:Up u.place:=by
     cases hpl:u.plain with
     |true=>exact G.good.2 hpl
     |false=>
      rw[hpl]at hp
      simp only[Bool.not_false,Bool.true_and,decide_eq_false_iff_not]at hp
      exact ys5 (by omega)
    exact⟨_,.refl _,.inr (.inl ⟨ht,by rw[a3];unfold A5;rw[ht];rfl,hp,hu,a5,⟨0,0,rfl,zf4 hu⟩,rfl⟩)⟩
  have j:ws.length=n:=by rw[hp.length_eq,List.length_map,Array.length_toList,G.many]
  have N:s.heap.objs.size≠(s.heap.push (lstO #[] 0)).objs.size:=by rw[z];exact Nat.ne_of_lt (Nat.lt_succ_self _)
  have gs:((s.heap.push (lstO #[] 0)).push { cls:=.type "set_iterator",data:=.fields #[.int 0 0,.int 0 0,.ref a,.int n 0,.int ep 0] }).get? (s.heap.push (lstO #[] 0)).objs.size=some { cls:=.type "set_iterator",data:=.fields #[.int 0 0,.int 0 0,.ref a,.int n 0,.int ep 0] }:=Heap.get?_push_size _ rfl
  have ga:=Heap.get?_push_of_some { cls:=.type "set_iterator",data:=.fields #[.int 0 0,.int 0 0,.ref a,.int n 0,.int ep 0] } Y.at_
  have gl:=Heap.get?_push_of_some { cls:=.type "set_iterator",data:=.fields #[.int 0 0,.int 0 0,.ref a,.int n 0,.int ep 0] } hL
  refine R0 (s2:={ s with heap:=(s.heap.push (lstO #[] 0)).push { cls:=.type "set_iterator",data:=.fields #[.int 0 0,.int 0 0,.ref a,.int n 0,.int ep 0] } }) (a:=a) (it:=(s.heap.push (lstO #[] 0)).objs.size) (L:=s.heap.objs.size) (ws:=ws) hh (by rw[j,<-G.many];exact a4) ⟨o,ga,G.ex.1⟩ ⟨n,led,o,fs,ep,u,.int 0 0,Y.to ga,⟨_,gs,rfl,rfl⟩,j,md⟩ gl N (fun c' s' h=>h) fun h' c' k g=>?_
  show wpAny _ A (load s.heap.objs.size >>= _) _ _ _
  refine wpAny_bind (wpAny_load g ?_)
  refine wpAny_pure (fin ws h' s.drawn hp (fun b o hb e=>k b o (Nat.ne_of_lt hb) (by rw[z];exact Nat.ne_of_lt (Nat.lt_succ_of_lt hb)) (Heap.get?_push_of_some _ (Heap.get?_push_of_some _ e))) (Heap.lt_size g))
 .have hpf:ys.Perm (List.range fs.size):=by rw[G.many];exact hp
  have Z:=ze1 (fs:=fs) hpf
  have j:(ys.map fun y=>(fs.getD y default).2).length=n:=by rw[Z.length_eq,List.length_map,Array.length_toList,G.many]
  have N:s.heap.objs.size≠(s.heap.push (lstO #[] 0)).objs.size+1:=by rw[z];exact Nat.ne_of_lt (Nat.lt_succ_of_lt (Nat.lt_succ_self _))
  have a9:((s.heap.push (lstO #[] 0)).push (seqObj "tuple" (ys.map fun(i:Nat)=>Value.int i 0).toArray 0)).objs.size=(s.heap.push (lstO #[] 0)).objs.size+1:=by rw[Heap.size_push]
  generalize a2:seqObj "tuple" (ys.map fun(i:Nat)=>Value.int i 0).toArray 0=tp at*
  generalize O:({ cls:=.type "set_iterator",data:=.fields #[.ref (s.heap.push (lstO #[] 0)).objs.size,.int 0 0,.ref a,.int n 0,.int ep 0] }:Obj)=io
  have a8:io.cls= .type "set_iterator":=by rw[<-O]
  have a7:io.data= .fields #[.ref (s.heap.push (lstO #[] 0)).objs.size,.int 0 0,.ref a,.int n 0,.int ep 0]:=by rw[<-O]
  have a1:tp.cls= .type "tuple"/\tp.data= .seq (ys.map fun(i:Nat)=>Value.int i 0).toArray 0:=by rw[<-a2];exact⟨rfl,rfl⟩
  have gt:((s.heap.push (lstO #[] 0)).push tp).get? (s.heap.push (lstO #[] 0)).objs.size=some tp:=Heap.get?_push_size _ (by rw[<-a2];rfl)
  have gs:(((s.heap.push (lstO #[] 0)).push tp).push io).get? ((s.heap.push (lstO #[] 0)).objs.size+1)=some io:=by
   rw[<-a9];exact Heap.get?_push_size _ (by rw[<-O];rfl)
  have ga:(((s.heap.push (lstO #[] 0)).push tp).push io).get? a=some o:=Heap.get?_push_of_some _ (Heap.get?_push_of_some _ Y.at_)
  have gl:(((s.heap.push (lstO #[] 0)).push tp).push io).get? s.heap.objs.size=some (lstO #[] 0):=Heap.get?_push_of_some _ (Heap.get?_push_of_some _ hL)
  have st:zStS w ((s.heap.push (lstO #[] 0)).objs.size+1) a (ys.map fun y=>(fs.getD y default).2) 0 { s with heap:=((s.heap.push (lstO #[] 0)).push tp).push io,drawn:=d }:=
   ⟨n,led,o,fs,ep,u,.ref (s.heap.push (lstO #[] 0)).objs.size,Y.to ga,⟨io,gs,a8,a7⟩,j,.inr (.inr ⟨_,ys,rfl,⟨tp,Heap.get?_push_of_some _ gt,a1.1,0,a1.2⟩,fun y hy=>List.mem_range.mp (hpf.mem_iff.mp hy),rfl⟩)⟩
  refine R0 (s2:={ s with heap:=((s.heap.push (lstO #[] 0)).push tp).push io,drawn:=d }) (a:=a) (it:=(s.heap.push (lstO #[] 0)).objs.size+1) (L:=s.heap.objs.size) hh (by rw[j,<-G.many];exact a4) ⟨o,ga,G.ex.1⟩ st gl N (fun c' s' h=>h) fun h' c' k g=>?_
  show wpAny _ A (load s.heap.objs.size >>= _) _ _ _
  refine wpAny_bind (wpAny_load g ?_)
  refine wpAny_pure (fin _ h' d Z (fun b o hb e=>k b o (Nat.ne_of_lt hb) (by rw[z];exact Nat.ne_of_lt (Nat.lt_succ_of_lt (Nat.lt_succ_of_lt hb))) (Heap.get?_push_of_some _ (Heap.get?_push_of_some _ (Heap.get?_push_of_some _ e)))) (Heap.lt_size g))
end
end ZT
end
section
namespace ZT
section
variable {prog:Program}{w:World}{A:Around}{E:Value->Shared->Prop}{s:Shared}
theorem yh1 {h:Heap}{a:Addr}{n:Nat}{led:Bool}{o:Obj}{fs j:Array (Int×Value)}{ep:Nat}{u v:SetTable}(G:SG0 h a n led o fs ep u)(small:j.size<scanBound)(fit:v.fits j.size=true)(z:GT led v):
  SG0 (h.update a (Obj.putSet j v)) a j.size led { o with data:=.set j (ep+1) v } j (ep+1) v:=by
 refine⟨?_,G.ex,rfl,small,fit,rfl,z⟩
 have:=Heap.get?_update_self (Obj.putSet j v) G.at_ (by rw[putSet_of j v G.dat];rfl)
 rw[putSet_of j v G.dat]at this;exact this
theorem Tp.ref {h:Heap}{v:Value}{a b:Int}(x:Tp h v a b):∃ p o,v= .ref p/\h.get? p=some o/\o.cls= .type "tuple":=by
 obtain⟨p,o,_,_,_,e,g,c,_⟩:=x
 exact⟨p,o,e,g,c⟩
theorem ym5 {v:Value}{a b:Int}(j:Tp s.heap v a b){Q:Bool->Shared->Prop}(q:Q true s):wpAny (model prog w) A (hashByValue 8 v) Q E s:=by
 obtain⟨p,o,n,t,u,rfl,g,c,d⟩:=j
 unfold hashByValue
 refine wpAny_bind (wpAny_specialOf (T:="tuple") ⟨o,g,c⟩ PySem.F.slot_tuple_hash.lookup ?_)
 dsimp only
 refine wpAny_bind (wpAny_seqItems g d ?_)
 refine wpAny_bind ?_
 show wpAny _ _ (forIn #[Value.int a t,Value.int b u] _ _) _ _ _
 rw[<-Array.forIn_toList]
 simp only[List.forIn_cons,List.forIn_nil,hashByValue]
 refine wpAny_bind ?_
 refine wpAny_bind (wpAny_pure ?_)
 simp only[Bool.not_true,Bool.false_eq_true,if_false]
 refine wpAny_pure ?_
 refine wpAny_bind ?_
 refine wpAny_bind (wpAny_pure ?_)
 simp only[Bool.not_true,Bool.false_eq_true,if_false]
 refine wpAny_pure ?_
 exact wpAny_pure (wpAny_pure q)
theorem addT {a:Addr}{x:Value}{h:Int}{n:Nat}{led:Bool}{o:Obj}{fs:Array (Int×Value)}{ep:Nat}{u:SetTable}{i j:Int}{k:Nat}(G:SG0 s.heap a n led o fs ep u)(N:Tp s.heap x i j)(U:u.gaveWay=false)(pl:(u.put k).1.plain=true)
  (free:∀ f:Nat->Int,(∀ y,f y=(fs[y]?.map (·.1)).getD 0)->u.probe f h (u.probeStart h)=some (.empty k none))
  (small:(SetTable.insertAt fs (u.put k).2 (h,x)).size<scanBound) (fit:(u.put k).1.fits (SetTable.insertAt fs (u.put k).2 (h,x)).size=true) (Y:GT led (u.put k).1) (nf:(u.put k).1.tooFull=false)
  {Q:Bool->Shared->Prop} (fin:∀ h',Heap.SameBut a s.heap h'->(∃ o' z,SG0 h' a (SetTable.insertAt fs (u.put k).2 (h,x)).size led o' (SetTable.insertAt fs (u.put k).2 (h,x)) z (u.put k).1)->Q true { s with heap:=h' }):
  wpAny (model prog w) A (setAddHashed a x h) Q E s:=by
 obtain⟨p,op,rfl,_,_⟩:=N.ref
 have O:byScan (.ref p) fs=false:=by simp[byScan,Value.scannable]
 unfold setAddHashed setAddHashedIn
 refine wpAny_holding (wpAny_bind (wpAny_setState_of G.at_ G.dat G.fit ?_))
 dsimp only
 rw[O]
 simp only[Bool.false_eq_true,↓reduceIte]
 refine wpAny_bind ?_
 unfold setSearch setSearchFrom
 refine wpAny_bind (wpAny_setState_of G.at_ G.dat G.fit ?_)
 dsimp only
 rw[U]
 simp only[Bool.false_eq_true,↓reduceIte,Option.getD_none]
 refine wpAny_bind (wpAny_pure ?_)
 rw[free]
 rotate_left 1
 { exact fun y=>rfl }
 dsimp only
 refine wpAny_pure ?_
 dsimp only
 refine wpAny_bind (wpAny_setState_of G.at_ G.dat G.fit ?_)
 dsimp only
 rw[pl]
 simp only[if_true]
 refine wpAny_bind (ym5 N ?_)
 simp only[if_true]
 refine wpAny_bind (wpAny_storeSet_of G.at_ G.dat ?_ (fits_of_scanBound small))
 rw[nf]
 simp only[Bool.and_false,Bool.false_eq_true,↓reduceIte]
 exact wpAny_pure (fin _ (Heap.SameBut.update ..) ⟨_,_,yh1 G small fit Y⟩)
end
noncomputable def tab1 (led:Bool)(j:Nat):SetTable:={ SetTable.fresh 0 0 led with place:=#[j] }
theorem xw5 (led:Bool)(f:Nat->Int)(h:Int):(SetTable.fresh 0 0 led).probe f h ((SetTable.fresh 0 0 led).probeStart h)=some (.empty (SetTable.bits h % 8) none):=rfl
theorem zi1 (j1 k:Nat):SetTable.below #[j1] k=if j1<k then 1 else 0:=by
 unfold SetTable.below
 rw[show (#[j1]:Array Nat).size=0+1 from rfl,SetTable.below.go]
 simp only[Nat.zero_add,Nat.lt_add_one,if_true,show (1:Nat) / 2=0 from rfl]
 rw[show (#[j1]:Array Nat).getD 0 k=j1 from rfl]
 split <;> simp[SetTable.below.go]
theorem yi9 (led:Bool)(j1 k:Nat):(tab1 led j1).slot k=if k=j1 then .live 0 else .empty:=by
 unfold SetTable.slot
 show (if (#[j1][SetTable.below #[j1] k]? ==some k)=true then SetTable.Slot.live (SetTable.below #[j1] k)else if SetTable.has #[] k=true then .dummy else .empty)=_
 rw[zi1,show SetTable.has #[] k=false from rfl]
 by_cases h:j1<k
 .simp[h,Nat.ne_of_gt h]
 .by_cases e:k=j1
  .subst e;simp
  .simp[h,e,Ne.symm e]
theorem go1 {led:Bool}{j1:Nat}{f:Nat->Int}{h:Int}(z:f 0≠h):∀(m fuel:Nat)(p:SetTable.Probe),p.perturb<32^m->m+2<=fuel->p.j<8->p.i=p.j->p.more=0->p.dummy=none->
  ∃ k,k<8/\k≠j1/\SetTable.probe.go (tab1 led j1) f h fuel p=some (.empty k none)
 |m,0,p,_,hq,_,_,_,_=>by omega
 |m,fuel+1,⟨j,more,i,pt,dm⟩,hp,hq,hj,hi,hm,hd=>by
  simp only at hp hj hi hm hd
  subst hi hm hd
  by_cases e:i=j1
  .have hg:SetTable.probe.go (tab1 led j1) f h (fuel+1) ⟨i,0,i,pt,none⟩=SetTable.probe.go (tab1 led j1) f h fuel ⟨(i*5+1+pt / 32) % 8,0,(i*5+1+pt / 32) % 8,pt / 32,none⟩:=by
    rw[SetTable.probe.go]
    simp only[yi9,e,if_true]
    rw[if_neg (by simpa using z)]
    rw[show SetTable.advance (tab1 led j1) ⟨j1,0,j1,pt,none⟩=⟨(j1*5+1+pt / 32) % 8,SetTable.runEnd 7 ((j1*5+1+pt / 32) % 8)-(j1*5+1+pt / 32) % 8,(j1*5+1+pt / 32) % 8,pt / 32,none⟩from rfl]
    have:SetTable.runEnd 7 ((j1*5+1+pt / 32) % 8)-(j1*5+1+pt / 32) % 8=0:=by
     unfold SetTable.runEnd
     rw[if_neg (by omega)]
     omega
    rw[this]
   rw[hg]
   match m with
   |0=>
    have:pt=0:=by omega
    subst this
    refine⟨(i*5+1+0 / 32) % 8,by omega,by omega,?_⟩
    match fuel,hq with
    |fuel+1,_=>
     rw[SetTable.probe.go]
     simp only[yi9]
     rw[if_neg (by omega)]
   |m+1=>exact go1 z m fuel _ (by simp only;rw[Nat.pow_succ]at hp;omega) (by omega) (by simp only;omega) rfl rfl rfl
  .refine⟨i,hj,e,?_⟩
   rw[SetTable.probe.go]
   simp only[yi9,e,if_false]
theorem xw4 {led:Bool}{j1:Nat}{f:Nat->Int}{h:Int}(j:f 0≠h):∃ k,k<8/\k≠j1/\(tab1 led j1).probe f h ((tab1 led j1).probeStart h)=some (.empty k none):=by
 have z:SetTable.bits h<2^64:=by unfold SetTable.bits;omega
 unfold SetTable.probe
 refine go1 j 13 _ _ ?_ ?_ ?_ rfl ?_ rfl
 .show SetTable.bits h<32^13
  have:(2:Nat)^64<=32^13:=by decide
  omega
 .show 13+2<=10*(7+15)
  decide
 .show SetTable.bits h % 8<8
  omega
 .show SetTable.runEnd 7 (SetTable.bits h % 8)-SetTable.bits h % 8=0
  unfold SetTable.runEnd
  rw[if_neg (by omega)]
  omega
end ZT
end
section
namespace ZT
theorem len2 {α:Type}:∀{l:List α},l.length<=2->l=[]\/(∃ x,l=[x])\/∃ x y,l=[x,y]
 |[],_=>.inl rfl
 |[x],_=>.inr (.inl ⟨x,rfl⟩)
 |[x,y],_=>.inr (.inr ⟨x,y,rfl⟩)
 |_::_::_::l,h=>by rw[List.length_cons,List.length_cons,List.length_cons]at h;omega
noncomputable def hp2 (a b:Int):Int:=reduceHash (Builtin.Tuple.tupleHashOf [hashInt a,hashInt b])
noncomputable def Good (led:Bool):List (Value×Int×Int)->Array (Int×Value)->SetTable->Prop
 |[],fs,u=>fs=#[]/\u= .fresh 0 0 led
 |[(x,a,b)],fs,u=>fs=#[(hp2 a b,x)]/\u=tab1 led (SetTable.bits (hp2 a b) % 8)
 |l,fs,_=>(fs.toList.map (·.2)).Perm (l.map (·.1))
theorem Good.perm {led:Bool}:∀{l:List (Value×Int×Int)}{fs:Array (Int×Value)}{u:SetTable},Good led l fs u->(fs.toList.map (·.2)).Perm (l.map (·.1))
 |[],fs,u,h=>by rw[h.1];exact .refl _
 |[(x,a,b)],fs,u,h=>by rw[h.1];exact .refl _
 |_::_::_,fs,u,h=>h
def ES (h:Heap)(a:Addr)(led:Bool)(l:List (Value×Int×Int)):Prop:=∃ o fs ep u,SG0 h a l.length led o fs ep u/\Good led l fs u
theorem ES.stay {h h':Heap}{a:Addr}{led:Bool}{l:List (Value×Int×Int)}(g:ES h a led l)(k:∀ o,h.get? a=some o->o.cls= .type "set"->h'.get? a=some o):ES h' a led l:=by
 obtain⟨o,fs,ep,u,G,r⟩:=g
 exact⟨o,fs,ep,u,G.to (k o G.at_ G.ex.1),r⟩
theorem yk2 (j:Nat):Up #[j]:=List.pairwise_singleton ..
theorem put1 (led:Bool){j k:Nat}(h:k≠j):((tab1 led j).put k).1.place.size=2/\((tab1 led j).put k).1.dummies=#[]/\Up ((tab1 led j).put k).1.place/\(((tab1 led j).put k).2=0\/((tab1 led j).put k).2=1):=by
 have e:((tab1 led j).put k).1.place=SetTable.insertAt #[j] (SetTable.below #[j] k) k:=rfl
 have e2:((tab1 led j).put k).2=SetTable.below #[j] k:=rfl
 rw[e,e2]
 refine⟨?_,rfl,yx8 (yk2 j) ?_,?_⟩
 .rw[zi1];split <;> rfl
 .rw[zi1]
  by_cases c:j<k
  .simp[c]
  .simp[c,Ne.symm h]
 .rw[zi1];split
  .exact .inr rfl
  .exact .inl rfl
section
variable {prog:Program}{w:World}{A:Around}{E:Value->Shared->Prop}{s:Shared}
theorem xy8 {a:Addr}{led:Bool}{x y:Value}{i j c d H1:Int}{J ep:Nat}{o:Obj}(G:SG0 s.heap a 1 led o #[(H1,y)] ep (tab1 led J))(hx:Tp s.heap x i j)(a3:H1≠hp2 i j)
  {Q:Bool->Shared->Prop} (fin:∀ h',Heap.SameBut a s.heap h'->ES h' a led ([(y,c,d)]++[(x,i,j)])->Q true { s with heap:=h' }):wpAny (model prog w) A (setAddHashed a x (hp2 i j)) Q E s:=by
 generalize hp2 i j=H2 at*
 obtain⟨f0,O⟩:∃ f:Nat->Int,f=fun i=>((#[(H1,y)]:Array (Int×Value))[i]?.map (·.1)).getD 0:=⟨_,rfl⟩
 have a2:f0 0≠H2:=by rw[O];exact a3
 obtain⟨k,a5,hk,U⟩:=xw4 (led:=led) (j1:=J) a2
 obtain⟨p1,p2,p3,p4⟩:=put1 led hk
 have hm:((tab1 led J).put k).1.mask=7:=rfl
 have hl:((tab1 led J).put k).1.led=led:=rfl
 have Z:((tab1 led J).put k).1.plain=true:=rfl
 have a1:(tab1 led J).gaveWay=false:=by simp[SetTable.gaveWay,tab1,SetTable.fresh]
 have hf:((tab1 led J).put k).1.fill=2:=by unfold SetTable.fill;rw[p1,p2];rfl
 have Y:∃ q,((tab1 led J).put k).2=q/\(q=0\/q=1):=⟨_,rfl,p4⟩
 obtain⟨q,hq,N⟩:=Y
 have hz:(SetTable.insertAt (#[(H1,y)]:Array (Int×Value)) q (H2,x)).size=2:=by rcases N with e|e <;> rw[e] <;> rfl
 have fr:∀ f:Nat->Int,(∀ z,f z=((#[(H1,y)]:Array (Int×Value))[z]?.map (·.1)).getD 0)->(tab1 led J).probe f H2 ((tab1 led J).probeStart H2)=some (.empty k none):=fun f h=>by
  rw[show f=f0 from by rw[O];exact funext h]
  exact U
 have fit:((tab1 led J).put k).1.fits 2=true:=by unfold SetTable.fits;rw[p1,hf,hm];rfl
 have nf:((tab1 led J).put k).1.tooFull=false:=by unfold SetTable.tooFull;rw[hf,hm];rfl
 have gt:GT led ((tab1 led J).put k).1:=⟨hl,fun _=>p3⟩
 have pe:((SetTable.insertAt (#[(H1,y)]:Array (Int×Value)) q (H2,x)).toList.map (·.2)).Perm [y,x]:=by
  rcases N with e|e <;> rw[e]
  .show List.Perm [x,y] [y,x]
   exact .swap _ _ _
  .exact .refl _
 have key:=addT (prog:=prog) (w:=w) (A:=A) (E:=E) (Q:=Q) G hx a1 Z fr
 rw[hq,hz]at key
 exact key (by decide) fit gt nf fun h' sb ⟨o',a4,G'⟩=>fin h' sb ⟨o',_,a4,_,G',pe⟩
theorem xo8 {a:Addr}{led:Bool}{x:Value}{i j:Int}{l:List (Value×Int×Int)}(g:ES s.heap a led l)(Z:l.length<2)(Y:Tp s.heap x i j)(hd:∀ y∈l,hp2 y.2.1 y.2.2≠hp2 i j)
  {Q:Bool->Shared->Prop} (fin:∀ h',Heap.SameBut a s.heap h'->ES h' a led (l++[(x,i,j)])->Q true { s with heap:=h' }):wpAny (model prog w) A (setAddHashed a x (hp2 i j)) Q E s:=by
 obtain⟨o,fs,ep,u,G,good⟩:=g
 rcases len2 (Nat.le_of_lt Z)with rfl|⟨⟨y,c,d⟩,rfl⟩|⟨y,z,rfl⟩
 .obtain⟨e1,e2⟩:=good
  subst e1 e2
  refine addT G Y (by simp[SetTable.gaveWay,SetTable.fresh]) (by rfl) (fun f _=>xw5 led f _) (show 1<scanBound by decide) (by rfl) ⟨rfl,fun _=>yk2 _⟩ (by rfl) fun h' N ⟨o',U,G'⟩=>fin h' N ⟨o',_,U,_,G',rfl,rfl⟩
 .obtain⟨e1,e2⟩:=good
  subst e1 e2
  have O:=hd (y,c,d) (List.mem_singleton.mpr rfl)
  exact xy8 G Y O fun h' N q=>fin h' N q
 .exact absurd Z (Nat.lt_irrefl 2)
def Tps (h:Heap)(l:List (Value×Int×Int)):Prop:=∀ y∈l,Tp h y.1 y.2.1 y.2.2
def Dif (l:List (Value×Int×Int)):Prop:=(l.map fun y=>hp2 y.2.1 y.2.2).Nodup
section
variable {R:Result->Shared->Prop}{I:Addr}{fp wr:List Addr}{Gn:Array GenState->Array GenState->Prop}{n:Nat}{P:Nat->Value->Prop}{St:Nat->Shared->Prop}
theorem xk3 (W:WalksS prog w A.in1 I fp wr Gn n P St)(hu:A.units+8<cLine)(a:Addr)(a2:a∉fp)(l:List (Value×Int×Int))(hn:n=l.length)(hv:∀ i v,P i v->∃ y,l[i]? =some y/\v=y.1)(h2:l.length<=2)(a5:Dif l)(led:Bool)
  (hw:∀(st:Shared)(p:Addr)(o:Obj)(i:Nat),St i st->st.heap.get? p=some o->o.cls= .type "tuple"->p∉wr):
  ∀(r i:Nat)(s:Shared),n-i=r->i<=n->St i s->Tps s.heap l->ES s.heap a led (l.take i)->
   (∀ s',Moved (a::wr) Gn s s'->ES s'.heap a led l->R (.ok (.ret .none)) s')->
   codeAny (model prog w) A (.builtin "set.update.loop" ⟨[.ref a,.ref I],[]⟩) R s:=by
 have O:a∉wr:=fun z=>a2 (W.sub _ z)
 have up:∀ b∈wr,b∈a::wr:=fun b z=>List.mem_cons_of_mem _ z
 intro r
 induction r with
 |zero=>
  intro i s hr hi st tp g fin
  obtain rfl:i=n:=by omega
  refine codeAny_builtin F.entry_set_update_loop ?_
  rw[Around.under_plainId F.plain_set_update_loop _]
  show wpAny _ A.in1 (pyNext (.ref I) >>= _) _ _ s
  refine wpAny_bind (W.done s _ _ st fun s1 mv=>?_)
  rw[hn,List.take_length]at g
  exact wpAny_pure (fin s1 (mv.mono up) (g.stay fun o e _=>mv.heap a o O e))
 |succ r ih=>
  intro i s hr hi st tp g fin
  have lt:i<n:=by omega
  refine codeAny_builtin F.entry_set_update_loop ?_
  rw[Around.under_plainId F.plain_set_update_loop _]
  show wpAny _ A.in1 (pyNext (.ref I) >>= _) _ _ s
  refine wpAny_bind (W.item i s _ _ lt st fun v s1 pv a3 mv=>?_)
  obtain⟨y,U,rfl⟩:=hv i v pv
  obtain⟨x,c,d⟩:=y
  have N:i<l.length:=by omega
  have Y:l[i]=(x,c,d):=by rw[List.getElem?_eq_getElem N]at U;exact Option.some.inj U
  have g1:ES s1.heap a led (l.take i):=g.stay fun o e _=>mv.heap a o O e
  have a1:Tps s1.heap l:=fun y U=>(tp y U).to fun p o e Z=>mv.heap p o (hw s p o i st e Z) e
  have hx:Tp s1.heap x c d:=a1 (x,c,d) (by rw[<-Y];exact List.getElem_mem N)
  obtain⟨p,op,ex,gp,cp⟩:=hx.ref
  have hk:IsTupleKey (KI prog w) s1.heap [c,d] p:=by
   obtain⟨p',o',m,t,u,e,g2,c2,d2⟩:=hx
   rw[ex]at e;cases e
   exact⟨o',_,m,g2,c2,d2,.cons (intKind_is _ _ _ _) (.cons (intKind_is _ _ _ _) .nil)⟩
  show wpAny _ A.in1 (holding [x] (setAdd a x) >>= _) _ _ s1
  refine wpAny_bind (wpAny_holding ?_)
  unfold setAdd
  refine wpAny_holding ?_
  subst ex
  refine wpAny_bind (wpAny_pyHash_tuple (knd:=KI prog w) (by show A.units+1<cLine;omega) hk ?_)
  refine xo8 (s:={ s1 with toks:=s1.toks+([c,d].length+1) }) (i:=c) (j:=d) g1 (by rw[List.length_take];omega) hx (fun y U=>?_) fun h2 sb g2=>?_
  .intro z
   have hm:(l.map fun y=>hp2 y.2.1 y.2.2).Nodup:=a5
   have e:(l.map fun y=>hp2 y.2.1 y.2.2)=(l.take i).map (fun y=>hp2 y.2.1 y.2.2)++hp2 c d::(l.drop (i+1)).map (fun y=>hp2 y.2.1 y.2.2):=by
    conv=>lhs;rw[<-List.take_append_drop i l,List.drop_eq_getElem_cons N,Y]
    simp
   rw[e]at hm
   have:=(List.nodup_append.mp hm).2.2 _ (List.mem_map_of_mem U) _ List.mem_cons_self
   exact this z
  .have g3:ES h2 a led (l.take (i+1)):=by
    have:l.take (i+1)=l.take i++[(Value.ref p,c,d)]:=by rw[List.take_succ,List.getElem?_eq_getElem N,Y];rfl
    rw[this];exact g2
   have ne:∀ q o,s1.heap.get? q=some o->o.cls= .type "tuple"->q≠a:=fun q o e Z z=>by
    subst z
    obtain⟨o',_,_,_,G,_⟩:=g1
    have:=G.at_
    rw[e]at this;cases this
    rw[G.ex.1]at Z
    exact absurd Z (by decide)
   refine wpAny_pure ⟨plainId_quiet F.plain_set_update_loop _,ih (i+1) _ (by omega) lt (W.frame _ s1 _ _ a3 (Nat.le_add_right _ _) fun b hb o e=>?_) (fun y U=>(a1 y U).to fun q o e Z=>(sb.2 q (ne q o e Z)).trans e) g3 fun s2 a4 g4=>?_⟩
   .rw[sb.2 b (fun z:b=a=>a2 (by rw[<-z];exact hb))];exact e
   .refine fin s2 (Moved.trans W.gtrans ((mv.mono up).then_heap (Nat.le_add_right _ _) fun b o hb e=>?_) a4) g4
    rw[sb.2 b (fun z:b=a=>hb (by rw[z];exact List.mem_cons_self))];exact e
end
end
end ZT
end
section
namespace ZT
section
variable {prog:Program}{w:World}{A:Around}{E:Value->Shared->Prop}{s:Shared}
set_option maxHeartbeats 3200000 in
theorem ym4 {l:Addr}{items:Array Value}{ks:List (Value×Int×Int)}{Q:Value->Shared->Prop}(hh:A.handled=none)(hu:A.units+64<cLine)(hl:s.heap.IsList l items)(hi:items.toList=ks.map (·.1))(tp:Tps s.heap ks)(a3:ks.length<=2)(af:Dif ks)
  (fin:∀(h':Heap)(tk:Nat),ES h' s.heap.objs.size (A5 w) ks->
   (∀ b o,b<s.heap.objs.size->s.heap.get? b=some o->h'.get? b=some o)->Q (.ref s.heap.objs.size) { s with heap:=h',toks:=tk }):
  wpAny (model prog w) A (call (.type "set") [.ref l]) Q E s:=by
 obtain⟨c,tl,ak⟩:=PySem.F.called_set.mro
 have a9:=PySem.F.called_set.made
 have ah:=PySem.F.called_set.sub
 refine wpAny_call (codeAny_of_tree ?_)
 show wpAny _ _ (callAny (.type "set") _) _ _ _
 refine wpAny_pure ⟨Code.quiet_builtin _ (by decide +kernel),codeAny_builtin PySem.F.entry_type_call ?_⟩
 rw[Around.under_plain (weight_type_call_type "set" [.ref l] []) rfl]
 have h1:=PySem.F.called_set.notType
 have h2:=PySem.F.called_set.canCreate
 have an:=PySem.F.typeCall_set_1 (.ref l)
 repeat (any_goals (first|assumption|wp_step))
 refine codeAny_mono (yv6 (.ref l) (E:=E) (Q:=fun obj s1=>obj= .ref s.heap.objs.size/\s1={ s with heap:=s.heap.push (d8 w) }) ⟨rfl,rfl⟩) fun r s1 hr=>?_
 cases r with
 |error e=>exact hr
 |ok fl=>
  cases fl with
  |ret obj=>
   obtain⟨rfl,rfl⟩:=hr
   have hS:(s.heap.push (d8 w)).get? s.heap.objs.size=some (d8 w):=Heap.get?_push_size _ rfl
   have hT:Shared.TypeIs { s with heap:=s.heap.push (d8 w) } (.ref s.heap.objs.size) "set":=⟨_,hS,rfl⟩
   have am:=PySem.F.called_set.init.lookup
   have ao:=PySem.F.called_set.init.bind (.ref s.heap.objs.size)
   repeat (any_goals (first|assumption|wp_step))
   refine codeAny_mono (codeAny_call_builtin (R:=wants (fun r s2=>r= .none/\∃ h' tk,s2={ s with heap:=h',toks:=tk }/\ES h' s.heap.objs.size (A5 w) ks/\
     (∀ b o,b<s.heap.objs.size->s.heap.get? b=some o->h'.get? b=some o)) E) PySem.F.called_set.init.plain PySem.F.entry_set_init (PySem.check_set_init_1 hT ?_)) fun r2 s2 N=>?_
   .obtain⟨ol,hol,hcl,nl,hdl⟩:=hl
    obtain⟨ag,G,a7,j⟩:=ol
    simp only at hcl hdl
    subst hcl;subst hdl
    have O:(s.heap.push (d8 w)).get? l=some { cls:=.type "list",dict:=G,data:=.seq items nl,slots:=j }:=Heap.get?_push_of_some _ hol
    have ai:=PySem.F.sub_list_set
    have aj:=PySem.F.sub_list_frozenset
    have al:(Value.type "list"==Value.type "dict")=false:=by decide
    have a2:(s.heap.push (d8 w)).IsList l items:=⟨_,O,rfl,nl,rfl⟩
    unfold Builtin.«set.__init__» noKeywords Builtin.Frozenset.updateFrom
    generalize ad:pyIter=PI
    wp_walk
    subst ad
    refine wpAny_pyIter_list a2 ?_
    refine wpAny_bind (wpAny_runValue ?_)
    have a1:l<s.heap.objs.size:=Heap.lt_size hol
    have ab:A.in1.in1.in1.handled=none:=by simp[hh]
    have z:(s.heap.push (d8 w)).objs.size=s.heap.objs.size+1:=by rw[Heap.size_push]
    have Y:l≠(s.heap.push (d8 w)).objs.size:=by rw[z];exact Nat.ne_of_lt (Nat.lt_succ_of_lt a1)
    have ac:s.heap.objs.size∉[(s.heap.push (d8 w)).objs.size,l]:=by
     simp only[List.mem_cons,List.not_mem_nil,or_false,not_or]
     exact⟨by rw[z];exact Nat.ne_of_lt (Nat.lt_succ_self _),Nat.ne_of_gt a1⟩
    have Z:items.size=ks.length:=by rw[<-Array.length_toList,hi,List.length_map]
    have aa:A.in1.in1.units+8<cLine:=by show A.units+1+1+8<cLine;omega
    refine xk3 ((Walks.list ab _ l Y items).toS) ?hu s.heap.objs.size ac ks Z (fun i v hv=>?hv) a3 af (A5 w) ?hw (items.size-0) 0 _ (by omega) (Nat.zero_le _) ⟨⟨_,Heap.get?_push_size _ rfl,rfl,rfl⟩,(a2.push _)⟩ ?tp ?g0 ?gR
    case hu=>first|exact aa| (show A.units+1+1+1+8<cLine;omega)| (show A.units+1+8<cLine;omega)
    case hv=>
     have hv:items[i]? =some v:=hv
     have:(ks.map (·.1))[i]? =some v:=by rw[<-hi,Array.getElem?_toList];exact hv
     rw[List.getElem?_map]at this
     obtain⟨y,hy,e⟩:=Option.map_eq_some_iff.mp this
     exact⟨y,hy,e.symm⟩
    case hw=>
     intro st p o i a8 e hc hp
     obtain⟨⟨oi,U,a4,_⟩,_⟩:=a8
     rcases List.mem_singleton.mp hp with rfl
     rw[e]at U;cases U
     rw[hc]at a4
     exact absurd a4 (by decide)
    case tp=>exact fun y hy=>(tp y hy).to fun p o e _=>Heap.get?_push_of_some _ (Heap.get?_push_of_some _ e)
    case g0=>exact⟨d8 w,#[],0,.fresh 0 0 (A5 w),⟨Heap.get?_push_of_some _ hS,⟨rfl,rfl,rfl⟩,rfl,by decide,by rfl,rfl,rfl,fun _=>List.Pairwise.nil⟩,rfl,rfl⟩
    case gR=>
     intro s' mv g
     obtain⟨h',g',d',a5,a6⟩:=s'
     have eg:g'=s.gens:=mv.gens
     have ed:d'=s.drawn:=mv.drawn
     have eo:a6=s.os:=mv.os
     subst eg;subst ed;subst eo
     show wpAny _ _ _ _ _ _
     refine wpAny_pure ?_
     show wpAny _ _ (ret Value.none) _ _ _
     refine wpAny_pure ⟨rfl,h',a5,rfl,g,fun b o hb e=>?_⟩
     exact mv.heap b o (by simp only[List.mem_cons,List.not_mem_nil,or_false,not_or];exact⟨Nat.ne_of_lt hb,by rw[Heap.size_push];exact Nat.ne_of_lt (Nat.lt_succ_of_lt hb)⟩) (Heap.get?_push_of_some _ (Heap.get?_push_of_some _ e))
   .cases r2 with
    |error e=>exact N
    |ok ae=>
     cases ae with
     |ret r=>
      obtain⟨rfl,h',tk,rfl,g,kk⟩:=N
      repeat (any_goals (first|assumption|wp_step))
      exact fin _ _ g kk
     |_=>exact N.elim
  |_=>exact hr.elim
end
end ZT
end
section
namespace ZT
noncomputable def so2:List (Value×Int×Int)->List (Value×Int×Int)
 |[x,y]=>if lt2 y.2.1 y.2.2 x.2.1 x.2.2=true then [y,x]else [x,y]
 |l=>l
section
variable {prog:Program}{w:World}{A:Around}{E:Value->Shared->Prop}{s:Shared}
theorem epT {M:Model}{a:Addr}{o:Obj}{xs:Array Value}{n:Nat}{Q:Nat->Shared->Prop}(h:s.heap.get? a=some o)(hd:o.data= .seq xs n)(q:Q n s):wpAny M A (seqEpoch a) Q E s:=by
 wp_walk
 rw[hd]
 exact wpAny_pure q
noncomputable def zsHp (h:Heap)(a:Addr)(vs:List Value):Heap:=((h.update a (Obj.mapSeq fun _=>#[])).push (seqObj "tuple" vs.toArray 0)).push (seqObj "list" #[] 0)
theorem zd1 {h:Heap}{a p:Addr}{vs:List Value}{o G:Obj}(U:h.get? a=some G)(O:G.cls= .type "list")(e:h.get? p=some o)(N:o.cls= .type "tuple"):(zsHp h a vs).get? p=some o:=by
 have j:a≠p:=fun z=>by
  subst z;rw[U]at e;cases e
  rw[O]at N;exact absurd N (by decide)
 exact Heap.get?_push_of_some _ (Heap.get?_push_of_some _ ((Heap.get?_update_other _ _ j).trans e))
theorem xo9 {a:Addr}{x y:Value}{i j c d:Int}{n:Nat}{P:PySem.Fin->Shared->Prop}(hg:s.heap.get? a=some (seqObj "list" #[x,y] n))(hx:Tp s.heap x i j)(hy:Tp s.heap y c d)
  (fin:P (.done (.ret .none)) { s with heap:=sortedHeap s.heap a [x,y] (if lt2 c d i j=true then #[y,x]else #[x,y]) }):wpAny (model prog w) A (Builtin.«list.sort» ⟨[.ref a],[]⟩) P E s:=by
 have U:Tp (zsHp s.heap a [x,y]) x i j:=hx.to fun p o e hc=>zd1 hg rfl e hc
 have O:Tp (zsHp s.heap a [x,y]) y c d:=hy.to fun p o e hc=>zd1 hg rfl e hc
 have N:([x,y]:List Value).length<=sizeLine:=by show 2<=sizeLine;rw[sizeLine_eq];omega
 rw[list_sort_plain]
 refine wpAny_bind (wpAny_listItems hg rfl ?_)
 refine wpAny_bind (m:=Builtin.List.listUpdate (.ref a) fun _=>#[]) (wpAny_updateSeq hg rfl ?_ (by simpa using N) (Nat.zero_le _))
 have Z:(s.heap.update a (Obj.mapSeq fun _=>#[])).get? a=some (Obj.mapSeq (fun _=>#[]) (seqObj "list" #[x,y] n)):=Heap.get?_update_self _ hg rfl
 refine wpAny_bind (m:=seqEpoch a) (epT Z rfl ?_)
 refine wpAny_bind (wpAny_newTuple ?_ (by simpa using N))
 refine wpAny_bind (wpAny_newList ?_ (Nat.zero_le _))
 refine wpAny_holding ?_
 have Y:(zsHp s.heap a [x,y]).get? a=some (Obj.mapSeq (fun _=>#[]) (seqObj "list" #[x,y] n)):=Heap.get?_push_of_some _ (Heap.get?_push_of_some _ Z)
 have h2:¬ (#[x,y]:Array Value).size<2:=by simp
 rw[if_neg h2]
 have kd:∀ Q:SortKind->Shared->Prop,Q (tuples' true) { s with heap:=zsHp s.heap a [x,y] }->wpAny (model prog w) A (keyKind' #[x,y]) Q E { s with heap:=zsHp s.heap a [x,y] }:=fun Q q=>by
  obtain⟨p,o,m,t,u,rfl,g1,c1,d1⟩:=U
  obtain⟨p',o',m',t',u',rfl,g2,c2,d2⟩:=O
  refine PySem.W.kat_kind (vs:=[.ref p,.ref p']) (fs:=[.int i t,.int c t']) (T:=.type "int") (PySem.W.KatTups.cons g1 c1 d1 rfl (PySem.W.KatTups.cons g2 c2 d2 rfl PySem.W.KatTups.nil)) (show 0<2 by decide) (fun v hv=>?_) (by decide) q
  rcases List.mem_cons.mp hv with rfl|hv
  .exact PySem.W.Looks.of_pure rfl
  .rw[List.mem_singleton.mp hv]
   exact PySem.W.Looks.of_pure rfl
 refine wpAny_bind (kd _ ?_)
 rw[if_neg h2]
 refine wpAny_bind (wpAny_mono (PySem.W.kat_run (prog:=prog) (w:=w) (A:=A) (E:=E) (κ:=tuples' true) (vs:=[x,y]) (ks:=[x,y]) (Q:=fun z s'=>s'={ s with heap:=zsHp s.heap a [x,y] }/\failedOf z=none/\(arrOf z).map (·.2)=if lt2 c d i j=true then #[y,x]else #[x,y])
  (G:=fun p s'=>s'={ s with heap:=zsHp s.heap a [x,y] }/\p=if lt2 c d i j=true then #[1,0]else #[0,1]) rfl (show 2<=2 by decide) (show 2<64 by decide) (fun p z s' a1 a2 a3 ⟨a4,a5⟩=>⟨a4,a3,?_⟩) (kas2 ?_)) ?_ fun _ _ e=>e)
 .rw[PySem.W.kat_snds (ks:=[x,y]) (vs:=[x,y]) rfl a2,a5]
  cases lt2 c d i j <;> rfl
 .show wpAny (model prog w) A (keyLt' (tuples' true) y x) _ _ _
  refine xt5 O U ⟨rfl,?_⟩
  rfl
 .rintro⟨_,z⟩ s' ⟨rfl,p2,p3⟩
  have hz:((arrOf z).map (·.2)).size<=sizeLine+1:=by
   rw[p3];cases lt2 c d i j <;> (show 2<=sizeLine+1;rw[sizeLine_eq];omega)
  refine wpAny_bind (m:=seqEpoch a) (epT Y rfl ?_)
  refine wpAny_bind (m:=Builtin.List.listUpdate (.ref a) _) (wpAny_updateSeq Y rfl ?_ (Nat.zero_le _) hz)
  rw[p2,p3]
  show wpAny (model prog w) A (if (_ != _)=true then _ else ret Value.none) P E _
  rw[if_neg (by simp)]
  exact wpAny_pure fin
theorem xn0 {a:Addr}{x:Value}{n:Nat}{P:PySem.Fin->Shared->Prop}(G:s.heap.get? a=some (seqObj "list" #[x] n))
  (fin:P (.done (.ret .none)) { s with heap:=sortedHeap s.heap a [x] #[x] }):wpAny (model prog w) A (Builtin.«list.sort» ⟨[.ref a],[]⟩) P E s:=by
 rw[list_sort_plain]
 refine wpAny_bind (wpAny_listItems G rfl ?_)
 refine wpAny_bind (m:=Builtin.List.listUpdate (.ref a) fun _=>#[]) (wpAny_updateSeq G rfl ?_ (by show 1<=sizeLine;rw[sizeLine_eq];omega) (Nat.zero_le _))
 have z:(s.heap.update a (Obj.mapSeq fun _=>#[])).get? a=some (Obj.mapSeq (fun _=>#[]) (seqObj "list" #[x] n)):=Heap.get?_update_self _ G rfl
 refine wpAny_bind (m:=seqEpoch a) (epT z rfl ?_)
 refine wpAny_bind (wpAny_newTuple ?_ (by show 1<=sizeLine;rw[sizeLine_eq];omega))
 refine wpAny_bind (wpAny_newList ?_ (Nat.zero_le _))
 refine wpAny_holding ?_
 have j:(zsHp s.heap a [x]).get? a=some (Obj.mapSeq (fun _=>#[]) (seqObj "list" #[x] n)):=Heap.get?_push_of_some _ (Heap.get?_push_of_some _ z)
 have h2:(#[x]:Array Value).size<2:=by simp
 rw[if_pos h2]
 refine wpAny_bind (wpAny_pure ?_)
 rw[if_pos h2]
 refine wpAny_bind (m:=StateT.run (pure ()) _) (wpAny_pure ?_)
 have N:(((#[x]:Array Value).zip #[x]).map (·.2)).size<=sizeLine+1:=by simp
 refine wpAny_bind (m:=seqEpoch a) (epT j rfl ?_)
 refine wpAny_bind (m:=Builtin.List.listUpdate (.ref a) _) (wpAny_updateSeq j rfl ?_ (Nat.zero_le _) N)
 show wpAny (model prog w) A (if (_ != _)=true then _ else ret Value.none) P E _
 rw[if_neg (by simp)]
 have e:((#[x]:Array Value).zip #[x]).map (·.2)=#[x]:=by simp
 rw[<-e]at fin
 exact wpAny_pure fin
theorem yo6 {i j c d:Int}(h:¬(i=c/\j=d)):lt2 c d i j= !lt2 i j c d:=by
 unfold lt2
 by_cases e:i=c
 .subst e
  have:j≠d:=fun z=>h ⟨rfl,z⟩
  rcases Int.lt_or_gt_of_ne this with g|g
  .simp[g,Int.not_lt.mpr (Int.le_of_lt g)]
  .simp[g,Int.not_lt.mpr (Int.le_of_lt g)]
 .rcases Int.lt_or_gt_of_ne e with g|g
  .simp[g,Int.not_lt.mpr (Int.le_of_lt g),Ne.symm e]
  .simp[g,Int.not_lt.mpr (Int.le_of_lt g),e]
theorem zt0 (x y:Value×Int×Int):so2 [x,y]=if lt2 y.2.1 y.2.2 x.2.1 x.2.2=true then [y,x]else [x,y]:=rfl
theorem zn1 {α:Type}{l:List α}{x y:α}(p:l.Perm [x,y]):l=[x,y]\/l=[y,x]:=by
 have j:=p.length_eq
 rcases len2 (Nat.le_of_eq j)with rfl|⟨u,rfl⟩|⟨u,v,rfl⟩
 .cases j
 .cases j
 .have hu:u=x\/u=y:=by
   have:=p.mem_iff.mp (List.mem_cons_self (a:=u) (l:=[v]))
   simpa using this
  rcases hu with rfl|rfl
  .have:=List.perm_singleton.mp ((List.perm_cons _).mp p)
   exact .inl (by rw[this])
  .have p':List.Perm [u,v] [u,x]:=p.trans (.swap _ _ _)
   have:=List.perm_singleton.mp ((List.perm_cons _).mp p')
   exact .inr (by rw[this])
theorem yr1 {x y:Value×Int×Int}(N:Dif [x,y]):so2 [y,x]=so2 [x,y]:=by
 have G:¬(x.2.1=y.2.1/\x.2.2=y.2.2):=fun z=>by
  obtain⟨e1,e2⟩:=z
  have:=(List.nodup_cons.mp N).1
  simp[e1,e2]at this
 rw[zt0,zt0,yo6 (i:=y.2.1) (j:=y.2.2) (c:=x.2.1) (d:=x.2.2) (fun⟨a,b⟩=>G ⟨a.symm,b.symm⟩)]
 cases lt2 y.2.1 y.2.2 x.2.1 x.2.2 <;> rfl
theorem yr2 {l m:List (Value×Int×Int)}(p:l.Perm m)(h2:m.length<=2)(j:Dif m):so2 l=so2 m:=by
 rcases len2 h2 with rfl|⟨x,rfl⟩|⟨x,y,rfl⟩
 .rw[p.eq_nil]
 .rw[List.perm_singleton.mp p]
 .rcases zn1 p with rfl|rfl
  .rfl
  .exact yr1 j
theorem yq4 {α β:Type}{f:α->β}{ks:List α}{ws:List β}(h2:ks.length<=2)(hp:ws.Perm (ks.map f)):∃ l:List α,l.Perm ks/\ws=l.map f:=by
 rcases len2 h2 with rfl|⟨x,rfl⟩|⟨x,y,rfl⟩
 .exact⟨[],.refl _,hp.eq_nil⟩
 .exact⟨[x],.refl _,List.perm_singleton.mp hp⟩
 .rcases zn1 hp with rfl|rfl
  .exact⟨[x,y],.refl _,rfl⟩
  .exact⟨[y,x],.swap _ _ _,rfl⟩
theorem zh4 {a:Addr}{ks:List (Value×Int×Int)}(hh:A.handled=none)(g:ES s.heap a (A5 w) ks)(tp:Tps s.heap ks)(h1:1<=ks.length)(h2:ks.length<=2)(a2:Dif ks){Q:Value->Shared->Prop}
  (fin:∀(q:Addr) h' d e,h'.get? q=some (seqObj "list" ((so2 ks).map (·.1)).toArray e)->s.heap.objs.size<=q->(∀ b o,b<s.heap.objs.size->s.heap.get? b=some o->h'.get? b=some o)->Q (.ref q) { s with heap:=h',drawn:=d }):
  wpAny (model prog w) A (call (.builtin "sorted") [.ref a]) Q E s:=by
 obtain⟨o,fs,ep,u,G,good⟩:=g
 refine Calls.call_function_entry kind_sorted plain_sorted entry_sorted (args_sorted1 _) ?_
 unfold Builtin.«sorted»
 refine wpAny_bind (m:=checkCount "sorted" 1 1 _) (wpAny_pure ?_)
 refine wpAny_bind (zu8 (by simpa using hh) G rfl fun ws h' d hp keep N=>?_)
 have hp:ws.Perm (ks.map (·.1)):=hp.trans good.perm
 obtain⟨l,Y,rfl⟩:=yq4 h2 hp
 refine wpAny_bind (wpAny_newList ?_ (by rw[List.length_map,Y.length_eq,sizeLine_eq];omega))
 have j:(h'.push (seqObj "list" (l.map (·.1)).toArray 0)).get? h'.objs.size=some (seqObj "list" (l.map (·.1)).toArray 0):=Heap.get?_push_size _ rfl
 show wpAny _ _ _ _ _ { s with heap:=h'.push (seqObj "list" (l.map (·.1)).toArray 0),drawn:=d }
 have O:Tps (h'.push (seqObj "list" (l.map (·.1)).toArray 0)) l:=fun y hy=>(tp y (Y.mem_iff.mp hy)).to fun p o e _=>Heap.get?_push_of_some _ (keep p o (Heap.lt_size e) e)
 have z:∀ out:Array Value,out=((so2 ks).map (·.1)).toArray->Q (.ref h'.objs.size) { s with heap:=sortedHeap (h'.push (seqObj "list" (l.map (·.1)).toArray 0)) h'.objs.size (l.map (·.1)) out,drawn:=d }:=fun out e=>by
  subst e
  obtain⟨c,hc⟩:=sortedHeap_at (out:=((so2 ks).map (·.1)).toArray) j
  refine fin _ _ d c hc (Nat.le_of_lt N) fun b o hb e=>?_
  rw[sortedHeap_old (Nat.ne_of_lt (Nat.lt_trans hb N)) (by rw[size_push'];exact Nat.lt_succ_of_lt (Nat.lt_trans hb N))]
  exact Heap.get?_push_of_some _ (keep b o hb e)
 have U:so2 l=so2 ks:=yr2 Y h2 a2
 have a1:1<=l.length:=by rw[Y.length_eq];exact h1
 have Z:l.length<=2:=by rw[Y.length_eq];exact h2
 refine wpAny_bind (wpAny_holding (wpAny_call_entry slot_list_sort ⟨_,j,rfl⟩ entry_list_sort ?_ (args_list_sort _)))
 rcases len2 Z with rfl|⟨x,rfl⟩|⟨x,y,rfl⟩
 .exact absurd a1 (by decide)
 .exact xn0 j ⟨_,rfl,wpAny_pure ⟨_,rfl,z _ (by rw[<-U];rfl)⟩⟩
 .refine xo9 j (O x List.mem_cons_self) (O y (List.mem_cons_of_mem _ List.mem_cons_self)) ⟨_,rfl,wpAny_pure ⟨_,rfl,z _ ?_⟩⟩
  rw[<-U,zt0]
  cases lt2 y.2.1 y.2.2 x.2.1 x.2.2 <;> rfl
end
end ZT
end
section
namespace ZT
noncomputable abbrev PI:=Addr×Int×Int
noncomputable def kk (ps:List PI):List (Value×Int×Int):=ps.map fun y=>(Value.ref y.1,y.2)
noncomputable def so2p:List PI->List PI
 |[x,y]=>if lt2 y.2.1 y.2.2 x.2.1 x.2.2=true then [y,x]else [x,y]
 |l=>l
theorem xk8:∀ ps:List PI,so2 (kk ps)=kk (so2p ps)
 |[]=>rfl
 |[_]=>rfl
 |[x,y]=>by
  show (if lt2 y.2.1 y.2.2 x.2.1 x.2.2=true then _ else _)=kk (if lt2 y.2.1 y.2.2 x.2.1 x.2.2=true then [y,x]else [x,y])
  split <;> rfl
 |_::_::_::_=>rfl
theorem yr0 (ps:List PI):(so2p ps).length=ps.length:=by
 match ps with
 |[]=>rfl
 |[_]=>rfl
 |[x,y]=>
  show (if lt2 y.2.1 y.2.2 x.2.1 x.2.2=true then [y,x]else [x,y]).length=2
  split <;> rfl
 |_::_::_::_=>rfl
theorem yx3 (ps:List PI):(kk ps).length=ps.length:=List.length_map ..
noncomputable abbrev vr (ps:List PI):List V:=ps.map fun y=>V.ref y.1
def Tv (K:PySem.W.Frag)(H:Hp)(ps:List PI):Prop:=∀ y∈ps,SqT K H y.1 [.int y.2.1,.int y.2.2]
theorem vals_refs:∀{ps:List PI}{its:List Value},Vals (vr ps) its->its=(kk ps).map (·.1)
 |[],_,.nil=>rfl
 |p::ps,_,.cons r t=>by
  cases r
  rw[vals_refs t]
  rfl
theorem zy7:∀ ps:List PI,Vals (vr ps) ((kk ps).map (·.1))
 |[]=>.nil
 |p::ps=>.cons rfl (zy7 ps)
theorem yk3 {X:Cx}{pins:List (Addr×Obj)}{σ:St}{H:Hp}{s:Shared}(I:Inv X pins σ H s){ps:List PI}(h:Tv X.K H ps):Tps s.heap (kk ps):=fun y O=>by
 obtain⟨z,N,rfl⟩:=List.mem_map.mp O
 obtain⟨its,r,⟨o,e,c,n,d⟩,_⟩:=I.tuple (h z N)
 have j:IntsAre its [z.2.1,z.2.2]:=K4 (ns:=[z.2.1,z.2.2]) r
 cases j with
 |cons _ t j=>
  cases j with
  |cons _ G j=>
   cases j
   exact⟨_,o,n,t,G,rfl,e,c,d⟩
noncomputable def ym9 (w:World)(a:Addr)(ps:List PI):HO:=.ext fun h=>ES h a (A5 w) (kk ps)
def xn6 (w:World)(K:PySem.W.Frag):List V->Hp->VK->Prop:=fun vs H Q=>∃(p:Addr)(ps:List PI),vs=[.ref p]/\SqL K H p (vr ps)/\Tv K H ps/\ps.length<=2/\Dif (kk ps)/\∀ a,H a=none->Q (.ref a) (upd H a (ym9 w a ps))
def xw0 (w:World)(K:PySem.W.Frag):List V->Hp->VK->Prop:=fun vs H Q=>∃(a:Addr)(ps:List PI),vs=[.ref a]/\H a=some (ym9 w a ps)/\Tv K H ps/\1<=ps.length/\ps.length<=2/\Dif (kk ps)/\∀ q,H q=none->Q (.ref q) (upd H q (.lst (vr (so2p ps))))
section
variable {X:Cx}{e:Expr}{pos:Pos}
theorem yu2 (U:X.calm=true)(hu:X.A.units+64<cLine):Q8 X (.type "set") (xn6 X.w X.K):=by
 intro pins s σ H xs us Q I r h
 obtain⟨p,ps,rfl,N,tv,h2,z,q⟩:=h
 obtain⟨v,rfl,O⟩:=T9 r
 cases O
 obtain⟨its,j,pl,Z⟩:=I.list N
 refine ym4 (items:=its.toArray) (ks:=kk ps) (I.ok.hd U) hu pl.isList (by simpa using vals_refs j) (yk3 I tv) (by rw[yx3];exact h2) z fun h' tk g keep=>?_
 refine⟨.ref s.heap.objs.size,_,I.laid (t':=tk) (o:=ym9 X.w s.heap.objs.size ps) (fun b u e=>keep b u (Heap.lt_size e) e) (Nat.le_refl _) ⟨g,?_,fun h1 h2 Y k=>ES.stay Y fun o e _=>k o e⟩,rfl,q _ (I.hok.fresh (Nat.le_refl _))⟩
 obtain⟨o,_,_,_,G,_⟩:=g
 exact⟨o,G.at_⟩
theorem zf2 (N:X.calm=true):Q8 X (.builtin "sorted") (xw0 X.w X.K):=by
 intro pins s σ H xs us Q I r h
 obtain⟨a,ps,rfl,ha,tv,h1,h2,z,q⟩:=h
 obtain⟨v,rfl,G⟩:=T9 r
 cases G
 have ok:=I.hok a _ ha
 obtain⟨g,_,_⟩:=ok
 refine zh4 (I.ok.hd N) g (yk3 I tv) (by rw[yx3];exact h1) (by rw[yx3];exact h2) z fun w h' d e hw j keep=>?_
 have O:Inv X pins σ H { s with drawn:=d }:=⟨I.ok,I.os,I.bare,I.base,I.loc,I.cell,I.free,I.freeC,I.pin,I.hok,I.len⟩
 rw[xk8]at hw
 refine⟨.ref w,_,O.laid (t':=s.toks) (o:=.lst (vr (so2p ps))) (fun b u e=>keep b u (Heap.lt_size e) e) j ⟨?_,(kk (so2p ps)).map (·.1),e,zy7 _,hw⟩,rfl,q _ (I.hok.fresh j)⟩
 rw[List.length_map,yr0,sizeLine_eq];omega
noncomputable def pairsD:List D->Option (List (Int×Int))
 |[]=>some []
 | .tup [.int a,.int b]::r=>(match pairsD r with |some ps=>some ((a,b)::ps)|none=>none)
 |_=>none
noncomputable abbrev tD (p:Int×Int):D:=.tup [.int p.1,.int p.2]
theorem pairsD_map:∀ l:List (Int×Int),pairsD (l.map tD)=some l
 |[]=>rfl
 |p::l=>by rw[List.map_cons,pairsD,pairsD_map l]
theorem zg0:∀{ds:List D}{l:List (Int×Int)},pairsD ds=some l->ds=l.map tD:=by
 intro ds
 induction ds with
 |nil=>intro l h;cases h;rfl
 |cons d r j=>
  intro l h
  unfold pairsD at h
  split at h
  .rename_i h0;cases h0
  .rename_i a b r' h0
   cases h0
   split at h
   .rename_i ps hp
    cases h
    rw[List.map_cons,<-j hp]
   .cases h
  .cases h
noncomputable def so2i:List (Int×Int)->List (Int×Int)
 |[x,y]=>if lt2 y.1 y.2 x.1 x.2=true then [y,x]else [x,y]
 |l=>l
@[irreducible] noncomputable def hq2 (p:Int×Int):Int:=hp2 p.1 p.2
theorem hq2_eq (p:Int×Int):hq2 p=hp2 p.1 p.2:=by unfold hq2;rfl
@[irreducible] noncomputable def msortSetT (m:ML):ML:=fun ρ=>match m ρ with |some ds=>(match pairsD ds with |some l=>if 1<=l.length/\l.length<=2/\(l.map hq2).Nodup then some ((so2i l).map tD)else none|none=>none)|none=>none
theorem zd5 {K:PySem.W.Frag}{F:Hp}:∀{l:List (Int×Int)}{xs:List V},Reps K F xs (l.map tD)->∃ ps:List PI,xs=vr ps/\Tv K F ps/\ps.map (·.2)=l
 |[],_,.nil=>⟨[],rfl,(fun _ j=>absurd j List.not_mem_nil),rfl⟩
 |p::l,_,.cons r rs=>by
  obtain⟨ps,e1,e2,e3⟩:=zd5 rs
  obtain⟨a,zs,rfl,z,G⟩:=r.t'
  cases G with
  |cons O r1=>
   cases r1 with
   |cons N r2=>
    cases r2
    have:=O.i'
    subst this
    have:=N.i'
    subst this
    refine⟨(a,p)::ps,by rw[e1];rfl,fun y j=>?_,by rw[List.map_cons,e3]⟩
    rcases List.mem_cons.mp j with rfl|j
    .exact z
    .exact e2 y j
theorem zc2 {K:PySem.W.Frag}{F:Hp}:∀{ps:List PI},Tv K F ps->Reps K F (vr ps) ((ps.map (·.2)).map tD)
 |[],_=>.nil
 |p::ps,h=>.cons (.tup (h p List.mem_cons_self) (.cons (.int _) (.cons (.int _) .nil))) (zc2 fun y j=>h y (List.mem_cons_of_mem _ j))
theorem xx0:∀ ps:List PI,(so2p ps).map (·.2)=so2i (ps.map (·.2))
 |[]=>rfl
 |[_]=>rfl
 |[x,y]=>by
  show (if lt2 y.2.1 y.2.2 x.2.1 x.2.2=true then [y,x]else [x,y]).map (·.2)=if lt2 y.2.1 y.2.2 x.2.1 x.2.2=true then [y.2,x.2]else [x.2,y.2]
  split <;> rfl
 |_::_::_::_=>rfl
theorem ys9 {ps:List PI}:∀ y∈so2p ps,y∈ps:=by
 intro y j
 match ps,j with
 |[a,b],j=>
  have j:y∈(if lt2 b.2.1 b.2.2 a.2.1 a.2.2=true then [b,a]else [a,b]):=j
  split at j
  .simp at j ⊢;exact j.symm
  .exact j
 |[],j=>exact j
 |[_],j=>exact j
 |_::_::_::_,j=>exact j
theorem yb4 (hh:Int->Int->Int)(ps:List PI)(h:((ps.map (·.2)).map fun p=>hh p.1 p.2).Nodup):((kk ps).map fun y=>hh y.2.1 y.2.2).Nodup:=by
 unfold kk
 rw[List.map_map]at h ⊢
 exact h
theorem xq1 {ps:List PI}(h:((ps.map (·.2)).map hq2).Nodup):Dif (kk ps):=by
 rw[show hq2=fun p=>hp2 p.1 p.2 from funext hq2_eq]at h
 exact yb4 hp2 ps h
theorem pf_sortSetT {p p2 j:Pos}{m:ML}(hc:X.calm=true)(hu:X.A.units+64<cLine)(hg:Gl X "sorted")(hm:X.mg "sorted"=none)(a8:Gl X "set")(a5:X.mg "set"=none)(ha:PB X e m)(hv:bootBuiltins "sorted"=some (.builtin "sorted"))(a2:bootBuiltins "set"=some (.type "set"))
  (hs:starEach (e::[]) X.env=(false,eval e X.env)::starEach [] X.env:=by rfl) (he:starEach [e] X.env=(false,eval e X.env)::starEach [] X.env:=by rfl)
  (a3:starEach ((.Call (.Name "set" p2) [e] [] j)::[]) X.env=(false,eval (.Call (.Name "set" p2) [e] [] j) X.env)::starEach [] X.env:=by rfl) (a9:starEach [(.Call (.Name "set" p2) [e] [] j)] X.env=(false,eval (.Call (.Name "set" p2) [e] [] j) X.env)::starEach [] X.env:=by rfl)
  (O:(backTo j (starEach [] X.env)).any (·.1)=false:=by rfl) (a4:(backTo pos (starEach [] X.env)).any (·.1)=false:=by rfl):PF X (.Call (.Name "sorted" p) [.Call (.Name "set" p2) [e] [] j] [] pos) (msortSetT m):=
 (Z0 (zf2 hc) hg hm hv (m9 (R5 (yu2 hc hu) a8 a5 a2 (m9 ha pa_nil hs) (by decide) (by decide) he O) pa_nil a3) (by decide) (by decide) a9 a4).imp fun σ H Q U=>by
  obtain⟨F0,H0,F,ρ,g,rl,e,q⟩:=U
  unfold msortSetT at e
  cases h1:m ρ with
  |none=>simp only[h1]at e;cases e
  |some ds=>
   simp only[h1]at e
   cases h2:pairsD ds with
   |none=>simp only[h2]at e;cases e
   |some l=>
    simp only[h2]at e
    split at e
    .rename_i hh
     obtain⟨a7,Z,a6⟩:=hh
     cases e
     refine⟨F0,H0,F,ρ,ds,rl,h1,fun p xs F1 H1 z s1 r1=>?_⟩
     rw[zg0 h2]at r1
     obtain⟨ps,rfl,tv,e3⟩:=zd5 r1
     have hl:ps.length=l.length:=by rw[<-e3,List.length_map]
     have a1:Dif (kk ps):=xq1 (by rw[e3];exact a6)
     refine⟨p,ps,rfl,s1,fun y G=>z.fh.seqT (tv y G),by rw[hl];exact Z,a1,fun a Y=>⟨a,ps,rfl,y2,fun y G=>?_,by rw[hl];exact a7,by rw[hl];exact Z,a1,fun w hw=>?_⟩⟩
     .exact((Ext.own z.fh Y).fh).seqT (tv y G)
     .have x2:Ext F1 H1 F1 (upd H1 a (ym9 X.w a ps)):=Ext.own z.fh Y
      have N:H1 w=none:=x2.hh.free hw
      refine q w _ F1 _ (z.trans (x2.trans (Ext.own x2.fh hw))) (z.hh.free N) (z.fh.free N) y2 ?_
      have:=zc2 (K:=X.K) (F:=F1) (ps:=so2p ps) fun y G=>tv y (ys9 y G)
      rw[xx0,e3]at this
      exact this
    .cases e
end
end ZT
end
end L2
set_option maxHeartbeats 4000000
namespace Lw
open List
open PySem L2
abbrev k0a (r:List Int):Option S:=some (.sh (.lst (r.map .int)))
abbrev k0b (k:Nat):Option S:=some (.sh (.int (k:Int)))
abbrev k0c (k:Int):Option S:=some (.sh (.int k))
section
noncomputable section
noncomputable def ya5:MS:=(mif (w6 (m2 ltD (mvar 0) (mc (.int 1)))) zm5 h6)
noncomputable def yo4:MF:=runB 1 ya5
noncomputable def zi5:MS:=(mseq (mapp 2 (mlst (h7 [none,some 1,some 5,some 0] (u8 rng2 (z4 (m2 addD (mvar 4) (mc (.int 1))) (z4 (mlen (bvar 0)) anil))) (.nm 0) (w6 (m2 geD (m2 subD (mix (bvar 3) (mvar 0)) (mvar 2)) (mvar 1))) (mvar 0)))) (mapp 3 (mlst (h7 [none,some 1,some 5,some 0] (u8 rng2 (z4 (m2 addD (mvar 4) (mc (.int 1))) (z4 (mlen (bvar 0)) anil))) (.nm 0) (w6 (m2 geD (m2 subD (mvar 2) (mix (bvar 3) (mvar 0))) (mvar 1))) (mvar 0)))))
noncomputable def zi4:MS:=(g8 3 (g8 2 (mret (mtup (z4 (mvar 2) (z4 (mvar 3) anil))))))
noncomputable def ya6:MS:=(mseq (c7 2 (w5 anil)) (mseq (c7 3 (w5 anil)) (mseq (mfor (u8 zq2 (z4 (mvar 0) anil)) (.tp [4,5]) zi5) zi4)))
noncomputable def yy7:MF:=runB 6 ya6
noncomputable def zu5:MS:=(mret (mtup (z4 (m1 negD (mlen (bvar 0))) (z4 (mvar 0) anil))))
noncomputable def P8:MF:=runB 1 zu5
noncomputable def b_Z2:MS:=(mret (P6 (h7 [none,some 0] (u0 (mvar 1)) (.nm 0) cyes (mix (bvar 1) (mvar 0))) (mlst (w5 anil))))
noncomputable def m_Z2:MF:=runB 2 b_Z2
noncomputable def zp1:MS:=(mseq (V7 6 (mvar 10) (mlst (mcat (w5 (z4 (mvar 10) anil)) (u0 (zs9 8 (a8 m_Z2 (z4 (mvar 8) (z4 (mix (bvar 2) (mvar 10)) anil)))))))) (mseq (V7 7 (mvar 10) (mlst (mcat (w5 (z4 (mvar 10) anil)) (u0 (zs9 9 (a8 m_Z2 (z4 (mvar 9) (z4 (mix (bvar 3) (mvar 10)) anil)))))))) (mseq (V7 8 (mvar 10) (K2 (fun d=>shOf (P8 [d])) (z4 (mix (bvar 6) (mvar 10)) (z4 (mix (bvar 5) (mvar 10)) anil)))) (V7 9 (mvar 10) (K2 (fun d=>shOf (P8 [d])) (z4 (mix (bvar 7) (mvar 10)) (z4 (mix (bvar 4) (mvar 10)) anil)))))))
noncomputable def yt2:MS:=(g8 6 (g8 7 (mret (mtup (z4 (mvar 6) (z4 (mvar 7) anil))))))
noncomputable def b_Z5:MS:=(mseq (masg (.tp [2,3]) (mvar 0)) (mseq (masg (.tp [4,5]) (mvar 1)) (mseq (c7 6 (mrep (w5 (z4 (mlst (w5 anil)) anil)) (mlen (bvar 2)))) (mseq (c7 7 (mrep (w5 (z4 (mlst (w5 anil)) anil)) (mlen (bvar 2)))) (mseq (c7 8 (mrep (w5 (z4 (mlst (w5 anil)) anil)) (mlen (bvar 2)))) (mseq (c7 9 (mrep (w5 (z4 (mlst (w5 anil)) anil)) (mlen (bvar 2)))) (mseq (mfor (u8 rngD (z4 (mlen (bvar 2)) anil)) (.nm 10) zp1) yt2)))))))
noncomputable def m_Z5:MF:=runB 11 b_Z5
noncomputable def ya1:MS:=(mret (mtup (z4 (mlst (mrep (w5 (z4 (mlst (w5 anil)) anil)) (mlen (bvar 0)))) (z4 (mlst (mrep (w5 (z4 (mlst (w5 anil)) anil)) (mlen (bvar 0)))) anil))))
noncomputable def yo2:MF:=runB 1 ya1
noncomputable def b_Z9:MS:=(mseq (masg (.tp [1,2]) (mvar 0)) (mret (zg2 (fun d=>shOf (P8 [d])) (u0 (m2 addD (mvar 1) (mvar 2))) (mlst (w5 anil)))))
noncomputable def m_Z9:MF:=runB 3 b_Z9
noncomputable def yt3:MS:=(mset 4 (a8 m_Z5 (z4 (mvar 3) (z4 (mvar 4) anil))))
noncomputable def b_Z0:MS:=(mseq (zg4 (a8 yo4 (z4 (mvar 1) anil))) (mseq (mif (w6 (m2 ltD (mvar 2) (mc (.int 0)))) zm5 h6) (mseq (mset 3 (a8 yy7 (z4 (mvar 0) (z4 (mvar 1) anil)))) (mseq (mset 4 (a8 yo2 (z4 (mvar 0) anil))) (mseq (mfor (u8 rng1 (z4 (m2 addD (n5 B8 (z4 (mvar 2) (z4 (mlen (bvar 0)) anil))) (mc (.int 1))) anil)) (.nm 5) yt3) (mret (a8 m_Z9 (z4 (mvar 4) anil))))))))
noncomputable def m_Z0:MF:=runB 6 b_Z0
noncomputable def ym7:MS:=(mseq (V7 0 (mc (.int 1)) (m2 addD (mix (bvar 0) (mc (.int 1))) (mc (.int 1)))) (mseq (mset 2 (mix (bvar 0) (mc (.int 0)))) (mseq (mif (w6 (m2 geD (mvar 2) (m2 powD (mc (.int 10)) (mc (.int 18))))) (mseq (V7 0 (mc (.int 0)) (m2 zv2 (mvar 2) (mvar 1))) (V8 0 (mpu (m2 modD (mvar 2) (mvar 1))))) h6) (mseq (mset 3 (m2 modD (m2 addD (m2 addD (m2 mulD (mvar 2) (mc (.int 69621))) (m2 mulD (mix (bvar 0) (mc (.int 1))) (mc (.int 7919)))) (mc (.int 13))) (mc (.int 2147483647)))) (mseq (mset 3 (m2 modD (m2 mulD (mvar 3) (mvar 3)) (mc (.int 2147483629)))) (V8 0 (mpu (m2 modD (m2 zv2 (m2 modD (m2 addD (m2 mulD (mvar 3) (mc (.int 48271))) (m2 mulD (mix (bvar 0) (mc (.int 1))) (mc (.int 40692)))) (mc (.int 2147483587))) (mc (.int 8))) (mvar 1)))))))))
noncomputable def v3:MG:=runG 4 ym7
noncomputable def T3:MFP:=runP 1 (w6 (m2 eqSD (mlen (bvar 0)) (mc (.int 0)))) (yz9 (w5 (z4 (mc (.int 0)) (z4 (mc (.int 0)) anil)))) (U1 [none] (u0 (mlst (mcut (bvar 0) zx6 (C7 (mc (.int 63)))))) (.nm 0) (w5 (z4 (mvar 0) (z4 (mc (.int 0)) anil))))
noncomputable def b_Z1:MS:=(mseq (mif (w6 (m2 eqSD (mvar 1) (mc (.int 0)))) (V8 0 (y7 v3 0 (apu (z4 (mc (.int 4)) anil)))) h6) (mseq (mif (w6 (m2 eqSD (mvar 1) (mc (.int 1)))) (V8 0 (m2m subD (y7 v3 0 (apu (z4 (mc (.int 21)) anil))) (mpu (mc (.int 10))))) h6) (mseq (mif (w6 (m2 eqSD (mvar 1) (mc (.int 2)))) (V8 0 (m2m subD (y7 v3 0 (apu (z4 (mc (.int 1001)) anil))) (mpu (mc (.int 500))))) h6) (V8 0 (m2m mulD (m2m ixLD (mpu (mlst (w5 (z4 (m1 negD (mc (.int 1))) (z4 (mc (.int 1)) anil))))) (y7 v3 0 (apu (z4 (mc (.int 2)) anil)))) (m2m addD (mpu (m2 powD (mc (.int 10)) (mc (.int 29)))) (y7 v3 0 (apu (z4 (mc (.int 1000)) anil)))))))))
noncomputable def m_Z1:MG:=runG 2 b_Z1
noncomputable def b_Z7:MS:=(mseq (V6 2 (y7 v3 0 (apu (z4 (mc (.int 4)) anil)))) (mseq (V6 3 (y7 v3 0 (v6 (m2m ixLD (mpu (mlst (w5 (z4 (n5 B8 (z4 (mc (.int 4)) (z4 (m2 addD (mvar 1) (mc (.int 1))) anil))) (z4 (n5 B8 (z4 (mc (.int 9)) (z4 (m2 addD (mvar 1) (mc (.int 1))) anil))) (z4 (m2 addD (mvar 1) (mc (.int 1))) anil)))))) (y7 v3 0 (apu (z4 (mc (.int 3)) anil)))) (apu anil)))) (mseq (V6 4 (U0 [none,some 0,some 2] (u8 rng1 (z4 (mvar 3) anil)) 0 1 (y7 m_Z1 1 (apu (z4 (mvar 2) anil))))) (mseq (V6 5 (y7 v3 0 (apu (z4 (mc (.int 6)) anil)))) (mseq (mif (w6 (m2 eqSD (mvar 5) (mc (.int 0)))) (mset 4 (mlst (B6 (bvar 4)))) h6) (mseq (mif (w6 (m2 eqSD (mvar 5) (mc (.int 1)))) (mset 4 (mlst (h7 [none,none] (u8 zq2 (z4 (mvar 4) anil)) (.tp [0,1]) cyes (m2 addD (mvar 1) (mix (w5 (z4 (mc (.int 7)) (z4 (m1 negD (mc (.int 7))) anil))) (m2 modD (mvar 0) (mc (.int 2)))))))) h6) (mseq (mif (w6 (m2 eqSD (mvar 5) (mc (.int 2)))) (mset 4 (mlst (mrep (mcut (bvar 4) zx6 (C7 (mc (.int 1)))) (mvar 3)))) h6) (V8 0 (mpu (mvar 4))))))))))
noncomputable def m_Z7:MG:=runG 6 b_Z7
noncomputable def b_Z4:MS:=(V8 0 (m2m ixLD (yz8 (v6 (mpu (mc (.int 1))) (v6 (mpu (mc (.int 1))) (v6 (m2m addD (mpu (mc (.int 1))) (y7 v3 0 (apu (z4 (mc (.int 4)) anil)))) (v6 (m2m addD (mpu (mc (.int 1))) (y7 v3 0 (apu (z4 (mc (.int 40)) anil)))) (apu (z4 (m2 powD (mc (.int 10)) (mc (.int 29))) anil))))))) (y7 v3 0 (apu (z4 (mc (.int 5)) anil)))))
noncomputable def m_Z4:MG:=runG 1 b_Z4
noncomputable def m6:MW:=(M1 (wS (mset 8 (n5 intF (z4 (m2 ltD (mix (bvar 0) (mvar 7)) (mix (bvar 0) (mvar 6))) anil)))) (mifW (wE (w6 (m2 geD (n5 absF (z4 (m2 subD (mix (bvar 0) (mvar 7)) (mix (bvar 0) (mvar 6))) anil)) (mvar 1)))) (M1 (zs6 9 (A4 (mix (u0 (mix (bvar 5) (mvar 7))) (mvar 8)))) (M1 (mifW (wE (w6 (m2 gtD (mvar 4) (mc (.int 0))))) (wS (mset 9 (n5 zr1 (z4 (mvar 9) (z4 (mix (u0 (mix (u0 (mix (bvar 3) (m1 negD (mc (.int 1))))) (mvar 7))) (m2 subD (mc (.int 1)) (mvar 8))) anil))))) (wS h6)) (yz4 5 (mvar 6) (mvar 8) (A4 (n5 zr1 (z4 (mix (u0 (mix (bvar 5) (mvar 6))) (mvar 8)) (z4 (m2 addD (mc (.int 1)) (mvar 9)) anil))))))) (wS h6)))
noncomputable def j5:MW:=(zs8 (u8 rng2 (z4 (m2 addD (mvar 6) (mc (.int 1))) (z4 (mlen (bvar 0)) anil))) (.nm 7) m6)
noncomputable def U4:MW:=(M5 5 (wS (mapp 3 (mvar 5))))
noncomputable def j3:MW:=(M1 (zs8 (u8 rng3 (z4 (m2 subD (mlen (bvar 0)) (mc (.int 1))) (z4 (m1 negD (mc (.int 1))) (z4 (m1 negD (mc (.int 1))) anil)))) (.nm 6) j5) U4)
noncomputable def j4:MW:=(yp4 5 (U1 [none] (u0 (mvar 0)) (.nm 0) (w5 (z4 (mc (.int 1)) (z4 (mc (.int 1)) anil)))) j3)
noncomputable def b9:MW:=(zm4 3)
noncomputable def Z4:MW:=(M1 (wS (c7 3 (w5 anil))) (M1 (zs8 (u8 rng1 (z4 (m2 addD (mvar 2) (mc (.int 1))) anil)) (.nm 4) j4) b9))
noncomputable def h8:MF:=plainW (runW 10 Z4)
noncomputable def ya2:MS:=(mret (zw2 (mcat (w5 (z4 (mc (.int 0)) anil)) (h7 [none] (u0 (mvar 0)) (.nm 0) cyes (zw2 (bvar 0))))))
noncomputable def yy6:MF:=runB 1 ya2
noncomputable def Q7:MS:=(mif (w6 (meqB false (bvar 4) (w5 anil))) (mapp 7 (mtup (z4 (mvar 8) (z4 (mvar 9) anil)))) (mif (cand (w6 (m2 geD (n5 absF (z4 (m2 subD (mix (bvar 0) (mvar 6)) (mix (bvar 0) (mix (bvar 4) (m1 negD (mc (.int 1)))))) anil)) (mvar 1))) (w6 (m2 eqSD (mvar 9) (n5 intF (z4 (m2 ltD (mix (bvar 0) (mvar 6)) (mix (bvar 0) (mix (bvar 4) (m1 negD (mc (.int 1)))))) anil))))) (c7 7 (mcat (mcat (bvar 7) (w5 (z4 (mtup (z4 (mvar 8) (z4 (mvar 9) anil))) anil))) (mrep (w5 (z4 (mtup (z4 (m2 subD (mvar 8) (mc (.int 1))) (z4 (m2 subD (mc (.int 1)) (mvar 9)) anil))) anil)) (n5 intF (z4 (m2 gtD (mvar 8) (mc (.int 0))) anil))))) h6))
noncomputable def zi3:MS:=(g8 7 (mseq (mset 7 (mlst (h7 [none,none,some 5,some 6,some 2] (u0 (mvar 7)) (.tp [0,1]) (w6 (m2 geD (mix (u0 (mix (u0 (mix (bvar 4) (mvar 0))) (mvar 3))) (mvar 1)) (mvar 2))) (mtup (z4 (mvar 0) (z4 (mvar 1) anil)))))) (mif (cand (w6 (meqB true (bvar 7) (w5 anil))) (w6 (m2 gtD (mvar 5) (mc (.int 0))))) (mseq (mset 3 (mlst (ZT.msortSetT (bvar 7)))) (mseq (mapp 4 (mvar 6)) (mset 5 (m2 subD (mvar 5) (mc (.int 1)))))) h6)))
noncomputable def Q6:MS:=(mseq (c7 7 (w5 anil)) (mseq (mfor (u0 (mvar 3)) (.tp [8,9]) Q7) zi3))
noncomputable def ya3:MS:=(mseq (mset 3 (mlst (w5 (z4 (mtup (z4 (m2 subD (mlen (bvar 2)) (mc (.int 1))) (z4 (mc (.int 0)) anil))) (z4 (mtup (z4 (m2 subD (mlen (bvar 2)) (mc (.int 1))) (z4 (mc (.int 1)) anil))) anil))))) (mseq (c7 4 (w5 anil)) (mseq (mset 5 (a8 yy6 (z4 (mix (bvar 2) (m1 negD (mc (.int 1)))) anil))) (mseq (mfor (u8 rng1 (z4 (mlen (bvar 0)) anil)) (.nm 6) Q6) (yp3 4)))))
noncomputable def yo3:MF:=runB 10 ya3
noncomputable def b_Z3:MS:=(mret (mand (misi "list" (mvar 0)) (meqB false (h7 [none] (u0 (mvar 0)) (.nm 0) (cor (mtru (misi "bool" (mvar 0))) (cnot (mtru (misi "int" (mvar 0))))) (mc (.int 1))) (w5 anil))))
noncomputable def m_Z3:MF:=runB 1 b_Z3
noncomputable def b_Z6:MS:=(mseq (V6 1 (d3 [none,some 0] (O8 rng1 (v6 (m2m addD (mpu (mc (.int 1))) (y7 v3 0 (apu (z4 (mc (.int 12)) anil)))) (apu anil))) 0 1 (m2m subD (y7 v3 1 (apu (z4 (mc (.int 41)) anil))) (mpu (mc (.int 20)))))) (mseq (V6 2 (m2m ixLD (mpu (mlst (w5 (z4 (mc (.int 0)) (z4 (mc (.int 0)) (z4 (mc (.int 1)) (z4 (m1 negD (mc (.int 1))) anil))))))) (y7 v3 0 (apu (z4 (mc (.int 4)) anil))))) (mseq (V6 3 (m2m addD (mpu (mc (.int 100))) (y7 v3 0 (apu (z4 (mc (.int 201)) anil))))) (V8 0 (mpu (mlst (h7 [none,some 1,some 2] (u8 rng1 (z4 (mvar 3) anil)) (.nm 0) cyes (m2 addD (mix (bvar 1) (m2 modD (mvar 0) (mlen (bvar 1)))) (m2 mulD (mvar 2) (m2 zv2 (mvar 0) (mc (.int 7))))))))))))
noncomputable def m_Z6:MG:=runG 4 b_Z6
noncomputable def ya4:MS:=(mseq (mset 3 (a8 yo3 (z4 (mvar 0) (z4 (mvar 1) (z4 (a8 h8 (z4 (mvar 0) (z4 (mvar 1) (z4 (mvar 2) anil)))) anil))))) (mseq (mset 4 (mlst (bvar 0))) (mseq (mset 5 (a8 m_Z0 (z4 (mvar 4) (z4 (mvar 1) (z4 (mvar 2) anil))))) (mret (mand (a8 m_Z3 (z4 (mvar 5) anil)) (mand (meqB false (bvar 5) (bvar 3)) (meqB false (bvar 4) (bvar 0))))))))
noncomputable def zr4:MF:=runB 6 ya4
noncomputable def b_Z8:MS:=(mseq (V6 1 (d3 [none,some 0] (O8 rng1 (v6 (m2m addD (mpu (mc (.int 1))) (y7 v3 0 (apu (z4 (mc (.int 40)) anil)))) (apu anil))) 0 1 (y7 v3 1 (apu (z4 (mc (.int 40)) anil))))) (mseq (V6 2 (m2m addD (mpu (mc (.int 100))) (y7 v3 0 (apu (z4 (mc (.int 21)) anil))))) (V8 0 (mpu (mlst (h7 [none,some 1] (u8 rng1 (z4 (mvar 2) anil)) (.nm 0) cyes (m2 addD (mix (bvar 1) (m2 modD (mvar 0) (mlen (bvar 1)))) (mix (w5 (z4 (mc (.int 0)) (z4 (mc (.int 30)) anil))) (m2 modD (mvar 0) (mc (.int 2)))))))))))
noncomputable def m_Z8:MG:=runG 3 b_Z8
noncomputable def X9:MS:=(mseq (mifm (zz0 (cpu (w6 (m2 eqSD (mvar 1) (mc (.int 0))))) (Z2 (m2m eqSD (y7 v3 2 (apu (z4 (mc (.int 6)) anil))) (mpu (mc (.int 0)))))) (mifm (zv7 (Z2 (O9 zr4 (v6 (y7 m_Z6 2 (apu anil)) (v6 (m2m addD (mpu (mc (.int 1))) (y7 v3 2 (apu (z4 (mc (.int 9)) anil)))) (v6 (y7 v3 2 (apu (z4 (mc (.int 13)) anil))) (apu anil))))))) (mret (mc (.bl false))) h6) h6) (mseq (mifm (zz0 (cpu (w6 (m2 eqSD (mvar 1) (mc (.int 0))))) (Z2 (m2m eqSD (y7 v3 2 (apu (z4 (mc (.int 6)) anil))) (mpu (mc (.int 0)))))) (mifm (zv7 (Z2 (O9 zr4 (v6 (y7 m_Z8 2 (apu anil)) (v6 (m2m addD (mpu (mc (.int 1))) (y7 v3 2 (apu (z4 (mc (.int 9)) anil)))) (v6 (m2m addD (mpu (mc (.int 30))) (y7 v3 2 (apu (z4 (mc (.int 90)) anil)))) (apu anil))))))) (mret (mc (.bl false))) h6) h6) (mseq (V6 3 (y7 m_Z7 2 (apu (z4 (mc (.int 40)) anil)))) (mifm (zv7 (Z2 (O9 zr4 (v6 (mpu (mvar 3)) (v6 (y7 m_Z4 2 (apu anil)) (v6 (y7 v3 2 (apu (z4 (mc (.int 7)) anil))) (apu anil))))))) (mret (mc (.bl false))) h6))))
noncomputable def ya0:MS:=(mseq (zm7 (zk0 T3 (z4 (mlst (mcut (bvar 0) zx6 (C7 (mc (.int 3))))) anil)) 1 2 X9) (mret (mc (.bl true))))
noncomputable def zr3:MF:=runB 4 ya0
end
end
section
theorem xr5 (i j:Int):eqS (.int i) (.int j)=some (i==j):=rfl
theorem xr7 (i j:Bool):eqS (.bl i) (.bl j)=some (i==j):=rfl
theorem xr0 (i j:Str):eqS (.str i) (.str j)=some (i==j):=rfl
theorem xr1:eqS .non .non=some true:=rfl
theorem xr3 (j:Bool):eqS .non (.bl j)=some false:=rfl
theorem xr6 (j:Bool):eqS (.bl j) .non=some false:=rfl
theorem xr2 (j:Int):eqS .non (.int j)=some false:=rfl
theorem xr4 (j:Int):eqS (.int j) .non=some false:=rfl
local macro_rules|`(tactic|simp_arith [$ls,*])=>`(tactic|simp(config:={decide:=true,implicitDefEqProofs:=false}) only[runB,w8,map_cons,map_nil,length_cons,length_nil,List.replicate,cons_append,nil_append,mvar,bvar,mc,mlst,u0,m2,w6,subD,mulD,zv2,modD,powD,ltD,leD,gtD,geD,eqSD,neSD,xr5,xr7,xr0,xr1,xr3,xr6,xr2,xr4,m1,negD,mand,mtru,truD,cand,cor,cnot,anil,z4,w5,mtup,mlen,mix,zx6,C7,mcut,mcat,addD,n5,absF,zr1,B8,two2,intF,h6,mseq,mif,zm5,mset,c7,zg4,mret,yp3,mapp,V7,g8,masg,u8,zq2,cyes,a8,meqB,misi,tyD,int2,bl2,tgD,L5,Option.bind_some,Option.map_some,Option.bind_none,Option.map_none,getElem?_cons_zero,getElem?_cons_succ,set_cons_zero,set_cons_succ,isEmpty_cons,isEmpty_nil,Bool.not_true,Bool.not_false,$ls,*])
noncomputable def stir (c k:Int):Int:=if 10^18<=c then (c-10^18) / 2^(28*k).toNat % 2^28 else
 (((c+1013*k+1)*16807 % 2147483647)*((c+1013*k+1)*16807 % 2147483647) % 2147483629)*39373 % 2147483587 / 8
theorem B5 (i j:Int)(h1:-(2^64)<j)(h2:j<2^64):R8 i j=true:=by
 unfold R8;simp only[h1,h2,decide_true,Bool.and_self,Bool.or_true]
theorem zs5 (i j:Int)(h1:-(2^64)<i)(h2:i<2^64):R8 i j=true:=by
 unfold R8;simp only[h1,h2,decide_true,Bool.and_self,Bool.true_or]
theorem e7 (i j:Int)(h:0<j):G4 i j=true:=by unfold G4;simp only[h,decide_true]
theorem seqI {x y:MS}{ρ ρ':Ro}{o:Option Out}(h:x ρ=some (.nx ρ'))(h2:y ρ'=o):mseq x y ρ=o:=by
 unfold mseq;rw[h];exact h2
noncomputable def yi8 {α:Type}(I:List α->Ro->Prop)(Q:Out->Prop)(ds:List α):Out->Prop
 | .nx ρ=>I ds ρ| .ct ρ=>I ds ρ| .bk ρ=>Q (.nx ρ)| .rt d=>Q (.rt d)| .rf es=>Q (.rf es)| .rp d es=>Q (.rp d es)| .rg d p r=>Q (.rg d p r)| .rgf d p r=>Q (.rgf d p r)
theorem J1 {α:Type}{g:Tg}{body:MS}{f:α->D}(I:List α->Ro->Prop)(Q:Out->Prop)
  (hs:∀ d ds ρ,I (d::ds) ρ->∃ ρ1 o,tgD g (f d) ρ=some ρ1/\body ρ1=some o/\yi8 I Q ds o) (hd:∀ ρ,I [] ρ->Q (.nx ρ)):
  ∀(ds:List α)(ρ:Ro),I ds ρ->∃ o,forD g body (ds.map f) ρ=some o/\Q o
 |[],ρ,h=>⟨.nx ρ,rfl,hd ρ h⟩
 |d::ds,ρ,h=>by
  obtain⟨ρ1,o,h1,h2,z⟩:=hs d ds ρ h
  rw[map_cons]
  unfold forD
  rw[h1]
  simp only[h2]
  cases o with
  |nx j=>exact J1 I Q hs hd ds j z
  |ct j=>exact J1 I Q hs hd ds j z
  |bk j=>exact⟨_,rfl,z⟩
  |rt d=>exact⟨_,rfl,z⟩
  |rf d=>exact⟨_,rfl,z⟩
  |rp d es=>exact⟨_,rfl,z⟩
  |rg d p r=>exact⟨_,rfl,z⟩
  |rgf d p r=>exact⟨_,rfl,z⟩
theorem X3 {α:Type}{g:Tg}{c:MB}{j:ME}{f:α->D}{G:α->D}(I:List α->Ro->Prop)
  (hs:∀ d ds ρ,I (d::ds) ρ->∃ ρ1,tgD g (f d) ρ=some ρ1/\c ρ1=some true/\j ρ1=some (G d)/\I ds ρ1):
  ∀(ds:List α)(ρ:Ro)(acc:List D),I ds ρ->acc.length+ds.length<=sizeLine->W8 g c j (ds.map f) ρ acc=some (acc++ds.map G)
 |[],ρ,acc,h,hl=>by simp[W8]
 |d::ds,ρ,acc,h,hl=>by
  obtain⟨ρ1,h1,h2,N,z⟩:=hs d ds ρ h
  rw[map_cons]
  unfold W8
  rw[h1]
  simp only[h2,N]
  rw[length_cons]at hl
  rw[if_pos (by omega),X3 I hs ds ρ1 _ z (by simp;omega)]
  simp
noncomputable def cutI {α:Type}(xs:List α)(lo hi:Option Int):List α:=(xs.drop (HT.sIx xs.length 0 lo)).take (HT.sIx xs.length xs.length hi-HT.sIx xs.length 0 lo)
theorem A9 {α:Type}(f:α->D)(xs:List α)(lo hi:Option Int):cutL (xs.map f) lo hi=(cutI xs lo hi).map f:=by
 unfold cutL cutI;rw[length_map,<-map_drop,<-map_take]
theorem yb6 {α:Type}(xs:List α)(k:Nat):cutI xs none (some (k:Int))=xs.take k:=by
 unfold cutI
 rw[HT.sIx_nat,HT.sIx_none]
 simp
theorem zz3 {α:Type}(f:α->D)(xs:List α)(k:Int)(z:0<=k)(h1:k<xs.length)(dflt:α):atI (xs.map f) k=some (f (xs.getD k.toNat dflt)):=by
 unfold atI ixN
 rw[length_map,if_pos z,if_pos h1]
 have j:k.toNat<xs.length:=by omega
 simp[getElem?_map,j]
theorem atI_last {α:Type}(f:α->D)(xs:List α)(x:α):atI ((xs++[x]).map f) (-1)=some (f x):=by
 unfold atI ixN
 rw[length_map,if_neg (by decide),if_pos (by simp;omega)]
 have e:(-1+((xs++[x]).length:Int)).toNat=xs.length:=by simp;omega
 rw[e]
 simp
theorem Z9 {n:Nat}{m:MS}{ds:List D}{d:D}(h:m (w8 n ds)=some (.rt d)):runB n m ds=some (.sh d):=by unfold runB;rw[h]
theorem yg0 {n:Nat}{m:MS}{ds:List D}{d:List D}(h:m (w8 n ds)=some (.rf d)):runB n m ds=some (.fr d):=by unfold runB;rw[h]
noncomputable def after (rest:MS):Out->Option Out
 | .nx ρ=>rest ρ| .bk ρ=>some (.bk ρ)| .ct ρ=>some (.ct ρ)| .rt d=>some (.rt d)| .rf d=>some (.rf d)| .rp d es=>some (.rp d es)| .rg d p r=>some (.rg d p r)| .rgf d p r=>some (.rgf d p r)
theorem l0 {x y:MS}{ρ:Ro}{o:Out}(h:x ρ=some o):mseq x y ρ=after y o:=by
 unfold mseq;rw[h];cases o <;> rfl
theorem xt0 (i j:Int):(if j<i then j else i)=min i j:=by omega
theorem l6:1000000<=sizeLine:=by rw[show sizeLine=2^24 from rfl];decide
theorem x6 {n:Nat}(h:n<=1000000):n<=sizeLine:=Nat.le_trans h l6
theorem F8 (j n:Nat)(h:j<n):List.range' j (n-j)=j::List.range' (j+1) (n-(j+1)):=by
 have:n-j=(n-(j+1))+1:=by omega
 rw[this,range'_succ]
theorem zw0 {x n:Int}(hn:0<n):0<=x % n/\x % n<n:=⟨Int.emod_nonneg _ (by omega),Int.emod_lt_of_pos _ hn⟩
def Run (m:MS)(ρ:Ro)(R:Out->Prop):Prop:=∃ o,m ρ=some o/\R o
noncomputable def xq5 (rest:MS)(R:Out->Prop):Out->Prop
 | .nx ρ=>Run rest ρ R| .bk ρ=>R (.bk ρ)| .ct ρ=>R (.ct ρ)| .rt d=>R (.rt d)| .rf d=>R (.rf d)| .rp d es=>R (.rp d es)| .rg d p r=>R (.rg d p r)| .rgf d p r=>R (.rgf d p r)
theorem l9 {x y:MS}{ρ ρ':Ro}{R:Out->Prop}(h:x ρ=some (.nx ρ'))(h2:Run y ρ' R):Run (mseq x y) ρ R:=by
 obtain⟨o,e,r⟩:=h2
 exact⟨o,seqI h e,r⟩
theorem D7 {x y:MS}{ρ:Ro}{R:Out->Prop}(h:Run x ρ (xq5 y R)):Run (mseq x y) ρ R:=by
 obtain⟨o,e,r⟩:=h
 cases o with
 |nx ρ'=>exact l9 e r
 |bk ρ'=>exact⟨_,l0 e,r⟩
 |ct ρ'=>exact⟨_,l0 e,r⟩
 |rt d=>exact⟨_,l0 e,r⟩
 |rf d=>exact⟨_,l0 e,r⟩
 |rp d es=>exact⟨_,l0 e,r⟩
 |rg d z j=>exact⟨_,l0 e,r⟩
 |rgf d z j=>exact⟨_,l0 e,r⟩
theorem yh9 {α:Type}{j:ML}{g:Tg}{body:MS}{ρ:Ro}{f:α->D}(ds:List α)(hi:j ρ=some (ds.map f))(I:List α->Ro->Prop)(Q:Out->Prop)(z:I ds ρ)
  (hs:∀ d ds ρ,I (d::ds) ρ->∃ ρ1,tgD g (f d) ρ=some ρ1/\Run body ρ1 (yi8 I Q ds)) (hd:∀ ρ,I [] ρ->Q (.nx ρ)):Run (mfor j g body) ρ Q:=by
 obtain⟨o,e,q⟩:=J1 (g:=g) (body:=body) I Q (fun d ds ρ h=>by obtain⟨ρ1,a,o,b,c⟩:=hs d ds ρ h;exact⟨ρ1,o,a,b,c⟩) hd ds ρ z
 exact⟨o,by unfold mfor;rw[hi];exact e,q⟩
theorem D8 {O:ML}{g:Tg}{body:MS}{ρ:Ro}{f:Nat->D}(n:Nat)(hi:O ρ=some ((List.range n).map f))(I:Nat->Ro->Prop)(Q:Out->Prop)(Y:I 0 ρ)
  (hs:∀ j ρ,j<n->I j ρ->∃ ρ1,tgD g (f j) ρ=some ρ1/\Run body ρ1 (yi8 (fun(_:List Unit) ρ=>I (j+1) ρ) Q [])) (hd:∀ ρ,I n ρ->Q (.nx ρ)):Run (mfor O g body) ρ Q:=by
 refine yh9 (List.range n) hi (I:=fun ks ρ=>∃ j,j<=n/\ks=List.range' j (n-j)/\I j ρ) (Q:=Q) ⟨0,by omega,by rw[range_eq_range'];rfl,Y⟩ ?_ ?_
 .rintro d ds ρ ⟨j,hj,e,h⟩
  have N:j<n:=by
   rcases Nat.lt_or_ge j n with z|z
   .exact z
   .rw[show n-j=0 by omega]at e;cases e
  rw[F8 j n N]at e
  obtain⟨e1,e2⟩:=List.cons.inj e
  subst e1
  obtain⟨ρ1,a1,o,Z,G⟩:=hs d ρ N h
  refine⟨ρ1,a1,o,Z,?_⟩
  cases o with
  |nx r=>exact⟨d+1,by omega,e2,G⟩
  |ct r=>exact⟨d+1,by omega,e2,G⟩
  |bk r=>exact G
  |rt r=>exact G
  |rf r=>exact G
  |rp r r2=>exact G
  |rg r r2 U=>exact G
  |rgf r r2 U=>exact G
 .rintro ρ ⟨j,hj,e,h⟩
  have:n-j=0:=by
   rcases Nat.eq_zero_or_pos (n-j)with z|z
   .exact z
   .rw[F8 j n (by omega)]at e;cases e
  have:j=n:=by omega
  subst this
  exact hd ρ h
theorem U7 {i:Nat}{m:MS}{ρ:Ro}{ds:List D}{R:Out->Prop}(h:ρ[i]? =some (some (.own ds)))(h2:Run m (ρ.set i (some (.sh (.lst ds)))) R):Run (g8 i m) ρ R:=by
 obtain⟨o,e,r⟩:=h2
 exact⟨o,by unfold g8;rw[h];exact e,r⟩
theorem xu9 {x:Int}(h:0<=x):∃ n:Nat,x=n:=⟨x.toNat,by omega⟩
theorem zr2 {x y:ME}{ρ:Ro}{a b:Bool}(h1:x ρ=some (.bl a))(h2:y ρ=some (.bl b)):mand x y ρ=some (.bl (a&&b)):=by
 unfold mand;rw[h1];cases a <;> simp[h2]
theorem P0 (lo:Int)(n:Nat):k6 lo n=(List.range n).map fun(i:Nat)=>D.int (lo+(i:Int)):=rfl
theorem Y4 (n:Nat):k6 0 n=((List.range n).map fun(i:Nat)=>(i:Int)).map .int:=by
 rw[P0,map_map]
 apply map_congr_left
 intro i _
 simp
theorem X0 {j:Int}(h1:-(2^62)<=j)(h2:j<2^62):okR j=true:=by unfold okR;simp only[h1,h2,decide_true,Bool.and_self]
theorem V1 {j:Int}(h:okR j=true):rng1 [.int j]=some (k6 0 j.toNat):=by
 unfold rng1
 simp only[h,if_true]
theorem zd3 {i j:Int}(h:okR i=true)(h2:okR j=true):rng2 [.int i,.int j]=some (k6 i (j-i).toNat):=by
 unfold rng2
 simp only[h,h2,Bool.and_self,if_true]
theorem J2 (i j:Int)(h:0<j)(h2:j<1073741824):E7 i j=true:=by unfold E7;simp only[h,h2,decide_true,Bool.and_self]
theorem at4 (a b c d:Int)(k:Int)(j:0<=k)(h1:k<4):∃ x,atI [D.int a,.int b,.int c,.int d] k=some (.int x)/\(x=a\/x=b\/x=c\/x=d):=by
 have:k=0\/k=1\/k=2\/k=3:=by omega
 rcases this with h|h|h|h <;> subst h
 .exact⟨_,rfl,by simp⟩
 .exact⟨_,rfl,by simp⟩
 .exact⟨_,rfl,by simp⟩
 .exact⟨_,rfl,by simp⟩
theorem J3:∀(η:List Int)(k:Nat),J4 k (η.map .int)=(List.range η.length).map fun(i:Nat)=>D.tup [.int ((k+i:Nat):Int),.int (η.getD i 0)]
 |[],k=>rfl
 |x::η,k=>by
  rw[map_cons,J4,J3 η (k+1),length_cons,range_succ_eq_map,map_cons,map_map]
  congr 1
  apply map_congr_left
  intro i _
  simp only[Function.comp,Nat.succ_eq_add_one,getD_cons_succ]
  rw[show k+1+i=k+(i+1)by omega]
theorem yb0 (ds:List D):eqFD false (.lst ds) (.lst [])=some (.bl ds.isEmpty):=by
 unfold eqFD eqF
 cases ds with
 |nil=>rfl
 |cons d ds=>rfl
theorem yc9 (ds:List D):eqFD true (.lst ds) (.lst [])=some (.bl (!ds.isEmpty)):=by
 unfold eqFD eqF
 cases ds with
 |nil=>rfl
 |cons d ds=>rfl
theorem zj7 {α:Type}(xs:List α)(lo hi:Option Int):(cutI xs lo hi).length<=xs.length:=by
 unfold cutI;rw[length_take,length_drop];omega
theorem xs3 {n:Nat}{k:Int}(j:0<=k)(h1:k<n):ixN n k=some k.toNat:=by unfold ixN;rw[if_pos j,if_pos h1]
theorem zp9 (n:Nat):∀ xs:List Int,zipE (eqF (n+1)) (xs.map .int) (xs.map .int)=some true
 |[]=>rfl
 |x::xs=>by
  rw[map_cons,zipE,zp9 n xs]
  show (some (x==x)).bind _=_
  rw[beq_self_eq_true];rfl
theorem xr9 (n:Nat)(xs:List Int):eqF (n+2) (.lst (xs.map .int)) (.lst (xs.map .int))=some true:=by
 show (if _=_ then zipE (eqF (n+1)) (xs.map .int) (xs.map .int)else some false)=_
 rw[if_pos rfl,zp9]
theorem zo4 {n:Nat}{m:MS}{ds:List D}{d:D}(h:Run m (w8 n ds) (fun o=>o= .rt d)):runB n m ds=some (.sh d):=by
 obtain⟨o,e,rfl⟩:=h
 exact Z9 e
theorem zm9 {f:MF}{m:ML}{ρ:Ro}{ds es:List D}(h:m ρ=some ds)(h2:f ds=some (.fr es)):a8 f m ρ=some (.lst es):=by
 unfold a8;rw[h];show (match f ds with |some (.sh d)=>some d|some (.fr es)=>some (D.lst es)|some (.pr d es)=>some (.tup [d,.lst es])|none=>none)=_;rw[h2]
theorem d4 {f:MF}{m:ML}{ρ:Ro}{ds:List D}{d:D}(h:m ρ=some ds)(h2:f ds=some (.sh d)):a8 f m ρ=some d:=by
 unfold a8;rw[h];show (match f ds with |some (.sh d)=>some d|some (.fr es)=>some (D.lst es)|some (.pr d es)=>some (.tup [d,.lst es])|none=>none)=_;rw[h2]
theorem z5 {x:ME}{r:ML}{ρ:Ro}{d:D}{ds:List D}(h:x ρ=some d)(h2:r ρ=some ds):z4 x r ρ=some (d::ds):=by
 unfold z4;rw[h,h2];rfl
theorem y0 {ρ:Ro}:anil ρ=some []:=rfl
theorem J6 (η:List Int)(i:Nat)(h:i<η.length):atI (η.map D.int) (i:Int)=some (.int (η.getD i 0)):=by
 have:=zz3 D.int η (i:Int) (by omega) (by omega) 0
 rw[Int.toNat_natCast]at this
 exact this
theorem zm6 {m:ML}{ρ:Ro}{x:Int}{r:List Int}(h:m ρ=some ((x::r).map .int)):zw2 m ρ=some (.int (maxI (x::r))):=by
 unfold zw2;rw[h];simp only[K6]
theorem h9 {α:Type}{g:Tg}{c:MB}{j:ME}{f:α->D}{p:α->Bool}{G:α->D}(I:List α->Ro->Prop)
  (hs:∀ d ds ρ,I (d::ds) ρ->∃ ρ1,tgD g (f d) ρ=some ρ1/\c ρ1=some (p d)/\(p d=true->j ρ1=some (G d))/\I ds ρ1):
  ∀(ds:List α)(ρ:Ro)(acc:List D),I ds ρ->acc.length+ds.length<=sizeLine->W8 g c j (ds.map f) ρ acc=some (acc++(ds.filter p).map G)
 |[],ρ,acc,h,hl=>by simp[W8]
 |d::ds,ρ,acc,h,hl=>by
  obtain⟨ρ1,h1,h2,N,z⟩:=hs d ds ρ h
  rw[length_cons]at hl
  rw[map_cons]
  unfold W8
  rw[h1]
  simp only[h2]
  cases hp:p d with
  |false=>
   simp only
   rw[h9 I hs ds ρ1 acc z (by omega),filter_cons,hp]
   rfl
  |true=>
   simp only[N hp]
   rw[if_pos (by omega),h9 I hs ds ρ1 _ z (by simp;omega),filter_cons,hp]
   simp
theorem yw8 {α β:Type}(xs:List α)(f:α->β):(xs.map f).isEmpty=xs.isEmpty:=by cases xs <;> rfl
theorem zq6 {x y:MB}{ρ:Ro}{a b:Bool}(h1:x ρ=some a)(h2:y ρ=some b):cand x y ρ=some (a&&b):=by
 unfold cand;rw[h1];cases a <;> simp[h2]
theorem k9 {i:Nat}{x:ME}{ρ:Ro}{d:D}(h:x ρ=some d):mset i x ρ=some (.nx (ρ.set i (some (.sh d)))):=by unfold mset;rw[h];rfl
theorem u7 {m:ML}{ρ:Ro}{ds:List D}(h:m ρ=some ds):mlst m ρ=some (.lst ds):=by unfold mlst;rw[h];rfl
theorem v4 {m:ML}{ρ:Ro}{ds:List D}(h:m ρ=some ds)(j:ds.length<=sizeLine):w5 m ρ=some ds:=by
 unfold w5;rw[h];show (if ds.length<=sizeLine then some ds else none)=_;rw[if_pos j]
theorem l4 {m:ML}{i:ME}{ρ:Ro}{ds:List D}{k:Int}{d:D}(h1:m ρ=some ds)(h2:i ρ=some (.int k))(j:atI ds k=some d):mix m i ρ=some d:=by
 unfold mix;rw[h1,h2];exact j
theorem A8 {m:ML}{ρ:Ro}{ds:List D}(h:m ρ=some ds)(neg:Bool):meqB neg m (w5 anil) ρ=some (.bl (if neg then !ds.isEmpty else ds.isEmpty)):=by
 have j:0<=sizeLine:=Nat.zero_le _
 have e:w5 anil ρ=some []:=by simp_arith [j,if_true]
 unfold meqB
 rw[h,e]
 cases neg
 .simp only[Option.bind_some,yb0];rfl
 .simp only[Option.bind_some,yc9];rfl
theorem l7 {m:ME}{ρ:Ro}{ds:List D}(h:m ρ=some (.lst ds)):u0 m ρ=some ds:=by unfold u0;rw[h]
theorem A3 {x y:ML}{ρ:Ro}{ds es:List D}(h1:x ρ=some ds)(h2:y ρ=some es)(j:ds.length+es.length<=sizeLine):mcat x y ρ=some (ds++es):=by
 unfold mcat;rw[h1,h2];show (if ds.length+es.length<=sizeLine then some (ds++es)else none)=_;rw[if_pos j]
theorem V5 {m:ML}{ρ:Ro}{ds:List D}(h:m ρ=some ds)(j:ds.length<=sizeLine):mtup m ρ=some (.tup ds):=by
 unfold mtup;rw[v4 h j];rfl
theorem S5 {x:ME}{ρ:Ro}{d:D}(h:x ρ=some d):mret x ρ=some (.rt d):=by unfold mret;rw[h];rfl
theorem xk5:kitB "list" "list"=some true:=by decide +kernel
theorem xk6:kitB "int" "int"=some true:=by decide +kernel
theorem xk7:kitB "int" "bool"=some false:=by decide +kernel
theorem zq1 {α:Type}(xs:List α):xs.filter (fun _=>false)=[]:=by
 induction xs with
 |nil=>rfl
 |cons x xs j=>rw[filter_cons];exact j
section
open PySem L2
theorem V9 {c:MB}{x y:MS}{ρ:Ro}{b:Bool}(h:c ρ=some b):mif c x y ρ=(if b then x else y) ρ:=by unfold mif;rw[h];cases b <;> rfl
theorem yo0 {x:ME}{ρ:Ro}{d:D}(h:x ρ=some d):zg4 x ρ=some (.nx ρ):=by unfold zg4;rw[h];rfl
theorem xo5 {x:ME}{ρ:Ro}{i k:Int}(h:x ρ=some (.int i)):w6 (m2 eqSD x (mc (.int k))) ρ=some (i==k):=by unfold w6 m2 mc;rw[h];rfl
theorem xy6 {x y:ME}{ρ:Ro}{i k:Int}(h:x ρ=some (.int i))(h2:y ρ=some (.int k)):w6 (m2 ltD x y) ρ=some (decide (i<k)):=by unfold w6 m2;rw[h,h2];rfl
end
section
open PySem L2
noncomputable def lx:List Nat->List Nat->Bool
 |[],[]=>false
 |[],_::_=>true
 |_::_,[]=>false
 |a::l,b::m=>decide (a<b) || (a==b&&lx l m)
noncomputable def n4 (l m:List Nat):Bool:=decide (m.length<l.length) || (l.length==m.length&&lx l m)
theorem yy8:∀ l,lx l l=false
 |[]=>rfl
 |a::l=>by unfold lx;simp[yy8 l]
theorem zk3:∀{a b c:List Nat},lx a b=true->lx b c=true->lx a c=true
 |[],[],_,h,_=>by cases h
 |[],_::_,[],_,h=>by cases h
 |[],_::_,_::_,_,_=>rfl
 |_::_,[],_,h,_=>by cases h
 |_::_,_::_,[],_,h=>by cases h
 |a::l,b::m,c::k,h1,h2=>by
  unfold lx at*
  simp only[Bool.or_eq_true,Bool.and_eq_true,decide_eq_true_eq,beq_iff_eq]at*
  rcases h1 with h1|⟨rfl,h1⟩ <;> rcases h2 with h2|⟨rfl,h2⟩
  .exact .inl (by omega)
  .exact .inl h1
  .exact .inl h2
  .exact .inr ⟨rfl,zk3 h1 h2⟩
theorem yj8:∀(a b:List Nat),a=b\/lx a b=true\/lx b a=true
 |[],[]=>.inl rfl
 |[],_::_=>.inr (.inl rfl)
 |_::_,[]=>.inr (.inr rfl)
 |a::l,b::m=>by
  unfold lx
  simp only[Bool.or_eq_true,Bool.and_eq_true,decide_eq_true_eq,beq_iff_eq]
  rcases Nat.lt_trichotomy a b with h|h|h
  .exact .inr (.inl (.inl h))
  .subst h
   rcases yj8 l m with h|h|h
   .exact .inl (by rw[h])
   .exact .inr (.inl (.inr ⟨rfl,h⟩))
   .exact .inr (.inr (.inr ⟨rfl,h⟩))
  .exact .inr (.inr (.inl h))
theorem j6 (l m:List Nat):n4 l m=true↔m.length<l.length\/(l.length=m.length/\lx l m=true):=by
 unfold n4
 simp only[Bool.or_eq_true,Bool.and_eq_true,decide_eq_true_eq,beq_iff_eq]
theorem W0 {a b c:List Nat}(h1:n4 a b=true)(h2:n4 b c=true):n4 a c=true:=by
 rw[j6]at*
 rcases h1 with h1|⟨h1,z⟩ <;> rcases h2 with h2|⟨h2,j⟩
 .exact .inl (by omega)
 .exact .inl (by omega)
 .exact .inl (by omega)
 .exact .inr ⟨by omega,zk3 z j⟩
theorem J7 (a b:List Nat):a=b\/n4 a b=true\/n4 b a=true:=by
 rw[j6,j6]
 rcases Nat.lt_trichotomy a.length b.length with h|h|h
 .exact .inr (.inr (.inl h))
 .rcases yj8 a b with z|z|z
  .exact .inl z
  .exact .inr (.inl (.inr ⟨h,z⟩))
  .exact .inr (.inr (.inr ⟨h.symm,z⟩))
 .exact .inr (.inl (.inl h))
theorem U5 (a:List Nat):n4 a a=false:=by
 unfold n4;simp[yy8]
theorem zf6 (p:Nat)(a b:List Nat):n4 (p::a) (p::b)=n4 a b:=by
 unfold n4
 simp[lx]
def Best (P:List Nat->Prop)(l:List Nat):Prop:=P l/\∀ m,P m->n4 m l=false
theorem Best.unique {P:List Nat->Prop}{l m:List Nat}(a:Best P l)(b:Best P m):l=m:=by
 rcases J7 l m with h|h|h
 .exact h
 .have:=b.2 l a.1;rw[h]at this;cases this
 .have:=a.2 m b.1;rw[h]at this;cases this
theorem Best.iff {P Q:List Nat->Prop}{l:List Nat}(a:Best P l)(h:∀ m,P m↔Q m):Best Q l:=⟨(h l).mp a.1,fun m hm=>a.2 m ((h m).mpr hm)⟩
theorem Best.len {P:List Nat->Prop}{l:List Nat}(a:Best P l)(m:List Nat)(h:P m):m.length<=l.length:=by
 have:=a.2 m h
 rcases Nat.lt_or_ge l.length m.length with z|z
 .rw[(j6 m l).mpr (.inl z)]at this;cases this
 .exact z
def far (s:Int)(d:Bool)(a b:Int):Prop:=if d then s<=b-a else s<=a-b
noncomputable instance (s:Int) (d:Bool) (a b:Int):Decidable (far s d a b):=by unfold far;exact inferInstance
def Hd (p:Nat)(l:List Nat):Prop:=∃ m,l=p::m
variable {x:Nat->Int}{n:Nat}{s:Int}
end
section
open PySem L2
noncomputable def Sd (x:Nat->Int)(n:Nat)(s:Int):List Nat->Nat->Bool->Prop
 |[],_,_=>False
 |[p],_,_=>p<n
 |p::q::l,t,d=>p<q/\far s d (x p) (x q)/\(Sd x n s (q::l) t d\/∃ u,t=u+1/\Sd x n s (q::l) u (!d))
variable {x:Nat->Int}{n:Nat}{s:Int}
theorem Sd.lt:∀{l:List Nat}{p t:Nat}{d:Bool},Sd x n s (p::l) t d->p<n
 |[],_,_,_,h=>h
 |q::l,p,t,d,h=>by
  rcases h.2.2 with z|⟨u,_,z⟩
  .exact Nat.lt_trans h.1 z.lt
  .exact Nat.lt_trans h.1 z.lt
theorem Sd.mono:∀{l:List Nat}{t u:Nat}{d:Bool},Sd x n s l t d->t<=u->Sd x n s l u d
 |[],_,_,_,h,_=>h
 |[p],_,_,_,h,_=>h
 |p::q::l,t,u,d,h,hu=>by
  refine⟨h.1,h.2.1,?_⟩
  rcases h.2.2 with z|⟨v,e,z⟩
  .exact .inl (z.mono hu)
  .exact .inr ⟨u-1,by omega,z.mono (by omega)⟩
theorem Sd.len:∀{l:List Nat}{p t:Nat}{d:Bool},Sd x n s (p::l) t d->l.length+p<n
 |[],p,_,_,h=>by have h:p<n:=h;simpa using h
 |q::l,p,t,d,h=>by
  have h1:=h.1
  have:l.length+q<n:=by
   rcases h.2.2 with z|⟨u,_,z⟩
   .exact z.len
   .exact z.len
  simp;omega
theorem Sd.enough:∀{l:List Nat}{t:Nat}{d:Bool},Sd x n s l t d->Sd x n s l l.length d
 |[],_,_,h=>h
 |[p],_,_,h=>h
 |p::q::l,t,d,h=>by
  refine⟨h.1,h.2.1,?_⟩
  rcases h.2.2 with z|⟨v,e,z⟩
  .exact .inl (z.enough.mono (by simp))
  .exact .inr ⟨(q::l).length,rfl,z.enough⟩
def FS (x:Nat->Int)(n:Nat)(s:Int)(t:Nat)(d:Bool)(p:Nat)(l:List Nat):Prop:=Sd x n s l t d/\Hd p l
def FR (x:Nat->Int)(n:Nat)(s:Int)(t:Nat)(d:Bool)(p:Nat)(l:List Nat):Prop:=(Sd x n s l t d\/∃ u,t=u+1/\Sd x n s l u (!d))/\Hd p l
theorem zu6 (l:List Nat)(h:l≠[]):n4 [] l=false:=by
 cases l with
 |nil=>exact absurd rfl h
 |cons a l=>
  cases e:n4 [] (a::l)with
  |false=>rfl
  |true=>
   rw[j6]at e
   simp only[length_nil,length_cons]at e
   omega
theorem ahead_false {a b:List Nat}:n4 a b=false↔a=b\/n4 b a=true:=by
 constructor
 .intro h
  rcases J7 a b with z|z|z
  .exact .inl z
  .rw[h]at z;cases z
  .exact .inr z
 .rintro(z|z)
  .rw[z];exact U5 _
  .cases e:n4 a b with
   |false=>rfl
   |true=>have:=W0 e z;rw[U5]at this;cases this
theorem T4 {a b c:List Nat}(h1:n4 a b=false)(h2:n4 b c=false):n4 a c=false:=by
 rw[ahead_false]at*
 rcases h1 with rfl|h1
 .exact h2
 .rcases h2 with rfl|h2
  .exact .inr h1
  .exact .inr (W0 h2 h1)
theorem ym6 {P Q R:List Nat->Prop}{a b c:List Nat}(ha:Best P a)(G:Best Q b)(N:c=if n4 b a=true then b else a)(j:∀ l,R l↔P l\/Q l):Best R c:=by
 subst N
 cases h:n4 b a with
 |true=>
  simp only[if_true]
  exact⟨(j _).mpr (.inr G.1),fun m hm=>by
   rcases (j m).mp hm with z|z
   .exact T4 (ha.2 m z) (ahead_false.mpr (.inr h))
   .exact G.2 m z⟩
 |false=>
  simp only[Bool.false_eq_true,if_false]
  exact⟨(j _).mpr (.inl ha.1),fun m hm=>by
   rcases (j m).mp hm with z|z
   .exact ha.2 m z
   .exact T4 (G.2 m z) h⟩
noncomputable def fl:List (List Nat)->List Nat->List Nat
 |[],b=>b
 |m::ls,b=>if b.length<m.length then fl ls m else fl ls b
theorem zq0:∀(j:List (List Nat))(b:List Nat),(b::j).Pairwise (fun a c=>lx a c=true)->fl j b∈b::j/\∀ m∈b::j,n4 m (fl j b)=false
 |[],b,_=>⟨by simp[fl],by simp[fl,U5]⟩
 |m::j,b,h=>by
  have hp:=List.pairwise_cons.mp h
  unfold fl
  by_cases N:b.length<m.length
  .rw[if_pos N]
   obtain⟨h1,h2⟩:=zq0 j m hp.2
   refine⟨mem_cons_of_mem _ h1,fun k G=>?_⟩
   rcases List.mem_cons.mp G with rfl|G
   .exact T4 (ahead_false.mpr (.inr ((j6 m k).mpr (.inl N)))) (h2 m (by simp))
   .exact h2 k G
  .rw[if_neg N]
   have hs:(b::j).Pairwise (fun a c=>lx a c=true):=List.pairwise_cons.mpr ⟨fun c O=>hp.1 c (by simp[O]),(List.pairwise_cons.mp hp.2).2⟩
   obtain⟨h1,h2⟩:=zq0 j b hs
   refine⟨?_,fun k G=>?_⟩
   .rcases List.mem_cons.mp h1 with z|z
    .rw[z];simp
    .simp[z]
   .rcases List.mem_cons.mp G with rfl|G
    .exact h2 k (by simp)
    .rcases List.mem_cons.mp G with rfl|G
     .refine T4 (b:=b) ?_ (h2 b (by simp))
      refine ahead_false.mpr (.inr ((j6 b k).mpr ?_))
      rcases Nat.lt_or_ge k.length b.length with z|z
      .exact .inl z
      .exact .inr ⟨by omega,hp.1 k (by simp)⟩
     .exact h2 k (by simp[G])
noncomputable def flD:List (List Nat)->List Nat
 |[]=>[]
 |m::ls=>fl ls m
theorem zk4 {a b:Nat}{l m:List Nat}(h:a<b):lx (a::l) (b::m)=true:=by
 unfold lx;simp[h]
theorem yt0 {t:Nat}{d:Bool}{p:Nat}{qs:List Nat}{R:Nat->List Nat}(hp:p<n)(U:∀ q,q∈qs↔p<q/\q<n/\far s d (x p) (x q))(hr:qs.Pairwise (·<·))(hR:∀ q∈qs,Best (FR x n s t d q) (R q)):
  Best (FS x n s t d p) (p::flD (qs.map R)):=by
 have hd:∀ q∈qs,∃ m,R q=q::m:=fun q h=>(hR q h).1.2
 cases qs with
 |nil=>
  refine⟨⟨hp,[],rfl⟩,?_⟩
  rintro m ⟨h1,k,rfl⟩
  cases k with
  |nil=>exact U5 _
  |cons q k=>
   exfalso
   have G:q<n:=by
    rcases h1.2.2 with z|⟨u,_,z⟩
    .exact z.lt
    .exact z.lt
   have:=(U q).mpr ⟨h1.1,G,h1.2.1⟩
   cases this
 |cons N qs=>
  have pw:((N::qs).map R).Pairwise (fun a c=>lx a c=true):=by
   rw[pairwise_map]
   refine hr.imp_of_mem fun{a b} ha Y Z=>?_
   obtain⟨m1,e1⟩:=hd a ha
   obtain⟨m2,e2⟩:=hd b Y
   rw[e1,e2]
   exact zk4 Z
  obtain⟨h1,h2⟩:=zq0 (qs.map R) (R N) (by simpa using pw)
  have h1:flD ((N::qs).map R)∈(N::qs).map R:=by simpa[flD]using h1
  have h2:∀ m∈(N::qs).map R,n4 m (flD ((N::qs).map R))=false:=by simpa[flD]using h2
  obtain⟨q,j,e⟩:=List.mem_map.mp h1
  have Y:=hR q j
  obtain⟨m,em⟩:=hd q j
  obtain⟨a1,a2,a3⟩:=(U q).mp j
  rw[<-e]
  rw[<-e]at h2
  refine⟨⟨?_,_,rfl⟩,?_⟩
  .rw[em]
   refine⟨a1,a3,?_⟩
   rw[<-em]
   exact Y.1.1
  .rintro k ⟨g1,g2,rfl⟩
   cases g2 with
   |nil=>
    refine ahead_false.mpr (.inr ((j6 _ _).mpr (.inl ?_)))
    rw[em];simp
   |cons r g2=>
    rw[zf6]
    have G:r<n:=by
     rcases g1.2.2 with z|⟨u,_,z⟩
     .exact z.lt
     .exact z.lt
    have O:=(U r).mpr ⟨g1.1,G,g1.2.1⟩
    exact T4 ((hR r O).2 (r::g2) ⟨g1.2.2,_,rfl⟩) (h2 _ (List.mem_map.mpr ⟨r,O,rfl⟩))
def Tn (x:Nat->Int)(n:Nat)(s:Int)(t:Nat)(l:List Nat):Prop:=l=[]\/∃ d,Sd x n s l t d
theorem Tn.mono {t u:Nat}{l:List Nat}(h:Tn x n s t l)(hu:t<=u):Tn x n s u l:=h.imp id fun⟨d,z⟩=>⟨d,z.mono hu⟩
theorem Tn.all {t:Nat}{l:List Nat}(h:Tn x n s t l):Tn x n s n l:=by
 rcases h with h|⟨d,h⟩
 .exact .inl h
 .refine .inr ⟨d,h.enough.mono ?_⟩
  cases l with
  |nil=>simp
  |cons p l=>have:=h.len;simp;omega
theorem Tn.len {t:Nat}{l:List Nat}(h:Tn x n s t l):l.length<=n:=by
 rcases h with rfl|⟨d,h⟩
 .simp
 .cases l with
  |nil=>simp
  |cons p l=>have:=h.len;simp;omega
theorem zf3 {t:Nat}{l:List Nat}{G:List (List Nat)}(hm:l∈G)(j:∀ m∈G,n4 m l=false)(hw:∀ m∈G,Tn x n s t m)(z:∀ d p,p<n->∃ m∈G,Best (FS x n s t d p) m)(hn:l≠[]):Best (Tn x n s t) l:=by
 refine⟨hw l hm,fun m h=>?_⟩
 rcases h with rfl|⟨d,h⟩
 .exact zu6 l hn
 .cases m with
  |nil=>exact h.elim
  |cons p m=>
   obtain⟨k,N,O⟩:=z d p h.lt
   exact T4 (O.2 _ ⟨h,_,rfl⟩) (j k N)
theorem zq9 {t:Nat}(hn:n=0):Best (Tn x n s t) []:=by
 refine⟨.inl rfl,fun m h=>?_⟩
 rcases h with rfl|⟨d,h⟩
 .rfl
 .cases m with
  |nil=>exact h.elim
  |cons p m=>have:=h.lt;omega
end
section
open PySem L2
noncomputable def dN (p:Nat):D:=.int (p:Int)
noncomputable def L (l:List Nat):D:=.lst (l.map dN)
noncomputable def Ky (l:List Nat):D:=.tup [.int (-(l.length:Int)),L l]
theorem yi3 (k:Nat)(a b:Nat):eqF (k+1) (dN a) (dN b)=some (a==b):=by
 show some ((a:Int)==(b:Int))=_
 congr 1
 rw[Bool.eq_iff_iff,beq_iff_eq,beq_iff_eq]
 omega
theorem zf9 (k:Nat):∀(l m:List Nat),l.length=m.length->zipE (eqF (k+1)) (l.map dN) (m.map dN)=some (l==m)
 |[],[],_=>rfl
 |[],_::_,h=>by cases h
 |_::_,[],h=>by cases h
 |a::l,b::m,h=>by
  rw[map_cons,map_cons,zipE,yi3,zf9 k l m (by simpa using h)]
  rfl
theorem yx1 (k:Nat):∀(l m:List Nat),lexF (eqF (k+1)) (ltF (k+1)) (l.map dN) (m.map dN)=some (lx l m)
 |[],[]=>rfl
 |[],_::_=>rfl
 |_::_,[]=>rfl
 |a::l,b::m=>by
  rw[map_cons,map_cons,lexF,yi3]
  unfold lx
  by_cases h:a=b
  .subst h
   simp only[beq_self_eq_true,Nat.lt_irrefl,decide_false,Bool.true_and,Bool.false_or]
   exact yx1 k l m
  .have e:(a==b)=false:=by simpa using h
   rw[e]
   simp only[Bool.false_and,Bool.or_false]
   show some (decide ((a:Int)<(b:Int)))=_
   congr 1
   apply decide_eq_decide.mpr
   omega
theorem yi0 (l m:List Nat):ltF 8 (Ky l) (Ky m)=some (n4 l m):=by
 show lexF (eqF 7) (ltF 7) [.int (-(l.length:Int)),L l] [.int (-(m.length:Int)),L m]=_
 rw[lexF,show eqF 7 (.int (-(l.length:Int))) (.int (-(m.length:Int)))=some (-(l.length:Int)== -(m.length:Int))from rfl]
 unfold n4
 by_cases h:l.length=m.length
 .rw[h]
  simp only[beq_self_eq_true,Nat.lt_irrefl,decide_false,Bool.true_and,Bool.false_or]
  have e:eqF 7 (L l) (L m)=some (l==m):=by
   show (if (l.map dN).length=(m.map dN).length then zipE (eqF 6) (l.map dN) (m.map dN)else some false)=_
   rw[if_pos (by simpa using h),zf9 5 l m h]
  rw[lexF,e]
  by_cases j:l=m
  .subst j
   simp only[beq_self_eq_true]
   rw[yy8];rfl
  .have e2:(l==m)=false:=by simpa using j
   rw[e2]
   exact yx1 5 l m
 .have e:(-(l.length:Int)== -(m.length:Int))=false:=by
   rw[beq_eq_false_iff_ne];omega
  have e2:(l.length==m.length)=false:=by simpa using h
  rw[e,e2]
  simp only[Bool.false_and,Bool.or_false]
  show some (decide (-(l.length:Int) < -(m.length:Int)))=_
  congr 1
  apply decide_eq_decide.mpr
  omega
theorem B7 {mk:D->Option D}(N:∀ l,mk (L l)=some (Ky l)):∀(G:List (List Nat))(b:List Nat),∃ r,minF mk (G.map L) (L b) (Ky b)=some (L r)/\r∈b::G/\∀ m∈b::G,n4 m r=false
 |[],b=>⟨b,rfl,by simp,by simp[U5]⟩
 |m::G,b=>by
  rw[map_cons]
  unfold minF
  rw[N m]
  simp only[yi0 m b]
  cases h:n4 m b with
  |true=>
   obtain⟨r,e,h1,h2⟩:=B7 N G m
   refine⟨r,e,mem_cons_of_mem _ h1,fun k j=>?_⟩
   rcases List.mem_cons.mp j with rfl|j
   .cases z:n4 k r with
    |false=>rfl
    |true=>have:=h2 m (by simp);rw[W0 h z]at this;cases this
   .exact h2 k j
  |false=>
   obtain⟨r,e,h1,h2⟩:=B7 N G b
   refine⟨r,e,?_,fun k j=>?_⟩
   .rcases List.mem_cons.mp h1 with h1|h1
    .simp[h1]
    .simp[h1]
   .have hb:=h2 b (by simp)
    rcases List.mem_cons.mp j with rfl|j
    .exact hb
    .rcases List.mem_cons.mp j with rfl|j
     .cases z:n4 k r with
      |false=>rfl
      |true=>
       rcases J7 k b with w|w|w
       .rw[w,hb]at z;cases z
       .rw[h]at w;cases w
       .rw[W0 w z]at hb;cases hb
     .exact h2 k (mem_cons_of_mem _ j)
noncomputable abbrev xr (η:List Int):Nat->Int:=fun i=>η.getD i 0
theorem zz9 {x y:ME}{ρ:Ro}{i j:Int}(h1:x ρ=some (.int i))(h2:y ρ=some (.int j)):w6 (m2 geD x y) ρ=some (decide (j<=i)):=by
 unfold w6 m2;rw[h1,h2];rfl
theorem Y0 {m:ML}{ρ:Ro}{ds:List D}(h:m ρ=some ds):mlen m ρ=some (.int ds.length):=by unfold mlen;rw[h];rfl
theorem at_L (U:List (List Nat))(p:Nat)(h:p<U.length):atI (U.map L) (p:Int)=some (L (U.getD p [])):=by
 have:=zz3 L U (p:Int) (by omega) (by omega) []
 rw[Int.toNat_natCast]at this
 exact this
theorem yc0 (n p:Nat)(h:p<n):ixN n (p:Int)=some p:=by
 unfold ixN
 rw[if_pos (by omega),if_pos (by omega),Int.toNat_natCast]
theorem X7 (U:List (List Nat))(p q:Nat)(l:List Nat)(h:p≠q):(U.set p l).getD q []=U.getD q []:=by
 rw[getD_eq_getElem?_getD,getD_eq_getElem?_getD,getElem?_set_ne h]
theorem i4 (U:List (List Nat))(p:Nat)(l:List Nat)(h:p<U.length):(U.set p l).getD p []=l:=by
 rw[getD_eq_getElem?_getD,getElem?_set_self h];rfl
theorem xt8 (l:List Nat):P8 [L l]=some (.sh (Ky l)):=by
 unfold P8 zu5
 have i2:0+1+1<=sizeLine:=x6 (by decide)
 refine Z9 ?_
 unfold L
 simp_arith [i2,if_true,length_map]
 rfl
theorem zm8 {U:List (List Nat)}{m:List Nat}(h:m∈U):∃ q,q<U.length/\m=U.getD q []:=by
 obtain⟨q,j,e⟩:=getElem_of_mem h
 exact⟨q,j,by rw[getD_eq_getElem?_getD,getElem?_eq_getElem j,<-e];rfl⟩
theorem zj3 {U:List (List Nat)}{q:Nat}(h:q<U.length):U.getD q []∈U:=by
 rw[getD_eq_getElem?_getD,getElem?_eq_getElem h];exact getElem_mem h
theorem G3 (step:Int)(h:1<=step):yo4 [.int step]=some (.sh .non):=by
 have:¬ step<1:=by omega
 unfold yo4 ya5
 simp_arith [this,decide_false]
theorem u5 {f:D->D->Option D}{x y:ME}{ρ:Ro}{a b:D}(h1:x ρ=some a)(h2:y ρ=some b):m2 f x y ρ=f a b:=by
 unfold m2;rw[h1,h2];rfl
theorem zk2 {α:Type}(f:Nat->α)(j:Nat):(List.range (j+1)).map f=(List.range j).map f++[f j]:=by
 rw[range_succ,map_append];rfl
noncomputable def abv (η:List Int)(s:Int)(d:Bool)(p:Nat):List Nat:=((List.range (η.length-(p+1))).map fun j=>p+1+j).filter fun q=>decide (far s d (xr η p) (xr η q))
theorem abv_mem {η:List Int}{s:Int}{d:Bool}{p q:Nat}:q∈abv η s d p↔p<q/\q<η.length/\far s d (xr η p) (xr η q):=by
 unfold abv
 rw[mem_filter,mem_map,decide_eq_true_eq]
 constructor
 .rintro⟨⟨j,hj,rfl⟩,h⟩
  have:=List.mem_range.mp hj
  exact⟨by omega,by omega,h⟩
 .rintro⟨h1,h2,h3⟩
  exact⟨⟨q-(p+1),List.mem_range.mpr (by omega),by omega⟩,h3⟩
theorem xz3 (η:List Int)(s:Int)(d:Bool)(p:Nat):(abv η s d p).length<=η.length:=by
 unfold abv
 refine Nat.le_trans (length_filter_le _ _) ?_
 rw[length_map,length_range];omega
noncomputable def zv3 (η:List Int)(s:Int)(A B:List (List Nat))(o4 o5:Option S):Ro:=[k0a η,k0c s,some (.own (A.map L)),some (.own (B.map L)),o4,o5]
theorem yr6 (η:List Int)(p:Nat)(hr:η.length<=300)(hp:p<η.length):k6 ((p:Int)+1) ((η.length:Int)-((p:Int)+1)).toNat=((List.range (η.length-(p+1))).map fun j=>p+1+j).map dN:=by
 rw[P0,show ((η.length:Int)-((p:Int)+1)).toNat=η.length-(p+1)by omega,map_map]
 apply map_congr_left
 intro i _
 show D.int _=D.int _
 congr 1
theorem zi7 (η:List Int)(s:Int)(d:Bool)(p:Nat)(hr:η.length<=300)(hp:p<η.length)(A B:List (List Nat))(z:MB)
  (Y:∀ q:Nat,q<η.length->z [some (.sh (dN q)),k0c s,some (.sh (.int (xr η p))),k0a η]=some (decide (far s d (xr η p) (xr η q)))):
  h7 [none,some 1,some 5,some 0] (u8 rng2 (z4 (m2 addD (mvar 4) (mc (.int 1))) (z4 (mlen (bvar 0)) anil))) (.nm 0) z (mvar 0) (zv3 η s A B (k0b p) (some (.sh (.int (xr η p)))))=some ((abv η s d p).map dN):=by
 have U:okR ((p:Int)+1)=true:=X0 (by omega) (by omega)
 have O:okR (η.length:Int)=true:=X0 (by omega) (by omega)
 have e1:u8 rng2 (z4 (m2 addD (mvar 4) (mc (.int 1))) (z4 (mlen (bvar 0)) anil)) (zv3 η s A B (k0b p) (some (.sh (.int (xr η p)))))=some (((List.range (η.length-(p+1))).map fun j=>p+1+j).map dN):=by
  unfold zv3
  simp_arith [length_map,zd3 U O,yr6 η p hr hp]
 unfold h7
 rw[e1,Option.bind_some]
 show W8 _ _ _ _ [none,k0c s,some (.sh (.int (xr η p))),k0a η] []=_
 rw[h9 (f:=dN) (p:=fun q=>decide (far s d (xr η p) (xr η q))) (G:=dN) (fun qs ρ=>(∀ q∈qs,q<η.length)/\∃ o,ρ=[o,k0c s,some (.sh (.int (xr η p))),k0a η])
  (by
   rintro q qs ρ ⟨N,o,rfl⟩
   exact⟨_,rfl,Y q (N q (by simp)),fun _=>rfl,fun r hr=>N r (by simp[hr]),_,rfl⟩) _ _ [] ⟨fun q N=>by
    obtain⟨j,Z,rfl⟩:=List.mem_map.mp N
    have:=List.mem_range.mp Z
    omega,_,rfl⟩ (x6 (by simp;omega)),nil_append]
 rfl
theorem G5 (η:List Int)(s:Int)(hr:η.length<=300):yy7 [.lst (η.map .int),.int s]=some (.sh (.tup [.lst (((List.range η.length).map (abv η s true)).map L),.lst (((List.range η.length).map (abv η s false)).map L)])):=by
 unfold yy7 ya6
 refine zo4 ?_
 have a1:=l6
 have U:0<=sizeLine:=Nat.zero_le _
 have i2:2<=sizeLine:=x6 (by decide)
 refine l9 (ρ':=[k0a η,k0c s,some (.own []),none,none,none]) (by unfold c7;rw[v4 y0 U];rfl) ?_
 refine l9 (ρ':=zv3 η s [] [] none none) (by unfold c7;rw[v4 y0 U];rfl) ?_
 have ee:u8 zq2 (z4 (mvar 0) anil) (zv3 η s [] [] none none)=some ((List.range η.length).map fun(i:Nat)=>D.tup [.int (i:Int),.int (xr η i)]):=by
  unfold u8
  rw[z5 (x:=mvar 0) (d:=.lst (η.map .int)) rfl y0,Option.bind_some]
  show some (J4 0 (η.map .int))=_
  rw[J3]
  congr 1
  apply map_congr_left
  intro i _
  rw[Nat.zero_add]
 refine D7 (D8 η.length (f:=fun(i:Nat)=>D.tup [.int (i:Int),.int (xr η i)]) ee
  (I:=fun j ρ=>∃ O N,ρ=zv3 η s ((List.range j).map (abv η s true)) ((List.range j).map (abv η s false)) O N) _ ⟨_,_,rfl⟩ ?_ ?_)
 .rintro j ρ hj ⟨O,N,rfl⟩
  refine⟨zv3 η s ((List.range j).map (abv η s true)) ((List.range j).map (abv η s false)) (k0b j) (some (.sh (.int (xr η j)))),rfl,?_⟩
  unfold zi5
  have Y:∀ q:Nat,q<η.length->mix (bvar 3) (mvar 0) [some (.sh (dN q)),k0c s,some (.sh (.int (xr η j))),k0a η]=some (.int (xr η q)):=fun q z=>l4 rfl rfl (J6 η q z)
  have c1:=zi7 η s true j hr hj ((List.range j).map (abv η s true)) ((List.range j).map (abv η s false)) (w6 (m2 geD (m2 subD (mix (bvar 3) (mvar 0)) (mvar 2)) (mvar 1))) (fun q z=>by
   rw[zz9 ((u5 (Y q z) rfl).trans (show subD (.int (xr η q)) (.int (xr η j))=some (.int (xr η q-xr η j))from rfl)) rfl]
   unfold far;simp)
  have c2:=zi7 η s false j hr hj ((List.range (j+1)).map (abv η s true)) ((List.range j).map (abv η s false)) (w6 (m2 geD (m2 subD (mvar 2) (mix (bvar 3) (mvar 0))) (mvar 1))) (fun q z=>by
   rw[zz9 ((u5 (show mvar 2 _=some (.int (xr η j))from rfl) (Y q z)).trans (show subD (.int (xr η j)) (.int (xr η q))=some (.int (xr η j-xr η q))from rfl)) rfl]
   unfold far;simp)
  have G:∀(ρ:Ro)(i:Nat)(M:List (List Nat))(m:ML)(l:List Nat),ρ[i]? =some (some (.own (M.map L)))->m ρ=some (l.map dN)->M.length<sizeLine->mapp i (mlst m) ρ=some (.nx (ρ.set i (some (.own ((M++[l]).map L))))):=by
   intro ρ i M m l h1 h2 Z
   unfold mapp
   rw[h1,u7 h2]
   show (some (D.lst (l.map dN))).bind (fun d=>if (M.map L).length<sizeLine then some (Out.nx (ρ.set i (some (.own (M.map L++[d])))))else none)=_
   rw[Option.bind_some,if_pos (by rw[length_map];exact Z),map_append]
   rfl
  refine l9 (ρ':=zv3 η s ((List.range (j+1)).map (abv η s true)) ((List.range j).map (abv η s false)) (k0b j) (some (.sh (.int (xr η j))))) ?_ ?_
  .rw[G _ 2 _ _ _ rfl c1 (by simp;omega),<-zk2]
   rfl
  .refine⟨_,G _ 3 _ _ _ rfl c2 (by simp;omega),?_⟩
   rw[<-zk2]
   exact⟨_,_,rfl⟩
 .rintro ρ ⟨O,N,rfl⟩
  unfold zi4
  refine U7 (ds:=((List.range η.length).map (abv η s false)).map L) rfl (U7 (ds:=((List.range η.length).map (abv η s true)).map L) rfl ⟨_,S5 (V5 (z5 (d:=.lst (((List.range η.length).map (abv η s true)).map L)) rfl (z5 (d:=.lst (((List.range η.length).map (abv η s false)).map L)) rfl y0)) i2),rfl⟩)
end
section
open PySem L2
theorem yg1 {j:Int}(h:okR j=true):rngD [.int j]=some (M2 j.toNat):=by
 unfold rngD
 simp only[h,if_true]
theorem zr0:∀(j:List (List Nat))(b:List Nat),maxF (j.map L) (L b) (.int (b.length:Int))=some (L (fl j b))
 |[],b=>rfl
 |m::j,b=>by
  rw[map_cons]
  unfold maxF
  have e:N0 (L m)=some (.int (m.length:Int)):=by
   show some (D.int ((m.map dN).length:Int))=_
   rw[length_map]
  rw[e]
  show (match some (decide ((m.length:Int)>(b.length:Int)))with |some true=>_|some false=>_|none=>_)=_
  unfold fl
  by_cases h:b.length<m.length
  .rw[if_pos h,decide_eq_true (by omega)]
   exact zr0 j m
  .rw[if_neg h,decide_eq_false (by omega)]
   exact zr0 j b
theorem yd6 (j:List (List Nat)):maxD (j.map L) (.lst [])=some (L (flD j)):=by
 cases j with
 |nil=>rfl
 |cons m j=>
  show (match N0 (L m)with |some z=>maxF (j.map L) (L m) z|none=>none)=_
  have e:N0 (L m)=some (.int (m.length:Int)):=by
   show some (D.int ((m.map dN).length:Int))=_
   rw[length_map]
  rw[e]
  exact zr0 j m
theorem P9 (R:List (List Nat))(qs:List Nat)(z:qs.length<=1000)(j:∀ q∈qs,q<R.length):m_Z2 [.lst (R.map L),.lst (qs.map dN)]=some (.sh (L (flD (qs.map fun q=>R.getD q [])))):=by
 unfold m_Z2 b_Z2
 refine Z9 ?_
 have e1:h7 [none,some 0] (u0 (mvar 1)) (.nm 0) cyes (mix (bvar 1) (mvar 0)) (w8 2 [.lst (R.map L),.lst (qs.map dN)])=some ((qs.map fun q=>R.getD q []).map L):=by
  unfold h7
  rw[l7 (m:=mvar 1) (ds:=qs.map dN) rfl,Option.bind_some]
  refine(X3 (f:=dN) (G:=fun q=>L (R.getD q [])) (fun ks ρ=>(∀ q∈ks,q<R.length)/\∃ o,ρ=[o,some (.sh (.lst (R.map L)))]) (by
   rintro q ks ρ ⟨h,o,rfl⟩
   exact⟨[some (.sh (dN q)),some (.sh (.lst (R.map L)))],rfl,rfl,l4 (m:=bvar 1) rfl rfl (at_L R q (h q (by simp))),fun r hr=>h r (by simp[hr]),_,rfl⟩) qs _ [] ⟨j,none,rfl⟩ (x6 (by simp;omega))).trans ?_
  rw[nil_append,map_map]
  rfl
 unfold mret
 rw[zg3 e1 (u7 (v4 y0 (Nat.zero_le _))),yd6]
 rfl
theorem yb9 {i:Nat}{m:ME}{ρ:Ro}{ds:List D}{d:D}(h:ρ[i]? =some (some (.own ds)))(h2:m (ρ.set i (some (.sh (.lst ds))))=some d)(j:ys7 ds d=true):zs9 i m ρ=some d:=by
 unfold zs9
 rw[h]
 simp only[h2,j,if_true]
theorem yd0 (l:List Nat):zx7 (l.map dN)=true:=by
 induction l with
 |nil=>rfl
 |cons a l j=>exact j
theorem xy3 (R:List (List Nat))(l:List Nat)(h:R≠[]):ys7 (R.map L) (L l)=true:=by
 cases R with
 |nil=>exact absurd rfl h
 |cons a R=>
  show (zx7 (l.map dN)&&true)=true
  rw[yd0];rfl
theorem D6 {i:Nat}{z v:ME}{ρ:Ro}{A:List (List Nat)}{l:List Nat}{p:Nat}(h:ρ[i]? =some (some (.own (A.map L))))(hi:z ρ=some (.int (p:Int)))(hv:v ρ=some (L l))(hp:p<A.length):V7 i z v ρ=some (.nx (ρ.set i (some (.own ((A.set p l).map L))))):=by
 unfold V7
 rw[hv,h,hi]
 show ((ixN (A.map L).length (p:Int)).map fun j=>Out.nx (ρ.set i (some (.own ((A.map L).set j (L l))))))=_
 rw[length_map,yc0 _ _ hp]
 show some (Out.nx _)=_
 rw[map_set]
theorem ek (l:List Nat):shOf (P8 [L l])=some (Ky l):=by rw[xt8];rfl
theorem yj5 {x y:ME}{ρ:Ro}{a b:List Nat}(h1:x ρ=some (L a))(h2:y ρ=some (L b)):K2 (fun d=>shOf (P8 [d])) (z4 x (z4 y anil)) ρ=some (L (if n4 b a=true then b else a)):=by
 rw[yz7 (z5 h1 (z5 h2 y0))]
 show (match shOf (P8 [L a])with |some j=>minF _ [L b] (L a) j|none=>none)=_
 rw[ek a]
 show minF (fun d=>shOf (P8 [d])) [L b] (L a) (Ky a)=_
 unfold minF
 simp only[ek b,yi0 b a]
 cases n4 b a <;> simp[minF]
noncomputable abbrev RI (r:List Int):D:=.lst (r.map .int)
noncomputable def Ab (η:List Int)(s:Int)(d:Bool):List (List Nat):=(List.range η.length).map (abv η s d)
noncomputable abbrev SP (η:List Int)(s:Int):D:=.tup [.lst ((Ab η s true).map L),.lst ((Ab η s false).map L)]
theorem ys1 (η:List Int)(s:Int)(d:Bool):(Ab η s d).length=η.length:=by unfold Ab;simp
theorem xp7 (η:List Int)(s:Int)(d:Bool)(p:Nat)(h:p<η.length):(Ab η s d).getD p []=abv η s d p:=by
 unfold Ab
 rw[getD_eq_getElem?_getD,getElem?_map,getElem?_range h];rfl
theorem ym8 (η:List Int)(s:Int)(d:Bool)(p:Nat):(abv η s d p).Pairwise (·<·):=by
 unfold abv
 refine List.Pairwise.filter _ ?_
 rw[pairwise_map]
 exact(pairwise_lt_range).imp fun h=>by omega
abbrev BS (η:List Int)(s:Int)(t:Nat)(d:Bool)(p:Nat):List Nat->Prop:=Best (FS (xr η) η.length s t d p)
abbrev BR (η:List Int)(s:Int)(t:Nat)(d:Bool)(p:Nat):List Nat->Prop:=Best (FR (xr η) η.length s t d p)
theorem BS.len {η:List Int}{s:Int}{t:Nat}{d:Bool}{p:Nat}{l:List Nat}(h:BS η s t d p l):l.length<=η.length:=by
 obtain⟨a,m,rfl⟩:=h.1
 have:=a.len
 simp;omega
def Few (η:List Int)(s:Int)(t:Nat)(U V:List (List Nat)):Prop:=U.length=η.length/\V.length=η.length/\∀ q,q<η.length->(t=0/\U.getD q []=[]/\V.getD q []=[])\/∃ u,t=u+1/\BS η s u true q (U.getD q [])/\BS η s u false q (V.getD q [])
theorem zw7 {η:List Int}{s:Int}{t:Nat}{d:Bool}{q:Nat}{a b:List Nat}(ha:BS η s t d q a)(j:(t=0/\b=[])\/∃ u,t=u+1/\BS η s u (!d) q b):BR η s t d q (if n4 b a=true then b else a):=by
 rcases j with⟨G,rfl⟩|⟨u,G,j⟩
 .have hne:a≠[]:=by
   obtain⟨_,m,e⟩:=ha.1
   rw[e];simp
  rw[zu6 a hne]
  simp only[Bool.false_eq_true,if_false]
  refine ha.iff fun m=>⟨fun h=>⟨.inl h.1,h.2⟩,fun h=>⟨?_,h.2⟩⟩
  rcases h.1 with z|⟨u,e,_⟩
  .exact z
  .omega
 .refine ym6 ha j rfl fun l=>?_
  constructor
  .rintro⟨z|⟨v,e,z⟩,hd⟩
   .exact .inl ⟨z,hd⟩
   .have:v=u:=by omega
    subst this
    exact .inr ⟨z,hd⟩
  .rintro(⟨z,hd⟩|⟨z,hd⟩)
   .exact⟨.inl z,hd⟩
   .exact⟨.inr ⟨u,G,z⟩,hd⟩
noncomputable def envT (η:List Int)(s:Int)(fU fV U V R G:List (List Nat))(o:Option S):Ro:=
 [some (.sh (SP η s)),some (.sh (.tup [.lst (fU.map L),.lst (fV.map L)])),some (.sh (.lst ((Ab η s true).map L))),some (.sh (.lst ((Ab η s false).map L))),some (.sh (.lst (fU.map L))),some (.sh (.lst (fV.map L))),some (.own (U.map L)),some (.own (V.map L)),some (.own (R.map L)),some (.own (G.map L)),o]
structure Tnd (η:List Int)(s:Int)(t p:Nat)(U V R G:List (List Nat)):Prop where
 lU:U.length=η.length
 lV:V.length=η.length
 lR:R.length=η.length
 lG:G.length=η.length
 at':∀ q,p<=q->q<η.length->BS η s t true q (U.getD q [])/\BS η s t false q (V.getD q [])/\BR η s t true q (R.getD q [])/\BR η s t false q (G.getD q [])
theorem ze5 {η:List Int}{s:Int}{t p:Nat}{O j U V R G:List (List Nat)}{o:Option S}(hr:η.length<=300)(hp:p<η.length)(hf:Few η s t O j)(h:Tnd η s t (p+1) U V R G):
  ∃ U' V' R' G',zp1 (envT η s O j U V R G (k0b p))=some (.nx (envT η s O j U' V' R' G' (k0b p)))/\Tnd η s t p U' V' R' G':=by
 have i1:0+1<=sizeLine:=x6 (by decide)
 have a1:∀(d:Bool)(T:List (List Nat)),T.length=η.length->(∀ q,p+1<=q->q<η.length->BR η s t d q (T.getD q []))->BS η s t d p (p::flD ((abv η s d p).map fun q=>T.getD q [])):=fun d T hT hb=>
  yt0 hp (fun q=>abv_mem) (ym8 η s d p) fun q N=>by
   obtain⟨a,b,_⟩:=abv_mem.mp N
   exact hb q a b
 have ab:∀(d:Bool),∀ q∈abv η s d p,q<η.length:=fun d q N=>(abv_mem.mp N).2.1
 have bU:=a1 true R h.lR fun q a b=>(h.at' q a b).2.2.1
 have bV:=a1 false G h.lG fun q a b=>(h.at' q a b).2.2.2
 generalize eU:flD ((abv η s true p).map fun q=>R.getD q [])=u at bU
 generalize eV:flD ((abv η s false p).map fun q=>G.getD q [])=v at bV
 have lu:u.length+1<=η.length:=by have:=bU.len;simpa using this
 have lv:v.length+1<=η.length:=by have:=bV.len;simpa using this
 obtain⟨f1,f2,f3⟩:=hf
 have jU:=zw7 (b:=j.getD p []) bU (by
  rcases f3 p hp with⟨a,_,b⟩|⟨w,a,_,b⟩
  .exact .inl ⟨a,b⟩
  .exact .inr ⟨w,a,b⟩)
 have jV:=zw7 (b:=O.getD p []) bV (by
  rcases f3 p hp with⟨a,b,_⟩|⟨w,a,b,_⟩
  .exact .inl ⟨a,b⟩
  .exact .inr ⟨w,a,b⟩)
 have a3:R≠[]:=fun z=>by have:=h.lR;rw[z]at this;simp at this;omega
 have a5:G≠[]:=fun z=>by have:=h.lG;rw[z]at this;simp at this;omega
 refine⟨U.set p (p::u),V.set p (p::v),R.set p (if n4 (j.getD p []) (p::u)=true then j.getD p []else p::u),G.set p (if n4 (O.getD p []) (p::v)=true then O.getD p []else p::v),?_,?_⟩
 .unfold zp1
  have Y:∀(ρ:Ro)(i k:Nat)(d:Bool)(T:List (List Nat)),ρ[i]? =some (some (.own (T.map L)))->i≠10->i≠k->k≠10->i<11->ρ.length=11->ρ[k]? =some (some (.sh (.lst ((Ab η s d).map L))))->ρ[10]? =some (k0b p)->T.length=η.length->T≠[]->
    u0 (zs9 i (a8 m_Z2 (z4 (mvar i) (z4 (mix (bvar k) (mvar 10)) anil)))) ρ=some ((flD ((abv η s d p).map fun q=>T.getD q [])).map dN):=by
   intro ρ i k d T hi Z a4 a6 a7 hl hk a2 lT hT
   refine l7 (yb9 hi ?_ (xy3 T _ hT))
   have g1:mvar i (ρ.set i (some (.sh (.lst (T.map L)))))=some (.lst (T.map L)):=by
    unfold mvar
    rw[getElem?_set_self (by omega)]
   have g2:mix (bvar k) (mvar 10) (ρ.set i (some (.sh (.lst (T.map L)))))=some (L (abv η s d p)):=by
    refine l4 (ds:=(Ab η s d).map L) (k:=(p:Int)) ?_ ?_ ?_
    .unfold bvar;rw[getElem?_set_ne a4,hk]
    .unfold mvar;rw[getElem?_set_ne Z,a2]
    .rw[at_L _ p (by rw[ys1];exact hp),xp7 η s d p hp]
   exact d4 (z5 g1 (z5 g2 y0)) (P9 T (abv η s d p) (by have:=xz3 η s d p;omega) fun q N=>by have:=ab d q N;omega)
  have put:∀(ρ:Ro)(m:ML)(w:List Nat),ρ[10]? =some (k0b p)->m ρ=some (w.map dN)->w.length+1<=η.length->mlst (mcat (w5 (z4 (mvar 10) anil)) m) ρ=some (L (p::w)):=by
   intro ρ m w Z hm hw
   have g:mvar 10 ρ=some (.int (p:Int)):=by unfold mvar;rw[Z]
   rw[u7 (A3 (v4 (z5 g y0) i1) hm (by rw[length_map,length_singleton];exact x6 (by omega)))]
   rfl
  refine seqI (ρ':=envT η s O j (U.set p (p::u)) V R G (k0b p)) ?_ (seqI (ρ':=envT η s O j (U.set p (p::u)) (V.set p (p::v)) R G (k0b p)) ?_ (seqI (ρ':=envT η s O j (U.set p (p::u)) (V.set p (p::v)) (R.set p (if n4 (j.getD p []) (p::u)=true then j.getD p []else p::u)) G (k0b p)) ?_ ?_))
  .exact D6 (A:=U) rfl rfl (put _ _ u rfl (by rw[Y _ 8 2 true R rfl (by decide) (by decide) (by decide) (by decide) rfl rfl rfl h.lR a3,eU]) lu) (by rw[h.lU];exact hp)
  .exact D6 (A:=V) rfl rfl (put _ _ v rfl (by rw[Y _ 9 3 false G rfl (by decide) (by decide) (by decide) (by decide) rfl rfl rfl h.lG a5,eV]) lv) (by rw[h.lV];exact hp)
  .refine D6 (A:=R) rfl rfl (yj5 (a:=p::u) (b:=j.getD p []) ?_ ?_) (by rw[h.lR];exact hp)
   .exact l4 (m:=bvar 6) rfl rfl ((at_L (U.set p (p::u)) p (by rw[length_set,h.lU];exact hp)).trans (by rw[i4 _ _ _ (by rw[h.lU];exact hp)]))
   .exact l4 (m:=bvar 5) rfl rfl (at_L j p (by rw[f2];exact hp))
  .refine D6 (A:=G) rfl rfl (yj5 (a:=p::v) (b:=O.getD p []) ?_ ?_) (by rw[h.lG];exact hp)
   .exact l4 (m:=bvar 7) rfl rfl ((at_L (V.set p (p::v)) p (by rw[length_set,h.lV];exact hp)).trans (by rw[i4 _ _ _ (by rw[h.lV];exact hp)]))
   .exact l4 (m:=bvar 4) rfl rfl (at_L O p (by rw[f1];exact hp))
 .refine⟨by rw[length_set];exact h.lU,by rw[length_set];exact h.lV,by rw[length_set];exact h.lR,by rw[length_set];exact h.lG,fun q h1 h2=>?_⟩
  by_cases N:p=q
  .subst N
   rw[i4 _ _ _ (by rw[h.lU];exact hp),i4 _ _ _ (by rw[h.lV];exact hp),i4 _ _ _ (by rw[h.lR];exact hp),i4 _ _ _ (by rw[h.lG];exact hp)]
   exact⟨bU,bV,jU,jV⟩
  .rw[X7 _ _ _ _ N,X7 _ _ _ _ N,X7 _ _ _ _ N,X7 _ _ _ _ N]
   exact h.at' q (by omega) h2
theorem yz3 (n:Nat)(hn:n<=300)(ρ:Ro)(m:ML)(ds:List D)(hm:m ρ=some ds)(hd:ds.length=n):mrep (w5 (z4 (mlst (w5 anil)) anil)) (mlen m) ρ=some ((List.replicate n ([]:List Nat)).map L):=by
 have i1:0+1<=sizeLine:=x6 (by decide)
 have j:=l6
 rw[yz6 (ds:=[.lst []]) (k:=(n:Int)) (v4 (z5 (u7 (v4 y0 (Nat.zero_le _))) y0) i1) (by rw[Y0 hm,hd]) (by unfold G2;simp only[Bool.and_eq_true,decide_eq_true_eq,length_singleton];omega),Int.toNat_natCast]
 congr 1
 rw[map_replicate,flatten_replicate_singleton]
 rfl
theorem zd6 (n q:Nat):(List.replicate n ([]:List Nat)).getD q []=[]:=by
 rw[getD_eq_getElem?_getD,getElem?_replicate]
 split <;> rfl
theorem W3 {η:List Int}{s:Int}{t:Nat}{N z:List (List Nat)}(hr:η.length<=300)(hf:Few η s t N z):
  ∃ U V,m_Z5 [SP η s,.tup [.lst (N.map L),.lst (z.map L)]]=some (.sh (.tup [.lst (U.map L),.lst (V.map L)]))/\Few η s (t+1) U V:=by
 suffices h:Run b_Z5 (w8 11 [SP η s,.tup [.lst (N.map L),.lst (z.map L)]]) (fun o=>∃ U V:List (List Nat),o= .rt (.tup [.lst (U.map L),.lst (V.map L)])/\Few η s (t+1) U V)by
  obtain⟨o,e,U,V,rfl,r⟩:=h
  exact⟨U,V,Z9 e,r⟩
 unfold b_Z5
 have Y:okR (η.length:Int)=true:=X0 (by omega) (by omega)
 have i2:2<=sizeLine:=x6 (by decide)
 refine l9 (ρ':=[some (.sh (SP η s)),some (.sh (.tup [.lst (N.map L),.lst (z.map L)])),some (.sh (.lst ((Ab η s true).map L))),some (.sh (.lst ((Ab η s false).map L))),none,none,none,none,none,none,none]) rfl ?_
 refine l9 (ρ':=[some (.sh (SP η s)),some (.sh (.tup [.lst (N.map L),.lst (z.map L)])),some (.sh (.lst ((Ab η s true).map L))),some (.sh (.lst ((Ab η s false).map L))),some (.sh (.lst (N.map L))),some (.sh (.lst (z.map L))),none,none,none,none,none]) rfl ?_
 have O:∀(i:Nat)(ρ:Ro),bvar 2 ρ=some ((Ab η s true).map L)->c7 i (mrep (w5 (z4 (mlst (w5 anil)) anil)) (mlen (bvar 2))) ρ=some (.nx (ρ.set i (some (.own ((List.replicate η.length ([]:List Nat)).map L))))):=fun i ρ hb=>by
  unfold c7
  rw[yz3 η.length hr ρ (bvar 2) _ hb (by rw[length_map,ys1])]
  rfl
 refine l9 (O 6 _ rfl) (l9 (O 7 _ rfl) (l9 (O 8 _ rfl) (l9 (ρ':=envT η s N z (List.replicate η.length []) (List.replicate η.length []) (List.replicate η.length []) (List.replicate η.length []) none) (O 9 _ rfl) ?_)))
 have ed:M2 η.length=(List.range η.length).map fun(j:Nat)=>D.int ((η.length:Int)-1-(j:Int)):=rfl
 refine D7 (D8 η.length (f:=fun(j:Nat)=>D.int ((η.length:Int)-1-(j:Int))) ?_
  (I:=fun j ρ=>∃ U V R G o,Tnd η s t (η.length-j) U V R G/\ρ=envT η s N z U V R G o) _
  ⟨_,_,_,_,_,⟨by simp,by simp,by simp,by simp,fun q h1 h2=>by omega⟩,rfl⟩ ?_ ?_)
 .unfold u8
  rw[z5 (x:=mlen (bvar 2)) (d:=.int (((Ab η s true).map L).length:Int)) (Y0 rfl) y0,Option.bind_some,length_map,ys1,yg1 Y,Int.toNat_natCast,ed]
 .rintro j ρ hj ⟨U,V,R,G,o,h,rfl⟩
  have e:(η.length:Int)-1-(j:Int)=((η.length-1-j:Nat):Int):=by omega
  rw[e]
  refine⟨envT η s N z U V R G (some (.sh (.int ((η.length-1-j:Nat):Int)))),rfl,?_⟩
  have e2:η.length-1-j+1=η.length-j:=by omega
  obtain⟨U',V',R',G',eb,hT⟩:=ze5 (o:=o) hr (show η.length-1-j<η.length by omega) hf (by rw[e2];exact h)
  exact⟨_,eb,U',V',R',G',_,by rw[show η.length-(j+1)=η.length-1-j by omega];exact hT,rfl⟩
 .rintro ρ ⟨U,V,R,G,o,h,rfl⟩
  rw[Nat.sub_self]at h
  unfold yt2
  refine U7 (ds:=U.map L) rfl (U7 (ds:=V.map L) rfl ⟨_,S5 (V5 (z5 (d:=.lst (U.map L)) rfl (z5 (d:=.lst (V.map L)) rfl y0)) i2),U,V,rfl,h.lU,h.lV,fun q Z=>?_⟩)
  obtain⟨a,b,_⟩:=h.at' q (Nat.zero_le _) Z
  exact .inr ⟨t,rfl,a,b⟩
end
section
open PySem L2
end
section
open PySem L2
theorem zm2 (η:List Int)(s:Int):Few η s 0 (List.replicate η.length []) (List.replicate η.length []):=
 ⟨by simp,by simp,fun q _=>.inl ⟨rfl,zd6 _ _,zd6 _ _⟩⟩
noncomputable abbrev TP2 (U V:List (List Nat)):D:=.tup [.lst (U.map L),.lst (V.map L)]
theorem zs4 (η:List Int)(hr:η.length<=300):yo2 [RI η]=some (.sh (TP2 (List.replicate η.length []) (List.replicate η.length []))):=by
 unfold yo2 ya1
 have i2:2<=sizeLine:=x6 (by decide)
 have e:=yz3 η.length hr (w8 1 [RI η]) (bvar 0) _ rfl (by rw[length_map])
 exact Z9 (S5 (V5 (z5 (u7 e) (z5 (u7 e) y0)) i2))
abbrev BT (η:List Int)(s:Int)(t:Nat):List Nat->Prop:=Best (Tn (xr η) η.length s t)
theorem U2 {η:List Int}{s:Int}{t:Nat}{U V:List (List Nat)}(hr:η.length<=300)(h:Few η s (t+1) U V):∃ l,m_Z9 [TP2 U V]=some (.sh (L l))/\BT η s t l:=by
 obtain⟨hU,hV,hd⟩:=h
 have hd:∀ q,q<η.length->BS η s t true q (U.getD q [])/\BS η s t false q (V.getD q []):=fun q G=>by
  rcases hd q G with⟨z,_⟩|⟨u,e,a,b⟩
  .omega
  .have:u=t:=by omega
   subst this
   exact⟨a,b⟩
 have j:∃ l,minD (fun d=>shOf (P8 [d])) ((U++V).map L) (.lst [])=some (L l)/\BT η s t l:=by
  cases hc:U++V with
  |nil=>
   have:η.length=0:=by
    have:=congrArg List.length hc
    rw[length_append,length_nil]at this
    omega
   exact⟨[],rfl,zq9 this⟩
  |cons b N=>
   obtain⟨r,e,h1,h2⟩:=B7 (mk:=fun d=>shOf (P8 [d])) ek N b
   refine⟨r,?_,?_⟩
   .show (match shOf (P8 [L b])with |some O=>minF _ (N.map L) (L b) O|none=>none)=_
    rw[ek b]
    exact e
   .rw[<-hc]at h1 h2
    have all:∀ m∈U++V,∃ d q,BS η s t d q m:=by
     intro m hm
     rcases List.mem_append.mp hm with h|h
     .obtain⟨q,G,rfl⟩:=zm8 h
      exact⟨true,q,(hd q (by omega)).1⟩
     .obtain⟨q,G,rfl⟩:=zm8 h
      exact⟨false,q,(hd q (by omega)).2⟩
    refine zf3 h1 h2 (fun m hm=>?_) (fun d p hp=>?_) ?_
    .obtain⟨d,q,h⟩:=all m hm
     exact .inr ⟨d,h.1.1⟩
    .cases d
     .exact⟨_,mem_append_right _ (zj3 (q:=p) (by omega)),(hd p hp).2⟩
     .exact⟨_,mem_append_left _ (zj3 (q:=p) (by omega)),(hd p hp).1⟩
    .obtain⟨d,q,h⟩:=all r h1
     intro z
     rw[z]at h
     exact h.1.1
 obtain⟨l,e,Z⟩:=j
 refine⟨l,?_,Z⟩
 unfold m_Z9 b_Z9
 refine zo4 (l9 (ρ':=[some (.sh (TP2 U V)),some (.sh (.lst (U.map L))),some (.sh (.lst (V.map L)))]) rfl ⟨_,?_,rfl⟩)
 have e1:u0 (m2 addD (mvar 1) (mvar 2)) [some (.sh (TP2 U V)),some (.sh (.lst (U.map L))),some (.sh (.lst (V.map L)))]=some ((U++V).map L):=by
  have Y:(U.map L).length+(V.map L).length<=sizeLine:=x6 (by simp;omega)
  refine l7 ?_
  unfold m2
  show (if (U.map L).length+(V.map L).length<=sizeLine then some (D.lst (U.map L++V.map L))else none)=_
  rw[if_pos Y,map_append]
 unfold mret
 rw[yp5 e1 (u7 (v4 y0 (Nat.zero_le _))),e]
 rfl
theorem yb8 {η:List Int}{s:Int}{t u:Nat}{l:List Nat}(h:BT η s t l)(e:∀ m,Tn (xr η) η.length s t m↔Tn (xr η) η.length s u m):BT η s u l:=h.iff e
theorem xy2 {η:List Int}{s:Int}(k:Nat)(m:List Nat):Tn (xr η) η.length s (min k η.length) m↔Tn (xr η) η.length s k m:=by
 constructor
 .exact fun h=>h.mono (Nat.min_le_left _ _)
 .intro h
  rcases Nat.le_total k η.length with z|z
  .rw[Nat.min_eq_left z];exact h
  .rw[Nat.min_eq_right z];exact h.all
theorem zh3 {η:List Int}{s:Int}(hr:η.length<=300){ρ:Ro}(j:mvar 0 ρ=some (RI η))(h1:mvar 1 ρ=some (.int s)):a8 yy7 (z4 (mvar 0) (z4 (mvar 1) anil)) ρ=some (SP η s):=
 d4 (z5 j (z5 h1 y0)) (G5 η s hr)
theorem R9 (η:List Int)(s:Int)(k:Nat)(hs:1<=s)(hr:η.length<=300):∃ l,m_Z0 [RI η,.int s,.int (k:Int)]=some (.sh (L l))/\BT η s k l:=by
 suffices h:Run b_Z0 (w8 6 [RI η,.int s,.int (k:Int)]) (fun o=>∃ l,o= .rt (L l)/\BT η s k l)by
  obtain⟨o,e,l,rfl,r⟩:=h
  exact⟨l,Z9 e,r⟩
 unfold b_Z0
 refine l9 (ρ':=[some (.sh (RI η)),k0c s,k0b k,none,none,none]) (yo0 (d4 (z5 (d:=.int s) rfl y0) (G3 s hs))) ?_
 refine l9 (ρ':=[some (.sh (RI η)),k0c s,k0b k,none,none,none]) (by rw[V9 (xy6 (i:=(k:Int)) (k:=0) rfl rfl),decide_eq_false (by omega)];rfl) ?_
 refine l9 (ρ':=[some (.sh (RI η)),k0c s,k0b k,some (.sh (SP η s)),none,none]) ((k9 (zh3 hr rfl rfl)).trans rfl) ?_
 refine l9 (ρ':=[some (.sh (RI η)),k0c s,k0b k,some (.sh (SP η s)),some (.sh (TP2 (List.replicate η.length []) (List.replicate η.length []))),none]) ((k9 (d4 (z5 (d:=RI η) rfl y0) (zs4 η hr))).trans rfl) ?_
 have G:okR ((min k η.length+1:Nat):Int)=true:=X0 (by omega) (by omega)
 have O:u8 rng1 (z4 (m2 addD (n5 B8 (z4 (mvar 2) (z4 (mlen (bvar 0)) anil))) (mc (.int 1))) anil) [some (.sh (RI η)),k0c s,k0b k,some (.sh (SP η s)),some (.sh (TP2 (List.replicate η.length []) (List.replicate η.length []))),none]=some ((List.range (min k η.length+1)).map dN):=by
  have e1:n5 B8 (z4 (mvar 2) (z4 (mlen (bvar 0)) anil)) [some (.sh (RI η)),k0c s,k0b k,some (.sh (SP η s)),some (.sh (TP2 (List.replicate η.length []) (List.replicate η.length []))),none]=some (.int ((min k η.length:Nat):Int)):=by
   unfold n5
   rw[z5 (d:=.int (k:Int)) rfl (z5 (Y0 (m:=bvar 0) (ds:=η.map .int) rfl) y0),length_map]
   have q:(if (η.length:Int)<(k:Int)then (η.length:Int)else (k:Int))=((min k η.length:Nat):Int):=by split <;> omega
   show some (D.int (if (η.length:Int)<(k:Int)then (η.length:Int)else (k:Int)))=_
   rw[q]
  unfold u8
  rw[z5 ((u5 e1 rfl).trans (show addD (.int ((min k η.length:Nat):Int)) (.int 1)=some (.int ((min k η.length+1:Nat):Int))from rfl)) y0,Option.bind_some,V1 G,Int.toNat_natCast,Y4,map_map]
  rfl
 refine D7 (D8 (min k η.length+1) (f:=dN) O
  (I:=fun j ρ=>∃ U V o,Few η s j U V/\ρ=[some (.sh (RI η)),k0c s,k0b k,some (.sh (SP η s)),some (.sh (TP2 U V)),o]) _ ⟨_,_,_,zm2 η s,rfl⟩ ?_ ?_)
 .rintro j ρ hj ⟨U,V,o,hf,rfl⟩
  obtain⟨Z,Y,e,z⟩:=W3 hr hf
  refine⟨[some (.sh (RI η)),k0c s,k0b k,some (.sh (SP η s)),some (.sh (TP2 U V)),some (.sh (dN j))],rfl,⟨_,(show yt3 _=_ from k9 (d4 (z5 (d:=SP η s) rfl (z5 (d:=TP2 U V) rfl y0)) e)),Z,Y,_,z,rfl⟩⟩
 .rintro ρ ⟨U,V,o,hf,rfl⟩
  obtain⟨l,e,N⟩:=U2 hr hf
  exact⟨_,S5 (d4 (z5 (d:=TP2 U V) rfl y0) e),l,rfl,yb8 N (xy2 k)⟩
end
section
open PySem L2
def Kt (η:List Int)(s:Int)(t k:Nat):Prop:=∃ l,BT η s t l/\l.length=k
structure Kpt (η:List Int)(s:Int)(ks:List Nat):Prop where
 pos:0<ks.length
 few:ks.length<=η.length+1
 at':∀ i,i<ks.length->Kt η s i (ks.getD i 0)
 last:∀ t k,Kt η s t k->k<=ks.getD (ks.length-1) 0
 less:∀ i,i+1<ks.length->ks.getD i 0<ks.getD (ks.length-1) 0
end
section
open PySem L2
theorem m8 {m:ME}{ρ:Ro}{d:D}(h:m ρ=some d):mpu m ρ=some (d,ρ):=by unfold mpu;rw[h]
theorem Z6 {m:ML}{ρ:Ro}{d:List D}(h:m ρ=some d):apu m ρ=some (d,ρ):=by unfold apu;rw[h]
theorem j8 {f:D->D->Option D}{x y:MEm}{ρ ρ1 j:Ro}{d e g:D}(h1:x ρ=some (d,ρ1))(h2:y ρ1=some (e,j))(z:f d e=some g):m2m f x y ρ=some (g,j):=by
 unfold m2m;rw[h1];simp only;rw[h2];simp only;rw[z]
theorem l5 {x:MEm}{r:MLm}{ρ ρ1 j:Ro}{d:D}{ds:List D}(h1:x ρ=some (d,ρ1))(h2:r ρ1=some (ds,j)):v6 x r ρ=some (d::ds,j):=by
 unfold v6;rw[h1];simp only;rw[h2]
theorem yp6 {m:MLm}{ρ ρ1:Ro}{ds:List D}(h:m ρ=some (ds,ρ1))(j:ds.length<=sizeLine):yz8 m ρ=some (.lst ds,ρ1):=by
 unfold yz8;rw[h];simp only[j,if_true]
theorem i8 {i:Nat}{x:MEm}{ρ ρ1:Ro}{d:D}(h:x ρ=some (d,ρ1)):V6 i x ρ=some (.nx (ρ1.set i (some (.sh d)))):=by unfold V6;rw[h]
theorem Z3 {i:Nat}{x:MEm}{ρ ρ1:Ro}{d:D}{p:Addr}{r:List D}(h:x ρ=some (d,ρ1))(h2:ρ1[i]? =some (some (.ob p r))):V8 i x ρ=some (.rg d p r):=by unfold V8;rw[h];simp only;rw[h2]
theorem zw3 {f:MG}{i:Nat}{m:MLm}{ρ ρ1:Ro}{p:Addr}{r0 r1 r2 ds:List D}{t:Rt}{d:D}(G:ρ[i]? =some (some (.ob p r2)))(h1:m ρ=some (ds,ρ1))(h2:ρ1[i]? =some (some (.ob p r0)))(z:f p r0 ds=some (t,r1))(j:rtD t=some d):y7 f i m ρ=some (d,ρ1.set i (some (.ob p r1))):=by
 unfold y7;rw[G];simp only;rw[h1];simp only;rw[h2];simp only;rw[z];simp only;rw[j]
theorem k0 {f:MG}{i:Nat}{m:MLm}{ρ ρ1:Ro}{r0 r1 r2 ds:List D}{t:Rt}{d:D}(G:ρ[i]? =some (some (.own r2)))(h1:m ρ=some (ds,ρ1))(h2:ρ1[i]? =some (some (.own r0)))(z:∀ p,f p r0 ds=some (t,r1))(j:rtD t=some d):y7 f i m ρ=some (d,ρ1.set i (some (.own r1))):=by
 unfold y7;rw[G];simp only;rw[h1];simp only;rw[h2];simp only;rw[ya9 z];simp only;rw[j]
theorem Z8 {n:Nat}{m:MS}{p:Addr}{r j ds:List D}{d:D}(h:m (R3 n p r ds)=some (.rg d p j)):runG n m p r ds=some (.sh d,j):=by unfold runG;rw[h];simp only[if_true]
noncomputable def RL (a b:Int):List D:=[.int a,.int b]
theorem at3 (x y z:Int)(k:Int)(j:0<=k)(h1:k<3):∃ w,atI [D.int x,.int y,.int z] k=some (.int w)/\(w=x\/w=y\/w=z):=by
 have:k=0\/k=1\/k=2:=by omega
 rcases this with h|h|h <;> subst h
 .exact⟨_,rfl,by simp⟩
 .exact⟨_,rfl,by simp⟩
 .exact⟨_,rfl,by simp⟩
end
section
open PySem L2
theorem v7 (c k m:Int)(h:0<m)(h2:m<1073741824):∃ x c' k',0<=x/\x<m/\∀ p,v3 p (RL c k) [.int m]=some (.sh (.int x),RL c' k'):=by
 have hp:((10:Int)^(18:Int).toNat)=10^18:=rfl
 have j:zc5 10 18=true:=by decide
 have U:∀ x y:Int,atI [D.int x,D.int y] 0=some (.int x):=fun _ _=>rfl
 have O:∀ x y:Int,atI [D.int x,D.int y] 1=some (.int y):=fun _ _=>rfl
 have G:ixN (0+1+1) 0=some 0:=rfl
 have z:ixN (0+1+1) 1=some 1:=rfl
 by_cases N:10^18<=c
 .refine⟨c % m,c / m,k+1,Int.emod_nonneg _ (by omega),Int.emod_lt_of_pos _ h,fun p=>?_⟩
  unfold v3
  refine Z8 ?_
  unfold ym7 R3 RL
  simp_arith [hp,j,U,O,N,decide_true,if_true,e7 c m h,J2 c m h h2,G,z,V8,mpu,set_cons_zero,set_cons_succ]
 .have q3:∀ i,G4 i 2147483647=true:=fun i=>e7 _ _ (by decide)
  have q4:∀ i,G4 i 2147483629=true:=fun i=>e7 _ _ (by decide)
  have Z:∀ i,G4 i 2147483587=true:=fun i=>e7 _ _ (by decide)
  have Y:∀ i,G4 i m=true:=fun i=>e7 _ _ h
  have f8:∀ i,E7 i 8=true:=fun i=>J2 _ _ (by decide) (by decide)
  have m1:∀ i,R8 i 69621=true:=fun i=>B5 _ _ (by decide) (by decide)
  have m2:∀ i,R8 i 7919=true:=fun i=>B5 _ _ (by decide) (by decide)
  have m3:∀ i,R8 i 48271=true:=fun i=>B5 _ _ (by decide) (by decide)
  have m4:∀ i,R8 i 40692=true:=fun i=>B5 _ _ (by decide) (by decide)
  have bb:=zw0 (x:=c*69621+(k+1)*7919+13) (show (0:Int)<2147483647 by decide)
  have m5:R8 ((c*69621+(k+1)*7919+13) % 2147483647) ((c*69621+(k+1)*7919+13) % 2147483647)=true:=zs5 _ _ (by omega) (by omega)
  refine⟨_,c,k+1,Int.emod_nonneg _ (by omega),Int.emod_lt_of_pos (((((c*69621+(k+1)*7919+13) % 2147483647)*((c*69621+(k+1)*7919+13) % 2147483647) % 2147483629)*48271+(k+1)*40692) % 2147483587 / 8) h,fun p=>?_⟩
  unfold v3
  refine Z8 ?_
  unfold ym7 R3 RL
  simp_arith [hp,j,U,O,N,decide_false,if_true,q3,q4,Z,Y,f8,m1,m2,m3,m4,m5,G,z,V8,mpu,set_cons_zero,set_cons_succ]
abbrev Nx (c k m x c' k':Int):Prop:=∀ p,v3 p (RL c k) [.int m]=some (.sh (.int x),RL c' k')
theorem t6 {p:Addr}{c k m x z j:Int}{e:ME}{tl:List (Option S)}(h:Nx c k m x z j)(G:e (some (.ob p (RL c k))::tl)=some (.int m)):y7 v3 0 (apu (z4 e anil)) (some (.ob p (RL c k))::tl)=some (.int x,some (.ob p (RL z j))::tl):=
 zw3 (ρ:=some (.ob p (RL c k))::tl) rfl (Z6 (z5 G y0)) rfl (h p) rfl
theorem G0 (c k kind:Int):∃ x c' k',∀ p,m_Z1 p (RL c k) [.int kind]=some (.sh (.int x),RL c' k'):=by
 have i2:0+1+1<=sizeLine:=x6 (by decide)
 have G:∀(p:Addr)(j:Int),w6 (m2 eqSD (mvar 1) (mc (.int j))) [some (.ob p (RL c k)),k0c kind]=some (kind==j):=fun p j=>by unfold w6 m2;rfl
 by_cases Y:kind=0
 .obtain⟨x,O,N,_,_,e⟩:=v7 c k 4 (by decide) (by decide)
  refine⟨x,O,N,fun p=>?_⟩
  unfold m_Z1 b_Z1
  refine Z8 (l0 (o:=.rg (.int x) p (RL O N)) ?_)
  show mif _ _ _ [some (.ob p (RL c k)),k0c kind]=_
  rw[V9 (G p 0),show (kind==0)=true by rw[Y];rfl]
  exact Z3 (t6 e rfl) rfl
 .have f0:(kind==0)=false:=beq_eq_false_iff_ne.mpr Y
  by_cases h1:kind=1
  .obtain⟨x,O,N,_,_,e⟩:=v7 c k 21 (by decide) (by decide)
   refine⟨x-10,O,N,fun p=>?_⟩
   unfold m_Z1 b_Z1
   refine Z8 (seqI (ρ':=[some (.ob p (RL c k)),k0c kind]) ?_ (l0 (o:=.rg (.int (x-10)) p (RL O N)) ?_))
   .show mif _ _ _ [some (.ob p (RL c k)),k0c kind]=_
    rw[V9 (G p 0),f0];rfl
   .rw[V9 (G p 1),show (kind==1)=true by rw[h1];rfl]
    exact Z3 (j8 (t6 e rfl) (m8 (d:=.int 10) rfl) rfl) rfl
  .have f1:(kind==1)=false:=beq_eq_false_iff_ne.mpr h1
   by_cases h2:kind=2
   .obtain⟨x,O,N,_,_,e⟩:=v7 c k 1001 (by decide) (by decide)
    refine⟨x-500,O,N,fun p=>?_⟩
    unfold m_Z1 b_Z1
    refine Z8 (seqI (ρ':=[some (.ob p (RL c k)),k0c kind]) ?_ (seqI (ρ':=[some (.ob p (RL c k)),k0c kind]) ?_ (l0 (o:=.rg (.int (x-500)) p (RL O N)) ?_)))
    .show mif _ _ _ [some (.ob p (RL c k)),k0c kind]=_
     rw[V9 (G p 0),f0];rfl
    .rw[V9 (G p 1),f1];rfl
    .rw[V9 (G p 2),show (kind==2)=true by rw[h2];rfl]
     exact Z3 (j8 (t6 e rfl) (m8 (d:=.int 500) rfl) rfl) rfl
   .have f2:(kind==2)=false:=beq_eq_false_iff_ne.mpr h2
    obtain⟨x,O,N,l1,u1,e⟩:=v7 c k 2 (by decide) (by decide)
    obtain⟨y,c2,k2,l2,u2,e2⟩:=v7 O N 1000 (by decide) (by decide)
    obtain⟨z,hz,a1⟩:∃ z,atI [D.int (-1),.int 1] x=some (.int z)/\(z= -1\/z=1):=by
     have:x=0\/x=1:=by omega
     rcases this with h|h <;> subst h
     .exact⟨_,rfl,by simp⟩
     .exact⟨_,rfl,by simp⟩
    have Z:R8 z (100000000000000000000000000000+y)=true:=zs5 _ _ (by omega) (by omega)
    refine⟨z*(100000000000000000000000000000+y),c2,k2,fun p=>?_⟩
    unfold m_Z1 b_Z1
    refine Z8 (seqI (ρ':=[some (.ob p (RL c k)),k0c kind]) ?_ (seqI (ρ':=[some (.ob p (RL c k)),k0c kind]) ?_ (seqI (ρ':=[some (.ob p (RL c k)),k0c kind]) ?_ ?_)))
    .show mif _ _ _ [some (.ob p (RL c k)),k0c kind]=_
     rw[V9 (G p 0),f0];rfl
    .rw[V9 (G p 1),f1];rfl
    .rw[V9 (G p 2),f2];rfl
    .have p29:(10:Int)^(29:Int).toNat=100000000000000000000000000000:=by decide
     have U:zc5 10 29=true:=by decide
     refine Z3 (j8 (j8 (m8 (u7 (v4 (z5 (d:=.int (-1)) rfl (z5 (d:=.int 1) rfl y0)) i2))) (t6 e rfl) (g:=.int z) hz) (j8 (m8 (d:=.int 100000000000000000000000000000) ?_) (t6 e2 rfl) (g:=.int (100000000000000000000000000000+y)) rfl) ?_) rfl
     .simp_arith [p29,U,if_true]
     .show (if R8 _ _=true then _ else none)=_
      rw[if_pos Z]
end
section
open PySem L2
theorem P7 {src:List (Option Nat)}{G:ML}{i j:Nat}{z:MEm}{ρ ρb:Ro}{rr:Addr}{r0 r1 its out:List D}(O:ρ[i]? =some (some (.ob rr r0)))(h1:G ρ=some its)(h2:j9 z its ((Y3 src ρ).set j (some (.own r0))) []=some (out,ρb))(N:ρb[j]? =some (some (.own r1))):U0 src G i j z ρ=some (.lst out,ρ.set i (some (.ob rr r1))):=by
 unfold U0
 rw[O];simp only;rw[h1];simp only;rw[h2];simp only;rw[N]
theorem E4 (kind:Int):∀(its:List Int)(c k:Int)(o:Option S)(acc:List Int),acc.length+its.length<=1000->∃(f:List Int)(z j:Int)(o':Option S),f.length=acc.length+its.length/\
  j9 (y7 m_Z1 1 (apu (z4 (mvar 2) anil))) (its.map .int) [o,some (.own (RL c k)),k0c kind] (acc.map .int)=some (f.map .int,[o',some (.own (RL z j)),k0c kind])
 |[],c,k,o,acc,_=>⟨acc,c,k,o,by simp,rfl⟩
 |i::its,c,k,o,acc,h=>by
  obtain⟨x,N,G,e⟩:=G0 c k kind
  obtain⟨f,z,j,o',U,e2⟩:=E4 kind its N G (k0c i) (acc++[x]) (by simp at h ⊢;omega)
  refine⟨f,z,j,o',by rw[U];simp;omega,?_⟩
  rw[map_cons,j9]
  have e3:y7 m_Z1 1 (apu (z4 (mvar 2) anil)) [k0c i,some (.own (RL c k)),k0c kind]=some (.int x,[k0c i,some (.own (RL N G)),k0c kind]):=
   k0 (r0:=RL c k) (r2:=RL c k) rfl (Z6 (z5 (d:=.int kind) rfl y0)) rfl e rfl
  show (match y7 m_Z1 1 (apu (z4 (mvar 2) anil)) [k0c i,some (.own (RL c k)),k0c kind]with |some (x,ρ1)=>if (acc.map D.int).length<sizeLine then j9 _ (its.map .int) ρ1 (acc.map D.int++[x])else none|none=>none)=_
  rw[e3]
  have O:(acc.map D.int).length<sizeLine:=by
   have:=l6
   rw[length_map];simp at h;omega
  simp only[O,if_true]
  rw[map_append]at e2
  exact e2
theorem yx7 (f:List Int):O3 (f.map .int)=some f:=K6 f
noncomputable def envW (p:Addr)(c k most kind many:Int)(f:List Int)(o5:Option S):Ro:=[some (.ob p (RL c k)),k0c most,k0c kind,k0c many,k0a f,o5]
theorem Q9 {p:Addr}{c k z kind many sh j:Int}{f g:List Int}{E:ME}(N:sh=j->E (envW p c k z kind many f (k0c sh))=some (.lst (g.map .int))):
  mif (w6 (m2 eqSD (mvar 5) (mc (.int j)))) (mset 4 E) h6 (envW p c k z kind many f (k0c sh))=some (.nx (envW p c k z kind many (if sh=j then g else f) (k0c sh))):=by
 have G:w6 (m2 eqSD (mvar 5) (mc (.int j))) (envW p c k z kind many f (k0c sh))=some (sh==j):=by unfold w6 m2;rfl
 rw[V9 G]
 by_cases h:sh=j
 .rw[show (sh==j)=true by rw[h];exact beq_self_eq_true _,if_pos h]
  exact(k9 (N h)).trans rfl
 .rw[beq_eq_false_iff_ne.mpr h,if_neg h];rfl
theorem zu9 (c k:Int)(j:Nat)(hm:j<60):∃(f:List Int)(c' k':Int),f.length<=j/\∀ p,m_Z7 p (RL c k) [.int (j:Int)]=some (.sh (.lst (f.map .int)),RL c' k'):=by
 have i2:0+1+1<=sizeLine:=x6 (by decide)
 have i3:0+1+1+1<=sizeLine:=x6 (by decide)
 obtain⟨kind,c1,k1,_,_,e1⟩:=v7 c k 4 (by decide) (by decide)
 obtain⟨w,c2,k2,l2,u2,e2⟩:=v7 c1 k1 3 (by decide) (by decide)
 obtain⟨m,a2,a6⟩:=at3 (min 4 ((j:Int)+1)) (min 9 ((j:Int)+1)) ((j:Int)+1) w l2 u2
 obtain⟨many,c3,Z,l3,u3,e3⟩:=v7 c2 k2 m (by omega) (by omega)
 obtain⟨n,rfl⟩:=xu9 l3
 obtain⟨f,c4,k4,o',hf,e4⟩:=E4 kind ((List.range n).map fun(i:Nat)=>(i:Int)) c3 Z none [] (by simp;omega)
 obtain⟨sh,Y,U,_,_,e5⟩:=v7 c4 k4 6 (by decide) (by decide)
 have a1:f.length=n:=by simpa using hf
 let N:List Int:=if sh=0 then O1 f else f
 have l1:N.length=n:=by
  show (if sh=0 then O1 f else f).length=n
  split
  .rw[N2,a1]
  .exact a1
 let g2:List Int:=(List.range N.length).map fun(i:Nat)=>N.getD i 0+(if (i:Int) % 2=0 then 7 else -7)
 let O:List Int:=if sh=1 then g2 else N
 have a5:O.length=n:=by
  show (if sh=1 then g2 else N).length=n
  split
  .show (List.map _ (List.range N.length)).length=n
   rw[length_map,length_range,l1]
  .exact l1
 let g3:List Int:=(List.replicate n (O.take 1)).flatten
 let f3:List Int:=if sh=2 then g3 else O
 have a4:f3.length<=n:=by
  show (if sh=2 then g3 else O).length<=n
  split
  .show (List.replicate n (O.take 1)).flatten.length<=n
   rw[length_flatten,map_replicate,sum_replicate_nat,length_take]
   exact Nat.le_trans (Nat.mul_le_mul_left n (Nat.min_le_left 1 _)) (by omega)
  .omega
 refine⟨f3,Y,U,by omega,fun p=>?_⟩
 unfold m_Z7 b_Z7
 refine Z8 ?_
 refine seqI (ρ':=[some (.ob p (RL c1 k1)),k0b j,k0c kind,none,none,none]) ((i8 (t6 (tl:=[k0b j,none,none,none,none]) e1 rfl)).trans rfl) ?_
 refine seqI (ρ':=[some (.ob p (RL c3 Z)),k0b j,k0c kind,k0b n,none,none]) ?_ ?_
 .have q1:w5 (z4 (n5 B8 (z4 (mc (.int 4)) (z4 (m2 addD (mvar 1) (mc (.int 1))) anil))) (z4 (n5 B8 (z4 (mc (.int 9)) (z4 (m2 addD (mvar 1) (mc (.int 1))) anil))) (z4 (m2 addD (mvar 1) (mc (.int 1))) anil))) [some (.ob p (RL c1 k1)),k0b j,k0c kind,none,none,none]=some [.int (min 4 ((j:Int)+1)),.int (min 9 ((j:Int)+1)),.int ((j:Int)+1)]:=by
   simp_arith [xt0,i3,if_true]
  refine(i8 (ρ1:=[some (.ob p (RL c3 Z)),k0b j,k0c kind,none,none,none]) (zw3 (ρ1:=[some (.ob p (RL c2 k2)),k0b j,k0c kind,none,none,none]) (p:=p) (r2:=RL c1 k1) rfl (l5 (j8 (m8 (u7 q1)) (t6 (tl:=[k0b j,k0c kind,none,none,none]) e2 rfl) (g:=.int m) a2) (Z6 y0)) rfl (e3 p) rfl)).trans rfl
 have kn:okR (n:Int)=true:=X0 (by omega) (by omega)
 refine seqI (ρ':=envW p c4 k4 j kind n f none) ?_ ?_
 .refine(i8 (P7 (ρ:=[some (.ob p (RL c3 Z)),k0b j,k0c kind,k0b n,none,none]) (rr:=p) (r0:=RL c3 Z) (r1:=RL c4 k4) rfl (its:=((List.range n).map fun(i:Nat)=>(i:Int)).map .int) ?_ (out:=f.map .int) (ρb:=[o',some (.own (RL c4 k4)),k0c kind]) e4 rfl)).trans rfl
  unfold u8
  rw[z5 (d:=.int (n:Int)) rfl y0,Option.bind_some,V1 kn,Int.toNat_natCast,Y4]
 refine seqI (ρ':=envW p Y U j kind n f (k0c sh)) ((i8 (t6 (tl:=[k0b j,k0c kind,k0b n,k0a f,none]) e5 rfl)).trans rfl) ?_
 refine seqI (Q9 (g:=O1 f) fun _=>?_) ?_
 .refine u7 ?_
  unfold B6
  show (match O3 (f.map D.int)with |some ns=>if ns.length<64 then some ((O1 ns).map D.int)else none|none=>none)=_
  rw[yx7]
  show (if f.length<64 then some ((O1 f).map D.int)else none)=_
  rw[if_pos (by omega)]
 show mseq _ _ (envW p Y U j kind n N (k0c sh))=_
 refine seqI (Q9 (g:=g2) fun _=>?_) ?_
 .refine u7 ?_
  unfold h7
  have ee:u8 zq2 (z4 (mvar 4) anil) (envW p Y U j kind n N (k0c sh))=some ((List.range N.length).map fun(i:Nat)=>D.tup [.int (i:Int),.int (N.getD i 0)]):=by
   unfold u8
   rw[z5 (x:=mvar 4) (d:=.lst (N.map .int)) rfl y0,Option.bind_some]
   show some (J4 0 (N.map .int))=_
   rw[J3]
   simp only[Nat.zero_add]
  rw[ee,Option.bind_some]
  refine(X3 (f:=fun(i:Nat)=>D.tup [.int (i:Int),.int (N.getD i 0)]) (G:=fun(i:Nat)=>D.int (N.getD i 0+(if (i:Int) % 2=0 then 7 else -7))) (fun _ ρ=>∃ x y,ρ=[x,y]) (by
   rintro i ds ρ ⟨x,y,rfl⟩
   refine⟨[k0b i,some (.sh (.int (N.getD i 0)))],rfl,rfl,?_,_,_,rfl⟩
   have ix:mix (w5 (z4 (mc (.int 7)) (z4 (m1 negD (mc (.int 7))) anil))) (m2 modD (mvar 0) (mc (.int 2))) [k0b i,some (.sh (.int (N.getD i 0)))]=some (.int (if (i:Int) % 2=0 then 7 else -7)):=by
    refine l4 (v4 (z5 (d:=.int 7) rfl (z5 (d:=.int (-7)) rfl y0)) i2) (k:=(i:Int) % 2) ?_ ?_
    .simp_arith [e7 (i:Int) 2 (by decide),if_true]
    .have:=zw0 (x:=(i:Int)) (show (0:Int)<2 by decide)
     have:(i:Int) % 2=0\/(i:Int) % 2=1:=by omega
     rcases this with h|h
     .rw[h];rfl
     .rw[h];rfl
   rw[u5 (a:=.int (N.getD i 0)) rfl ix];rfl) (List.range N.length) _ [] ⟨none,none,rfl⟩ (x6 (by simp;omega))).trans ?_
  rw[nil_append]
  show some _=some (List.map D.int (List.map _ (List.range N.length)))
  rw[map_map]
  rfl
 show mseq _ _ (envW p Y U j kind n O (k0c sh))=_
 refine seqI (Q9 (g:=g3) fun _=>?_) ?_
 .refine u7 ?_
  have ec:mcut (bvar 4) zx6 (C7 (mc (.int 1))) (envW p Y U j kind n O (k0c sh))=some ((O.take 1).map .int):=by
   unfold mcut
   show some (cutL (O.map D.int) none (some 1))=_
   rw[A9]
   exact congrArg (fun z=>some (List.map D.int z)) (yb6 O 1)
  have a3:((O.take 1).map D.int).length<=1:=by rw[length_map,length_take];omega
  have a7:=l6
  rw[yz6 ec (k:=(n:Int)) rfl (by
   unfold G2
   simp only[Bool.and_eq_true,decide_eq_true_eq]
   refine⟨⟨by omega,by omega⟩,?_⟩
   rw[Int.toNat_natCast]
   exact Nat.le_trans (Nat.mul_le_mul_right n a3) (by omega)),Int.toNat_natCast]
  show some _=some (List.map D.int (List.replicate n (O.take 1)).flatten)
  rw[map_flatten,map_replicate]
 show V8 0 (mpu (mvar 4)) (envW p Y U j kind n f3 (k0c sh))=_
 exact Z3 (m8 (d:=.lst (f3.map .int)) rfl) rfl
theorem zy1 (c k:Int):∃(s c' Z:Int),1<=s/\s<=100000000000000000000000000000/\∀ p,m_Z4 p (RL c k) []=some (.sh (.int s),RL c' Z):=by
 have i5:0+1+1+1+1+1<=sizeLine:=x6 (by decide)
 obtain⟨x,c1,Y,l1,u1,e1⟩:=v7 c k 4 (by decide) (by decide)
 obtain⟨y,c2,U,l2,u2,e2⟩:=v7 c1 Y 40 (by decide) (by decide)
 obtain⟨z,c3,O,l3,u3,e3⟩:=v7 c2 U 5 (by decide) (by decide)
 have G:(10:Int)^(29:Int).toNat=100000000000000000000000000000:=by decide
 have N:zc5 10 29=true:=by decide
 obtain⟨s,hs,j⟩:∃ s,atI [D.int 1,.int 1,.int (1+x),.int (1+y),.int 100000000000000000000000000000] z=some (.int s)/\(1<=s/\s<=100000000000000000000000000000):=by
  have:z=0\/z=1\/z=2\/z=3\/z=4:=by omega
  rcases this with h|h|h|h|h <;> subst h <;> exact⟨_,rfl,by omega⟩
 refine⟨s,c3,O,j.1,j.2,fun p=>?_⟩
 unfold m_Z4 b_Z4
 refine Z8 (Z3 (j8 (yp6 (l5 (m8 (d:=.int 1) rfl) (l5 (m8 (d:=.int 1) rfl) (l5 (j8 (m8 (d:=.int 1) rfl) (t6 (tl:=[]) e1 rfl) (g:=.int (1+x)) rfl) (l5 (j8 (m8 (d:=.int 1) rfl) (t6 (tl:=[]) e2 rfl) (g:=.int (1+y)) rfl) (Z6 (z5 (d:=.int 100000000000000000000000000000) ?_ y0)))))) i5) (t6 (tl:=[]) e3 rfl) (g:=.int s) hs) rfl)
 simp_arith [G,N,if_true]
end
end
section
theorem T0 {x:ME}{ρ:Ro}{b:Bool}(h:x ρ=some (.bl b)):w6 x ρ=some b:=by unfold w6;rw[h]
theorem zx1:∀(xs:List Int)(o:Option S)(acc:List Int),acc.length+xs.length<=1000->O4 (.nm 0) (w5 (z4 (mvar 0) (z4 (mc (.int 0)) anil))) (xs.map .int) [o] (acc.map fun c=>RL c 0)=some ((acc++xs).map fun c=>RL c 0)
 |[],o,acc,_=>by rw[append_nil];rfl
 |x::xs,o,acc,h=>by
  have i2:0+1+1<=sizeLine:=x6 (by decide)
  have z:=l6
  rw[map_cons,O4]
  show (match w5 (z4 (mvar 0) (z4 (mc (.int 0)) anil)) [k0c x]with |some ds=>if (acc.map fun c=>RL c 0).length<sizeLine then O4 _ _ (xs.map .int) [k0c x] ((acc.map fun c=>RL c 0)++[ds])else none|none=>none)=_
  rw[v4 (z5 (d:=.int x) rfl (z5 (d:=.int 0) rfl y0)) i2]
  have j:(acc.map fun c=>RL c 0).length<sizeLine:=by rw[length_map];simp at h;omega
  simp only[j,if_true]
  have:=zx1 xs (k0c x) (acc++[x]) (by simp at h ⊢;omega)
  rw[map_append,append_assoc]at this
  exact this
theorem yf0 (xs:List Int)(h:xs.length<=63):∃ z:List Int,T3 [.lst (xs.map .int)]=some (z.map fun c=>RL c 0):=by
 unfold T3 runP
 have i2:0+1+1<=sizeLine:=x6 (by decide)
 have j:w6 (m2 eqSD (mlen (bvar 0)) (mc (.int 0))) (w8 1 [.lst (xs.map .int)])=some ((xs.length:Int)==0):=by
  rw[xo5 (i:=(xs.length:Int)) (by rw[Y0 (show bvar 0 _=some (xs.map .int)from rfl),length_map])]
 rw[j]
 cases hb:((xs.length:Int)==0)with
 |true=>
  refine⟨[0],?_⟩
  show yz9 _ _=_
  unfold yz9
  rw[v4 (z5 (d:=.int 0) rfl (z5 (d:=.int 0) rfl y0)) i2]
  rfl
 |false=>
  refine⟨cutI xs none (some 63),?_⟩
  show U1 _ _ _ _ _=_
  unfold U1
  have G:u0 (mlst (mcut (bvar 0) zx6 (C7 (mc (.int 63))))) (w8 1 [.lst (xs.map .int)])=some ((cutI xs none (some 63)).map .int):=by
   refine l7 (u7 ?_)
   unfold mcut
   exact congrArg some (A9 D.int xs none (some 63))
  rw[G,Option.bind_some]
  have:=zj7 xs none (some 63)
  exact zx1 (cutI xs none (some 63)) none [] (by simp;omega)
end
section
def Mo (P:List Nat->Prop)(v:Nat):Prop:=(∃ l,P l/\l.length=v)/\∀ l,P l->l.length<=v
theorem Mo.uniq {P:List Nat->Prop}{a b:Nat}(h:Mo P a)(k:Mo P b):a=b:=by
 obtain⟨⟨l,j,rfl⟩,h⟩:=h
 obtain⟨⟨m,hm,rfl⟩,k⟩:=k
 exact Nat.le_antisymm (k l j) (h m hm)
theorem Mo.iff {P Q:List Nat->Prop}{a:Nat}(h:Mo P a)(e:∀ l,P l↔Q l):Mo Q a:=by
 obtain⟨⟨l,j,z⟩,h⟩:=h
 exact⟨⟨l,(e l).mp j,z⟩,fun m hm=>h m ((e m).mpr hm)⟩
theorem Mo.or {P Q R:List Nat->Prop}{a b:Nat}(h:Mo P a)(k:Mo Q b)(e:∀ l,R l↔P l\/Q l):Mo R (max a b):=by
 obtain⟨⟨l,j,rfl⟩,h⟩:=h
 obtain⟨⟨m,hm,rfl⟩,k⟩:=k
 refine⟨?_,fun u hu=>?_⟩
 .by_cases z:l.length<=m.length
  .exact⟨m,(e m).mpr (.inr hm),by omega⟩
  .exact⟨l,(e l).mpr (.inl j),by omega⟩
 .rcases (e u).mp hu with z|z
  .have:=h u z;omega
  .have:=k u z;omega
section
variable {x:Nat->Int}{n:Nat}{s:Int}{t:Nat}{d:Bool}{p:Nat}
def FP (x:Nat->Int)(n:Nat)(s:Int)(t:Nat)(d:Bool)(p k:Nat)(l:List Nat):Prop:=FS x n s t d p l/\∀ q m,l=p::q::m->q<k
theorem zr8 {p:Nat}{l:List Nat}(h:Hd p l):∃ m,l=p::m:=h
theorem yn4 (hp:p<n):Mo (FP x n s t d p (p+1)) 1:=by
 refine⟨⟨[p],⟨⟨hp,[],rfl⟩,fun q m e=>by cases e⟩,rfl⟩,fun l h=>?_⟩
 obtain⟨m,rfl⟩:=zr8 h.1.2
 cases m with
 |nil=>simp
 |cons q m=>
  have h1:=h.2 q m rfl
  have h2:p<q:=h.1.1.1
  omega
theorem xs9:∀ l,FP x n s t d p n l↔FS x n s t d p l:=fun l=>by
 refine⟨fun h=>h.1,fun h=>⟨h,fun q m e=>?_⟩⟩
 subst e
 rcases h.1.2.2 with z|⟨u,_,z⟩ <;> exact z.lt
theorem yw5 {k v:Nat}(h:Mo (FP x n s t d p k) v)(G:¬ far s d (x p) (x k)):Mo (FP x n s t d p (k+1)) v:=by
 refine h.iff fun l=>⟨fun z=>⟨z.1,fun q m e=>Nat.lt_succ_of_lt (z.2 q m e)⟩,fun z=>⟨z.1,fun q m e=>?_⟩⟩
 have h1:=z.2 q m e
 have h2:=z.1.1
 rw[e]at h2
 by_cases j:q=k
 .subst j;exact absurd h2.2.1 G
 .omega
theorem xs8 {k v w:Nat}(N:p<k)(h:Mo (FP x n s t d p k) v)(O:far s d (x p) (x k))(hw:Mo (FR x n s t d k) w):Mo (FP x n s t d p (k+1)) (max v (1+w)):=by
 refine Mo.or h (Q:=fun l=>∃ m,l=p::m/\FR x n s t d k m) ?_ fun l=>⟨fun z=>?_,fun z=>?_⟩
 .obtain⟨⟨m,hm,rfl⟩,hw⟩:=hw
  refine⟨⟨p::m,⟨m,rfl,hm⟩,by simp;omega⟩,?_⟩
  rintro l ⟨j,rfl,G⟩
  have:=hw j G
  simp;omega
 .obtain⟨m,rfl⟩:=zr8 z.1.2
  cases m with
  |nil=>exact .inl ⟨z.1,fun q m e=>by cases e⟩
  |cons q m=>
   have Z:=z.2 q m rfl
   by_cases e:q=k
   .subst e
    exact .inr ⟨q::m,rfl,z.1.1.2.2,m,rfl⟩
   .exact .inl ⟨z.1,fun Y j U=>by cases U;omega⟩
 .rcases z with z|⟨m,rfl,hm⟩
  .exact⟨z.1,fun q m e=>Nat.lt_succ_of_lt (z.2 q m e)⟩
  .obtain⟨j,rfl⟩:=zr8 hm.2
   exact⟨⟨⟨N,O,hm.1⟩,_,rfl⟩,fun q m e=>by cases e;omega⟩
theorem yc7 {a:Nat}(h:Mo (FS x n s 0 d p) a):Mo (FR x n s 0 d p) a:=h.iff fun l=>⟨fun z=>⟨.inl z.1,z.2⟩,fun z=>⟨z.1.resolve_right fun j=>by obtain⟨u,e,_⟩:=j;omega,z.2⟩⟩
theorem yc8 {a b u:Nat}(h:Mo (FS x n s (u+1) d p) a)(k:Mo (FS x n s u (!d) p) b):Mo (FR x n s (u+1) d p) (max a b):=Mo.or h k fun l=>by
 constructor
 .rintro⟨z|⟨v,e,z⟩,y⟩
  .exact .inl ⟨z,y⟩
  .cases e;exact .inr ⟨z,y⟩
 .rintro(z|z)
  .exact⟨.inl z.1,z.2⟩
  .exact⟨.inr ⟨u,rfl,z.1⟩,z.2⟩
end
theorem yi1 (η:List Int)(s:Int)(hr:η.length<=300):∀ t,∃ U V,Few η s t U V
 |0=>⟨_,_,zm2 η s⟩
 |t+1=>by
  obtain⟨U,V,j⟩:=yi1 η s hr t
  obtain⟨G,z,_,h⟩:=W3 hr j
  exact⟨G,z,h⟩
theorem xk4 {η:List Int}{s:Int}{t k:Nat}(hr:η.length<=300)(h:Mo (Tn (xr η) η.length s t) k):Kt η s t k:=by
 obtain⟨U,V,z⟩:=yi1 η s hr (t+1)
 obtain⟨l,_,j⟩:=U2 hr z
 exact⟨l,j,Mo.uniq ⟨⟨l,j.1,rfl⟩,fun m hm=>j.len m hm⟩ h⟩
end
section
section
variable {α:Type}
noncomputable def pick (b:Bool)(w:α×α):α:=if b then w.2 else w.1
noncomputable def putp (b:Bool)(v:α)(w:α×α):α×α:=if b then (w.1,v)else (v,w.2)
theorem yq3 (b c:Bool)(v:α)(w:α×α):pick c (putp b v w)=if c=b then v else pick c w:=by cases b <;> cases c <;> rfl
noncomputable def bit (b:Bool):Int:=if b then 1 else 0
noncomputable def FW (f:α->D)(A:List (α×α)):List Fl:=A.map fun w=>.l [f w.1,f w.2]
noncomputable def DW (f:α->D)(A:List (α×α)):List D:=A.map fun w=>.lst [f w.1,f w.2]
theorem FW_D (f:α->D)(A:List (α×α)):yv8 (.row (FW f A))= .lst (DW f A):=by
 show D.lst ((FW f A).map L2.flD)=_
 unfold FW DW
 rw[map_map]
 rfl
theorem FW_S (f:α->D)(A:List (α×α)):(FW f A).map flS=DW f A:=by
 unfold FW DW
 rw[map_map]
 rfl
theorem ya7 (f:α->D)(w:α×α)(b:Bool):atI [f w.1,f w.2] (bit b)=some (f (pick b w)):=by cases b <;> rfl
theorem xj8 (f:α->D)(A:List (α×α))(p:Nat)(hp:p<A.length)(j:α×α):atI (DW f A) (p:Int)=some (.lst [f (A.getD p j).1,f (A.getD p j).2]):=by
 have:=zz3 (fun w:α×α=>D.lst [f w.1,f w.2]) A (p:Int) (by omega) (by omega) j
 rw[Int.toNat_natCast]at this
 exact this
theorem zk6 {f:α->D}{A:List (α×α)}{m:ML}{i j:ME}{ρ:Ro}{p:Nat}{b:Bool}(z:α×α)(h1:m ρ=some (DW f A))(h2:i ρ=some (.int (p:Int)))(G:j ρ=some (.int (bit b)))(hp:p<A.length):mix (u0 (mix m i)) j ρ=some (f (pick b (A.getD p z))):=
 l4 (l7 (l4 h1 h2 (xj8 f A p hp z))) G (ya7 f _ b)
theorem xp5 {f:α->D}{A:List (α×α)}{p:Nat}(j:α×α)(hp:p<A.length):(FW f A)[p]? =some (.l [f (A.getD p j).1,f (A.getD p j).2]):=by
 unfold FW
 rw[getElem?_map,getD_eq_getElem?_getD,getElem?_eq_getElem hp]
 rfl
theorem xp4 {f:α->D}{A:List (α×α)}:(FW f A).length=A.length:=by unfold FW;simp
theorem xs4 (n p:Nat)(h:p<n):ixN n (p:Int)=some p:=by
 have:=xs3 (n:=n) (k:=(p:Int)) (by omega) (by omega)
 rw[this,Int.toNat_natCast]
theorem yh3 {f:α->D}{A:List (α×α)}{p:Nat}{b:Bool}{v:α}(j:α×α)(hp:p<A.length):setR (p:Int) (bit b) (f v) (FW f A)=some (FW f (A.set p (putp b v (A.getD p j)))):=by
 unfold setR
 rw[xp4,xs4 _ _ hp]
 simp only
 rw[xp5 j hp]
 have e:∀ w:α×α,(match ixN [f w.1,f w.2].length (bit b)with |some m=>some ((FW f A).set p (.l ([f w.1,f w.2].set m (f v))))|none=>none)=some (FW f (A.set p (putp b v w))):=fun w=>by
  unfold FW
  rw[map_set]
  cases b <;> rfl
 exact e _
theorem yp1 {f:α->D}{A:List (α×α)}{i:Nat}{z j:ME}{g:Ro->Bx->Option D}{ρ:Ro}{β:Bx}{y:Addr}{p:Nat}{b:Bool}{v:α}(G:α×α)(N:g ρ β=some (f v))(hi:ρ[i]? =some (some (.sh (.ptr y))))(O:β.lookup y=some (.row (FW f A)))(h2:z ρ=some (.int (p:Int)))(U:j ρ=some (.int (bit b)))(hp:p<A.length):yz4 i z j g ρ β=some (.nx ρ,updB y (.row (FW f (A.set p (putp b v (A.getD p G))))) β):=by
 unfold yz4
 simp only[N,hi,h2,U,O]
 rw[yh3 G hp]
 rfl
theorem zj2 {A:List (α×α)}{p q:Nat}{b c:Bool}{v:α}(j:α×α)(hp:p<A.length):pick c ((A.set p (putp b v (A.getD p j))).getD q j)=if q=p/\c=b then v else pick c (A.getD q j):=by
 rw[getD_eq_getElem?_getD,getElem?_set]
 by_cases h:p=q
 .subst h
  rw[if_pos rfl,if_pos hp]
  show pick c (putp b v (A.getD p j))=_
  rw[yq3]
  simp
 .rw[if_neg h,if_neg (fun z=>h z.1.symm),getD_eq_getElem?_getD]
end
theorem seqW {x y:MW}{ρ ρ':Ro}{β j:Bx}{r:Option (Out×Bx)}(h:x ρ β=some (.nx ρ',j))(h2:y ρ' j=r):M1 x y ρ β=r:=by
 unfold M1;rw[h];exact h2
theorem ys3 {m:MS}{ρ ρ':Ro}{β:Bx}(h:m ρ=some (.nx ρ')):wS m ρ β=some (.nx ρ',β):=by unfold wS;rw[h]
theorem yj7 {c:Ro->Bx->Option Bool}{x y:MW}{ρ:Ro}{β:Bx}(h:c ρ β=some false):mifW c x y ρ β=y ρ β:=by unfold mifW;rw[h]
theorem yj6 {c:Ro->Bx->Option Bool}{x y:MW}{ρ:Ro}{β:Bx}(h:c ρ β=some true):mifW c x y ρ β=x ρ β:=by unfold mifW;rw[h]
theorem yz2 (b:Bool):(1:Int)-bit b=bit (!b):=by cases b <;> rfl
theorem K9 {α:Type}{f:α->D}{g:Tg}{body:MW}{d:α}{ds:List α}{ρ ρ1 j:Ro}{β z:Bx}{r:Option (Out×Bx)}(h1:tgD g (f d) ρ=some ρ1)(h2:body ρ1 β=some (.nx j,z))(G:forW g body (ds.map f) j z=r):forW g body ((d::ds).map f) ρ β=r:=by
 rw[map_cons,forW,h1]
 simp only
 rw[h2]
 exact G
theorem xx7 {a b:ME}{ρ:Ro}{i j:Nat}(h1:a ρ=some (.int (i:Int)))(h2:b ρ=some (.int (j:Int)))(hi:i<=1000)(z:j<=1000):u8 rng2 (z4 a (z4 b anil)) ρ=some (((List.range (j-i)).map (i+·)).map dN):=by
 unfold u8
 rw[z5 h1 (z5 h2 y0),Option.bind_some,zd3 (X0 (by omega) (by omega)) (X0 (by omega) (by omega)),P0,map_map,show ((j:Int)-(i:Int)).toNat=j-i by omega]
 rfl
theorem B9 {j:ML}{g:Tg}{body:MW}{ρ:Ro}{β:Bx}{its:List D}{r:Option (Out×Bx)}(h:j ρ=some its)(h2:forW g body its ρ β=r):zs8 j g body ρ β=r:=by
 unfold zs8;rw[h];exact h2
theorem zj8 (d:D)(m:ME)(hm:∀ ρ,m ρ=some d):∀(is:List Int)(o:Option S)(acc:List (List D)),acc.length+is.length<=1000->O4 (.nm 0) (w5 (z4 m (z4 m anil))) (is.map .int) [o] acc=some (acc++List.replicate is.length [d,d])
 |[],o,acc,_=>by simp[O4]
 |i::is,o,acc,h=>by
  have i2:0+1+1<=sizeLine:=x6 (by decide)
  have j:=l6
  rw[map_cons,O4]
  have e1:tgD (.nm 0) (.int i) [o]=some [k0c i]:=rfl
  rw[e1]
  simp only
  rw[v4 (z5 (hm _) (z5 (hm _) y0)) i2]
  simp only
  rw[if_pos (by simp at h;omega),zj8 d m hm is _ _ (by simp at h ⊢;omega)]
  simp[replicate_succ]
theorem ym0 (d:D)(m:ME)(hm:∀ ρ,m ρ=some d)(ns:List Int)(hn:ns.length<=300){ρ:Ro}(h:mvar 0 ρ=some (RI ns)):U1 [none] (u0 (mvar 0)) (.nm 0) (w5 (z4 m (z4 m anil))) ρ=some (List.replicate ns.length [d,d]):=by
 unfold U1
 rw[l7 h,Option.bind_some]
 show O4 (.nm 0) _ _ [none] []=_
 rw[zj8 d m hm ns none [] (by simp;omega),nil_append]
end
section
noncomputable abbrev PW:=List (Nat×Nat)
noncomputable abbrev TbD (A:PW):D:=.lst (DW dN A)
noncomputable def eQ (η:List Int)(s:Int)(T:Nat)(Ts:List PW)(o4 o5 o6 o7 o8 o9:Option S):Ro:=[some (.sh (RI η)),k0c s,some (.sh (dN T)),some (.own (Ts.map TbD)),o4,o5,o6,o7,o8,o9]
abbrev MF' (η:List Int)(s:Int)(u:Nat)(d:Bool)(q v:Nat):Prop:=Mo (FS (xr η) η.length s u d q) v
structure Tb (η:List Int)(s:Int)(u:Nat)(A:PW):Prop where
 len:A.length=η.length
 at':∀ q,q<η.length->∀ d,MF' η s u d q (pick (!d) (A.getD q (1,1)))
structure Inr (η:List Int)(s:Int)(u p k:Nat)(A:PW):Prop where
 len:A.length=η.length
 behind:∀ q,p<q->q<η.length->∀ d,MF' η s u d q (pick (!d) (A.getD q (1,1)))
 here:∀ d,Mo (FP (xr η) η.length s u d p k) (pick (!d) (A.getD p (1,1)))
 yet:∀ q,q<p->A.getD q (1,1)=(1,1)
def Pv (η:List Int)(s:Int)(u:Nat)(Ts:List PW):Prop:=∀ v,u=v+1->∃ R B,Ts=R++[B]/\Tb η s v B
theorem ze6 {ρ:Ro}{β:Bx}{i:Nat}{y:Option S}(h:ρ[i]? =some y):(thaw ρ β)[i]? =some (L3 β y):=by unfold thaw;rw[getElem?_map,h];rfl
theorem K1 {ρ:Ro}{β:Bx}{i:Nat}{d:D}(h:ρ[i]? =some (some (.sh d)))(hd:L3 β (some (.sh d))=some (.sh d)):mvar i (thaw ρ β)=some d:=by
 unfold mvar;rw[ze6 h,hd]
theorem yu8 {ρ:Ro}{β:Bx}{i:Nat}{y:Addr}{A:PW}(h:ρ[i]? =some (some (.sh (.ptr y))))(j:β.lookup y=some (.row (FW dN A))):bvar i (thaw ρ β)=some (DW dN A):=by
 unfold bvar
 rw[ze6 h,show L3 β (some (.sh (.ptr y)))=some (.sh (yv8 (.row (FW dN A))))by unfold L3;simp only;rw[j],FW_D]
theorem zw4 {m:ME}{ρ:Ro}{β:Bx}{v:Int}(h:m (thaw ρ β)=some (.int v)):A4 m ρ β=some (.int v):=by unfold A4;rw[h];rfl
theorem yh2 {i:Nat}{x:Ro->Bx->Option D}{ρ:Ro}{β:Bx}{d:D}(h:x ρ β=some d):zs6 i x ρ β=some (.nx (ρ.set i (some (.sh d))),β):=by unfold zs6;rw[h];rfl
theorem yy4 {m:ML}{ρ:Ro}{a b:Nat}(h:m ρ=some [dN a,dN b]):n5 zr1 m ρ=some (dN (max a b)):=by
 unfold n5
 rw[h]
 show some (D.int (if (b:Int)>(a:Int)then (b:Int)else (a:Int)))=_
 unfold dN
 congr 2
 split <;> omega
theorem zk5 (y:Addr)(c:Cell)(β:Bx):List.lookup y ((y,c)::β)=some c:=by rw[lookup_cons,beq_self_eq_true]
theorem xo0 (y:Addr)(c j:Cell)(β:Bx):updB y j ((y,c)::β)=(y,j)::β:=by unfold updB;rw[if_pos rfl]
theorem zj5 {s a b:Int}(hs:1<=s):(far s (!decide (b<a)) a b↔s<=((b-a).natAbs:Int))/\¬ far s (decide (b<a)) a b:=by
 by_cases h:b<a
 .rw[decide_eq_true h]
  unfold far
  simp only[Bool.not_true,Bool.false_eq_true,if_false,if_true]
  constructor
  .omega
  .omega
 .rw[decide_eq_false h]
  unfold far
  simp only[Bool.not_false,Bool.false_eq_true,if_false,if_true]
  constructor
  .omega
  .omega
theorem yt8 (z:Int):(if z<0 then -z else z)=(z.natAbs:Int):=by split <;> omega
theorem xj7 (η:List Int)(s:Int)(hs:1<=s)(hr:η.length<=300)(T u p k:Nat)(Ts:List PW)(A:PW)(hp:p<k)(U:k<η.length)(pv:Pv η s u Ts)(I:Inr η s u p k A)(G j:Option S):
  ∃ A' p8 N,Inr η s u p (k+1) A'/\∀ y,m6 (eQ η s T Ts (some (.sh (dN u))) (some (.sh (.ptr y))) (some (.sh (dN p))) (some (.sh (dN k))) G j) [(y,.row (FW dN A))]=some (.nx (eQ η s T Ts (some (.sh (dN u))) (some (.sh (.ptr y))) (some (.sh (dN p))) (some (.sh (dN k))) p8 N),[(y,.row (FW dN A'))]):=by
 obtain⟨b,hb⟩:∃ b,b=decide (xr η k<xr η p):=⟨_,rfl⟩
 obtain⟨fa,fb⟩:=zj5 (a:=xr η p) (b:=xr η k) hs
 rw[<-hb]at fa fb
 have lA:=I.len
 have ak:∀ O G j,mix (bvar 0) (mvar 7) (eQ η s T Ts (some (.sh (dN u))) O (some (.sh (dN p))) (some (.sh (dN k))) G j)=some (.int (xr η k)):=fun O G j=>l4 (m:=bvar 0) rfl rfl (J6 η k U)
 have ap:∀ O G j,mix (bvar 0) (mvar 6) (eQ η s T Ts (some (.sh (dN u))) O (some (.sh (dN p))) (some (.sh (dN k))) G j)=some (.int (xr η p)):=fun O G j=>l4 (m:=bvar 0) rfl rfl (J6 η p (by omega))
 have e8:∀ y,wS (mset 8 (n5 intF (z4 (m2 ltD (mix (bvar 0) (mvar 7)) (mix (bvar 0) (mvar 6))) anil))) (eQ η s T Ts (some (.sh (dN u))) (some (.sh (.ptr y))) (some (.sh (dN p))) (some (.sh (dN k))) G j) [(y,.row (FW dN A))]=some (.nx (eQ η s T Ts (some (.sh (dN u))) (some (.sh (.ptr y))) (some (.sh (dN p))) (some (.sh (dN k))) (some (.sh (.int (bit b)))) j),[(y,.row (FW dN A))]):=fun y=>by
  refine ys3 ((k9 (d:=.int (bit b)) ?_).trans rfl)
  unfold n5
  rw[z5 ((u5 (ak _ _ _) (ap _ _ _)).trans (show ltD (.int (xr η k)) (.int (xr η p))=some (.bl (decide (xr η k<xr η p)))from rfl)) y0,<-hb]
  cases b <;> rfl
 have et:∀ y,wE (w6 (m2 geD (n5 absF (z4 (m2 subD (mix (bvar 0) (mvar 7)) (mix (bvar 0) (mvar 6))) anil)) (mvar 1))) (eQ η s T Ts (some (.sh (dN u))) (some (.sh (.ptr y))) (some (.sh (dN p))) (some (.sh (dN k))) (some (.sh (.int (bit b)))) j) [(y,.row (FW dN A))]=some (decide (s<=((xr η k-xr η p).natAbs:Int))):=fun y=>by
  refine zz9 ?_ rfl
  unfold n5
  rw[z5 ((u5 (ak _ _ _) (ap _ _ _)).trans (show subD (.int (xr η k)) (.int (xr η p))=some (.int (xr η k-xr η p))from rfl)) y0]
  show some (D.int (if xr η k-xr η p<0 then -(xr η k-xr η p)else xr η k-xr η p))=_
  rw[yt8]
 by_cases Y:s<=((xr η k-xr η p).natAbs:Int)
 .have far1:=fa.mpr Y
  obtain⟨w,N,hw,ew⟩:∃(w:Nat)(N:Option S),Mo (FR (xr η) η.length s u (!b) k) w/\N=some (.sh (dN w))/\∀(y:Addr)(rest:MW),M1 (zs6 9 (A4 (mix (u0 (mix (bvar 5) (mvar 7))) (mvar 8)))) (M1 (mifW (wE (w6 (m2 gtD (mvar 4) (mc (.int 0))))) (wS (mset 9 (n5 zr1 (z4 (mvar 9) (z4 (mix (u0 (mix (u0 (mix (bvar 3) (m1 negD (mc (.int 1))))) (mvar 7))) (m2 subD (mc (.int 1)) (mvar 8))) anil))))) (wS h6)) rest) (eQ η s T Ts (some (.sh (dN u))) (some (.sh (.ptr y))) (some (.sh (dN p))) (some (.sh (dN k))) (some (.sh (.int (bit b)))) j) [(y,.row (FW dN A))]=rest (eQ η s T Ts (some (.sh (dN u))) (some (.sh (.ptr y))) (some (.sh (dN p))) (some (.sh (dN k))) (some (.sh (.int (bit b)))) N) [(y,.row (FW dN A))]:=by
   obtain⟨a,ha⟩:∃ a,a=pick b (A.getD k (1,1)):=⟨_,rfl⟩
   have ma:Mo (FS (xr η) η.length s u (!b) k) a:=by
    have:=I.behind k hp U (!b)
    rw[Bool.not_not,<-ha]at this
    exact this
   have e9:∀(y:Addr),zs6 9 (A4 (mix (u0 (mix (bvar 5) (mvar 7))) (mvar 8))) (eQ η s T Ts (some (.sh (dN u))) (some (.sh (.ptr y))) (some (.sh (dN p))) (some (.sh (dN k))) (some (.sh (.int (bit b)))) j) [(y,.row (FW dN A))]=some (.nx (eQ η s T Ts (some (.sh (dN u))) (some (.sh (.ptr y))) (some (.sh (dN p))) (some (.sh (dN k))) (some (.sh (.int (bit b)))) (some (.sh (dN a)))),[(y,.row (FW dN A))]):=fun y=>by
    refine(yh2 (d:=dN a) (zw4 ?_)).trans rfl
    rw[zk6 (f:=dN) (A:=A) (p:=k) (b:=b) (1,1) (yu8 (i:=5) (y:=y) rfl (zk5 ..)) (K1 (i:=7) (d:=dN k) rfl rfl) (K1 (i:=8) (d:=.int (bit b)) rfl rfl) (by omega),<-ha]
    rfl
   have tu:∀(y:Addr) β,wE (w6 (m2 gtD (mvar 4) (mc (.int 0)))) (eQ η s T Ts (some (.sh (dN u))) (some (.sh (.ptr y))) (some (.sh (dN p))) (some (.sh (dN k))) (some (.sh (.int (bit b)))) (some (.sh (dN a)))) β=some (decide ((u:Int)>0)):=fun y β=>T0 ((u5 (a:=.int (u:Int)) (b:=.int 0) rfl rfl).trans rfl)
   cases u with
   |zero=>
    refine⟨a,_,yc7 ma,rfl,fun y rest=>?_⟩
    exact seqW (e9 y) (seqW ((yj7 (tu y _)).trans rfl) rfl)
   |succ v=>
    obtain⟨R,B,eT,tb⟩:=pv v rfl
    obtain⟨c,hc⟩:∃ c,c=pick (!b) (B.getD k (1,1)):=⟨_,rfl⟩
    have Z:Mo (FS (xr η) η.length s v (!!b) k) c:=by
     have:=tb.at' k U b
     rw[<-hc]at this
     rw[Bool.not_not]
     exact this
    refine⟨max a c,_,yc8 ma Z,rfl,fun y rest=>?_⟩
    have tt:wE (w6 (m2 gtD (mvar 4) (mc (.int 0)))) (eQ η s T Ts (some (.sh (dN (v+1)))) (some (.sh (.ptr y))) (some (.sh (dN p))) (some (.sh (dN k))) (some (.sh (.int (bit b)))) (some (.sh (dN a)))) [(y,.row (FW dN A))]=some true:=by
     rw[tu y,decide_eq_true (by omega)]
    refine seqW (e9 y) (seqW ((yj6 tt).trans (ys3 ((k9 (yy4 (a:=a) (b:=c) (z5 rfl (z5 ?_ y0)))).trans rfl))) rfl)
    rw[zk6 (f:=dN) (A:=B) (p:=k) (b:=!b) (1,1) (m:=u0 (mix (bvar 3) (m1 negD (mc (.int 1))))) (l7 (l4 (m:=bvar 3) (ds:=Ts.map TbD) (k:=-1) rfl rfl (d:=TbD B) (by rw[eT];exact atI_last TbD R B))) rfl ((u5 (a:=.int 1) (b:=.int (bit b)) rfl rfl).trans (congrArg (fun z=>some (D.int z)) (yz2 b))) (by rw[tb.len];exact U),<-hc]
  obtain⟨rfl,ew⟩:=ew
  obtain⟨v,hv⟩:∃ v,v=pick b (A.getD p (1,1)):=⟨_,rfl⟩
  refine⟨A.set p (putp b (max v (1+w)) (A.getD p (1,1))),some (.sh (.int (bit b))),some (.sh (dN w)),⟨by rw[length_set];exact lA,fun q h1 h2 d=>?_,fun d=>?_,fun q hq=>?_⟩,fun y=>?_⟩
  .rw[zj2 (1,1) (by omega),if_neg (by omega)]
   exact I.behind q h1 h2 d
  .rw[zj2 (1,1) (by omega)]
   by_cases hd:(!d)=b
   .rw[if_pos ⟨rfl,hd⟩,<-Bool.not_not d,hd,hv]
    have h0:=I.here (!b)
    rw[Bool.not_not]at h0
    exact xs8 hp h0 far1 hw
   .rw[if_neg fun z=>hd z.2]
    have:d=b:=by cases d <;> cases b <;> simp_all
    subst this
    exact yw5 (I.here d) fb
  .rw[getD_eq_getElem?_getD,getElem?_set_ne (by omega),<-getD_eq_getElem?_getD]
   exact I.yet q hq
  .unfold m6
   refine seqW (e8 y) ?_
   rw[yj6 ((et y).trans (by rw[decide_eq_true Y])),ew y]
   have eg:A4 (n5 zr1 (z4 (mix (u0 (mix (bvar 5) (mvar 6))) (mvar 8)) (z4 (m2 addD (mc (.int 1)) (mvar 9)) anil))) (eQ η s T Ts (some (.sh (dN u))) (some (.sh (.ptr y))) (some (.sh (dN p))) (some (.sh (dN k))) (some (.sh (.int (bit b)))) (some (.sh (dN w)))) [(y,.row (FW dN A))]=some (dN (max v (1+w))):=by
    refine zw4 (yy4 (z5 ?_ (z5 ?_ y0)))
    .rw[zk6 (f:=dN) (A:=A) (p:=p) (b:=b) (1,1) (yu8 (i:=5) (y:=y) rfl (zk5 ..)) (K1 (i:=6) (d:=dN p) rfl rfl) (K1 (i:=8) (d:=.int (bit b)) rfl rfl) (by omega),<-hv]
    .refine(u5 (a:=.int 1) (b:=dN w) rfl (K1 (i:=9) (d:=dN w) rfl rfl)).trans ?_
     show some (D.int (1+(w:Int)))=some (D.int ((1+w:Nat):Int))
     congr 2
   rw[yp1 (f:=dN) (A:=A) (p:=p) (b:=b) (y:=y) (v:=max v (1+w)) (1,1) eg rfl (zk5 ..) rfl rfl (by omega),xo0]
 .have nf:¬ far s (!b) (xr η p) (xr η k):=fun z=>Y (fa.mp z)
  refine⟨A,some (.sh (.int (bit b))),j,⟨lA,I.behind,fun d=>?_,I.yet⟩,fun y=>?_⟩
  .refine yw5 (I.here d) ?_
   by_cases hd:d=b
   .rw[hd];exact fb
   .have:d= !b:=by cases d <;> cases b <;> simp_all
    rw[this];exact nf
  .unfold m6
   refine seqW (e8 y) ?_
   rw[yj7 ((et y).trans (by rw[decide_eq_false Y]))]
   rfl
end
section
section
variable (η:List Int)(s:Int)(hs:1<=s)(hr:η.length<=300)(T u:Nat)(Ts:List PW)(pv:Pv η s u Ts)
include hs hr pv
theorem zj0 (p:Nat):∀(j k:Nat)(A:PW)(O N G:Option S),p<k->k+j=η.length->Inr η s u p k A->
  ∃ A' Z Y U,Inr η s u p η.length A'/\∀ y,forW (.nm 7) m6 (((List.range j).map (k+·)).map dN) (eQ η s T Ts (some (.sh (dN u))) (some (.sh (.ptr y))) (some (.sh (dN p))) O N G) [(y,.row (FW dN A))]=some (.nx (eQ η s T Ts (some (.sh (dN u))) (some (.sh (.ptr y))) (some (.sh (dN p))) Z Y U),[(y,.row (FW dN A'))])
 |0,k,A,O,N,G,hp,hk,I=>⟨A,O,N,G,by rw[<-hk];exact I,fun y=>rfl⟩
 |j+1,k,A,O,N,G,hp,hk,I=>by
  obtain⟨A1,q8,q9,I1,e1⟩:=xj7 η s hs hr T u p k Ts A hp (by omega) pv I N G
  obtain⟨A2,Z,Y,U,I2,e2⟩:=zj0 p j (k+1) A1 (some (.sh (dN k))) q8 q9 (by omega) (by omega) I1
  refine⟨A2,Z,Y,U,I2,fun y=>?_⟩
  rw[range_succ_eq_map,map_cons,map_map,show ((k+·)∘Nat.succ:Nat->Nat)=(k+1+·)by funext z;simp only[Function.comp,Nat.succ_eq_add_one];omega,Nat.add_zero]
  exact K9 (ρ1:=eQ η s T Ts (some (.sh (dN u))) (some (.sh (.ptr y))) (some (.sh (dN p))) (some (.sh (dN k))) N G) rfl (e1 y) (e2 y)
theorem xj6 (p:Nat)(hp:p<η.length)(A:PW)(Z Y U:Option S)(I:Inr η s u p (p+1) A):
  ∃ z O N G,Inr η s u p η.length z/\∀ y,j5 (eQ η s T Ts (some (.sh (dN u))) (some (.sh (.ptr y))) (some (.sh (dN p))) Z Y U) [(y,.row (FW dN A))]=some (.nx (eQ η s T Ts (some (.sh (dN u))) (some (.sh (.ptr y))) (some (.sh (dN p))) O N G),[(y,.row (FW dN z))]):=by
 obtain⟨z,O,N,G,I',e⟩:=zj0 η s hs hr T u Ts pv p (η.length-(p+1)) (p+1) A Z Y U (by omega) (by omega) I
 refine⟨z,O,N,G,I',fun y=>?_⟩
 unfold j5
 refine B9 (xx7 (i:=p+1) (j:=η.length) ?_ ?_ (by omega) (by omega)) (e y)
 .exact(u5 (a:=dN p) (b:=.int 1) rfl rfl).trans rfl
 .rw[Y0 (show bvar 0 _=some (η.map .int)from rfl),length_map]
theorem yn0 {p:Nat}{A:PW}(hp:p+1<η.length+1)(I:∀ q,p+1<=q->q<η.length->∀ d,MF' η s u d q (pick (!d) (A.getD q (1,1))))(z:A.length=η.length)(j:∀ q,q<p+1->A.getD q (1,1)=(1,1)):Inr η s u p (p+1) A:=
 ⟨z,fun q h1 h2 d=>I q (by omega) h2 d,fun d=>by rw[j p (by omega)];cases d <;> exact yn4 (by omega),fun q G=>j q (by omega)⟩
theorem zn6:∀(p:Nat)(A:PW)(U O N G:Option S),p<=η.length->A.length=η.length->(∀ q,p<=q->q<η.length->∀ d,MF' η s u d q (pick (!d) (A.getD q (1,1))))->(∀ q,q<p->A.getD q (1,1)=(1,1))->
  ∃ A' p6 p7 p8 Z,Tb η s u A'/\∀ y,forW (.nm 6) j5 (((List.range p).map fun j=>p-1-j).map dN) (eQ η s T Ts (some (.sh (dN u))) (some (.sh (.ptr y))) U O N G) [(y,.row (FW dN A))]=some (.nx (eQ η s T Ts (some (.sh (dN u))) (some (.sh (.ptr y))) p6 p7 p8 Z),[(y,.row (FW dN A'))])
 |0,A,U,O,N,G,hp,hl,hd,hy=>⟨A,U,O,N,G,⟨hl,fun q hq d=>hd q (Nat.zero_le _) hq d⟩,fun y=>rfl⟩
 |p+1,A,U,O,N,G,hp,hl,hd,hy=>by
  obtain⟨A1,q7,q8,q9,Y,e1⟩:=xj6 η s hs hr T u Ts pv p (by omega) A O N G (yn0 η s hs hr u Ts pv (by omega) hd hl hy)
  obtain⟨A2,p6,p7,p8,Z,t2,e2⟩:=zn6 p A1 (some (.sh (dN p))) q7 q8 q9 (by omega) Y.len (fun q h1 h2 d=>by
   by_cases z:q=p
   .subst z;exact(Y.here d).iff xs9
   .exact Y.behind q (by omega) h2 d) Y.yet
  refine⟨A2,p6,p7,p8,Z,t2,fun y=>?_⟩
  rw[range_succ_eq_map,map_cons,map_map,show ((fun j=>p+1-1-j)∘Nat.succ:Nat->Nat)=(fun j=>p-1-j)by funext z;simp only[Function.comp,Nat.succ_eq_add_one];omega,show p+1-1-0=p by omega]
  exact K9 (ρ1:=eQ η s T Ts (some (.sh (dN u))) (some (.sh (.ptr y))) (some (.sh (dN p))) O N G) rfl (e1 y) (e2 y)
end
end
section
theorem zd2 (n:Nat)(h:n<=900):rng3 [.int ((n:Int)-1),.int (-1),.int (-1)]=some (M2 n):=by
 unfold rng3
 dsimp only
 rw[if_pos ⟨by omega,by omega,rfl,rfl⟩,show (((n:Int)-1)+1).toNat=n by omega]
theorem yb3 (n:Nat):M2 n=((List.range n).map fun j=>n-1-j).map dN:=by
 unfold M2 dN
 rw[map_map]
 refine map_congr_left fun i hi=>?_
 have:=List.mem_range.mp hi
 show D.int ((n:Int)-1-(i:Int))=D.int ((n-1-i:Nat):Int)
 congr 1
 omega
theorem setF_nil {i:Nat}{ρ:Ro}:c7 i (w5 anil) ρ=some (.nx (ρ.set i (some (.own [])))):=by unfold c7;rw[v4 y0 (Nat.zero_le _)];rfl
theorem zc7 {n:Nat}{m:MW}{ds es:List D}{β:Bx}(h:m (w8 n ds) []=some (.rf es,β)):plainW (runW n m) ds=some (.fr es):=by
 unfold plainW runW
 rw[h]
theorem xn5 (T:Nat)(z:T<=310){x:ME}{ρ:Ro}(h:x ρ=some (dN T)):u8 rng1 (z4 (m2 addD x (mc (.int 1))) anil) ρ=some (((List.range (T+1)).map (0+·)).map dN):=by
 have j:okR ((T:Int)+1)=true:=X0 (by omega) (by omega)
 unfold u8
 rw[z5 (d:=.int ((T:Int)+1)) ((u5 h (b:=.int 1) rfl).trans rfl) y0,Option.bind_some,V1 j,show ((T:Int)+1).toNat=T+1 by omega,Y4,map_map,map_map]
 refine congrArg some (map_congr_left fun i _=>?_)
 simp only[Function.comp,Nat.zero_add]
 rfl
theorem xx8 (n q:Nat):(List.replicate n ((1,1):Nat×Nat)).getD q (1,1)=(1,1):=by
 rw[getD_eq_getElem?_getD,getElem?_replicate]
 split <;> rfl
theorem xx9 (n:Nat):(List.replicate n [D.int 1,D.int 1]).map Fl.l=FW dN (List.replicate n (1,1)):=by
 unfold FW
 rw[map_replicate,map_replicate]
 rfl
def AllT (η:List Int)(s:Int)(Ts:List PW):Prop:=∀ t,t<Ts.length->Tb η s t (Ts.getD t [])
theorem xz1 {η:List Int}{s:Int}{Ts:List PW}(h:AllT η s Ts):Pv η s Ts.length Ts:=fun v e=>by
 rcases eq_nil_or_concat Ts with z|⟨R,B,z⟩
 .rw[z]at e;cases e
 .rw[concat_eq_append]at z
  refine⟨R,B,z,?_⟩
  have hv:v=R.length:=by rw[z]at e;simp at e;omega
  have:=h v (by omega)
  rw[z,getD_eq_getElem?_getD,hv,getElem?_append_right (Nat.le_refl _),Nat.sub_self]at this
  rw[hv]
  exact this
theorem yt7 {η:List Int}{s:Int}{Ts:List PW}{A:PW}(h:AllT η s Ts)(G:Tb η s Ts.length A):AllT η s (Ts++[A]):=fun t j=>by
 rw[getD_eq_getElem?_getD]
 by_cases z:t<Ts.length
 .rw[getElem?_append_left z,<-getD_eq_getElem?_getD];exact h t z
 .have:t=Ts.length:=by simp at j;omega
  subst this
  rw[getElem?_append_right (Nat.le_refl _),Nat.sub_self]
  exact G
section
variable (η:List Int)(s:Int)(hs:1<=s)(hr:η.length<=300)
include hs hr
theorem xj5 (T:Nat)(Ts:List PW)(hT:Ts.length<=400)(h:AllT η s Ts)(o5 o6 Z Y U:Option S):∃ A O N G z,Tb η s Ts.length A/\j4 (eQ η s T Ts (some (.sh (dN Ts.length))) o5 o6 Z Y U) []=some (.nx (eQ η s T (Ts++[A]) (some (.sh (dN Ts.length))) none O N G z),[]):=by
 obtain⟨A,O,N,G,z,tb,e⟩:=zn6 η s hs hr T Ts.length Ts (xz1 h) η.length (List.replicate η.length (1,1)) o6 Z Y U (Nat.le_refl _) (by simp) (fun q h1 h2=>by omega) (fun q _=>xx8 _ q)
 refine⟨A,O,N,G,z,tb,?_⟩
 unfold j4 yp4
 rw[ym0 (.int 1) (mc (.int 1)) (fun _=>rfl) η hr rfl,Option.bind_some]
 refine xz0 fun y _=>?_
 have r3:j3 (eQ η s T Ts (some (.sh (dN Ts.length))) (some (.sh (.ptr y))) o6 Z Y U) [(y,.row (FW dN (List.replicate η.length (1,1))))]=some (.nx (eQ η s T (Ts++[A]) (some (.sh (dN Ts.length))) (some (.sh (TbD A))) O N G z),[]):=by
  unfold j3
  refine seqW (B9 (its:=((List.range η.length).map fun j=>η.length-1-j).map dN) ?_ (e y)) ?_
  .unfold u8
   rw[z5 (d:=.int ((η.length:Int)-1)) ((u5 (a:=.int (η.length:Int)) (b:=.int 1) (by rw[Y0 (show bvar 0 _=some (η.map .int)from rfl),length_map]) rfl).trans rfl) (z5 (d:=.int (-1)) rfl (z5 (d:=.int (-1)) rfl y0)),Option.bind_some,zd2 _ (by omega),yb3]
  .unfold U4 M5
   rw[show (eQ η s T Ts (some (.sh (dN Ts.length))) (some (.sh (.ptr y))) O N G z)[5]? =some (some (.sh (.ptr y)))from rfl]
   simp only
   rw[zk5]
   simp only
   rw[FW_S,show delB y [(y,Cell.row (FW dN A))]=[]by unfold delB;rw[beq_self_eq_true]]
   refine ys3 ?_
   have hz:(Ts.map TbD).length<sizeLine:=Nat.lt_of_lt_of_le (show (Ts.map TbD).length<1000 by rw[length_map];omega) (Nat.le_trans (by decide) l6)
   unfold mapp
   show ((some (TbD A)).bind fun d=>if (Ts.map TbD).length<sizeLine then _ else none)=_
   rw[Option.bind_some,if_pos hz]
   unfold eQ
   rw[map_append]
   rfl
 show (j3 (eQ η s T Ts (some (.sh (dN Ts.length))) (some (.sh (.ptr y))) o6 Z Y U) [(y,.row ((List.replicate η.length [D.int 1,D.int 1]).map Fl.l))]).map (L2.letGo 5 0)=_
 rw[xx9,r3]
 rfl
theorem zo2 (T:Nat):∀(j:Nat)(Ts:List PW)(o4 Z Y U O N:Option S),Ts.length+j<=400->AllT η s Ts->
  ∃ G p4 p5 p6 p7 p8 p9,G.length=Ts.length+j/\AllT η s G/\forW (.nm 4) j4 (((List.range j).map (Ts.length+·)).map dN) (eQ η s T Ts o4 Z Y U O N) []=some (.nx (eQ η s T G p4 p5 p6 p7 p8 p9),[])
 |0,Ts,o4,Z,Y,U,O,N,hl,h=>⟨Ts,o4,Z,Y,U,O,N,rfl,h,rfl⟩
 |j+1,Ts,o4,Z,Y,U,O,N,hl,h=>by
  obtain⟨A,q6,q7,q8,q9,tb,e⟩:=xj5 η s hs hr T Ts (by omega) h Z Y U O N
  have hn:(Ts++[A]).length=Ts.length+1:=by simp
  obtain⟨G,p4,p5,p6,p7,p8,p9,l2,h2,e2⟩:=zo2 T j (Ts++[A]) (some (.sh (dN Ts.length))) none q6 q7 q8 q9 (by omega) (yt7 h tb)
  refine⟨G,p4,p5,p6,p7,p8,p9,by omega,h2,?_⟩
  rw[hn]at e2
  rw[range_succ_eq_map,map_cons,map_map,show ((Ts.length+·)∘Nat.succ:Nat->Nat)=(Ts.length+1+·)by funext z;simp only[Function.comp,Nat.succ_eq_add_one];omega,Nat.add_zero]
  exact K9 (ρ1:=eQ η s T Ts (some (.sh (dN Ts.length))) Z Y U O N) rfl e e2
theorem ze8 (T:Nat)(Z:T<=310):∃ Ts:List PW,Ts.length=T+1/\AllT η s Ts/\h8 [RI η,.int s,dN T]=some (.fr (Ts.map TbD)):=by
 obtain⟨Ts,U,O,N,G,z,j,l,h,e⟩:=zo2 η s hs hr T (T+1) [] none none none none none none (by simp;omega) (fun t Y=>by simp at Y)
 refine⟨Ts,by simpa using l,h,?_⟩
 have e5:b9 (eQ η s T Ts U O N G z j) []=some (.rf (Ts.map TbD),[]):=by
  unfold b9 zm4
  rw[show (eQ η s T Ts U O N G z j)[3]? =some (some (.own (Ts.map TbD)))from rfl]
 have key:Z4 (w8 10 [RI η,.int s,dN T]) []=some (.rf (Ts.map TbD),[]):=by
  unfold Z4
  exact seqW (ρ':=eQ η s T [] none none none none none none) (ys3 (setF_nil.trans rfl)) (seqW (B9 (xn5 T Z rfl) e) e5)
 unfold h8
 exact zc7 key
end
end
section
theorem A0 {b:List (Option Nat)}{j:ML}{g:Tg}{c:MB}{e:ME}{ρ:Ro}{ds:List D}(h:j ρ=some ds):h7 b j g c e ρ=W8 g c e ds (Y3 b ρ) []:=by unfold h7;rw[h];rfl
noncomputable def wM (w:Nat×Nat):Nat:=max w.1 w.2
theorem yf3 (b:Bool)(w:Nat×Nat):pick b w<=wM w:=by unfold pick wM;split <;> omega
theorem yi5 (w:Nat×Nat):∃ b,wM w=pick b w:=by
 unfold wM
 by_cases h:w.1<=w.2
 .exact⟨true,by show max w.1 w.2=w.2;omega⟩
 .exact⟨false,by show max w.1 w.2=w.1;omega⟩
theorem yd4 {m:ML}{ρ:Ro}{a b:Nat}(h:m ρ=some [dN a,dN b]):zw2 m ρ=some (dN (max a b)):=by
 rw[zm6 (x:=(a:Int)) (r:=[(b:Int)]) h]
 show some (D.int (if (b:Int)>(a:Int)then (b:Int)else (a:Int)))=some (D.int ((max a b:Nat):Int))
 congr 2
 split <;> omega
theorem yd2 (A:PW)(O:A.length<=300):∃ v:Nat,yy6 [TbD A]=some (.sh (dN v))/\(∀ w∈A,wM w<=v)/\(v=0\/∃ w∈A,v=wM w):=by
 have e:h7 [none] (u0 (mvar 0)) (.nm 0) cyes (zw2 (bvar 0)) (w8 1 [TbD A])=some ((A.map fun w=>((wM w:Nat):Int)).map .int):=by
  rw[A0 (l7 (m:=mvar 0) (ds:=DW dN A) rfl)]
  refine(X3 (f:=fun w:Nat×Nat=>D.lst [dN w.1,dN w.2]) (G:=fun w=>D.int ((wM w:Nat):Int)) (fun _ ρ=>∃ o,ρ=[o]) (by
   rintro w ws ρ ⟨o,rfl⟩
   exact⟨[some (.sh (.lst [dN w.1,dN w.2]))],rfl,rfl,yd4 rfl,_,rfl⟩) A _ [] ⟨none,rfl⟩ (x6 (by simp;omega))).trans ?_
  rw[nil_append,map_map];rfl
 obtain⟨vs,j⟩:∃ vs,vs=A.map fun w=>((wM w:Nat):Int):=⟨_,rfl⟩
 rw[<-j]at e
 have h1:=zk1 (ns:=0::vs) (by simp)
 have h2:∀ y∈(0:Int)::vs,y<=maxI (0::vs):=fun y N=>yy3 N
 have U:=h2 0 (by simp)
 obtain⟨v,hv⟩:∃ v:Nat,maxI (0::vs)=(v:Int):=⟨(maxI (0::vs)).toNat,by omega⟩
 rw[hv]at h1 h2
 refine⟨v,?_,fun w hw=>?_,?_⟩
 .unfold yy6 ya2
  refine Z9 (S5 ?_)
  rw[zm6 (x:=0) (r:=vs) (A3 (ds:=[.int 0]) (es:=vs.map .int) (v4 (z5 (d:=.int 0) rfl y0) (x6 (by decide))) e (x6 (by rw[j];simp;omega))),hv]
  rfl
 .have:=h2 ((wM w:Nat):Int) (mem_cons_of_mem _ (by rw[j];exact List.mem_map.mpr ⟨w,hw,rfl⟩))
  omega
 .rcases List.mem_cons.mp h1 with z|z
  .exact .inl (by omega)
  .rw[j]at z
   obtain⟨w,hw,e⟩:=List.mem_map.mp z
   exact .inr ⟨w,hw,by omega⟩
theorem yd1 {η:List Int}{s:Int}{t:Nat}{A:PW}(hr:η.length<=300)(h:Tb η s t A):∃ v,yy6 [TbD A]=some (.sh (dN v))/\Kt η s t v:=by
 have Y:=h.len
 obtain⟨v,e,h1,h2⟩:=yd2 A (by omega)
 have j:∀ q,q<η.length->A.getD q (1,1)∈A:=fun q O=>by
  rw[getD_eq_getElem?_getD,getElem?_eq_getElem (by omega)]
  exact getElem_mem _
 refine⟨v,e,xk4 hr ⟨?_,fun l N=>?_⟩⟩
 .rcases h2 with z|⟨w,hw,z⟩
  .exact⟨[],.inl rfl,by rw[z];rfl⟩
  .obtain⟨q,O,rfl⟩:=getElem_of_mem hw
   obtain⟨b,U⟩:=yi5 A[q]
   have hm:=h.at' q (by omega) (!b)
   rw[Bool.not_not,getD_eq_getElem?_getD,getElem?_eq_getElem O]at hm
   obtain⟨⟨l,G,el⟩,_⟩:=hm
   refine⟨l,.inr ⟨!b,G.1⟩,?_⟩
   rw[el,z,U];rfl
 .rcases N with rfl|⟨d,hd⟩
  .simp
  .cases l with
   |nil=>simp
   |cons p l=>
    have hp:=hd.lt
    have:=(h.at' p hp d).2 (p::l) ⟨hd,l,rfl⟩
    have h3:=yf3 (!d) (A.getD p (1,1))
    have Z:=h1 _ (j p hp)
    omega
end
section
theorem zo1 {x:MEm}{ρ ρ1:Ro}{b:Bool}(h:x ρ=some (.bl b,ρ1)):Z2 x ρ=some (b,ρ1):=by unfold Z2;rw[h]
theorem yv9 {x y:MBm}{ρ ρ1:Ro}(h:x ρ=some (true,ρ1)):zz0 x y ρ=y ρ1:=by unfold zz0;rw[h]
theorem yb7 {x y:MBm}{ρ ρ1:Ro}(h:x ρ=some (false,ρ1)):zz0 x y ρ=some (false,ρ1):=by unfold zz0;rw[h]
theorem xq2 {c:MB}{ρ:Ro}{b:Bool}(h:c ρ=some b):cpu c ρ=some (b,ρ):=by unfold cpu;rw[h]
theorem zj1 {c:MBm}{x y:MS}{ρ ρ1:Ro}{b:Bool}(h:c ρ=some (b,ρ1)):mifm c x y ρ=(if b then x else y) ρ1:=by unfold mifm;rw[h];cases b <;> rfl
theorem zh0 (xs:List Int)(O:xs.length<=1000):m_Z3 [.lst (xs.map .int)]=some (.sh (.bl true)):=by
 unfold m_Z3 b_Z3
 refine Z9 (S5 (zr2 (a:=true) (b:=true) ?_ ?_))
 .unfold misi
  show (kitB "list" "list").map D.bl=_
  rw[xk5];rfl
 .have e:h7 [none] (u0 (mvar 0)) (.nm 0) (cor (mtru (misi "bool" (mvar 0))) (cnot (mtru (misi "int" (mvar 0))))) (mc (.int 1)) (w8 1 [.lst (xs.map .int)])=some []:=by
   unfold h7
   rw[l7 (m:=mvar 0) (ds:=xs.map .int) rfl,Option.bind_some]
   refine(h9 (f:=D.int) (p:=fun _=>false) (G:=fun _=>D.int 1) (fun _ ρ=>∃ o,ρ=[o]) (by
    rintro k ks ρ ⟨o,rfl⟩
    refine⟨[k0c k],rfl,?_,fun z=>(by cases z),_,rfl⟩
    have N:misi "bool" (mvar 0) [k0c k]=some (.bl false):=by
     unfold misi
     show (kitB "int" "bool").map D.bl=_
     rw[xk7];rfl
    have j:misi "int" (mvar 0) [k0c k]=some (.bl true):=by
     unfold misi
     show (kitB "int" "int").map D.bl=_
     rw[xk6];rfl
    unfold cor cnot mtru
    rw[N,j];rfl) xs _ [] ⟨none,rfl⟩ (x6 (by simp;omega))).trans ?_
   rw[zq1];rfl
  rw[A8 e false];rfl
theorem zj6 {neg:Bool}{x y:ML}{ρ:Ro}{xs:List Int}(h:x ρ=some (xs.map .int))(h2:y ρ=some (xs.map .int)):meqB neg x y ρ=some (.bl (!neg)):=by
 unfold meqB eqFD;rw[h,h2,Option.bind_some,Option.bind_some,xr9 6];cases neg <;> rfl
theorem yt1:∀(its:List D)(c k:Int)(o:Option S)(acc:List Int),acc.length+its.length<=1000->∃(f:List Int)(z j:Int)(o':Option S),f.length=acc.length+its.length/\
  j9 (y7 v3 1 (apu (z4 (mc (.int 40)) anil))) its [o,some (.own (RL c k))] (acc.map .int)=some (f.map .int,[o',some (.own (RL z j))])
 |[],c,k,o,acc,_=>⟨acc,c,k,o,by simp,rfl⟩
 |i::its,c,k,o,acc,h=>by
  obtain⟨x,N,G,_,_,e⟩:=v7 c k 40 (by decide) (by decide)
  obtain⟨f,z,j,o',U,e2⟩:=yt1 its N G (some (.sh i)) (acc++[x]) (by simp at h ⊢;omega)
  refine⟨f,z,j,o',by rw[U];simp;omega,?_⟩
  rw[j9]
  have e3:y7 v3 1 (apu (z4 (mc (.int 40)) anil)) [some (.sh i),some (.own (RL c k))]=some (.int x,[some (.sh i),some (.own (RL N G))]):=
   k0 (r0:=RL c k) (r2:=RL c k) rfl (Z6 (z5 (d:=.int 40) rfl y0)) rfl e rfl
  show (match y7 v3 1 (apu (z4 (mc (.int 40)) anil)) [some (.sh i),some (.own (RL c k))]with |some (x,ρ1)=>if (acc.map D.int).length<sizeLine then j9 _ its ρ1 (acc.map D.int++[x])else none|none=>none)=_
  rw[e3]
  have O:(acc.map D.int).length<sizeLine:=by
   have:=l6
   rw[length_map];simp at h;omega
  simp only[O,if_true]
  rw[map_append]at e2
  exact e2
theorem zp0 (c k:Int):∃(fs:List Int)(c' k':Int),fs.length<=300/\∀ p,m_Z8 p (RL c k) []=some (.sh (RI fs),RL c' k'):=by
 obtain⟨n,Z,O,n0,n1,en⟩:=v7 c k 40 (by decide) (by decide)
 have hn:okR (1+n)=true:=X0 (by omega) (by omega)
 obtain⟨bs,Y,N,o',lb,e2⟩:=yt1 (k6 0 (1+n).toNat) Z O none [] (by unfold k6;simp;omega)
 have a1:bs.length=(1+n).toNat:=by rw[lb];unfold k6;simp
 obtain⟨m,U,j,m0,m1,em⟩:=v7 Y N 21 (by decide) (by decide)
 have hm:okR (100+m)=true:=X0 (by omega) (by omega)
 have i2:0+1+1<=sizeLine:=x6 (by decide)
 refine⟨(List.range (100+m).toNat).map fun i=>bs.getD (i % bs.length) 0+(if i % 2=0 then 0 else 30),U,j,by simp;omega,fun p=>?_⟩
 unfold m_Z8
 refine Z8 ?_
 unfold b_Z8
 have ec:d3 [none,some 0] (O8 rng1 (v6 (m2m addD (mpu (mc (.int 1))) (y7 v3 0 (apu (z4 (mc (.int 40)) anil)))) (apu anil))) 0 1 (y7 v3 1 (apu (z4 (mc (.int 40)) anil))) [some (.ob p (RL c k)),none,none]=some (RI bs,[some (.ob p (RL Y N)),none,none]):=by
  have ea:v6 (m2m addD (mpu (mc (.int 1))) (y7 v3 0 (apu (z4 (mc (.int 40)) anil)))) (apu anil) [some (.ob p (RL c k)),none,none]=some ([.int (1+n)],[some (.ob p (RL Z O)),none,none]):=l5 (j8 (m8 (d:=.int 1) rfl) (t6 en rfl) (g:=.int (1+n)) rfl) (Z6 y0)
  unfold d3 O8
  rw[ea]
  simp only
  rw[V1 hn]
  simp only
  exact(P7 (its:=k6 0 (1+n).toNat) (r0:=RL Z O) (rr:=p) rfl rfl e2 rfl).trans rfl
 refine seqI (ρ':=[some (.ob p (RL Y N)),some (.sh (RI bs)),none]) ((i8 ec).trans rfl) ?_
 refine seqI (ρ':=[some (.ob p (RL U j)),some (.sh (RI bs)),some (.sh (.int (100+m)))]) ((i8 (j8 (m8 (d:=.int 100) rfl) (t6 em rfl) (g:=.int (100+m)) rfl)).trans rfl) ?_
 refine Z3 (m8 (u7 ?_)) rfl
 have ei:u8 rng1 (z4 (mvar 2) anil) [some (.ob p (RL U j)),some (.sh (RI bs)),some (.sh (.int (100+m)))]=some ((List.range (100+m).toNat).map dN):=by
  unfold u8
  rw[z5 (d:=.int (100+m)) rfl y0,Option.bind_some,V1 hm,Y4,map_map];rfl
 rw[A0 ei]
 refine(X3 (f:=dN) (G:=fun i=>D.int (bs.getD (i % bs.length) 0+(if i % 2=0 then 0 else 30))) (fun _ ρ=>∃ o,ρ=[o,some (.sh (RI bs))]) (by
  rintro i is ρ ⟨o,rfl⟩
  refine⟨[some (.sh (dN i)),some (.sh (RI bs))],rfl,rfl,?_,_,rfl⟩
  have el:mlen (bvar 1) [some (.sh (dN i)),some (.sh (RI bs))]=some (.int (bs.length:Int)):=by rw[Y0 (show bvar 1 _=some (bs.map .int)from rfl),length_map]
  have e1:m2 modD (mvar 0) (mlen (bvar 1)) [some (.sh (dN i)),some (.sh (RI bs))]=some (dN (i % bs.length)):=by
   rw[u5 (a:=dN i) rfl el]
   show (if G4 (i:Int) (bs.length:Int)=true then some (D.int ((i:Int) % (bs.length:Int)))else none)=_
   rw[if_pos (e7 _ _ (by omega))]
   rfl
  have e2:m2 modD (mvar 0) (mc (.int 2)) [some (.sh (dN i)),some (.sh (RI bs))]=some (dN (i % 2)):=by
   rw[u5 (a:=dN i) (b:=.int 2) rfl rfl]
   show (if G4 (i:Int) 2=true then some (D.int ((i:Int) % 2))else none)=_
   rw[if_pos (e7 _ _ (by decide))]
   rfl
  have e3:mix (w5 (z4 (mc (.int 0)) (z4 (mc (.int 30)) anil))) (m2 modD (mvar 0) (mc (.int 2))) [some (.sh (dN i)),some (.sh (RI bs))]=some (.int (if i % 2=0 then 0 else 30)):=by
   refine l4 (v4 (z5 (d:=.int 0) rfl (z5 (d:=.int 30) rfl y0)) i2) e2 ?_
   have:i % 2=0\/i % 2=1:=by omega
   rcases this with z|z <;> rw[z] <;> rfl
  exact(u5 (l4 (m:=bvar 1) (ds:=bs.map .int) rfl e1 (J6 bs (i % bs.length) (Nat.mod_lt _ (by omega)))) e3).trans rfl) _ _ [] ⟨none,rfl⟩ (x6 (by simp;omega))).trans ?_
 rw[nil_append,map_map]
 rfl
end
section
section
variable {x:Nat->Int}{n:Nat}{s:Int}
theorem Sd.rise:∀{l:List Nat}{t:Nat}{d:Bool},Sd x n s l t d->l.Pairwise (·<·)
 |[],_,_,_=>.nil
 |[p],_,_,_=>pairwise_singleton ..
 |p::q::l,t,d,h=>by
  have h2:(q::l).Pairwise (·<·):=by rcases h.2.2 with z|⟨u,_,z⟩ <;> exact z.rise
  refine List.pairwise_cons.mpr ⟨fun y j=>?_,h2⟩
  rcases List.mem_cons.mp j with rfl|j
  .exact h.1
  .exact Nat.lt_trans h.1 ((List.pairwise_cons.mp h2).1 y j)
theorem Sd.bel:∀{l:List Nat}{t:Nat}{d:Bool},Sd x n s l t d->∀ q∈l,q<n
 |[],_,_,_,q,j=>by cases j
 |[p],_,_,h,q,j=>by rw[List.mem_singleton.mp j];exact h
 |p::r::l,t,d,h,q,j=>by
  have h2:∀ q∈r::l,q<n:=by rcases h.2.2 with z|⟨u,_,z⟩ <;> exact z.bel
  rcases List.mem_cons.mp j with rfl|j
  .exact Nat.lt_trans h.1 (h2 r mem_cons_self)
  .exact h2 q j
theorem Tn.rise {t:Nat}{l:List Nat}(h:Tn x n s t l):l.Pairwise (·<·):=by
 rcases h with rfl|⟨d,h⟩
 .exact .nil
 .exact h.rise
theorem Tn.bel {t:Nat}{l:List Nat}(h:Tn x n s t l):∀ q∈l,q<n:=by
 rcases h with rfl|⟨d,h⟩
 .intro q hq;cases hq
 .exact h.bel
theorem yj9:∀(a b c:List Nat),lx (a++b) (a++c)=lx b c
 |[],_,_=>rfl
 |p::a,b,c=>by
  rw[cons_append,cons_append,<-yj9 a b c]
  simp[lx]
noncomputable abbrev En:=Nat×Bool
noncomputable def cnd (x:Nat->Int)(s:Int)(q p:Nat)(e:En):List En:=if s<=((x p-x q).natAbs:Int)/\e.2=decide (x p<x q)then e::(if 0<e.1 then [(e.1-1,!e.2)]else [])else []
noncomputable def hr0 (x:Nat->Int)(s:Int)(found:List Nat)(p:Nat)(ends:List En):List En:=match found.getLast? with |none=>ends|some q=>ends.flatMap (cnd x s q p)
theorem yi2 (hs:1<=s)(b:Bool)(p q:Nat):far s (!b) (x q) (x p)↔s<=((x p-x q).natAbs:Int)/\b=decide (x p<x q):=by
 obtain⟨h1,h2⟩:=zj5 (s:=s) (a:=x q) (b:=x p) hs
 by_cases e:b=decide (x p<x q)
 .rw[e,h1];simp
 .have e2:(!b)=decide (x p<x q):=by cases b <;> cases z:decide (x p<x q) <;> simp_all
  rw[e2]
  exact⟨fun z=>absurd z h2,fun z=>absurd z.2 e⟩
structure Gr (x:Nat->Int)(n:Nat)(s:Int)(T M:Nat)(l:List Nat)(p:Nat)(ends:List En)(found:List Nat):Prop where
 split:∃ rest,l=found++rest/\∀ r∈rest,p<=r
 nil:found=[]->ends=[(T,false),(T,true)]
 eqv:∀ pre q,found=pre++[q]->q<p/\∀ r,M<=found.length+r.length->(Tn x n s T (found++r)↔∃ e∈ends,Sd x n s (q::r) e.1 (!e.2))
 two:ends.length<=2
 sides:(ends.map (·.2)).Nodup
 le:∀ e∈ends,e.1<=T
variable {T M:Nat}{l:List Nat}{p:Nat}{ends:List En}{found:List Nat}
theorem cnd_mem {q:Nat}{e j:En}:j∈cnd x s q p e↔(s<=((x p-x q).natAbs:Int)/\e.2=decide (x p<x q))/\(j=e\/(0<e.1/\j=(e.1-1,!e.2))):=by
 unfold cnd
 split
 .rename_i h
  simp only[mem_cons,h,and_self,true_and]
  split <;> rename_i h2
  .simp[h2]
  .simp[h2]
 .rename_i h
  simp[h]
theorem yx9:hr0 x s [] p ends=ends:=rfl
theorem M7 {pre:List Nat}{q:Nat}:hr0 x s (pre++[q]) p ends=ends.flatMap (cnd x s q p):=by unfold hr0;rw[getLast?_append];rfl
theorem Gr.le0 (g:Gr x n s T M l p ends found):∀ e∈hr0 x s found p ends,e.1<=T:=fun e j=>by
 rcases eq_nil_or_concat found with rfl|⟨pre,q,z⟩
 .exact g.le e j
 .rw[concat_eq_append]at z
  subst z
  rw[M7]at j
  obtain⟨G,N,h1⟩:=List.mem_flatMap.mp j
  have:=g.le G N
  rcases (cnd_mem.mp h1).2 with rfl|⟨_,rfl⟩
  .exact this
  .show G.1-1<=T;omega
theorem Gr.iff0 (hs:1<=s)(g:Gr x n s T M l p ends found){r:List Nat}(U:M<=found.length+(r.length+1)):Tn x n s T (found++p::r)↔∃ e∈hr0 x s found p ends,Sd x n s (p::r) e.1 (!e.2):=by
 rcases eq_nil_or_concat found with rfl|⟨pre,q,z⟩
 .rw[yx9,g.nil rfl,nil_append]
  constructor
  .rintro(z|⟨d,z⟩)
   .cases z
   .refine⟨(T,!d),by cases d <;> simp,?_⟩
    show Sd x n s (p::r) T (!!d)
    rw[Bool.not_not];exact z
  .rintro⟨e,j,z⟩
   have:e.1=T:=by
    rcases List.mem_cons.mp j with rfl|j
    .rfl
    .rw[List.mem_singleton.mp j]
   rw[this]at z
   exact .inr ⟨_,z⟩
 .rw[concat_eq_append]at z
  obtain⟨O,h⟩:=g.eqv pre q z
  rw[h (p::r) (by rw[length_cons];exact U)]
  subst z
  rw[M7]
  constructor
  .rintro⟨e,j,hqp,G,z⟩
   have G:=(yi2 hs e.2 p q).mp G
   rcases z with z|⟨u,hu,z⟩
   .exact⟨e,List.mem_flatMap.mpr ⟨e,j,cnd_mem.mpr ⟨G,.inl rfl⟩⟩,z⟩
   .exact⟨(e.1-1,!e.2),List.mem_flatMap.mpr ⟨e,j,cnd_mem.mpr ⟨G,.inr ⟨by omega,rfl⟩⟩⟩,by rw[show (e.1-1,!e.2).1=u by show e.1-1=u;omega];exact z⟩
  .rintro⟨e',he',z⟩
   obtain⟨e,j,N⟩:=List.mem_flatMap.mp he'
   obtain⟨G,N⟩:=cnd_mem.mp N
   refine⟨e,j,O,(yi2 hs e.2 p q).mpr G,?_⟩
   rcases N with rfl|⟨Y,rfl⟩
   .exact .inl z
   .exact .inr ⟨e.1-1,by omega,z⟩
noncomputable def flt (tv:Nat->Bool->Nat->Nat)(w p:Nat)(h:List En):List En:=h.filter fun e=>decide (w<=tv e.1 e.2 p)
variable {tv:Nat->Bool->Nat->Nat}
theorem Gr.iffH (hs:1<=s)(hv:∀ t b q,t<=T->q<n->Mo (FS x n s t (!b) q) (tv t b q))(hp:p<n)(g:Gr x n s T M l p ends found){r:List Nat}(j:M<=found.length+(r.length+1)):
  Tn x n s T (found++p::r)↔∃ e∈flt tv (M-found.length) p (hr0 x s found p ends),Sd x n s (p::r) e.1 (!e.2):=by
 rw[g.iff0 hs j]
 constructor
 .rintro⟨e,he,z⟩
  refine⟨e,List.mem_filter.mpr ⟨he,decide_eq_true ?_⟩,z⟩
  have:=(hv e.1 e.2 p (g.le0 e he) hp).2 (p::r) ⟨z,r,rfl⟩
  rw[length_cons]at this
  omega
 .rintro⟨e,he,z⟩
  exact⟨e,(List.mem_filter.mp he).1,z⟩
theorem Gr.some (hs:1<=s)(hv:∀ t b q,t<=T->q<n->Mo (FS x n s t (!b) q) (tv t b q))(hp:p<n)(g:Gr x n s T M l p ends found)(j:flt tv (M-found.length) p (hr0 x s found p ends)≠[]):∃ r,M<=found.length+(r.length+1)/\Tn x n s T (found++p::r):=by
 obtain⟨e,G⟩:=exists_mem_of_ne_nil _ j
 obtain⟨h1,h2⟩:=List.mem_filter.mp G
 have h2:=of_decide_eq_true h2
 obtain⟨⟨m,hm,O⟩,_⟩:=hv e.1 e.2 p (g.le0 e h1) hp
 obtain⟨z,r,rfl⟩:=hm
 rw[length_cons]at O
 have N:M<=found.length+(r.length+1):=by omega
 exact⟨r,N,(g.iffH hs hv hp N).mpr ⟨e,G,z⟩⟩
theorem F7 {a b:List Nat}{p:Nat}(h:(a++p::b).Pairwise (·<·)):∀ r∈b,p<r:=by
 have:=(List.pairwise_append.mp h).2.1
 exact(List.pairwise_cons.mp this).1
theorem ze9 {q:Nat}(h2:ends.length<=2)(hn:(ends.map (·.2)).Nodup):(ends.flatMap (cnd x s q p)).length<=2/\((ends.flatMap (cnd x s q p)).map (·.2)).Nodup:=by
 have one:∀ e:En,(cnd x s q p e).length<=2/\((cnd x s q p e).map (·.2)).Nodup:=fun e=>by
  unfold cnd
  split
  .split <;> simp
  .simp
 have no:∀ e:En,e.2≠decide (x p<x q)->cnd x s q p e=[]:=fun e h=>by
  unfold cnd;rw[if_neg fun z=>h z.2]
 match ends,h2,hn with
 |[],_,_=>simp
 |[e],_,_=>simpa using one e
 |[e,f],_,hn=>
  have j:e.2≠f.2:=by simpa using hn
  by_cases h:e.2=decide (x p<x q)
  .have:cnd x s q p f=[]:=no f fun z=>j (h.trans z.symm)
   rw[flatMap_cons,flatMap_cons,this]
   simpa using one e
  .rw[flatMap_cons,no e h]
   simpa using one f
theorem Gr.shape (g:Gr x n s T M l p ends found)(w:Nat):(flt tv w p (hr0 x s found p ends)).length<=2/\((flt tv w p (hr0 x s found p ends)).map (·.2)).Nodup:=by
 have h:(hr0 x s found p ends).length<=2/\((hr0 x s found p ends).map (·.2)).Nodup:=by
  rcases eq_nil_or_concat found with rfl|⟨pre,q,z⟩
  .exact⟨g.two,g.sides⟩
  .rw[concat_eq_append]at z
   subst z
   rw[M7]
   exact ze9 g.two g.sides
 exact⟨Nat.le_trans (length_filter_le ..) h.1,h.2.sublist (List.filter_sublist.map _)⟩
theorem Gr.yes (hs:1<=s)(hv:∀ t b q,t<=T->q<n->Mo (FS x n s t (!b) q) (tv t b q))(hb:Best (Tn x n s T) l)(hl:l.length=M)(hp:p<n)(g:Gr x n s T M l p ends found)(Z:flt tv (M-found.length) p (hr0 x s found p ends)≠[])(hw:found.length<M)
  {G:List En} (pm:G.Perm (flt tv (M-found.length) p (hr0 x s found p ends))):Gr x n s T M l (p+1) G (found++[p]):=by
 obtain⟨rest,hr1,N⟩:=g.split
 obtain⟨r,hM,hr⟩:=g.some hs hv hp Z
 have sh:=g.shape (tv:=tv) (M-found.length)
 have rl:l.Pairwise (·<·):=hb.1.rise
 have j:rest.length+found.length=M:=by rw[<-hl,hr1,length_append];omega
 match rest,hr1,N,j with
 |[],_,_,j=>simp at j;omega
 |a::rest,hr1,N,j=>
  have ha:a=p:=by
   have h1:=hb.2 _ hr
   have h2:=hb.len _ hr
   rw[hr1]at h1 h2
   have ha:p<=a:=N a mem_cons_self
   by_cases e:a=p
   .exact e
   .have h3:lx (found++p::r) (found++a::rest)=true:=by rw[yj9];exact zk4 (by omega)
    have h4:n4 (found++p::r) (found++a::rest)=true:=(j6 _ _).mpr (.inr ⟨by
     simp only[length_append,length_cons]at h2 j ⊢
     omega,h3⟩)
    rw[h4]at h1;cases h1
  subst ha
  rw[hr1]at rl
  refine⟨⟨rest,by rw[hr1,append_assoc];rfl,fun U Y=>F7 rl U Y⟩,fun z=>by simp at z,fun pre q e=>?_,by rw[pm.length_eq];exact sh.1,(pm.map _).nodup_iff.mpr sh.2,fun e O=>g.le0 e (List.mem_filter.mp (pm.mem_iff.mp O)).1⟩
  have e2:q=a:=by
   have:=congrArg List.getLast? e
   simpa using this.symm
  subst e2
  refine⟨by omega,fun U a1=>?_⟩
  rw[append_assoc]
  show Tn x n s T (found++q::U)↔_
  rw[g.iffH hs hv hp (by simp only[length_append,length_cons,length_nil]at a1;omega)]
  exact⟨fun⟨e,O,z⟩=>⟨e,pm.mem_iff.mpr O,z⟩,fun⟨e,O,z⟩=>⟨e,pm.mem_iff.mp O,z⟩⟩
theorem Gr.no (hs:1<=s)(hv:∀ t b q,t<=T->q<n->Mo (FS x n s t (!b) q) (tv t b q))(Y:Best (Tn x n s T) l)(hl:l.length=M)(hp:p<n)(g:Gr x n s T M l p ends found)(N:flt tv (M-found.length) p (hr0 x s found p ends)=[]\/¬ found.length<M):Gr x n s T M l (p+1) ends found:=by
 obtain⟨rest,hr1,G⟩:=g.split
 have O:l.Pairwise (·<·):=Y.1.rise
 have j:rest.length+found.length=M:=by rw[<-hl,hr1,length_append];omega
 refine⟨⟨rest,hr1,fun r hr=>?_⟩,g.nil,fun pre q e=>⟨by have:=(g.eqv pre q e).1;omega,(g.eqv pre q e).2⟩,g.two,g.sides,g.le⟩
 match rest,hr1,G,j,hr with
 |a::rest,hr1,G,j,hr=>
  have ha:p<=a:=G a mem_cons_self
  have a1:a≠p:=by
   rintro rfl
   have Z:M<=found.length+(rest.length+1):=by rw[length_cons]at j;omega
   have hh:Tn x n s T (found++a::rest):=by rw[<-hr1];exact Y.1
   obtain⟨e,U,_⟩:=(g.iffH hs hv hp Z).mp hh
   rcases N with z|z
   .rw[z]at U;cases U
   .rw[length_cons]at j;omega
  rcases List.mem_cons.mp hr with rfl|hr
  .omega
  .rw[hr1]at O
   have:=F7 O r hr
   omega
theorem Gr.start (hs:1<=s):Gr x n s T M l 0 [(T,false),(T,true)] []:=
 ⟨⟨l,rfl,fun _ _=>Nat.zero_le _⟩,fun _=>rfl,fun pre q e=>by simp at e,by simp,by simp,fun e j=>by
  rcases List.mem_cons.mp j with rfl|j
  .exact Nat.le_refl _
  .rw[List.mem_singleton.mp j];exact Nat.le_refl _⟩
theorem Gr.done (z:Best (Tn x n s T) l)(g:Gr x n s T M l n ends found):found=l:=by
 obtain⟨rest,hr1,j⟩:=g.split
 cases rest with
 |nil=>rw[hr1,append_nil]
 |cons a rest=>
  have h1:=j a mem_cons_self
  have h2:=z.1.bel a (by rw[hr1];simp)
  omega
end
end
section
noncomputable abbrev eP (e:En):Int×Int:=((e.1:Int),bit e.2)
noncomputable abbrev eD (e:En):D:=.tup [dN e.1,.int (bit e.2)]
theorem xs7:∀ k∈List.range 128,ZT.hp2 (k:Int) 0≠ZT.hp2 (k:Int) 1:=by decide +kernel
theorem xs6:∀ k∈List.range 128,ZT.hp2 ((k+1:Nat):Int) 0≠ZT.hp2 (k:Int) 1:=by decide +kernel
theorem xs5:∀ k∈List.range 128,ZT.hp2 ((k+1:Nat):Int) 1≠ZT.hp2 (k:Int) 0:=by decide +kernel
def Cl (a b:En):Prop:=(a.1=b.1/\a.2=false/\b.2=true)\/(a.1=b.1+1/\b.2= !a.2)
theorem Cl.hash {a b:En}(h:Cl a b)(j:b.1<128):ZT.hq2 (eP a)≠ZT.hq2 (eP b):=by
 obtain⟨k,c⟩:=b
 obtain⟨i,d⟩:=a
 rw[ZT.hq2_eq,ZT.hq2_eq]
 rcases h with⟨h1,h2,z⟩|⟨h1,h2⟩
 .simp only at h1 h2 z
  subst h1 h2 z
  exact xs7 i (List.mem_range.mpr j)
 .simp only at h1 h2
  subst h1 h2
  cases d
  .exact xs6 k (List.mem_range.mpr j)
  .exact xs5 k (List.mem_range.mpr j)
theorem Cl.nodup {H:List En}(h:H.Pairwise Cl)(G:∀ e∈H,e.1<128):(H.map fun e=>ZT.hq2 (eP e)).Nodup:=by
 refine List.pairwise_map.mpr (List.Pairwise.imp_of_mem (fun ha j z=>z.hash (G _ j)) h)
theorem ye2 (H:List En):ZT.pairsD (H.map eD)=some (H.map eP):=by
 have:H.map eD=(H.map eP).map ZT.tD:=by rw[map_map];rfl
 rw[this,ZT.pairsD_map]
theorem ys8 {m:ML}{ρ:Ro}{H:List En}(h:m ρ=some (H.map eD))(h1:H≠[])(h2:H.length<=2)(hn:(H.map fun e=>ZT.hq2 (eP e)).Nodup):∃ H':List En,H'.Perm H/\ZT.msortSetT m ρ=some (H'.map eD):=by
 have j:1<=H.length:=by cases H with |nil=>exact absurd rfl h1|cons _ _=>simp
 have hm:(H.map eP).map ZT.hq2=H.map fun e=>ZT.hq2 (eP e):=by rw[map_map];rfl
 have key:ZT.msortSetT m ρ=some ((ZT.so2i (H.map eP)).map ZT.tD):=by
  unfold ZT.msortSetT
  rw[h]
  simp only[ye2]
  rw[if_pos ⟨by rw[length_map];exact j,by rw[length_map];exact h2,by rw[hm];exact hn⟩]
 match H,h2,j with
 |[a],_,_=>exact⟨[a],.refl _,key⟩
 |[a,b],_,_=>
  have e:ZT.so2i ([a,b].map eP)=if ZT.lt2 (eP b).1 (eP b).2 (eP a).1 (eP a).2=true then [eP b,eP a]else [eP a,eP b]:=rfl
  rw[e]at key
  cases z:ZT.lt2 (eP b).1 (eP b).2 (eP a).1 (eP a).2 with
  |true=>rw[z,if_pos rfl]at key;exact⟨[b,a],.swap _ _ _,key⟩
  |false=>rw[z,if_neg (by decide)]at key;exact⟨[a,b],.refl _,key⟩
section
variable {x:Nat->Int}{n:Nat}{s:Int}{T M:Nat}{l:List Nat}{p:Nat}{ends:List En}{found:List Nat}
theorem yv7 {q:Nat}(h2:ends.length<=2)(hn:(ends.map (·.2)).Nodup):(ends.flatMap (cnd x s q p)).Pairwise Cl:=by
 have one:∀ e:En,(cnd x s q p e).Pairwise Cl:=fun e=>by
  unfold cnd
  split
  .split
   .rename_i h0
    refine List.pairwise_cons.mpr ⟨fun b G=>?_,pairwise_singleton ..⟩
    rw[List.mem_singleton.mp G]
    exact .inr ⟨by show e.1=e.1-1+1;omega,rfl⟩
   .exact pairwise_singleton ..
  .exact .nil
 have no:∀ e:En,e.2≠decide (x p<x q)->cnd x s q p e=[]:=fun e h=>by
  unfold cnd;rw[if_neg fun z=>h z.2]
 match ends,h2,hn with
 |[],_,_=>exact .nil
 |[e],_,_=>simpa using one e
 |[e,f],_,hn=>
  have j:e.2≠f.2:=by simpa using hn
  by_cases h:e.2=decide (x p<x q)
  .have:cnd x s q p f=[]:=no f fun z=>j (h.trans z.symm)
   rw[flatMap_cons,flatMap_cons,this]
   simpa using one e
  .rw[flatMap_cons,no e h]
   simpa using one f
theorem Gr.close (g:Gr x n s T M l p ends found):(hr0 x s found p ends).Pairwise Cl:=by
 rcases eq_nil_or_concat found with rfl|⟨pre,q,z⟩
 .rw[yx9,g.nil rfl]
  refine List.pairwise_cons.mpr ⟨fun b j=>?_,pairwise_singleton ..⟩
  rw[List.mem_singleton.mp j]
  exact .inl ⟨rfl,rfl,rfl⟩
 .rw[concat_eq_append]at z
  subst z
  rw[M7]
  exact yv7 g.two g.sides
theorem Gr.nodupH (g:Gr x n s T M l p ends found)(z:T<128)(tv:Nat->Bool->Nat->Nat)(w:Nat):((flt tv w p (hr0 x s found p ends)).map fun e=>ZT.hq2 (eP e)).Nodup:=
 Cl.nodup (g.close.sublist filter_sublist) fun e j=>Nat.lt_of_le_of_lt (g.le0 e (List.mem_filter.mp j).1) z
end
end
section
theorem yp9 {c:MB}{x y:MS}{ρ:Ro}{b:Bool}(h:c ρ=some b):mif c x y ρ=(if b then x else y) ρ:=by unfold mif;rw[h];cases b <;> rfl
theorem zw9 {g:Tg}{body:MS}{d:D}{ds:List D}{ρ ρ1 j:Ro}{r:Option Out}(h1:tgD g d ρ=some ρ1)(h2:body ρ1=some (.nx j))(z:forD g body ds j=r):forD g body (d::ds) ρ=r:=by
 unfold forD;rw[h1];simp only[h2];exact z
theorem yy5 {i:Nat}{x:ME}{ρ:Ro}{ds:List D}{d:D}(h:ρ[i]? =some (some (.own ds)))(z:x ρ=some d)(j:ds.length<1000):mapp i x ρ=some (.nx (ρ.set i (some (.own (ds++[d]))))):=by
 unfold mapp;rw[h];simp only;rw[z,Option.bind_some,if_pos (Nat.lt_of_lt_of_le j (Nat.le_trans (by decide) l6))]
theorem yp2 {i:Nat}{m:ML}{ρ:Ro}{ds:List D}(h:m ρ=some ds):c7 i m ρ=some (.nx (ρ.set i (some (.own ds)))):=by unfold c7;rw[h];rfl
noncomputable def eF (η:List Int)(s:Int)(Ts:List PW)(ends:List En)(found:List Nat)(w:Nat)(o6 o7 o8 o9:Option S):Ro:=[some (.sh (RI η)),k0c s,some (.sh (.lst (Ts.map TbD))),some (.sh (.lst (ends.map eD))),some (.own (found.map dN)),some (.sh (dN w)),o6,o7,o8,o9]
theorem sub1 (e:En)(h:0<e.1):D.int ((e.1:Int)-1)=dN (e.1-1):=by
 unfold dN;congr 1;omega
theorem yg2 {m:ML}{y:ME}{ρ:Ro}{d:D}{b:Bool}(h:m ρ=some [d])(j:y ρ=some (.bl b)):mrep m (n5 intF (z4 y anil)) ρ=some (if b then [d]else []):=by
 have e:n5 intF (z4 y anil) ρ=some (.int (if b then 1 else 0)):=by
  unfold n5
  rw[z5 j y0]
  cases b <;> rfl
 unfold mrep
 rw[h,Option.bind_some,e]
 have h1:G2 1 1=true:=by
  unfold G2
  rw[decide_eq_true (show 1*(1:Int).toNat<=sizeLine from Nat.le_trans (by decide) l6)]
  rfl
 have z:G2 1 0=true:=by
  unfold G2
  rw[decide_eq_true (show 1*(0:Int).toNat<=sizeLine from Nat.zero_le _)]
  rfl
 cases b
 .simp only[Bool.false_eq_true,if_false]
  rw[show [d].length=1 from rfl,if_pos z]
  rfl
 .simp only[if_true]
  rw[show [d].length=1 from rfl,if_pos h1]
  rfl
section
variable (η:List Int)(s:Int)(Ts:List PW)(ends:List En)(found:List Nat)(w:Nat)
noncomputable def hr1 (η:List Int)(s:Int)(found:List Nat)(p:Nat)(e:En):List En:=match found.getLast? with |none=>[e]|some q=>cnd (xr η) s q p e
theorem yc4 (p:Nat):∀ es:List En,es.flatMap (hr1 η s found p)=hr0 (xr η) s found p es:=by
 intro es
 unfold hr0 hr1
 cases found.getLast? with
 |none=>simp
 |some q=>rfl
theorem yc3 (p:Nat)(e:En):(hr1 η s found p e).length<=2:=by
 unfold hr1 cnd
 split
 .simp
 .split
  .split <;> simp
  .simp
theorem yn6 (hr:η.length<=300)(p:Nat)(hp:p<η.length)(Z:∀ q∈found,q<p)(e:En)(H:List En)(hH:H.length<=100):
  Q7 (eF η s Ts ends found w (some (.sh (dN p))) (some (.own (H.map eD))) (some (.sh (dN e.1))) (some (.sh (.int (bit e.2)))))=some (.nx (eF η s Ts ends found w (some (.sh (dN p))) (some (.own ((H++hr1 η s found p e).map eD))) (some (.sh (dN e.1))) (some (.sh (.int (bit e.2)))))):=by
 have U:(H.map eD).length<1000:=by rw[length_map];omega
 have tp:mtup (z4 (mvar 8) (z4 (mvar 9) anil)) (eF η s Ts ends found w (some (.sh (dN p))) (some (.own (H.map eD))) (some (.sh (dN e.1))) (some (.sh (.int (bit e.2)))))=some (eD e):=V5 (z5 rfl (z5 rfl y0)) (x6 (show 2<=1000000 by decide))
 have c1:w6 (meqB false (bvar 4) (w5 anil)) (eF η s Ts ends found w (some (.sh (dN p))) (some (.own (H.map eD))) (some (.sh (dN e.1))) (some (.sh (.int (bit e.2)))))=some (found.map dN).isEmpty:=T0 (A8 (m:=bvar 4) (ds:=found.map dN) rfl false)
 unfold Q7
 rw[yp9 c1]
 rcases eq_nil_or_concat found with rfl|⟨pre,q,z⟩
 .rw[show (([]:List Nat).map dN).isEmpty=true from rfl]
  simp only[if_true]
  rw[yy5 rfl tp U]
  unfold hr1
  rw[map_append]
  rfl
 .rw[concat_eq_append]at z
  have hq:q<p:=Z q (by rw[z];simp)
  have ne:(found.map dN).isEmpty=false:=by rw[z];simp
  rw[ne]
  simp only[Bool.false_eq_true,if_false]
  have Y:mix (bvar 4) (m1 negD (mc (.int 1))) (eF η s Ts ends found w (some (.sh (dN p))) (some (.own (H.map eD))) (some (.sh (dN e.1))) (some (.sh (.int (bit e.2)))))=some (dN q):=
   l4 (m:=bvar 4) (ds:=found.map dN) (k:=-1) rfl rfl (by rw[z];exact atI_last dN pre q)
  have G:mix (bvar 0) (mix (bvar 4) (m1 negD (mc (.int 1)))) (eF η s Ts ends found w (some (.sh (dN p))) (some (.own (H.map eD))) (some (.sh (dN e.1))) (some (.sh (.int (bit e.2)))))=some (.int (xr η q)):=l4 (m:=bvar 0) rfl Y (J6 η q (by omega))
  have N:mix (bvar 0) (mvar 6) (eF η s Ts ends found w (some (.sh (dN p))) (some (.own (H.map eD))) (some (.sh (dN e.1))) (some (.sh (.int (bit e.2)))))=some (.int (xr η p)):=l4 (m:=bvar 0) rfl rfl (J6 η p hp)
  have ca:w6 (m2 geD (n5 absF (z4 (m2 subD (mix (bvar 0) (mvar 6)) (mix (bvar 0) (mix (bvar 4) (m1 negD (mc (.int 1)))))) anil)) (mvar 1)) (eF η s Ts ends found w (some (.sh (dN p))) (some (.own (H.map eD))) (some (.sh (dN e.1))) (some (.sh (.int (bit e.2)))))=some (decide (s<=((xr η p-xr η q).natAbs:Int))):=by
   refine zz9 ?_ rfl
   unfold n5
   rw[z5 ((u5 N G).trans (show subD (.int (xr η p)) (.int (xr η q))=some (.int (xr η p-xr η q))from rfl)) y0]
   show some (D.int (if xr η p-xr η q<0 then -(xr η p-xr η q)else xr η p-xr η q))=_
   rw[yt8]
  have cb:w6 (m2 eqSD (mvar 9) (n5 intF (z4 (m2 ltD (mix (bvar 0) (mvar 6)) (mix (bvar 0) (mix (bvar 4) (m1 negD (mc (.int 1)))))) anil))) (eF η s Ts ends found w (some (.sh (dN p))) (some (.own (H.map eD))) (some (.sh (dN e.1))) (some (.sh (.int (bit e.2)))))=some (e.2==decide (xr η p<xr η q)):=by
   refine T0 ?_
   have h2:n5 intF (z4 (m2 ltD (mix (bvar 0) (mvar 6)) (mix (bvar 0) (mix (bvar 4) (m1 negD (mc (.int 1)))))) anil) (eF η s Ts ends found w (some (.sh (dN p))) (some (.own (H.map eD))) (some (.sh (dN e.1))) (some (.sh (.int (bit e.2)))))=some (.int (bit (decide (xr η p<xr η q)))):=by
    unfold n5
    rw[z5 ((u5 N G).trans (show ltD (.int (xr η p)) (.int (xr η q))=some (.bl (decide (xr η p<xr η q)))from rfl)) y0]
    cases decide (xr η p<xr η q) <;> rfl
   rw[u5 (a:=.int (bit e.2)) (b:=.int (bit (decide (xr η p<xr η q)))) rfl h2]
   cases e.2 <;> cases decide (xr η p<xr η q) <;> rfl
  rw[yp9 (zq6 ca cb)]
  have hh:hr1 η s found p e=cnd (xr η) s q p e:=by unfold hr1;rw[z,getLast?_append];rfl
  rw[hh]
  unfold cnd
  by_cases c:s<=((xr η p-xr η q).natAbs:Int)/\e.2=decide (xr η p<xr η q)
  .rw[if_pos c,show (decide (s<=((xr η p-xr η q).natAbs:Int))&&(e.2==decide (xr η p<xr η q)))=true by rw[decide_eq_true c.1,c.2];simp]
   simp only[if_true]
   have gt:m2 gtD (mvar 8) (mc (.int 0)) (eF η s Ts ends found w (some (.sh (dN p))) (some (.own (H.map eD))) (some (.sh (dN e.1))) (some (.sh (.int (bit e.2)))))=some (.bl (decide (0<e.1))):=by
    refine(u5 (a:=.int (e.1:Int)) (b:=.int 0) rfl rfl).trans ?_
    show some (D.bl (decide ((0:Int)<(e.1:Int))))=_
    congr 2
    exact decide_eq_decide.mpr (by omega)
   have O:w5 (z4 (mtup (z4 (m2 subD (mvar 8) (mc (.int 1))) (z4 (m2 subD (mc (.int 1)) (mvar 9)) anil))) anil) (eF η s Ts ends found w (some (.sh (dN p))) (some (.own (H.map eD))) (some (.sh (dN e.1))) (some (.sh (.int (bit e.2)))))=some [D.tup [.int ((e.1:Int)-1),.int (bit (!e.2))]]:=by
    refine v4 (z5 (V5 (z5 (d:=.int ((e.1:Int)-1)) ((u5 (a:=.int (e.1:Int)) (b:=.int 1) rfl rfl).trans rfl) (z5 (d:=.int (bit (!e.2))) ((u5 (a:=.int 1) (b:=.int (bit e.2)) rfl rfl).trans (congrArg (fun z=>some (D.int z)) (yz2 e.2))) y0)) (x6 (show 2<=1000000 by decide))) y0) (x6 (show 1<=1000000 by decide))
   have r1:=yg2 O gt
   have a1:mcat (bvar 7) (w5 (z4 (mtup (z4 (mvar 8) (z4 (mvar 9) anil))) anil)) (eF η s Ts ends found w (some (.sh (dN p))) (some (.own (H.map eD))) (some (.sh (dN e.1))) (some (.sh (.int (bit e.2)))))=some (H.map eD++[eD e]):=
    A3 (x:=bvar 7) (ds:=H.map eD) rfl (v4 (z5 tp y0) (x6 (show 1<=1000000 by decide))) (x6 (by simp;omega))
   rw[yp2 (A3 a1 r1 (x6 (by split <;> simp <;> omega)))]
   refine congrArg (fun z=>some (Out.nx z)) ?_
   unfold eF
   simp only[set_cons_zero,set_cons_succ]
   refine congrArg (fun z=>[_,_,_,_,_,_,_,some (S.own z),_,_]) ?_
   rw[map_append,map_cons]
   by_cases j:0<e.1
   .simp only[j,decide_true,if_true,map_cons,map_nil]
    rw[sub1 e j]
    simp
   .simp only[j,decide_false,Bool.false_eq_true,if_false,map_nil]
    simp
  .rw[if_neg c]
   have:(decide (s<=((xr η p-xr η q).natAbs:Int))&&(e.2==decide (xr η p<xr η q)))=false:=by
    cases z1:decide (s<=((xr η p-xr η q).natAbs:Int))with
    |false=>rfl
    |true=>
     rw[Bool.true_and]
     cases z2:(e.2==decide (xr η p<xr η q))with
     |false=>rfl
     |true=>exact absurd ⟨of_decide_eq_true z1,by simpa using z2⟩ c
   rw[this,append_nil]
   rfl
theorem E6 (hr:η.length<=300)(p:Nat)(hp:p<η.length)(O:∀ q∈found,q<p):∀(es H:List En)(z j:Option S),H.length+2*es.length<=100->
  ∃ N G,forD (.tp [8,9]) Q7 (es.map eD) (eF η s Ts ends found w (some (.sh (dN p))) (some (.own (H.map eD))) z j)=some (.nx (eF η s Ts ends found w (some (.sh (dN p))) (some (.own ((H++es.flatMap (hr1 η s found p)).map eD))) N G))
 |[],H,z,j,_=>⟨z,j,by rw[flatMap_nil,append_nil];rfl⟩
 |e::es,H,z,j,hl=>by
  rw[length_cons]at hl
  have h1:=yc3 η s found p e
  obtain⟨N,G,h⟩:=E6 hr p hp O es (H++hr1 η s found p e) (some (.sh (dN e.1))) (some (.sh (.int (bit e.2)))) (by rw[length_append];omega)
  refine⟨N,G,?_⟩
  rw[map_cons,flatMap_cons,<-append_assoc]
  exact zw9 (ρ1:=eF η s Ts ends found w (some (.sh (dN p))) (some (.own (H.map eD))) (some (.sh (dN e.1))) (some (.sh (.int (bit e.2))))) rfl (yn6 η s Ts ends found w hr p hp O e H (by omega)) h
end
end
section
theorem yw4 {i:Nat}{m:MS}{ρ:Ro}{ds:List D}(h:ρ[i]? =some (some (.own ds))):g8 i m ρ=m (ρ.set i (some (.sh (.lst ds)))):=by unfold g8;rw[h]
section
variable (η:List Int)(s:Int)(Ts:List PW)
noncomputable def tvT (Ts:List PW)(t:Nat)(b:Bool)(q:Nat):Nat:=pick b ((Ts.getD t []).getD q (1,1))
theorem xo1 (T:Nat)(N:Ts.length=T+1)(z:AllT η s Ts):∀ t b q,t<=T->q<η.length->Mo (FS (xr η) η.length s t (!b) q) (tvT Ts t b q):=fun t b q G j=>by
 have:=(z t (by omega)).at' q j (!b)
 rw[Bool.not_not]at this
 exact this
theorem zg8 (T:Nat)(hr:η.length<=300)(hl:Ts.length=T+1)(hA:AllT η s Ts)(ends:List En)(found:List Nat)(w p:Nat)(hp:p<η.length)(H:List En)(hH:H.length<=100)(hT:∀ e∈H,e.1<=T)(Z Y:Option S):
  h7 [none,none,some 5,some 6,some 2] (u0 (mvar 7)) (.tp [0,1]) (w6 (m2 geD (mix (u0 (mix (u0 (mix (bvar 4) (mvar 0))) (mvar 3))) (mvar 1)) (mvar 2))) (mtup (z4 (mvar 0) (z4 (mvar 1) anil))) (eF η s Ts ends found w (some (.sh (dN p))) (some (.sh (.lst (H.map eD)))) Z Y)=some ((flt (tvT Ts) w p H).map eD):=by
 unfold h7
 rw[l7 (m:=mvar 7) (ds:=H.map eD) rfl,Option.bind_some]
 refine(h9 (f:=eD) (p:=fun e=>decide (w<=tvT Ts e.1 e.2 p)) (G:=eD) (fun ds ρ=>(∀ e∈ds,e.1<=T)/\∃ U O,ρ=[U,O,some (.sh (dN w)),some (.sh (dN p)),some (.sh (.lst (Ts.map TbD)))]) (by
  rintro e ds ρ ⟨hd,U,O,rfl⟩
  refine⟨[some (.sh (dN e.1)),some (.sh (.int (bit e.2))),some (.sh (dN w)),some (.sh (dN p)),some (.sh (.lst (Ts.map TbD)))],rfl,?_,fun _=>V5 (z5 rfl (z5 rfl y0)) (x6 (show 2<=1000000 by decide)),fun e' z=>hd e' (mem_cons_of_mem _ z),_,_,rfl⟩
  have he:=hd e mem_cons_self
  have N:=hA e.1 (by omega)
  have a1:u0 (mix (bvar 4) (mvar 0)) [some (.sh (dN e.1)),some (.sh (.int (bit e.2))),some (.sh (dN w)),some (.sh (dN p)),some (.sh (.lst (Ts.map TbD)))]=some (DW dN (Ts.getD e.1 [])):=by
   refine l7 (l4 (m:=bvar 4) (ds:=Ts.map TbD) (k:=(e.1:Int)) rfl rfl ?_)
   rw[zz3 TbD Ts (e.1:Int) (by omega) (by omega) [],Int.toNat_natCast]
  have a2:=zk6 (f:=dN) (A:=Ts.getD e.1 []) (i:=mvar 3) (j:=mvar 1) (p:=p) (b:=e.2) (1,1) a1 rfl rfl (by rw[N.len];exact hp)
  rw[zz9 (i:=((tvT Ts e.1 e.2 p:Nat):Int)) (j:=(w:Int)) a2 rfl]
  refine congrArg some (decide_eq_decide.mpr ?_)
  exact Int.ofNat_le) H _ [] ⟨hT,none,none,rfl⟩ (x6 (by simp;omega))).trans ?_
 rw[nil_append]
 rfl
theorem yn5 (T M:Nat)(l:List Nat)(hs:1<=s)(hr:η.length<=300)(hT:T<128)(a1:Ts.length=T+1)(hA:AllT η s Ts)(hb:Best (Tn (xr η) η.length s T) l)(hl:l.length=M)(p:Nat)(hp:p<η.length)(ends:List En)(found:List Nat)
  (g:Gr (xr η) η.length s T M l p ends found) (o7 o8 o9:Option S):
  ∃ j G p7 O N,Gr (xr η) η.length s T M l (p+1) j G/\Q6 (eF η s Ts ends found (M-found.length) (some (.sh (dN p))) o7 o8 o9)=some (.nx (eF η s Ts j G (M-G.length) (some (.sh (dN p))) p7 O N)):=by
 have hv:=xo1 η s Ts T a1 hA
 have hf:∀ q∈found,q<p:=fun q Y=>by
  rcases eq_nil_or_concat found with z|⟨pre,r,z⟩
  .rw[z]at Y;cases Y
  .rw[concat_eq_append]at z
   have h1:=(g.eqv pre r z).1
   obtain⟨rest,hr1,_⟩:=g.split
   have rl:=hb.1.rise
   rw[hr1,z]at rl
   rw[z]at Y
   rcases List.mem_append.mp Y with Y|Y
   .have:=(List.pairwise_append.mp ((List.pairwise_append.mp rl).1)).2.2 q Y r (by simp)
    omega
   .rw[List.mem_singleton.mp Y];exact h1
 have h2:=g.two
 obtain⟨O,N,e1⟩:=E6 η s Ts ends found (M-found.length) hr p hp hf ends [] o8 o9 (by simp;omega)
 rw[nil_append,yc4]at e1
 have a2:=g.shape (tv:=tvT Ts) (M-found.length)
 have a7:(hr0 (xr η) s found p ends).length<=2:=by
  have:=g.shape (tv:=fun _ _ _=>0) 0
  have e:flt (fun _ _ _=>0) 0 p (hr0 (xr η) s found p ends)=hr0 (xr η) s found p ends:=by unfold flt;simp
  rw[e]at this
  exact this.1
 have a5:∀ q∈found,q<η.length:=fun q Y=>by have:=hf q Y;omega
 have a6:found.length<=300:=by
  obtain⟨rest,hr1,_⟩:=g.split
  have:=hb.1.len
  rw[hr1,length_append]at this
  omega
 have s1:c7 7 (w5 anil) (eF η s Ts ends found (M-found.length) (some (.sh (dN p))) o7 o8 o9)=some (.nx (eF η s Ts ends found (M-found.length) (some (.sh (dN p))) (some (.own (([]:List En).map eD))) o8 o9)):=setF_nil
 have s2:mfor (u0 (mvar 3)) (.tp [8,9]) Q7 (eF η s Ts ends found (M-found.length) (some (.sh (dN p))) (some (.own (([]:List En).map eD))) o8 o9)=some (.nx (eF η s Ts ends found (M-found.length) (some (.sh (dN p))) (some (.own ((hr0 (xr η) s found p ends).map eD))) O N)):=by
  unfold mfor
  rw[l7 (m:=mvar 3) (ds:=ends.map eD) rfl,Option.bind_some]
  exact e1
 generalize U:hr0 (xr η) s found p ends=H at*
 have a3:∀ e∈H,e.1<=T:=by rw[<-U];exact g.le0
 have s3:=zg8 η s Ts T hr a1 hA ends found (M-found.length) p hp H (by omega) a3 O N
 generalize Z:flt (tvT Ts) (M-found.length) p H=F at*
 have s4:mset 7 (mlst (h7 [none,none,some 5,some 6,some 2] (u0 (mvar 7)) (.tp [0,1]) (w6 (m2 geD (mix (u0 (mix (u0 (mix (bvar 4) (mvar 0))) (mvar 3))) (mvar 1)) (mvar 2))) (mtup (z4 (mvar 0) (z4 (mvar 1) anil))))) (eF η s Ts ends found (M-found.length) (some (.sh (dN p))) (some (.sh (.lst (H.map eD)))) O N)=some (.nx (eF η s Ts ends found (M-found.length) (some (.sh (dN p))) (some (.sh (.lst (F.map eD)))) O N)):=(k9 (u7 s3)).trans rfl
 have c1:w6 (meqB true (bvar 7) (w5 anil)) (eF η s Ts ends found (M-found.length) (some (.sh (dN p))) (some (.sh (.lst (F.map eD)))) O N)=some (!F.isEmpty):=by
  rw[T0 (A8 (m:=bvar 7) (ds:=F.map eD) rfl true),yw8];rfl
 have c2:w6 (m2 gtD (mvar 5) (mc (.int 0))) (eF η s Ts ends found (M-found.length) (some (.sh (dN p))) (some (.sh (.lst (F.map eD)))) O N)=some (decide (found.length<M)):=by
  refine T0 ((u5 (a:=.int ((M-found.length:Nat):Int)) (b:=.int 0) rfl rfl).trans ?_)
  show some (D.bl (decide ((0:Int)<((M-found.length:Nat):Int))))=_
  congr 2
  exact decide_eq_decide.mpr (by omega)
 have start:∀ r,(mif (cand (w6 (meqB true (bvar 7) (w5 anil))) (w6 (m2 gtD (mvar 5) (mc (.int 0))))) (mseq (mset 3 (mlst (ZT.msortSetT (bvar 7)))) (mseq (mapp 4 (mvar 6)) (mset 5 (m2 subD (mvar 5) (mc (.int 1)))))) h6) (eF η s Ts ends found (M-found.length) (some (.sh (dN p))) (some (.sh (.lst (F.map eD)))) O N)=r->Q6 (eF η s Ts ends found (M-found.length) (some (.sh (dN p))) o7 o8 o9)=r:=fun r h=>by
  unfold Q6
  refine seqI s1 (seqI s2 ?_)
  unfold zi3
  rw[yw4 rfl]
  exact seqI s4 h
 by_cases hc:F≠[]/\found.length<M
 .have hcc:(!F.isEmpty&&decide (found.length<M))=true:=by
   rw[decide_eq_true hc.2]
   cases F with
   |nil=>exact absurd rfl hc.1
   |cons a b=>rfl
  have nd:(F.map fun e=>ZT.hq2 (eP e)).Nodup:=by
   have:=g.nodupH hT (tvT Ts) (M-found.length)
   rw[U,Z]at this
   exact this
  have a4:F.length<=2:=a2.1
  obtain⟨j,pm,es⟩:=ys8 (m:=bvar 7) (ρ:=eF η s Ts ends found (M-found.length) (some (.sh (dN p))) (some (.sh (.lst (F.map eD)))) O N) (H:=F) rfl hc.1 a4 nd
  refine⟨j,found++[p],some (.sh (.lst (F.map eD))),O,N,g.yes (tv:=tvT Ts) hs hv hb hl hp (by rw[U,Z];exact hc.1) hc.2 (by rw[U,Z];exact pm),?_⟩
  refine start _ ?_
  rw[yp9 (zq6 c1 c2),hcc]
  simp only[if_true]
  refine seqI (ρ':=eF η s Ts j found (M-found.length) (some (.sh (dN p))) (some (.sh (.lst (F.map eD)))) O N) ((k9 (u7 es)).trans rfl) ?_
  refine seqI (ρ':=eF η s Ts j (found++[p]) (M-found.length) (some (.sh (dN p))) (some (.sh (.lst (F.map eD)))) O N) ((yy5 (ds:=found.map dN) rfl rfl (by rw[length_map];omega)).trans ?_) ?_
  .unfold eF
   rw[map_append]
   rfl
  .refine(k9 (d:=dN (M-(found++[p]).length)) ((u5 (a:=.int ((M-found.length:Nat):Int)) (b:=.int 1) rfl rfl).trans ?_)).trans rfl
   show some (D.int (((M-found.length:Nat):Int)-1))=_
   unfold dN
   congr 2
   rw[length_append,length_singleton]
   have:=hc.2
   omega
 .have hcc:(!F.isEmpty&&decide (found.length<M))=false:=by
   cases z:(!F.isEmpty&&decide (found.length<M))with
   |false=>rfl
   |true=>
    rw[Bool.and_eq_true]at z
    refine absurd ⟨fun z1=>?_,of_decide_eq_true z.2⟩ hc
    rw[z1]at z
    exact absurd z.1 (by decide)
  refine⟨ends,found,some (.sh (.lst (F.map eD))),O,N,g.no (tv:=tvT Ts) hs hv hb hl hp ?_,start _ ?_⟩
  .rw[U,Z]
   by_cases z:F=[]
   .exact .inl z
   .exact .inr fun z2=>hc ⟨z,z2⟩
  .rw[yp9 (zq6 c1 c2),hcc]
   rfl
theorem zv1 (T M:Nat)(l:List Nat)(hs:1<=s)(hr:η.length<=300)(hT:T<128)(a1:Ts.length=T+1)(hA:AllT η s Ts)(hb:Best (Tn (xr η) η.length s T) l)(hl:l.length=M):∀(j p:Nat)(ends:List En)(found:List Nat)(o6 Z Y U:Option S),
  p+j=η.length->Gr (xr η) η.length s T M l p ends found->
  ∃ G p6 p7 p8 p9,forD (.nm 6) Q6 (((List.range j).map (p+·)).map dN) (eF η s Ts ends found (M-found.length) o6 Z Y U)=some (.nx (eF η s Ts G l 0 p6 p7 p8 p9))
 |0,p,ends,found,o6,Z,Y,U,hj,g=>by
  have:found=l:=by
   have:p=η.length:=by omega
   subst this
   exact g.done hb
  subst this
  exact⟨ends,o6,Z,Y,U,by rw[hl,Nat.sub_self];rfl⟩
 |j+1,p,ends,found,o6,Z,Y,U,hj,g=>by
  obtain⟨O,N,q7,q8,q9,g1,e1⟩:=yn5 η s Ts T M l hs hr hT a1 hA hb hl p (by omega) ends found g Z Y U
  obtain⟨G,p6,p7,p8,p9,e2⟩:=zv1 T M l hs hr hT a1 hA hb hl j (p+1) O N (some (.sh (dN p))) q7 q8 q9 (by omega) g1
  refine⟨G,p6,p7,p8,p9,?_⟩
  rw[range_succ_eq_map,map_cons,map_map,map_cons,show ((p+·)∘Nat.succ:Nat->Nat)=(p+1+·)by funext z;simp only[Function.comp,Nat.succ_eq_add_one];omega,Nat.add_zero]
  exact zw9 (ρ1:=eF η s Ts ends found (M-found.length) (some (.sh (dN p))) Z Y U) rfl e1 e2
theorem yn7 (T:Nat)(l:List Nat)(hs:1<=s)(hr:η.length<=300)(hT:T<128)(j:Ts.length=T+1)(hA:AllT η s Ts)(hb:Best (Tn (xr η) η.length s T) l):yo3 [RI η,.int s,.lst (Ts.map TbD)]=some (.fr (l.map dN)):=by
 have U:Ts≠[]:=fun z=>by rw[z]at j;cases j
 obtain⟨v,ev,k,hk,Y⟩:=yd1 hr (by
  have:=hA (Ts.length-1) (by omega)
  rw[show Ts.length-1=T by omega]at this
  exact this:Tb η s T (Ts.getD T []))
 have N:v=l.length:=by
  have:k=l:=Best.unique hk hb
  rw[<-this,Y]
 subst N
 have last:mix (bvar 2) (m1 negD (mc (.int 1)))=mix (bvar 2) (m1 negD (mc (.int 1))):=rfl
 obtain⟨Rr,B,hR⟩:∃ Rr B,Ts=Rr++[B]:=by
  rcases eq_nil_or_concat Ts with z|⟨a,b,z⟩
  .exact absurd z U
  .exact⟨a,b,by rw[z,concat_eq_append]⟩
 have hB:Ts.getD T []=B:=by
  rw[hR]at j ⊢
  rw[length_append,length_singleton]at j
  rw[getD_eq_getElem?_getD,getElem?_append_right (by omega),show T-Rr.length=0 by omega]
  rfl
 rw[hB]at ev
 obtain⟨G,p6,p7,p8,p9,e⟩:=zv1 η s Ts T l.length l hs hr hT j hA hb rfl η.length 0 [(T,false),(T,true)] [] none none none none (by omega) (Gr.start hs)
 have Z:∀ o3 o4 o5:Option S,m2 subD (mlen (bvar 2)) (mc (.int 1)) [some (.sh (RI η)),k0c s,some (.sh (.lst (Ts.map TbD))),o3,o4,o5,none,none,none,none]=some (dN T):=fun o3 o4 o5=>by
  refine(u5 (a:=.int (((Ts.map TbD).length:Nat):Int)) (b:=.int 1) (Y0 (m:=bvar 2) rfl) rfl).trans ?_
  show some (D.int ((((Ts.map TbD).length:Nat):Int)-1))=_
  rw[length_map,j]
  unfold dN
  congr 2
  omega
 unfold yo3
 refine yg0 ?_
 unfold ya3
 refine seqI (ρ':=[some (.sh (RI η)),k0c s,some (.sh (.lst (Ts.map TbD))),some (.sh (.lst ([(T,false),(T,true)].map eD))),none,none,none,none,none,none]) ?_ ?_
 .refine(k9 (d:=.lst ([(T,false),(T,true)].map eD)) (u7 (v4 (z5 (V5 (z5 (Z none none none) (z5 (d:=.int 0) rfl y0)) (x6 (show 2<=1000000 by decide))) (z5 (V5 (z5 (Z none none none) (z5 (d:=.int 1) rfl y0)) (x6 (show 2<=1000000 by decide))) y0)) (x6 (show 2<=1000000 by decide))))).trans rfl
 refine seqI (ρ':=[some (.sh (RI η)),k0c s,some (.sh (.lst (Ts.map TbD))),some (.sh (.lst ([(T,false),(T,true)].map eD))),some (.own (([]:List Nat).map dN)),none,none,none,none,none]) setF_nil ?_
 refine seqI (ρ':=eF η s Ts [(T,false),(T,true)] [] (l.length-([]:List Nat).length) none none none none) ?_ ?_
 .refine(k9 (d:=dN l.length) (d4 (ds:=[TbD B]) (z5 (l4 (m:=bvar 2) (ds:=Ts.map TbD) (k:=-1) rfl rfl (by rw[hR];exact atI_last TbD Rr B)) y0) ev)).trans rfl
 refine seqI (ρ':=eF η s Ts G l 0 p6 p7 p8 p9) ?_ rfl
 unfold mfor
 have O:u8 rng1 (z4 (mlen (bvar 0)) anil) (eF η s Ts [(T,false),(T,true)] [] (l.length-([]:List Nat).length) none none none none)=some (((List.range η.length).map (0+·)).map dN):=by
  unfold u8
  rw[z5 (Y0 (m:=bvar 0) (ds:=η.map .int) rfl) y0,Option.bind_some,length_map,V1 (X0 (by omega) (by omega)),Int.toNat_natCast,Y4,map_map,map_map]
  refine congrArg some (map_congr_left fun i _=>?_)
  simp only[Function.comp,Nat.zero_add]
  rfl
 rw[O,Option.bind_some]
 exact e
end
end
section
theorem zq3 (l:List Nat):l.map dN=(l.map fun(k:Nat)=>(k:Int)).map .int:=by rw[map_map];rfl
theorem yr7 (η:List Int)(s:Int)(T:Nat)(hs:1<=s)(hr:η.length<=300)(N:T<128):zr4 [RI η,.int s,dN T]=some (.sh (.bl true)):=by
 obtain⟨Ts,j,O,U⟩:=ze8 η s hs hr T (by omega)
 obtain⟨l,el,z⟩:=R9 η s T hs hr
 have Y:=yn7 η s Ts T l hs hr N j O z
 have G:l.length<=300:=Nat.le_trans z.1.len hr
 unfold zr4
 refine Z9 ?_
 unfold ya4
 have a0:a8 h8 (z4 (mvar 0) (z4 (mvar 1) (z4 (mvar 2) anil))) (w8 6 [RI η,.int s,dN T])=some (.lst (Ts.map TbD)):=zm9 (ds:=[RI η,.int s,dN T]) (z5 rfl (z5 rfl (z5 rfl y0))) U
 refine seqI (ρ':=[some (.sh (RI η)),k0c s,some (.sh (dN T)),some (.sh (.lst (l.map dN))),none,none]) ((k9 (zm9 (ds:=[RI η,.int s,.lst (Ts.map TbD)]) (z5 rfl (z5 rfl (z5 a0 y0))) Y)).trans rfl) ?_
 refine seqI (ρ':=[some (.sh (RI η)),k0c s,some (.sh (dN T)),some (.sh (.lst (l.map dN))),some (.sh (RI η)),none]) ((k9 (u7 (m:=bvar 0) (ds:=η.map .int) rfl)).trans rfl) ?_
 refine seqI (ρ':=[some (.sh (RI η)),k0c s,some (.sh (dN T)),some (.sh (.lst (l.map dN))),some (.sh (RI η)),some (.sh (L l))]) ((k9 (d4 (ds:=[RI η,.int s,dN T]) (z5 rfl (z5 rfl (z5 rfl y0))) el)).trans rfl) ?_
 refine S5 (zr2 (a:=true) (b:=true) ?_ (zr2 (a:=true) (b:=true) ?_ ?_))
 .refine d4 (ds:=[L l]) (z5 rfl y0) ?_
  unfold L
  rw[zq3]
  exact zh0 _ (by simp;omega)
 .refine zj6 (neg:=false) (xs:=l.map fun(k:Nat)=>(k:Int)) ?_ ?_
  .rw[<-zq3];rfl
  .rw[<-zq3];rfl
 .exact zj6 (neg:=false) (xs:=η) rfl rfl
theorem zi2 {E:MEm}(G:∀ c k o,∃ x z j,E [o,some (.own (RL c k))]=some (.int x,[o,some (.own (RL z j))])):∀(its:List D)(c k:Int)(o:Option S)(acc:List Int),acc.length+its.length<=1000->∃(f:List Int)(z j:Int)(o':Option S),f.length=acc.length+its.length/\
  j9 E its [o,some (.own (RL c k))] (acc.map .int)=some (f.map .int,[o',some (.own (RL z j))])
 |[],c,k,o,acc,_=>⟨acc,c,k,o,by simp,rfl⟩
 |i::its,c,k,o,acc,h=>by
  obtain⟨x,Y,N,e3⟩:=G c k (some (.sh i))
  obtain⟨f,z,j,o',U,e2⟩:=zi2 G its Y N (some (.sh i)) (acc++[x]) (by simp at h ⊢;omega)
  refine⟨f,z,j,o',by rw[U];simp;omega,?_⟩
  rw[j9]
  show (match E [some (.sh i),some (.own (RL c k))]with |some (x,ρ1)=>if (acc.map D.int).length<sizeLine then j9 _ its ρ1 (acc.map D.int++[x])else none|none=>none)=_
  rw[e3]
  have O:(acc.map D.int).length<sizeLine:=by
   have:=l6
   rw[length_map];simp at h;omega
  simp only[O,if_true]
  rw[map_append]at e2
  exact e2
theorem zr6 (c k:Int):∃(fs:List Int)(c' U:Int),fs.length<=300/\∀ p,m_Z6 p (RL c k) []=some (.sh (RI fs),RL c' U):=by
 obtain⟨n,c1,O,n0,n1,en⟩:=v7 c k 12 (by decide) (by decide)
 have hn:okR (1+n)=true:=X0 (by omega) (by omega)
 obtain⟨bs,c2,N,o',lb,e2⟩:=zi2 (E:=m2m subD (y7 v3 1 (apu (z4 (mc (.int 41)) anil))) (mpu (mc (.int 20)))) (fun c k o=>by
  obtain⟨x,c',U,_,_,e⟩:=v7 c k 41 (by decide) (by decide)
  exact⟨x-20,c',U,j8 (k0 (r0:=RL c k) (r2:=RL c k) rfl (Z6 (z5 (d:=.int 41) rfl y0)) rfl e rfl) (m8 (d:=.int 20) rfl) (g:=.int (x-20)) rfl⟩) (k6 0 (1+n).toNat) c1 O none [] (by unfold k6;simp;omega)
 have a2:bs.length=(1+n).toNat:=by rw[lb];unfold k6;simp
 obtain⟨j,c3,k3,j0,j1,ej⟩:=v7 c2 N 4 (by decide) (by decide)
 obtain⟨mo,Y,a1⟩:=at4 0 0 1 (-1) j j0 j1
 obtain⟨m,Z,z,m0,m1,em⟩:=v7 c3 k3 201 (by decide) (by decide)
 have hm:okR (100+m)=true:=X0 (by omega) (by omega)
 refine⟨(List.range (100+m).toNat).map fun i=>bs.getD (i % bs.length) 0+mo*((i:Int) / 7),Z,z,by simp;omega,fun p=>?_⟩
 unfold m_Z6
 refine Z8 ?_
 unfold b_Z6
 have ec:d3 [none,some 0] (O8 rng1 (v6 (m2m addD (mpu (mc (.int 1))) (y7 v3 0 (apu (z4 (mc (.int 12)) anil)))) (apu anil))) 0 1 (m2m subD (y7 v3 1 (apu (z4 (mc (.int 41)) anil))) (mpu (mc (.int 20)))) [some (.ob p (RL c k)),none,none,none]=some (RI bs,[some (.ob p (RL c2 N)),none,none,none]):=by
  have ea:v6 (m2m addD (mpu (mc (.int 1))) (y7 v3 0 (apu (z4 (mc (.int 12)) anil)))) (apu anil) [some (.ob p (RL c k)),none,none,none]=some ([.int (1+n)],[some (.ob p (RL c1 O)),none,none,none]):=l5 (j8 (m8 (d:=.int 1) rfl) (t6 en rfl) (g:=.int (1+n)) rfl) (Z6 y0)
  unfold d3 O8
  rw[ea]
  simp only
  rw[V1 hn]
  simp only
  exact(P7 (its:=k6 0 (1+n).toNat) (r0:=RL c1 O) (rr:=p) rfl rfl e2 rfl).trans rfl
 refine seqI (ρ':=[some (.ob p (RL c2 N)),some (.sh (RI bs)),none,none]) ((i8 ec).trans rfl) ?_
 refine seqI (ρ':=[some (.ob p (RL c3 k3)),some (.sh (RI bs)),k0c mo,none]) ((i8 (j8 (m8 (d:=.lst [.int 0,.int 0,.int 1,.int (-1)]) (u7 (v4 (z5 (d:=.int 0) rfl (z5 (d:=.int 0) rfl (z5 (d:=.int 1) rfl (z5 (d:=.int (-1)) rfl y0)))) (x6 (show 4<=1000000 by decide))))) (t6 ej rfl) (g:=.int mo) Y)).trans rfl) ?_
 refine seqI (ρ':=[some (.ob p (RL Z z)),some (.sh (RI bs)),k0c mo,some (.sh (.int (100+m)))]) ((i8 (j8 (m8 (d:=.int 100) rfl) (t6 em rfl) (g:=.int (100+m)) rfl)).trans rfl) ?_
 refine Z3 (m8 (u7 ?_)) rfl
 have ei:u8 rng1 (z4 (mvar 3) anil) [some (.ob p (RL Z z)),some (.sh (RI bs)),k0c mo,some (.sh (.int (100+m)))]=some ((List.range (100+m).toNat).map dN):=by
  unfold u8
  rw[z5 (d:=.int (100+m)) rfl y0,Option.bind_some,V1 hm,Y4,map_map];rfl
 rw[A0 ei]
 refine(X3 (f:=dN) (G:=fun i=>D.int (bs.getD (i % bs.length) 0+mo*((i:Int) / 7))) (fun _ ρ=>∃ o,ρ=[o,some (.sh (RI bs)),k0c mo]) (by
  rintro i is ρ ⟨o,rfl⟩
  refine⟨[some (.sh (dN i)),some (.sh (RI bs)),k0c mo],rfl,rfl,?_,_,rfl⟩
  have el:mlen (bvar 1) [some (.sh (dN i)),some (.sh (RI bs)),k0c mo]=some (.int (bs.length:Int)):=by rw[Y0 (show bvar 1 _=some (bs.map .int)from rfl),length_map]
  have e1:m2 modD (mvar 0) (mlen (bvar 1)) [some (.sh (dN i)),some (.sh (RI bs)),k0c mo]=some (dN (i % bs.length)):=by
   rw[u5 (a:=dN i) rfl el]
   show (if G4 (i:Int) (bs.length:Int)=true then some (D.int ((i:Int) % (bs.length:Int)))else none)=_
   rw[if_pos (e7 _ _ (by omega))]
   rfl
  have e2:m2 zv2 (mvar 0) (mc (.int 7)) [some (.sh (dN i)),some (.sh (RI bs)),k0c mo]=some (.int ((i:Int) / 7)):=by
   rw[u5 (a:=dN i) (b:=.int 7) rfl rfl]
   show (if E7 (i:Int) 7=true then some (D.int ((i:Int) / 7))else none)=_
   rw[if_pos (J2 _ _ (by decide) (by decide))]
  have e3:m2 mulD (mvar 2) (m2 zv2 (mvar 0) (mc (.int 7))) [some (.sh (dN i)),some (.sh (RI bs)),k0c mo]=some (.int (mo*((i:Int) / 7))):=by
   rw[u5 (a:=.int mo) rfl e2]
   show (if R8 mo ((i:Int) / 7)=true then some (D.int (mo*((i:Int) / 7)))else none)=_
   rw[if_pos (zs5 _ _ (by omega) (by omega))]
  exact(u5 (l4 (m:=bvar 1) (ds:=bs.map .int) rfl e1 (J6 bs (i % bs.length) (Nat.mod_lt _ (by omega)))) e3).trans rfl) _ _ [] ⟨none,rfl⟩ (x6 (by simp;omega))).trans ?_
 rw[nil_append,map_map]
 rfl
end
section
noncomputable def eJ (scr:D)(n:Nat)(c k:Int)(o3:Option S):Ro:=[some (.sh scr),some (.sh (dN n)),some (.own (RL c k)),o3]
theorem yy2 {f:MF}{m:MLm}{ρ ρ1:Ro}{ds:List D}{d:D}(h:m ρ=some (ds,ρ1))(h2:f ds=some (.sh d)):O9 f m ρ=some (d,ρ1):=by
 unfold O9;rw[h];simp only;rw[h2]
theorem ym1 {x:MBm}{ρ ρ1:Ro}{b:Bool}(h:x ρ=some (b,ρ1)):zv7 x ρ=some (!b,ρ1):=by unfold zv7;rw[h]
theorem yj4 {i m:Int}(j:0<=i)(h1:i<m)(hm:m<128):∃ T:Nat,D.int i=dN T/\T<128:=⟨i.toNat,by unfold dN;congr 1;omega,by omega⟩
section
variable {scr:D}{n:Nat}{o3:Option S}
theorem zm3 {c k m x z j:Int}{e:ME}(h:Nx c k m x z j)(G:e (eJ scr n c k o3)=some (.int m)):y7 v3 2 (apu (z4 e anil)) (eJ scr n c k o3)=some (.int x,eJ scr n z j o3):=
 k0 (r0:=RL c k) (r2:=RL c k) rfl (Z6 (z5 G y0)) rfl h rfl
theorem t0_J {c k:Int}:cpu (w6 (m2 eqSD (mvar 1) (mc (.int 0)))) (eJ scr n c k o3)=some ((n:Int)==0,eJ scr n c k o3):=xq2 (T0 ((u5 (a:=.int (n:Int)) (b:=.int 0) rfl rfl).trans rfl))
theorem yt4 (R:MEm)(O N:MEm)(hR:∀ c k,∃ η z j,η.length<=300/\R (eJ scr n c k o3)=some (RI η,eJ scr n z j o3))(hS:∀ c k,∃ s z j,(1:Int)<=s/\O (eJ scr n c k o3)=some (.int s,eJ scr n z j o3))(G:∀ c k,∃ T z j,T<128/\N (eJ scr n c k o3)=some (dN T,eJ scr n z j o3))(c k:Int):
  ∃ z j,mifm (zv7 (Z2 (O9 zr4 (v6 R (v6 O (v6 N (apu anil))))))) (mret (mc (.bl false))) h6 (eJ scr n c k o3)=some (.nx (eJ scr n z j o3)):=by
 obtain⟨η,c1,k1,hr,e1⟩:=hR c k
 obtain⟨s,c2,Z,hs,e2⟩:=hS c1 k1
 obtain⟨T,Y,U,G,e3⟩:=G c2 Z
 have ea:v6 R (v6 O (v6 N (apu anil))) (eJ scr n c k o3)=some ([RI η,.int s,dN T],eJ scr n Y U o3):=l5 e1 (l5 e2 (l5 e3 (Z6 y0)))
 exact⟨Y,U,(zj1 (ym1 (zo1 (yy2 ea (yr7 η s T hs hr G))))).trans rfl⟩
theorem yk4 (x:MS)(hx:∀ c k,∃ Y O,x (eJ scr n c k o3)=some (.nx (eJ scr n Y O o3)))(c k:Int):∃ Y O,mifm (zz0 (cpu (w6 (m2 eqSD (mvar 1) (mc (.int 0))))) (Z2 (m2m eqSD (y7 v3 2 (apu (z4 (mc (.int 6)) anil))) (mpu (mc (.int 0)))))) x h6 (eJ scr n c k o3)=some (.nx (eJ scr n Y O o3)):=by
 have j:=t0_J (scr:=scr) (n:=n) (c:=c) (k:=k) (o3:=o3)
 cases hn:(n:Int)==0 with
 |false=>
  rw[hn]at j
  exact⟨c,k,(zj1 (yb7 j)).trans rfl⟩
 |true=>
  rw[hn]at j
  obtain⟨y,U,N,_,_,ey⟩:=v7 c k 6 (by decide) (by decide)
  have G:Z2 (m2m eqSD (y7 v3 2 (apu (z4 (mc (.int 6)) anil))) (mpu (mc (.int 0)))) (eJ scr n c k o3)=some (y==0,eJ scr n U N o3):=zo1 (j8 (zm3 ey rfl) (m8 (d:=.int 0) rfl) (g:=.bl (y==0)) rfl)
  obtain⟨c2,Z,e2⟩:=hx U N
  cases z:y==0 with
  |false=>
   rw[z]at G
   exact⟨U,N,(zj1 ((yv9 j).trans G)).trans rfl⟩
  |true=>
   rw[z]at G
   exact⟨c2,Z,(zj1 ((yv9 j).trans G)).trans e2⟩
theorem yj3 (c k:Int):∃ s O z,(1:Int)<=s/\m2m addD (mpu (mc (.int 1))) (y7 v3 2 (apu (z4 (mc (.int 9)) anil))) (eJ scr n c k o3)=some (.int s,eJ scr n O z o3):=by
 obtain⟨y,N,j,U,_,G⟩:=v7 c k 9 (by decide) (by decide)
 exact⟨1+y,N,j,by omega,j8 (m8 (d:=.int 1) rfl) (zm3 G rfl) (g:=.int (1+y)) rfl⟩
theorem ze3 (m:Int)(hm:0<m)(j:m<128)(c k:Int):∃ T Z G,T<128/\y7 v3 2 (apu (z4 (mc (.int m)) anil)) (eJ scr n c k o3)=some (dN T,eJ scr n Z G o3):=by
 obtain⟨y,Y,z,O,h1,U⟩:=v7 c k m hm (by omega)
 obtain⟨T,e,N⟩:=yj4 O h1 j
 refine⟨T,Y,z,N,?_⟩
 rw[<-e]
 exact zm3 U rfl
end
theorem xw6 (scr:D)(n:Nat)(c:Int)(o3:Option S):∃ z j p3,X9 (eJ scr n c 0 o3)=some (.nx (eJ scr n z j p3)):=by
 obtain⟨Y,U,e1⟩:=yk4 (scr:=scr) (n:=n) (o3:=o3) _ (yt4 (y7 m_Z6 2 (apu anil)) (m2m addD (mpu (mc (.int 1))) (y7 v3 2 (apu (z4 (mc (.int 9)) anil)))) (y7 v3 2 (apu (z4 (mc (.int 13)) anil))) (fun c k=>by
  obtain⟨fs,z,j,N,e⟩:=zr6 c k
  exact⟨fs,z,j,N,k0 (r0:=RL c k) (r2:=RL c k) rfl (Z6 y0) rfl e rfl⟩) yj3 (ze3 13 (by decide) (by decide))) c 0
 obtain⟨O,G,e2⟩:=yk4 (scr:=scr) (n:=n) (o3:=o3) _ (yt4 (y7 m_Z8 2 (apu anil)) (m2m addD (mpu (mc (.int 1))) (y7 v3 2 (apu (z4 (mc (.int 9)) anil)))) (m2m addD (mpu (mc (.int 30))) (y7 v3 2 (apu (z4 (mc (.int 90)) anil)))) (fun c k=>by
  obtain⟨fs,z,j,N,e⟩:=zp0 c k
  exact⟨fs,z,j,N,k0 (r0:=RL c k) (r2:=RL c k) rfl (Z6 y0) rfl e rfl⟩) yj3 (fun c k=>by
  obtain⟨y,Y,U,h0,h1,ey⟩:=v7 c k 90 (by decide) (by decide)
  obtain⟨T,e,hT⟩:=yj4 (i:=30+y) (m:=120) (by omega) (by omega) (by decide)
  refine⟨T,Y,U,hT,?_⟩
  rw[<-e]
  exact j8 (m8 (d:=.int 30) rfl) (zm3 ey rfl) (g:=.int (30+y)) rfl)) Y U
 obtain⟨η,c3,Z,N,e3⟩:=zu9 O G 40 (by omega)
 obtain⟨c4,k4,e4⟩:=yt4 (scr:=scr) (n:=n) (o3:=some (.sh (RI η))) (mpu (mvar 3)) (y7 m_Z4 2 (apu anil)) (y7 v3 2 (apu (z4 (mc (.int 7)) anil))) (fun c k=>⟨η,c,k,by omega,m8 rfl⟩) (fun c k=>by
  obtain⟨s,z,j,hs,_,e⟩:=zy1 c k
  exact⟨s,z,j,hs,k0 (r0:=RL c k) (r2:=RL c k) rfl (Z6 y0) rfl e rfl⟩) (ze3 7 (by decide) (by decide)) c3 Z
 refine⟨c4,k4,some (.sh (RI η)),?_⟩
 unfold X9
 refine seqI e1 (seqI e2 ?_)
 refine seqI (ρ':=eJ scr n c3 Z (some (.sh (RI η)))) ((i8 (k0 (ρ:=eJ scr n O G o3) (r0:=RL O G) (r2:=RL O G) rfl (Z6 (z5 (d:=.int 40) rfl y0)) rfl e3 rfl)).trans rfl) e4
theorem zw8 {scr:D}:∀(z:List Int)(n:Nat)(ρ:Ro),(∃ N G o3,ρ=[some (.sh scr),N,G,o3])->∃ ρ',J0 1 2 X9 n (z.map fun c=>RL c 0) ρ=some (.nx ρ')
 |[],n,ρ,_=>⟨ρ,rfl⟩
 |c::z,n,ρ,h=>by
  obtain⟨N,G,o3,rfl⟩:=h
  obtain⟨Y,U,O,e⟩:=xw6 scr n c o3
  obtain⟨ρ',e2⟩:=zw8 z (n+1) (eJ scr n Y U O) ⟨_,_,_,rfl⟩
  refine⟨ρ',?_⟩
  rw[map_cons,J0]
  show (match X9 (eJ scr n c 0 o3)with |some (.nx j)=>J0 1 2 X9 (n+1) (z.map fun c=>RL c 0) j|some (.ct j)=>J0 1 2 X9 (n+1) (z.map fun c=>RL c 0) j|some (.bk j)=>some (Out.nx j)|o=>o)=_
  rw[e]
  exact e2
theorem law_true (ns:List Int)(hn:ns.length<=63):zr3 [.lst (ns.map .int)]=some (.sh (.bl true)):=by
 unfold zr3 ya0
 refine Z9 ?_
 have z:mlst (mcut (bvar 0) zx6 (C7 (mc (.int 3)))) (w8 4 [.lst (ns.map .int)])=some (.lst ((cutI ns none (some 3)).map .int)):=by
  refine u7 ?_
  unfold mcut
  exact congrArg some (A9 D.int ns none (some 3))
 have G:=zj7 ns none (some 3)
 obtain⟨j,e⟩:=yf0 (cutI ns none (some 3)) (by omega)
 obtain⟨ρ',e2⟩:=zw8 j 0 (w8 4 [.lst (ns.map .int)]) ⟨_,_,_,rfl⟩
 refine seqI (ρ':=ρ') ?_ rfl
 unfold zm7 zk0
 rw[z5 z y0,Option.bind_some,e,Option.bind_some]
 exact e2
end
end Lw
namespace Lw
open List
open PySem L2
open PyProof.Rows
section
noncomputable def top (i:Nat):Stmt:=PySem.Challenge.pw_wavyrow_k26_few_turns_of_long_rows.main.body.getD i (.Pass ⟨0,0,0,0⟩)
section
variable (P:Program)(w:World)(K:W.Frag)(mg:Str->Option Value)(base:Heap)
abbrev xp0:Prop:=QHd P w K mg base 1 "refuse_step" ["step"] (spR K 1 yo4)
abbrev xp1:Prop:=QHd P w K mg base 1 "later_steps" ["row","step"] (spR K 2 yy7)
abbrev xz4:Prop:=QHd P w K mg base 1 "longer_first" ["places"] (spR K 1 P8)
abbrev T_Z2:Prop:=QHd P w K mg base 1 "longest_behind" ["tails","laters"] (spR K 2 m_Z2)
abbrev T_Z5:Prop:=QHd P w K mg base 3 "one_turn_more" ["steps","fewer"] (spR K 2 m_Z5)
abbrev xq6:Prop:=QHd P w K mg base 1 "no_tails" ["row"] (spR K 1 yo2)
abbrev T_Z9:Prop:=QHd P w K mg base 3 "longest_tail" ["tails"] (spR K 1 m_Z9)
abbrev T_Z0:Prop:=QHd P w K mg base 4 "longest_turning" ["row","step","turns"] (spR K 3 m_Z0)
abbrev zp5:Prop:=QHd P w K mg base 1 "_law_next" ["pot","many"] (spG K 2 v3)
abbrev D2:Prop:=QHd P w K mg base 1 "_law_pots" ["script"] (spP K 1 T3)
abbrev T_Z1:Prop:=QHd P w K mg base 2 "_law_some_number" ["pot","kind"] (spG K 2 m_Z1)
abbrev T_Z7:Prop:=QHd P w K mg base 3 "_law_some_row" ["pot","most"] (spG K 2 m_Z7)
abbrev T_Z4:Prop:=QHd P w K mg base 2 "_law_some_step" ["pot"] (spG K 1 m_Z4)
abbrev N6:Prop:=QHd P w K mg base 1 "_law_tables" ["row","step","turns"] (spR K 3 h8)
abbrev xq7:Prop:=QHd P w K mg base 1 "_law_most" ["table"] (spR K 1 yy6)
abbrev xq8:Prop:=QHd P w K mg base 2 "_law_first" ["row","step","tables"] (spR K 3 yo3)
abbrev T_Z3:Prop:=QHd P w K mg base 1 "_law_are_whole" ["told"] (spR K 1 m_Z3)
abbrev T_Z6:Prop:=QHd P w K mg base 2 "_law_long_row" ["pot"] (spG K 1 m_Z6)
abbrev xq9:Prop:=QHd P w K mg base 5 "_law_right" ["row","step","turns"] (spR K 3 zr4)
abbrev T_Z8:Prop:=QHd P w K mg base 2 "_law_bent_row" ["pot"] (spG K 1 m_Z8)
end
abbrev Zs (mg:Str->Option Value):Prop:=mg "abs"=none/\mg "bool"=none/\mg "enumerate"=none/\mg "int"=none/\mg "isinstance"=none/\mg "len"=none/\mg "list"=none/\mg "max"=none/\mg "min"=none/\mg "range"=none/\mg "reversed"=none/\mg "set"=none/\mg "sorted"=none/\True
theorem xz6 {mg:Str->Option Value}(Z:Zs mg):mg "abs"=none:=Z.1
theorem xz5 {mg:Str->Option Value}(Z:Zs mg):mg "bool"=none:=Z.2.1
theorem T8 {mg:Str->Option Value}(Z:Zs mg):mg "enumerate"=none:=Z.2.2.1
theorem ys2 {mg:Str->Option Value}(Z:Zs mg):mg "int"=none:=Z.2.2.2.1
theorem V0 {mg:Str->Option Value}(Z:Zs mg):mg "isinstance"=none:=Z.2.2.2.2.1
theorem a7 {mg:Str->Option Value}(Z:Zs mg):mg "len"=none:=Z.2.2.2.2.2.1
theorem yk1 {mg:Str->Option Value}(Z:Zs mg):mg "list"=none:=Z.2.2.2.2.2.2.1
theorem ze0 {mg:Str->Option Value}(Z:Zs mg):mg "max"=none:=Z.2.2.2.2.2.2.2.1
theorem zi9 {mg:Str->Option Value}(Z:Zs mg):mg "min"=none:=Z.2.2.2.2.2.2.2.2.1
theorem l8 {mg:Str->Option Value}(Z:Zs mg):mg "range"=none:=Z.2.2.2.2.2.2.2.2.2.1
theorem zi8 {mg:Str->Option Value}(Z:Zs mg):mg "reversed"=none:=Z.2.2.2.2.2.2.2.2.2.2.1
theorem xp9 {mg:Str->Option Value}(Z:Zs mg):mg "set"=none:=Z.2.2.2.2.2.2.2.2.2.2.2.1
theorem zo0 {mg:Str->Option Value}(Z:Zs mg):mg "sorted"=none:=Z.2.2.2.2.2.2.2.2.2.2.2.2.1
variable {P:Program}{w:World}{K:W.Frag}{mg:Str->Option Value}{base:Heap}
noncomputable abbrev yh7:Stmt:=top 5
noncomputable abbrev xi5:List Str:=["step"]
theorem xx4:FnScope xi5 ["step"] (z9 yh7):=qsc
theorem xu6 (D:QDf K mg "refuse_step" yh7 ["step"]):xp0 P w K mg base:=
 D.mk fun f fd j=>j.okD (k:=0) (m:=ya5) xx4 fun cdv A outer s H E hr=>(y4 (W2 (m7 yq9 zn8 (z6 0 (pv 0)) z7 (v5 _)) (y4 zx0) u9))
noncomputable abbrev zt2:Stmt:=top 6
noncomputable abbrev ys0:List Str:=["row","step","above","below","place","number"]
theorem sc_Z11:FnScope ys0 ["row","step"] (z9 zt2):=qsc
theorem W5:List.Nodup (["later","step","number","row"]:List Str):=by decide +kernel
theorem W4:List.Nodup (["later","step","number","row"]:List Str):=by decide +kernel
theorem xu7 (D:QDf K mg "later_steps" zt2 ["row","step"])(Z:Zs mg):xp1 P w K mg base:=
 D.mk fun f fd z=>z.okD (k:=0) (m:=ya6) sc_Z11 fun cdv A outer s H E hr=>(z8 (i6 (i:=2) sc_Z11.nd rfl (Or.inl rfl) (w9 z3)) (z8 (i6 (i:=3) sc_Z11.nd rfl (Or.inl rfl) (w9 z3)) (z8 (L8 PassesOwn.never rfl (zn0 rfl (T8 Z) (z0 (z6 0 (pv 0)) z3)) (S1 (is:=[4,5]) (O5 rfl (t4 (x8 (i:=4) sc_Z11.nd rfl (Or.inl rfl)) (t4 (x8 (i:=5) sc_Z11.nd rfl (Or.inr rfl)) V2)))) (z8 (Y7 (i:=2) (pv 2) (j7 (X6 (f7 (N:=["later","step","number","row"]) (src:=[none,some 1,some 5,some 0]) (z9 zt2) ys0 rfl rfl (by decide +kernel)) rfl (Y8 rfl (l8 Z) (z0 (k8 (z6 4 (pv 4)) z7) (z0 (u6 rfl (a7 Z) (y6 0 (pv 0))) z3))) (fun C fp j H0=>(u4 (i:=0) (x8 W5 rfl (Or.inl rfl)))) (fun C fp j H0=>(U8 (m7 zx5 O7 (Y9 (t8 (y6 3 (pv 3)) (z6 0 (pv 0))) (z6 2 (pv 2))) (z6 1 (pv 1)) (v5 _)))) (fun C fp j H0=>(z6 0 (pv 0))))) (fun t ha=>qap (pv 2) ha) (z0 (j7 (X6 (f7 (N:=["later","step","number","row"]) (src:=[none,some 1,some 5,some 0]) (z9 zt2) ys0 rfl rfl (by decide +kernel)) rfl (Y8 rfl (l8 Z) (z0 (k8 (z6 4 (pv 4)) z7) (z0 (u6 rfl (a7 Z) (y6 0 (pv 0))) z3))) (fun C fp j H0=>(u4 (i:=0) (x8 W5 rfl (Or.inl rfl)))) (fun C fp j H0=>(U8 (m7 zx5 O7 (Y9 (t8 (y6 3 (pv 3)) (z6 0 (pv 0))) (z6 2 (pv 2))) (z6 1 (pv 1)) (v5 _)))) (fun C fp j H0=>(z6 0 (pv 0))))) z3)) (y4 (Y7 (i:=3) (pv 3) (j7 (X6 (f7 (N:=["later","step","number","row"]) (src:=[none,some 1,some 5,some 0]) (z9 zt2) ys0 rfl rfl (by decide +kernel)) rfl (Y8 rfl (l8 Z) (z0 (k8 (z6 4 (pv 4)) z7) (z0 (u6 rfl (a7 Z) (y6 0 (pv 0))) z3))) (fun C fp j H0=>(u4 (i:=0) (x8 W4 rfl (Or.inl rfl)))) (fun C fp j H0=>(U8 (m7 zx5 O7 (Y9 (z6 2 (pv 2)) (t8 (y6 3 (pv 3)) (z6 0 (pv 0)))) (z6 1 (pv 1)) (v5 _)))) (fun C fp j H0=>(z6 0 (pv 0))))) (fun t ha=>qap (pv 3) ha) (z0 (j7 (X6 (f7 (N:=["later","step","number","row"]) (src:=[none,some 1,some 5,some 0]) (z9 zt2) ys0 rfl rfl (by decide +kernel)) rfl (Y8 rfl (l8 Z) (z0 (k8 (z6 4 (pv 4)) z7) (z0 (u6 rfl (a7 Z) (y6 0 (pv 0))) z3))) (fun C fp j H0=>(u4 (i:=0) (x8 W4 rfl (Or.inl rfl)))) (fun C fp j H0=>(U8 (m7 zx5 O7 (Y9 (z6 2 (pv 2)) (t8 (y6 3 (pv 3)) (z6 0 (pv 0)))) (z6 1 (pv 1)) (v5 _)))) (fun C fp j H0=>(z6 0 (pv 0))))) z3))))) (d9 3 (d9 2 (y4 (k7 (V3 (z0 (z6 2 (pv 2)) (z0 (z6 3 (pv 3)) z3))))))))))
noncomputable abbrev yh8:Stmt:=top 8
noncomputable abbrev xi6:List Str:=["places"]
theorem xx5:FnScope xi6 ["places"] (z9 yh8):=qsc
theorem xu8 (D:QDf K mg "longer_first" yh8 ["places"])(Z:Zs mg):xz4 P w K mg base:=
 D.mk fun f fd j=>j.okD (k:=0) (m:=zu5) xx5 fun cdv A outer s H E hr=>(y4 (k7 (V3 (z0 (T6 (u6 rfl (a7 Z) (y6 0 (pv 0)))) (z0 (z6 0 (pv 0)) z3)))))
noncomputable abbrev s_Z2:Stmt:=top 10
noncomputable abbrev N_Z2:List Str:=["tails","laters"]
theorem xn3:FnScope N_Z2 ["tails","laters"] (z9 s_Z2):=qsc
theorem S4:List.Nodup (["later","tails"]:List Str):=by decide +kernel
theorem xk0 (D:QDf K mg "longest_behind" s_Z2 ["tails","laters"])(Z:Zs mg):T_Z2 P w K mg base:=
 D.mk fun f fd z=>z.okD (k:=0) (m:=b_Z2) xn3 fun cdv A outer s H E hr=>(y4 (k7 (zb9 rfl hr.units rfl (ze0 Z) rfl (a7 Z) (S3 (X6 (f7 (N:=["later","tails"]) (src:=[none,some 0]) (z9 s_Z2) N_Z2 rfl rfl (by decide +kernel)) rfl (S0 (z6 1 (pv 1))) (fun C fp j H0=>(u4 (i:=0) (x8 S4 rfl (Or.inl rfl)))) (fun C fp j H0=>X5) (fun C fp j H0=>(t8 (y6 1 (pv 1)) (z6 0 (pv 0)))))) (j7 (w9 z3)))))
noncomputable abbrev s_Z5:Stmt:=top 11
noncomputable abbrev N_Z5:List Str:=["steps","fewer","above","below","fewer_ups","fewer_downs","ups","downs","risen","fallen","place"]
theorem sc_Z5:FnScope N_Z5 ["steps","fewer"] (z9 s_Z5):=qsc
theorem xm7 (D:QDf K mg "one_turn_more" s_Z5 ["steps","fewer"])(N:xz4 P w K mg base)(G:T_Z2 P w K mg base)(Z:Zs mg):T_Z5 P w K mg base:=by
 obtain⟨O,d_Z10,z,zu5,U,j⟩:=N
 exact D.mk fun f fd Y=>Y.okD (k:=2) (m:=b_Z5) sc_Z5 fun cdv A outer s H E hr=>(z8 (zt7 (T5 (z6 0 (pv 0)) (S1 (is:=[2,3]) (O5 rfl (t4 (x8 (i:=2) sc_Z5.nd rfl (Or.inl rfl)) (t4 (x8 (i:=3) sc_Z5.nd rfl (Or.inl rfl)) V2)))))) (z8 (zt7 (T5 (z6 1 (pv 1)) (S1 (is:=[4,5]) (O5 rfl (t4 (x8 (i:=4) sc_Z5.nd rfl (Or.inl rfl)) (t4 (x8 (i:=5) sc_Z5.nd rfl (Or.inl rfl)) V2)))))) (z8 (i6 (i:=6) sc_Z5.nd rfl (Or.inl rfl) (O6 (w9 (z0 (j7 (w9 z3)) z3)) (u6 rfl (a7 Z) (y6 2 (pv 2))))) (z8 (i6 (i:=7) sc_Z5.nd rfl (Or.inl rfl) (O6 (w9 (z0 (j7 (w9 z3)) z3)) (u6 rfl (a7 Z) (y6 2 (pv 2))))) (z8 (i6 (i:=8) sc_Z5.nd rfl (Or.inl rfl) (O6 (w9 (z0 (j7 (w9 z3)) z3)) (u6 rfl (a7 Z) (y6 2 (pv 2))))) (z8 (i6 (i:=9) sc_Z5.nd rfl (Or.inl rfl) (O6 (w9 (z0 (j7 (w9 z3)) z3)) (u6 rfl (a7 Z) (y6 2 (pv 2))))) (z8 (L8 PassesOwn.never rfl (zc9 rfl (zi8 Z) rfl (l8 Z) (z0 (u6 rfl (a7 Z) (y6 2 (pv 2))) z3)) (u4 (i:=10) (x8 sc_Z5.nd rfl (Or.inl rfl))) (z8 (Y6 (i:=6) (T5 (j7 (zx4 (S3 (w9 (z0 (z6 10 (pv 10)) z3))) (C5 (za5 8 (g5 (fun t ha=>qcl G hr ha) rfl (z0 (z6 8 (pv 8)) (z0 (t8 (y6 2 (pv 2)) (z6 10 (pv 10))) z3)) qal2))))) (L9 (pv 6) (z6 10 (pv 10)) X4))) (z8 (Y6 (i:=7) (T5 (j7 (zx4 (S3 (w9 (z0 (z6 10 (pv 10)) z3))) (C5 (za5 9 (g5 (fun t ha=>qcl G hr ha) rfl (z0 (z6 9 (pv 9)) (z0 (t8 (y6 3 (pv 3)) (z6 10 (pv 10))) z3)) qal2))))) (L9 (pv 7) (z6 10 (pv 10)) X4))) (z8 (Y6 (i:=8) (T5 (zn4 (A6 (z.mono (by decide)) hr.in1 zu5) rfl hr.units rfl (zi9 Z) rfl j (z0 (t8 (y6 6 (pv 6)) (z6 10 (pv 10))) (z0 (t8 (y6 5 (pv 5)) (z6 10 (pv 10))) z3)) qal2) (L9 (pv 8) (z6 10 (pv 10)) X4))) (y4 (Y6 (i:=9) (T5 (zn4 (A6 (z.mono (by decide)) hr.in1 zu5) rfl hr.units rfl (zi9 Z) rfl j (z0 (t8 (y6 7 (pv 7)) (z6 10 (pv 10))) (z0 (t8 (y6 4 (pv 4)) (z6 10 (pv 10))) z3)) qal2) (L9 (pv 9) (z6 10 (pv 10)) X4)))))))) (d9 6 (d9 7 (y4 (k7 (V3 (z0 (z6 6 (pv 6)) (z0 (z6 7 (pv 7)) z3))))))))))))))
noncomputable abbrev yh4:Stmt:=top 12
noncomputable abbrev xi2:List Str:=["row"]
theorem xx2:FnScope xi2 ["row"] (z9 yh4):=qsc
theorem xu1 (D:QDf K mg "no_tails" yh4 ["row"])(Z:Zs mg):xq6 P w K mg base:=
 D.mk fun f fd j=>j.okD (k:=0) (m:=ya1) xx2 fun cdv A outer s H E hr=>(y4 (k7 (V3 (z0 (j7 (O6 (w9 (z0 (j7 (w9 z3)) z3)) (u6 rfl (a7 Z) (y6 0 (pv 0))))) (z0 (j7 (O6 (w9 (z0 (j7 (w9 z3)) z3)) (u6 rfl (a7 Z) (y6 0 (pv 0))))) z3)))))
noncomputable abbrev s_Z9:Stmt:=top 13
noncomputable abbrev N_Z9:List Str:=["tails","ups","downs"]
theorem sc_Z9:FnScope N_Z9 ["tails"] (z9 s_Z9):=qsc
theorem xm3 (D:QDf K mg "longest_tail" s_Z9 ["tails"])(z:xz4 P w K mg base)(Z:Zs mg):T_Z9 P w K mg base:=by
 obtain⟨N,d_Z10,G,zu5,O,j⟩:=z
 exact D.mk fun f fd U=>U.okD (k:=2) (m:=b_Z9) sc_Z9 fun cdv A outer s H E hr=>(z8 (zt7 (T5 (z6 0 (pv 0)) (S1 (is:=[1,2]) (O5 rfl (t4 (x8 (i:=1) sc_Z9.nd rfl (Or.inl rfl)) (t4 (x8 (i:=2) sc_Z9.nd rfl (Or.inl rfl)) V2)))))) (y4 (k7 (ye1 (A6 (G.mono (by decide)) hr.in1 zu5) rfl hr.units rfl (zi9 Z) rfl j (C5 (k8 (z6 1 (pv 1)) (z6 2 (pv 2)))) (j7 (w9 z3))))))
noncomputable abbrev s_Z0:Stmt:=top 14
noncomputable abbrev N_Z0:List Str:=["row","step","turns","steps","tails","turn"]
theorem sc_Z0:FnScope N_Z0 ["row","step","turns"] (z9 s_Z0):=qsc
theorem xk2 (D:QDf K mg "longest_turning" s_Z0 ["row","step","turns"])(G:xp1 P w K mg base)(N:T_Z9 P w K mg base)(j:xq6 P w K mg base)(O:T_Z5 P w K mg base)(z:xp0 P w K mg base)(Z:Zs mg):T_Z0 P w K mg base:=
 D.mk fun f fd U=>U.okD (k:=3) (m:=b_Z0) sc_Z0 fun cdv A outer s H E hr=>(z8 (yq1 (g5 (fun t ha=>qcl z hr ha) rfl (z0 (z6 1 (pv 1)) z3) qal1)) (z8 (W2 (m7 yq9 zn8 (z6 2 (pv 2)) z7 (v5 _)) (y4 zx0) u9) (z8 (n9 (i:=3) sc_Z0.nd rfl (Or.inl rfl) (g5 (fun t ha=>qcl G hr ha) rfl (z0 (z6 0 (pv 0)) (z0 (z6 1 (pv 1)) z3)) qal2)) (z8 (n9 (i:=4) sc_Z0.nd rfl (Or.inl rfl) (g5 (fun t ha=>qcl j hr ha) rfl (z0 (z6 0 (pv 0)) z3) qal1)) (z8 (L8 PassesOwn.never rfl (d7 rfl (l8 Z) (z0 (k8 (zt9 rfl rfl (zi9 Z) (z0 (z6 2 (pv 2)) (z0 (u6 rfl (a7 Z) (y6 0 (pv 0))) z3))) z7) z3)) (u4 (i:=5) (x8 sc_Z0.nd rfl (Or.inl rfl))) (y4 (n9 (i:=4) sc_Z0.nd rfl (Or.inl rfl) (g5 (fun t ha=>qcl O hr ha) rfl (z0 (z6 3 (pv 3)) (z0 (z6 4 (pv 4)) z3)) qal2)))) (y4 (k7 (g5 (fun t ha=>qcl N hr ha) rfl (z0 (z6 4 (pv 4)) z3) qal1))))))))
noncomputable abbrev yh5:Stmt:=top 16
noncomputable abbrev xi3:List Str:=["pot","many","cell","stir"]
theorem sc_Z16:FnScope xi3 ["pot","many"] (z9 yh5):=qsc
theorem xu2 (D:QDf K mg "_law_next" yh5 ["pot","many"]):zp5 P w K mg base:=
 D.mk fun f fd j=>j.okGl (k:=0) (m:=ym7) sc_Z16 (by decide) fun cdv A outer s H E hr=>(z8 (Y6 (i:=0) (T5 (k8 (t8 (y6 0 (pv 0)) z7) z7) (L9 (pv 0) z7 X4))) (z8 (n9 (i:=2) sc_Z16.nd rfl (Or.inl rfl) (t8 (y6 0 (pv 0)) z7)) (z8 (W2 (m7 zx5 O7 (z6 2 (pv 2)) (zb8 z7 z7) (v5 _)) (z8 (Y6 (i:=0) (T5 (zs1 (z6 2 (pv 2)) (z6 1 (pv 1))) (L9 (pv 0) z7 X4))) (y4 (i7 0 (w4 (R6 (z6 2 (pv 2)) (z6 1 (pv 1))))))) u9) (z8 (n9 (i:=3) sc_Z16.nd rfl (Or.inl rfl) (R6 (k8 (k8 (E3 (z6 2 (pv 2)) z7) (E3 (t8 (y6 0 (pv 0)) z7) z7)) z7) z7)) (z8 (n9 (i:=3) sc_Z16.nd rfl (Or.inl rfl) (R6 (E3 (z6 3 (pv 3)) (z6 3 (pv 3))) z7)) (y4 (i7 0 (w4 (R6 (zs1 (R6 (k8 (E3 (z6 3 (pv 3)) z7) (E3 (t8 (y6 0 (pv 0)) z7) z7)) z7) z7) (z6 1 (pv 1)))))))))))
noncomputable abbrev U6:Stmt:=top 17
noncomputable abbrev D3:List Str:=["script"]
theorem zt1:FnScope D3 ["script"] (z9 U6):=qsc
theorem B3:List.Nodup (["cell"]:List Str):=by decide +kernel
theorem zs3 (D:QDf K mg "_law_pots" U6 ["script"])(Z:Zs mg):D2 P w K mg base:=
 D.mk fun f fd z=>z.okP (k:=0) zt1 rfl (fun cdv A outer s H E hr=>(m7 M0 g6 (u6 rfl (a7 Z) (y6 0 (pv 0))) z7 (v5 _))) (fun cdv A outer s H E hr=>(yg7 (w9 (z0 z7 (z0 z7 z3))))) (fun cdv A outer s H E hr=>(yg8 (f7 (N:=["cell"]) (src:=[none]) (z9 U6) D3 rfl rfl (by decide +kernel)) rfl (S0 (j7 (yf5 (y6 0 (pv 0)) C2 (C1 z7)))) (fun C fp j H0=>(u4 (i:=0) (x8 B3 rfl (Or.inl rfl)))) (fun C fp j H0=>(w9 (z0 (z6 0 (pv 0)) (z0 z7 z3))))))
noncomputable abbrev s_Z1:Stmt:=top 18
noncomputable abbrev N_Z1:List Str:=["pot","kind"]
theorem xn4:FnScope N_Z1 ["pot","kind"] (z9 s_Z1):=qsc
theorem xk1 (D:QDf K mg "_law_some_number" s_Z1 ["pot","kind"])(j:zp5 P w K mg base):T_Z1 P w K mg base:=
 D.mk fun f fd z=>z.okGl (k:=1) (m:=b_Z1) xn4 (by decide) fun cdv A outer s H E hr=>(z8 (W2 (m7 M0 g6 (z6 1 (pv 1)) z7 (v5 _)) (y4 (i7 0 (y8 (i:=0) (fun t ha=>qcl j hr ha) rfl (pv 0) (y9 (z0 z7 z3)) (x9 qal1)))) u9) (z8 (W2 (m7 M0 g6 (z6 1 (pv 1)) z7 (v5 _)) (y4 (i7 0 (Z1 zn9 C8 (y8 (i:=0) (fun t ha=>qcl j hr ha) rfl (pv 0) (y9 (z0 z7 z3)) (x9 qal1)) (w4 z7)))) u9) (z8 (W2 (m7 M0 g6 (z6 1 (pv 1)) z7 (v5 _)) (y4 (i7 0 (Z1 zn9 C8 (y8 (i:=0) (fun t ha=>qcl j hr ha) rfl (pv 0) (y9 (z0 z7 z3)) (x9 qal1)) (w4 z7)))) u9) (y4 (i7 0 (Z1 yj2 za9 (zn3 (w4 (j7 (w9 (z0 (T6 z7) (z0 z7 z3))))) (y8 (i:=0) (fun t ha=>qcl j hr ha) rfl (pv 0) (y9 (z0 z7 z3)) (x9 qal1))) (Z1 (OpR.or V4 g7) c6 (w4 (zb8 z7 z7)) (y8 (i:=0) (fun t ha=>qcl j hr ha) rfl (pv 0) (y9 (z0 z7 z3)) (x9 qal1)))))))))
noncomputable abbrev s_Z7:Stmt:=top 19
noncomputable abbrev N_Z7:List Str:=["pot","most","kind","many","found","shape"]
theorem sc_Z7:FnScope N_Z7 ["pot","most"] (z9 s_Z7):=qsc
theorem P1:List.Nodup (["k","pot","kind"]:List Str):=by decide +kernel
theorem X1:List.Nodup (["k","number"]:List Str):=by decide +kernel
theorem xm5 (D:QDf K mg "_law_some_row" s_Z7 ["pot","most"])(z:zp5 P w K mg base)(O:T_Z1 P w K mg base)(Z:Zs mg):T_Z7 P w K mg base:=
 D.mk fun f fd U=>U.okGl (k:=2) (m:=b_Z7) sc_Z7 (by decide) fun cdv A outer s H E hr=>(z8 (f9 (i:=2) sc_Z7.nd rfl (Or.inr rfl) (y8 (i:=0) (fun t ha=>qcl z hr ha) rfl (pv 0) (y9 (z0 z7 z3)) (x9 qal1))) (z8 (f9 (i:=3) sc_Z7.nd rfl (Or.inl rfl) (y8 (i:=0) (fun t ha=>qcl z hr ha) rfl (pv 0) (t5 (zn3 (w4 (j7 (w9 (z0 (zt9 rfl rfl (zi9 Z) (z0 z7 (z0 (k8 (z6 1 (pv 1)) z7) z3))) (z0 (zt9 rfl rfl (zi9 Z) (z0 z7 (z0 (k8 (z6 1 (pv 1)) z7) z3))) (z0 (k8 (z6 1 (pv 1)) z7) z3)))))) (y8 (i:=0) (fun t ha=>qcl z hr ha) rfl (pv 0) (y9 (z0 z7 z3)) (x9 qal1))) (y9 z3)) (n6 (x9 Z7)))) (z8 (zh7 (i:=0) (j:=1) rfl (by decide) (C0 (i:=4) sc_Z7.nd rfl (Or.inl rfl) (f7 (N:=["k","pot","kind"]) (src:=[none,some 0,some 2]) (z9 s_Z7) N_Z7 rfl rfl (by decide +kernel)) rfl (d7 rfl (l8 Z) (z0 (z6 3 (pv 3)) z3)) (fun C fp G H0=>(x8 (i:=0) P1 rfl (Or.inl rfl))) (fun C fp G H0=>zt4) (fun C fp G H0=>(y8 (i:=1) (fun t ha=>qcl O hr ha) rfl (pv 1) (y9 (z0 (z6 2 (pv 2)) z3)) (x9 qal1))))) (z8 (f9 (i:=5) sc_Z7.nd rfl (Or.inl rfl) (y8 (i:=0) (fun t ha=>qcl z hr ha) rfl (pv 0) (y9 (z0 z7 z3)) (x9 qal1))) (z8 (W2 (m7 M0 g6 (z6 5 (pv 5)) z7 (v5 _)) (y4 (n9 (i:=4) sc_Z7.nd rfl (Or.inl rfl) (j7 (zb4 rfl (zo0 Z) (y6 4 (pv 4)) PyProof.Rows.boot_sorted)))) u9) (z8 (W2 (m7 M0 g6 (z6 5 (pv 5)) z7 (v5 _)) (y4 (zy9 (C0 (i:=4) sc_Z7.nd rfl (Or.inl rfl) (f7 (N:=["k","number"]) (src:=[none,none]) (z9 s_Z7) N_Z7 rfl rfl (by decide +kernel)) rfl (zn0 rfl (T8 Z) (z0 (z6 4 (pv 4)) z3)) (fun C fp G H0=>(S1 (is:=[0,1]) (O5 rfl (t4 (x8 (i:=0) X1 rfl (Or.inl rfl)) (t4 (x8 (i:=1) X1 rfl (Or.inl rfl)) V2))))) (fun C fp G H0=>X5) (fun C fp G H0=>(k8 (z6 1 (pv 1)) (t8 (S3 (w9 (z0 z7 (z0 (T6 z7) z3)))) (R6 (z6 0 (pv 0)) z7))))))) u9) (z8 (W2 (m7 M0 g6 (z6 5 (pv 5)) z7 (v5 _)) (y4 (n9 (i:=4) sc_Z7.nd rfl (Or.inl rfl) (j7 (O6 (yf5 (y6 4 (pv 4)) C2 (C1 z7)) (z6 3 (pv 3)))))) u9) (y4 (i7 0 (w4 (z6 4 (pv 4))))))))))))
noncomputable abbrev s_Z4:Stmt:=top 20
noncomputable abbrev N_Z4:List Str:=["pot"]
theorem xn1:FnScope N_Z4 ["pot"] (z9 s_Z4):=qsc
theorem xm8 (D:QDf K mg "_law_some_step" s_Z4 ["pot"])(j:zp5 P w K mg base):T_Z4 P w K mg base:=
 D.mk fun f fd z=>z.okGl (k:=1) (m:=b_Z4) xn1 (by decide) fun cdv A outer s H E hr=>(y4 (i7 0 (zn3 (ye0 (t5 (w4 z7) (t5 (w4 z7) (t5 (Z1 (OpR.or V4 g7) c6 (w4 z7) (y8 (i:=0) (fun t ha=>qcl j hr ha) rfl (pv 0) (y9 (z0 z7 z3)) (x9 qal1))) (t5 (Z1 (OpR.or V4 g7) c6 (w4 z7) (y8 (i:=0) (fun t ha=>qcl j hr ha) rfl (pv 0) (y9 (z0 z7 z3)) (x9 qal1))) (y9 (z0 (zb8 z7 z7) z3))))))) (y8 (i:=0) (fun t ha=>qcl j hr ha) rfl (pv 0) (y9 (z0 z7 z3)) (x9 qal1)))))
noncomputable abbrev a9:Stmt:=top 21
noncomputable abbrev N7:List Str:=["row","step","turns","tables","turn","table","one","other","side","most"]
theorem sc_law_tables:FnScope N7 ["row","step","turns"] (z9 a9):=qsc
theorem K0:List.Nodup (["number"]:List Str):=by decide +kernel
theorem B0 (D:QDf K mg "_law_tables" a9 ["row","step","turns"])(Z:Zs mg):N6 P w K mg base:=
 D.mk fun f fd z=>(z.okW (k:=0) (m:=Z4) sc_law_tables fun cdv A outer s H E hr=>(Y5 (psw (i6 (i:=3) sc_law_tables.nd rfl (Or.inl rfl) (w9 z3))) (Y5 (zt6 PassesOwn.never rfl (d7 rfl (l8 Z) (z0 (k8 (z6 2 (pv 2)) z7) z3)) (u4 (i:=4) (x8 sc_law_tables.nd rfl (Or.inl rfl))) (zc0 (C0 (i:=5) sc_law_tables.nd rfl (Or.inl rfl) (f7 (N:=["number"]) (src:=[none]) (z9 a9) N7 rfl rfl (by decide +kernel)) rfl (S0 (z6 0 (pv 0))) (fun C fp j H0=>(u4 (i:=0) (x8 K0 rfl (Or.inl rfl)))) (fun C fp j H0=>X5) (fun C fp j H0=>(w9 (z0 z7 (z0 z7 z3))))) (Y5 (zt6 PassesOwn.never rfl (zh8 rfl (l8 Z) (z0 (Y9 (u6 rfl (a7 Z) (y6 0 (pv 0))) z7) (z0 (T6 z7) (z0 (T6 z7) z3)))) (u4 (i:=6) (x8 sc_law_tables.nd rfl (Or.inl rfl))) (U9 (zt6 PassesOwn.never rfl (Y8 rfl (l8 Z) (z0 (k8 (z6 6 (pv 6)) z7) (z0 (u6 rfl (a7 Z) (y6 0 (pv 0))) z3))) (u4 (i:=7) (x8 sc_law_tables.nd rfl (Or.inl rfl))) (Y5 (psw (n9 (i:=8) sc_law_tables.nd rfl (Or.inl rfl) (zs0 rfl (ys2 Z) (z0 (za4 yq9 zn8 (t8 (y6 0 (pv 0)) (z6 7 (pv 7))) (t8 (y6 0 (pv 0)) (z6 6 (pv 6))) (v5 _)) z3) PyProof.Rows.boot_int))) (U9 (yk7 (pcw (m7 zx5 O7 (yk9 rfl (xz6 Z) (z0 (Y9 (t8 (y6 0 (pv 0)) (z6 7 (pv 7))) (t8 (y6 0 (pv 0)) (z6 6 (pv 6)))) z3)) (z6 1 (pv 1)) (v5 _))) (Y5 (yg6 (i:=9) sc_law_tables.nd rfl (Or.inl rfl) (zn2 (t8 (C5 (t8 (y6 5 (pv 5)) (z6 7 (pv 7)))) (z6 8 (pv 8))))) (Y5 (yk7 (pcw (m7 ye7 yz0 (z6 4 (pv 4)) z7 (v5 _))) (U9 (psw (n9 (i:=9) sc_law_tables.nd rfl (Or.inl rfl) (za1 rfl rfl (ze0 Z) (z0 (z6 9 (pv 9)) (z0 (t8 (C5 (t8 (C5 (t8 (y6 3 (pv 3)) (T6 z7))) (z6 7 (pv 7)))) (Y9 z7 (z6 8 (pv 8)))) z3)))))) zo8) (U9 (yr8 (T5 (zn2 (za1 rfl rfl (ze0 Z) (z0 (t8 (C5 (t8 (y6 5 (pv 5)) (z6 6 (pv 6)))) (z6 8 (pv 8))) (z0 (k8 z7 (z6 9 (pv 9))) z3)))) (L9 (yf7 zr7 (pv 5) (z6 6 (pv 6)) (fun _ _=>rfl)) (z6 8 (pv 8)) X4)))))) zo8)))))) (zy8 5 (U9 (psw (Y7 (i:=3) (pv 3) (z6 5 (pv 5)) (fun t ha=>qap (pv 3) ha) (z0 (z6 5 (pv 5)) z3)))))))) (U9 (yr9 3 (pv 3)))))).plainW
noncomputable abbrev yr4:Stmt:=top 22
noncomputable abbrev xp2:List Str:=["table"]
theorem xx3:FnScope xp2 ["table"] (z9 yr4):=qsc
theorem B4:List.Nodup (["kept"]:List Str):=by decide +kernel
theorem xu3 (D:QDf K mg "_law_most" yr4 ["table"])(Z:Zs mg):xq7 P w K mg base:=
 D.mk fun f fd z=>z.okD (k:=0) (m:=ya2) xx3 fun cdv A outer s H E hr=>(y4 (k7 (za0 rfl rfl (ze0 Z) (S3 (zx4 (S3 (w9 (z0 z7 z3))) (S3 (X6 (f7 (N:=["kept"]) (src:=[none]) (z9 yr4) xp2 rfl rfl (by decide +kernel)) rfl (S0 (z6 0 (pv 0))) (fun C fp j H0=>(u4 (i:=0) (x8 B4 rfl (Or.inl rfl)))) (fun C fp j H0=>X5) (fun C fp j H0=>(za0 rfl rfl (ze0 Z) (y6 0 (pv 0)))))))))))
noncomputable abbrev yr5:Stmt:=top 23
noncomputable abbrev xp3:List Str:=["row","step","tables","ends","found","wanted","place","here","left","side"]
theorem sc_Z14:FnScope xp3 ["row","step","tables"] (z9 yr5):=qsc
theorem T7:List.Nodup (["left","side","wanted","place","tables"]:List Str):=by decide +kernel
theorem xu4 (D:QDf K mg "_law_first" yr5 ["row","step","tables"])(j:xq7 P w K mg base)(Z:Zs mg):xq8 P w K mg base:=
 D.mk fun f fd G=>G.okD (k:=1) (m:=ya3) sc_Z14 fun cdv A outer s H E hr=>(z8 (n9 (i:=3) sc_Z14.nd rfl (Or.inl rfl) (j7 (w9 (z0 (V3 (z0 (Y9 (u6 rfl (a7 Z) (y6 2 (pv 2))) z7) (z0 z7 z3))) (z0 (V3 (z0 (Y9 (u6 rfl (a7 Z) (y6 2 (pv 2))) z7) (z0 z7 z3))) z3))))) (z8 (i6 (i:=4) sc_Z14.nd rfl (Or.inl rfl) (w9 z3)) (z8 (n9 (i:=5) sc_Z14.nd rfl (Or.inr rfl) (g5 (fun t ha=>qcl j hr ha) rfl (z0 (t8 (y6 2 (pv 2)) (T6 z7)) z3) qal1)) (z8 (L8 PassesOwn.never rfl (d7 rfl (l8 Z) (z0 (u6 rfl (a7 Z) (y6 0 (pv 0))) z3)) (u4 (i:=6) (x8 sc_Z14.nd rfl (Or.inr rfl))) (z8 (i6 (i:=7) sc_Z14.nd rfl (Or.inl rfl) (w9 z3)) (z8 (L8 PassesOwn.never rfl (S0 (z6 3 (pv 3))) (S1 (is:=[8,9]) (O5 rfl (t4 (x8 (i:=8) sc_Z14.nd rfl (Or.inl rfl)) (t4 (x8 (i:=9) sc_Z14.nd rfl (Or.inl rfl)) V2)))) (y4 (W2 (yj1 (zm0 hr.units) (y6 4 (pv 4)) (S3 (w9 z3)) (v5 _)) (y4 (Y7 (i:=7) (pv 7) (V3 (z0 (z6 8 (pv 8)) (z0 (z6 9 (pv 9)) z3))) (fun t ha=>qap (pv 7) ha) (z0 (V3 (z0 (z6 8 (pv 8)) (z0 (z6 9 (pv 9)) z3))) z3))) (y4 (W2 (pc_w (za7 (m7 zx5 O7 (yk9 rfl (xz6 Z) (z0 (Y9 (t8 (y6 0 (pv 0)) (z6 6 (pv 6))) (t8 (y6 0 (pv 0)) (t8 (y6 4 (pv 4)) (T6 z7)))) z3)) (z6 1 (pv 1)) (v5 _)) (zd9 (m7 M0 g6 (z6 9 (pv 9)) (zs0 rfl (ys2 Z) (z0 (za4 yq9 zn8 (t8 (y6 0 (pv 0)) (z6 6 (pv 6))) (t8 (y6 0 (pv 0)) (t8 (y6 4 (pv 4)) (T6 z7))) (v5 _)) z3) PyProof.Rows.boot_int) (v5 _))))) (y4 (i6 (i:=7) sc_Z14.nd rfl (Or.inl rfl) (zx4 (S3 (zx4 (y6 7 (pv 7)) (S3 (w9 (z0 (V3 (z0 (z6 8 (pv 8)) (z0 (z6 9 (pv 9)) z3))) z3))))) (S3 (O6 (w9 (z0 (V3 (z0 (Y9 (z6 8 (pv 8)) z7) (z0 (Y9 z7 (z6 9 (pv 9))) z3))) z3)) (zs0 rfl (ys2 Z) (z0 (za4 ye7 yz0 (z6 8 (pv 8)) z7 (v5 _)) z3) PyProof.Rows.boot_int)))))) u9))))) (d9 7 (z8 (zy9 (C0 (i:=7) sc_Z14.nd rfl (Or.inl rfl) (f7 (N:=["left","side","wanted","place","tables"]) (src:=[none,none,some 5,some 6,some 2]) (z9 yr5) xp3 rfl rfl (by decide +kernel)) rfl (S0 (z6 7 (pv 7))) (fun C fp z H0=>(S1 (is:=[0,1]) (O5 rfl (t4 (x8 (i:=0) T7 rfl (Or.inl rfl)) (t4 (x8 (i:=1) T7 rfl (Or.inl rfl)) V2))))) (fun C fp z H0=>(U8 (m7 zx5 O7 (t8 (C5 (t8 (C5 (t8 (y6 4 (pv 4)) (z6 0 (pv 0)))) (z6 3 (pv 3)))) (z6 1 (pv 1))) (z6 2 (pv 2)) (v5 _)))) (fun C fp z H0=>(V3 (z0 (z6 0 (pv 0)) (z0 (z6 1 (pv 1)) z3)))))) (y4 (W2 (pc_w (za7 (yj1 (xv8 hr.units) (y6 7 (pv 7)) (S3 (w9 z3)) (v5 _)) (zd9 (m7 ye7 yz0 (z6 5 (pv 5)) z7 (v5 _))))) (z8 (n9 (i:=3) sc_Z14.nd rfl (Or.inl rfl) (j7 (ZT.pf_sortSetT rfl hr.units rfl (zo0 Z) rfl (xp9 Z) (y6 7 (pv 7)) PyProof.Rows.boot_sorted PyProof.Rows.boot_set))) (z8 (Y7 (i:=4) (pv 4) (z6 6 (pv 6)) (fun t ha=>qap (pv 4) ha) (z0 (z6 6 (pv 6)) z3)) (y4 (n9 (i:=5) sc_Z14.nd rfl (Or.inr rfl) (Y9 (z6 5 (pv 5)) z7))))) u9))))))) (y4 (yq0 4 (pv 4)))))))
noncomputable abbrev s_Z3:Stmt:=top 24
noncomputable abbrev N_Z3:List Str:=["told"]
theorem xn2:FnScope N_Z3 ["told"] (z9 s_Z3):=qsc
theorem R7:List.Nodup (["one"]:List Str):=by decide +kernel
theorem xm9 (D:QDf K mg "_law_are_whole" s_Z3 ["told"])(Z:Zs mg):T_Z3 P w K mg base:=
 D.mk fun f fd z=>z.okD (k:=0) (m:=b_Z3) xn2 fun cdv A outer s H E hr=>(y4 (k7 (za6 (za2 (C:="list") rfl (V0 Z) rfl (yk1 Z) PyProof.Rows.boot_list (z6 0 (pv 0))) (yk8 (za3 (zm0 hr.units) (S3 (X6 (f7 (N:=["one"]) (src:=[none]) (z9 s_Z3) N_Z3 rfl rfl (by decide +kernel)) rfl (S0 (z6 0 (pv 0))) (fun C fp j H0=>(u4 (i:=0) (x8 R7 rfl (Or.inl rfl)))) (fun C fp j H0=>(U8 (pc_w (xv3 (yj0 (za2 (C:="bool") rfl (V0 Z) rfl (xz5 Z) PyProof.Rows.boot_bool (z6 0 (pv 0)))) (xw3 (xv5 (yj0 (za2 (C:="int") rfl (V0 Z) rfl (ys2 Z) PyProof.Rows.boot_int (z6 0 (pv 0)))))))))) (fun C fp j H0=>z7))) (S3 (w9 z3)) (v5 _))))))
noncomputable abbrev s_Z6:Stmt:=top 25
noncomputable abbrev N_Z6:List Str:=["pot","base","more","many"]
theorem sc_Z6:FnScope N_Z6 ["pot"] (z9 s_Z6):=qsc
theorem P3:List.Nodup (["k","pot"]:List Str):=by decide +kernel
theorem P2:List.Nodup (["k","base","more"]:List Str):=by decide +kernel
theorem xm6 (D:QDf K mg "_law_long_row" s_Z6 ["pot"])(z:zp5 P w K mg base)(Z:Zs mg):T_Z6 P w K mg base:=
 D.mk fun f fd O=>O.okGl (k:=1) (m:=b_Z6) sc_Z6 (by decide) fun cdv A outer s H E hr=>(z8 (f9 (i:=1) sc_Z6.nd rfl (Or.inr rfl) (E2 (i:=0) (j:=1) rfl (by decide) (f7 (N:=["k","pot"]) (src:=[none,some 0]) (z9 s_Z6) N_Z6 rfl rfl (by decide +kernel)) rfl (E1 rfl (l8 Z) (t5 (Z1 (OpR.or V4 g7) c6 (w4 z7) (y8 (i:=0) (fun t ha=>qcl z hr ha) rfl (pv 0) (y9 (z0 z7 z3)) (x9 qal1))) (y9 z3))) (fun C fp G H0=>(x8 (i:=0) P3 rfl (Or.inl rfl))) (fun C fp G H0=>(Z1 zn9 C8 (y8 (i:=1) (fun t ha=>qcl z hr ha) rfl (pv 1) (y9 (z0 z7 z3)) (x9 qal1)) (w4 z7))))) (z8 (f9 (i:=2) sc_Z6.nd rfl (Or.inr rfl) (zn3 (w4 (j7 (w9 (z0 z7 (z0 z7 (z0 z7 (z0 (T6 z7) z3) se_c) se_c) se_c)))) (y8 (i:=0) (fun t ha=>qcl z hr ha) rfl (pv 0) (y9 (z0 z7 z3)) (x9 qal1)))) (z8 (f9 (i:=3) sc_Z6.nd rfl (Or.inl rfl) (Z1 (OpR.or V4 g7) c6 (w4 z7) (y8 (i:=0) (fun t ha=>qcl z hr ha) rfl (pv 0) (y9 (z0 z7 z3)) (x9 qal1)))) (y4 (i7 0 (w4 (j7 (X6 (f7 (N:=["k","base","more"]) (src:=[none,some 1,some 2]) (z9 s_Z6) N_Z6 rfl rfl (by decide +kernel)) rfl (d7 rfl (l8 Z) (z0 (z6 3 (pv 3)) z3)) (fun C fp G H0=>(u4 (i:=0) (x8 P2 rfl (Or.inl rfl)))) (fun C fp G H0=>X5) (fun C fp G H0=>(k8 (t8 (y6 1 (pv 1)) (R6 (z6 0 (pv 0)) (u6 rfl (a7 Z) (y6 1 (pv 1))))) (E3 (z6 2 (pv 2)) (zs1 (z6 0 (pv 0)) z7))))))))))))
noncomputable abbrev yh6:Stmt:=top 26
noncomputable abbrev xi4:List Str:=["row","step","turns","due","handed","told"]
theorem sc_Z13:FnScope xi4 ["row","step","turns"] (z9 yh6):=qsc
theorem xu5 (D:QDf K mg "_law_right" yh6 ["row","step","turns"])(G:T_Z3 P w K mg base)(z:xq8 P w K mg base)(j:N6 P w K mg base)(N:T_Z0 P w K mg base)(Z:Zs mg):xq9 P w K mg base:=
 D.mk fun f fd O=>O.okD (k:=4) (m:=ya4) sc_Z13 fun cdv A outer s H E hr=>(z8 (n9 (i:=3) sc_Z13.nd rfl (Or.inl rfl) (g5 (fun t ha=>qcl z hr ha) rfl (z0 (z6 0 (pv 0)) (z0 (z6 1 (pv 1)) (z0 (g5 (fun t ha=>qcl j hr ha) rfl (z0 (z6 0 (pv 0)) (z0 (z6 1 (pv 1)) (z0 (z6 2 (pv 2)) z3))) qal3) z3))) qal3)) (z8 (n9 (i:=4) sc_Z13.nd rfl (Or.inl rfl) (j7 (yf6 rfl (yk1 Z) (y6 0 (pv 0)) PyProof.Rows.boot_list))) (z8 (n9 (i:=5) sc_Z13.nd rfl (Or.inl rfl) (g5 (fun t ha=>qcl N hr ha) rfl (z0 (z6 4 (pv 4)) (z0 (z6 1 (pv 1)) (z0 (z6 2 (pv 2)) z3))) qal3)) (y4 (k7 (za6 (g5 (fun t ha=>qcl G hr ha) rfl (z0 (z6 5 (pv 5)) z3) qal1) (za6 (za3 (zm0 hr.units) (y6 5 (pv 5)) (y6 3 (pv 3)) (v5 _)) (yk8 (za3 (zm0 hr.units) (y6 4 (pv 4)) (y6 0 (pv 0)) (v5 _))))))))))
noncomputable abbrev s_Z8:Stmt:=top 27
noncomputable abbrev N_Z8:List Str:=["pot","base","many"]
theorem sc_Z8:FnScope N_Z8 ["pot"] (z9 s_Z8):=qsc
theorem P5:List.Nodup (["k","pot"]:List Str):=by decide +kernel
theorem P4:List.Nodup (["k","base"]:List Str):=by decide +kernel
theorem xm4 (D:QDf K mg "_law_bent_row" s_Z8 ["pot"])(z:zp5 P w K mg base)(Z:Zs mg):T_Z8 P w K mg base:=
 D.mk fun f fd O=>O.okGl (k:=1) (m:=b_Z8) sc_Z8 (by decide) fun cdv A outer s H E hr=>(z8 (f9 (i:=1) sc_Z8.nd rfl (Or.inr rfl) (E2 (i:=0) (j:=1) rfl (by decide) (f7 (N:=["k","pot"]) (src:=[none,some 0]) (z9 s_Z8) N_Z8 rfl rfl (by decide +kernel)) rfl (E1 rfl (l8 Z) (t5 (Z1 (OpR.or V4 g7) c6 (w4 z7) (y8 (i:=0) (fun t ha=>qcl z hr ha) rfl (pv 0) (y9 (z0 z7 z3)) (x9 qal1))) (y9 z3))) (fun C fp G H0=>(x8 (i:=0) P5 rfl (Or.inl rfl))) (fun C fp G H0=>(y8 (i:=1) (fun t ha=>qcl z hr ha) rfl (pv 1) (y9 (z0 z7 z3)) (x9 qal1))))) (z8 (f9 (i:=2) sc_Z8.nd rfl (Or.inl rfl) (Z1 (OpR.or V4 g7) c6 (w4 z7) (y8 (i:=0) (fun t ha=>qcl z hr ha) rfl (pv 0) (y9 (z0 z7 z3)) (x9 qal1)))) (y4 (i7 0 (w4 (j7 (X6 (f7 (N:=["k","base"]) (src:=[none,some 1]) (z9 s_Z8) N_Z8 rfl rfl (by decide +kernel)) rfl (d7 rfl (l8 Z) (z0 (z6 2 (pv 2)) z3)) (fun C fp G H0=>(u4 (i:=0) (x8 P4 rfl (Or.inl rfl)))) (fun C fp G H0=>X5) (fun C fp G H0=>(k8 (t8 (y6 1 (pv 1)) (R6 (z6 0 (pv 0)) (u6 rfl (a7 Z) (y6 1 (pv 1))))) (t8 (S3 (w9 (z0 z7 (z0 z7 z3)))) (R6 (z6 0 (pv 0)) z7)))))))))))
noncomputable abbrev zh6:Stmt:=top 28
noncomputable abbrev xi1:List Str:=["script","k","pot","row"]
theorem sc_Z18:FnScope xi1 ["script"] (z9 zh6):=qsc
theorem xu0 {f:Addr}{fd:FuncData}(Fn:Fun K "law" "law" zh6 f fd)(N:T_Z8 P w K mg base)(U:T_Z6 P w K mg base)(j:zp5 P w K mg base)(z:D2 P w K mg base)(G:xq9 P w K mg base)(O:T_Z7 P w K mg base)(Y:T_Z4 P w K mg base)(Z:Zs mg):FnOk P w K mg base CX0 6 f fd ["script"] (spR K 1 zr3):=
 Fn.okD (k:=5) (m:=ya0) sc_Z18 fun cdv A outer s H E hr=>(z8 (zc1 PassesOwn.never rfl rfl (T8 Z) (yg9 (fun t ha=>qcl z hr ha) rfl (z0 (j7 (yf5 (y6 0 (pv 0)) C2 (C1 z7))) z3) qal1) (O5 rfl (t4 (x8 (i:=1) sc_Z18.nd rfl (Or.inl rfl)) (t4 (x8 (i:=2) sc_Z18.nd rfl (Or.inl rfl)) V2))) (z8 (L7 (xv4 (zd7 (zn5 (m7 M0 g6 (z6 1 (pv 1)) z7 (v5 _))) (zo6 (za8 M0 g6 (y8 (i:=2) (fun t ha=>qcl j hr ha) rfl (pv 2) (y9 (z0 z7 z3)) (x9 qal1)) (w4 z7) (v5 _))))) (y4 (L7 (zs2 (C6 (C4 (fun t ha=>qcl G hr ha) rfl (t5 (y8 (i:=2) (fun t ha=>qcl U hr ha) rfl (pv 2) (y9 z3) (x9 Z7)) (t5 (Z1 (OpR.or V4 g7) c6 (w4 z7) (y8 (i:=2) (fun t ha=>qcl j hr ha) rfl (pv 2) (y9 (z0 z7 z3)) (x9 qal1))) (t5 (y8 (i:=2) (fun t ha=>qcl j hr ha) rfl (pv 2) (y9 (z0 z7 z3)) (x9 qal1)) (y9 z3)))) (n6 (n6 (n6 (x9 Z7))))))) (y4 (k7 yq7)) u9)) u9) (z8 (L7 (xv4 (zd7 (zn5 (m7 M0 g6 (z6 1 (pv 1)) z7 (v5 _))) (zo6 (za8 M0 g6 (y8 (i:=2) (fun t ha=>qcl j hr ha) rfl (pv 2) (y9 (z0 z7 z3)) (x9 qal1)) (w4 z7) (v5 _))))) (y4 (L7 (zs2 (C6 (C4 (fun t ha=>qcl G hr ha) rfl (t5 (y8 (i:=2) (fun t ha=>qcl N hr ha) rfl (pv 2) (y9 z3) (x9 Z7)) (t5 (Z1 (OpR.or V4 g7) c6 (w4 z7) (y8 (i:=2) (fun t ha=>qcl j hr ha) rfl (pv 2) (y9 (z0 z7 z3)) (x9 qal1))) (t5 (Z1 (OpR.or V4 g7) c6 (w4 z7) (y8 (i:=2) (fun t ha=>qcl j hr ha) rfl (pv 2) (y9 (z0 z7 z3)) (x9 qal1))) (y9 z3)))) (n6 (n6 (n6 (x9 Z7))))))) (y4 (k7 yq7)) u9)) u9) (z8 (f9 (i:=3) sc_Z18.nd rfl (Or.inl rfl) (y8 (i:=2) (fun t ha=>qcl O hr ha) rfl (pv 2) (y9 (z0 z7 z3)) (x9 qal1))) (y4 (L7 (zs2 (C6 (C4 (fun t ha=>qcl G hr ha) rfl (t5 (w4 (z6 3 (pv 3))) (t5 (y8 (i:=2) (fun t ha=>qcl Y hr ha) rfl (pv 2) (y9 z3) (x9 Z7)) (t5 (y8 (i:=2) (fun t ha=>qcl j hr ha) rfl (pv 2) (y9 (z0 z7 z3)) (x9 qal1)) (y9 z3)))) (n6 (n6 (n6 (x9 Z7))))))) (y4 (k7 yq7)) u9)))))) (y4 (k7 yq7)))
theorem all_mk {l:W.OpenLaw}{h:Heap}{fa:Addr}(X:K.In h)(G:h.Ns mainGlobals mg)(ag:mg "law"=some (.ref fa))(d_Z12:QDn K "refuse_step" yh7)(d_Z11:QDn K "later_steps" zt2)(d_Z10:QDn K "longer_first" yh8)(d_Z2:QDn K "longest_behind" s_Z2)(d_Z5:QDn K "one_turn_more" s_Z5)(d_Z17:QDn K "no_tails" yh4)(d_Z9:QDn K "longest_tail" s_Z9)(d_Z0:QDn K "longest_turning" s_Z0)(d_Z16:QDn K "_law_next" yh5)(d_law_pots:QDn K "_law_pots" U6)(d_Z1:QDn K "_law_some_number" s_Z1)(d_Z7:QDn K "_law_some_row" s_Z7)(d_Z4:QDn K "_law_some_step" s_Z4)(d_law_tables:QDn K "_law_tables" a9)(d_Z15:QDn K "_law_most" yr4)(d_Z14:QDn K "_law_first" yr5)(d_Z3:QDn K "_law_are_whole" s_Z3)(d_Z6:QDn K "_law_long_row" s_Z6)(d_Z13:QDn K "_law_right" yh6)(d_Z8:QDn K "_law_bent_row" s_Z8)(d_Z18:QDn K "law" zh6)(y_abs:W.nsIn K mainGlobals "abs"=some none)(y_bool:W.nsIn K mainGlobals "bool"=some none)(y_enumerate:W.nsIn K mainGlobals "enumerate"=some none)(y_int:W.nsIn K mainGlobals "int"=some none)(y_isinstance:W.nsIn K mainGlobals "isinstance"=some none)(y_len:W.nsIn K mainGlobals "len"=some none)(y_list:W.nsIn K mainGlobals "list"=some none)(y_max:W.nsIn K mainGlobals "max"=some none)(y_min:W.nsIn K mainGlobals "min"=some none)(y_range:W.nsIn K mainGlobals "range"=some none)(y_reversed:W.nsIn K mainGlobals "reversed"=some none)(y_set:W.nsIn K mainGlobals "set"=some none)(y_sorted:W.nsIn K mainGlobals "sorted"=some none):
  ∃ fd:FuncData,(∀(s:Shared)(v:Value),BindsTo s fd ⟨[v],[]⟩ [("script",v)])/\∀ base:Heap,K.In base->base.Ns mainGlobals mg->FnOk l.prog w K mg base CX0 6 fa fd ["script"] (spR K 1 zr3):=by
 obtain⟨x,e,oc,o1,kV,dc,pm,o2,cd,ct,sl,l',c,k⟩:=d_Z18
 have e:=ag.symm.trans (W.mg_of X G e)
 cases e
 have Z:Zs mg:=⟨W.mg_none_of X G y_abs,W.mg_none_of X G y_bool,W.mg_none_of X G y_enumerate,W.mg_none_of X G y_int,W.mg_none_of X G y_isinstance,W.mg_none_of X G y_len,W.mg_none_of X G y_list,W.mg_none_of X G y_max,W.mg_none_of X G y_min,W.mg_none_of X G y_range,W.mg_none_of X G y_reversed,W.mg_none_of X G y_set,W.mg_none_of X G y_sorted,True.intro⟩
 refine⟨W.fnOf "law" "law" (X8 zh6) (j2 zh6) (z9 zh6) .none kV dc pm o2 cd ct,fun s v=>.of_eq rfl,fun base _ _=>?_⟩
 have a3:=xu6 (P:=l.prog) (w:=w) (mg:=mg) (base:=base) (d_Z12.df X G (qbd1 fun _ _ _ _ _ _ _=>rfl))
 have a4:=xu7 (P:=l.prog) (w:=w) (mg:=mg) (base:=base) (d_Z11.df X G (qbd2 fun _ _ _ _ _ _ _ _=>rfl)) Z
 have O:=xu8 (P:=l.prog) (w:=w) (mg:=mg) (base:=base) (d_Z10.df X G (qbd1 fun _ _ _ _ _ _ _=>rfl)) Z
 have ad:=xk0 (P:=l.prog) (w:=w) (mg:=mg) (base:=base) (d_Z2.df X G (qbd2 fun _ _ _ _ _ _ _ _=>rfl)) Z
 have aa:=xm7 (P:=l.prog) (w:=w) (mg:=mg) (base:=base) (d_Z5.df X G (qbd2 fun _ _ _ _ _ _ _ _=>rfl)) O ad Z
 have U:=xu1 (P:=l.prog) (w:=w) (mg:=mg) (base:=base) (d_Z17.df X G (qbd1 fun _ _ _ _ _ _ _=>rfl)) Z
 have a5:=xm3 (P:=l.prog) (w:=w) (mg:=mg) (base:=base) (d_Z9.df X G (qbd1 fun _ _ _ _ _ _ _=>rfl)) O Z
 have af:=xk2 (P:=l.prog) (w:=w) (mg:=mg) (base:=base) (d_Z0.df X G (qbd3 fun _ _ _ _ _ _ _ _ _=>rfl)) a4 a5 U aa a3 Z
 have j:=xu2 (P:=l.prog) (w:=w) (mg:=mg) (base:=base) (d_Z16.df X G (qbd2 fun _ _ _ _ _ _ _ _=>rfl))
 have N:=zs3 (P:=l.prog) (w:=w) (mg:=mg) (base:=base) (d_law_pots.df X G (qbd1 fun _ _ _ _ _ _ _=>rfl)) Z
 have ae:=xk1 (P:=l.prog) (w:=w) (mg:=mg) (base:=base) (d_Z1.df X G (qbd2 fun _ _ _ _ _ _ _ _=>rfl)) j
 have a7:=xm5 (P:=l.prog) (w:=w) (mg:=mg) (base:=base) (d_Z7.df X G (qbd2 fun _ _ _ _ _ _ _ _=>rfl)) j ae Z
 have ab:=xm8 (P:=l.prog) (w:=w) (mg:=mg) (base:=base) (d_Z4.df X G (qbd1 fun _ _ _ _ _ _ _=>rfl)) j
 have z:=B0 (P:=l.prog) (w:=w) (mg:=mg) (base:=base) (d_law_tables.df X G (qbd3 fun _ _ _ _ _ _ _ _ _=>rfl)) Z
 have Y:=xu3 (P:=l.prog) (w:=w) (mg:=mg) (base:=base) (d_Z15.df X G (qbd1 fun _ _ _ _ _ _ _=>rfl)) Z
 have a1:=xu4 (P:=l.prog) (w:=w) (mg:=mg) (base:=base) (d_Z14.df X G (qbd3 fun _ _ _ _ _ _ _ _ _=>rfl)) Y Z
 have ac:=xm9 (P:=l.prog) (w:=w) (mg:=mg) (base:=base) (d_Z3.df X G (qbd1 fun _ _ _ _ _ _ _=>rfl)) Z
 have a8:=xm6 (P:=l.prog) (w:=w) (mg:=mg) (base:=base) (d_Z6.df X G (qbd1 fun _ _ _ _ _ _ _=>rfl)) j Z
 have a2:=xu5 (P:=l.prog) (w:=w) (mg:=mg) (base:=base) (d_Z13.df X G (qbd3 fun _ _ _ _ _ _ _ _ _=>rfl)) ac a1 z af Z
 have a6:=xm4 (P:=l.prog) (w:=w) (mg:=mg) (base:=base) (d_Z8.df X G (qbd1 fun _ _ _ _ _ _ _=>rfl)) j Z
 exact xu0 (yw3 l' c k) a6 a8 j N a2 a7 ab Z
theorem walk {l:W.OpenLaw}{q:Program}{j:List Str}{XP:(Str->Option Value)->Heap->Prop}{U:World->Heap->Prop}{d:DefRec}{K:Params->W.Frag}(hn:l.most=some 63)(N:d.params.defaults=[])
  (G:∀ ns:List Int,ns.length<=63->zr3 [.lst (ns.map .int)]=some (.sh (.bl true)))
  (Z:∀(w:World)(h:Heap),U w h->(K w.params).In h)
  (F:∀(w:World)(mg:Str->Option Value)(O:Addr)(h:Heap),(K w.params).In h->h.Ns mainGlobals mg->mg d.name=some (.ref O)->
   ∃ fd:FuncData,(∀(s:Shared)(u:Value),BindsTo s fd ⟨[u],[]⟩ [("script",u)])/\∀ base:Heap,(K w.params).In base->base.Ns mainGlobals mg->FnOk l.prog w (K w.params) mg base CX0 6 O fd ["script"] (spR (K w.params) 1 zr3)):
  W.WalkO q j XP U l.row.toRowW d [] (fun f vs=>PySem.call f vs):=
 L2.walk_of (n:=63) (k:=6) (x:="script") (CX:=fun _=>CX0) (sp:=fun w=>spR (K w.params) 1 zr3) hn (by decide) N ⟨rfl,by decide,by decide⟩ Z F (fun w H a ns Y _ hS=>xy9 G H a ns Y hS _) fun _ _ _ _ _ z=>z
end
end Lw
open PySem PySem.W PyProof.Rows L2
set_option maxRecDepth 100000 in
set_option maxHeartbeats 0 in
theorem PySem.Challenge.cw_wavyrow_k26_few_turns_of_long_rows_holds : PySem.Challenge.rw_wavyrow_k26_few_turns_of_long_rows.Holds := by
 w_on;o_law;k_head;(case hw=>w_witness2)
 k_fill
 refine Lw.walk (l:=PySem.Challenge.rw_wavyrow_k26_few_turns_of_long_rows) rfl rfl Lw.law_true (fun w h Y=>PySem.W.kIn_of Y) ?F
 case F=>
  intro w mg fa h KX G hmg
  refine' Lw.all_mk KX G hmg  ?d_Z12 ?d_Z11 ?d_Z10 ?d_Z2 ?d_Z5 ?d_Z17 ?d_Z9 ?d_Z0 ?d_Z16 ?d_law_pots ?d_Z1 ?d_Z7 ?d_Z4 ?d_law_tables ?d_Z15 ?d_Z14 ?d_Z3 ?d_Z6 ?d_Z13 ?d_Z8 ?d_Z18    ?y_abs ?y_bool ?y_enumerate ?y_int ?y_isinstance ?y_len ?y_list ?y_max ?y_min ?y_range ?y_reversed ?y_set ?y_sorted
  all_goals first| (refine' QDn.of ?e ?l ?c ?k;(case e=>k_is);(case l=>k_is);(case c=>k_is);(case k=>k_is))| (refine' QMn.of ?e ?i ?l ?c ?k;(case e=>k_is);(case i=>k_is);(case l=>k_is);(case c=>k_is);(case k=>k_is))|k_is|skip
