import PyProof.Rows.All
import Wide.All
import OpenK.AllK
import Wide.FinOn
import Lean
import PyProof.EqAt
import PyProof.EqKinds
import PyProof.TupleCall
import PyProof.NeKinds
import KE.IntBitsLaws
import PyProof.FitsBits
import PySem.Challenge.RW_wavyrow_k05_no_places
set_option Elab.async false
set_option linter.all false
set_option maxRecDepth 100000
namespace L2
open List
open PySem PySem.Spec PyProof.Rows
section
noncomputable abbrev Key:=Sum Int Str
noncomputable def keyIs:Key->Value->Bool
 | .inl k,v=>Value.isInt k v
 | .inr x,v=>Value.isStrOf x v
noncomputable def keyH (w:World):Key->Int
 | .inl k=>hashInt k
 | .inr x=>hashStr w x
theorem keyIs_shape:∀{k:Key}{v:Value},keyIs k v=true->(∃ i t,k=Sum.inl i/\v=Value.int i t)\/(∃ x t,k=Sum.inr x/\v=Value.str x t)
 | .inl i,v,h=>by
  obtain⟨t,e⟩:=Value.isInt_shape (k:=i) (v:=v) h
  exact .inl ⟨i,t,rfl,e⟩
 | .inr x,v,h=>by
  obtain⟨t,e⟩:=Value.isStrOf_shape (x:=x) (v:=v) h
  exact .inr ⟨x,t,rfl,e⟩
theorem key_ll (a b:Int):decide ((Sum.inl a:Key)=Sum.inl b)=(a==b):=by
 by_cases e:a=b
 .subst e;simp
 .have h:¬ (Sum.inl a:Key)=Sum.inl b:=fun q=>e (Sum.inl.inj q)
  rw[decide_eq_false h]
  exact(beq_eq_false_iff_ne.mpr e).symm
theorem key_rr (a b:Str):decide ((Sum.inr a:Key)=Sum.inr b)=decide (a=b):=by
 by_cases e:a=b
 .subst e;simp
 .have h:¬ (Sum.inr a:Key)=Sum.inr b:=fun q=>e (Sum.inr.inj q)
  rw[decide_eq_false h,decide_eq_false e]
theorem key_lr (a:Int)(b:Str):decide ((Sum.inl a:Key)=Sum.inr b)=false:=decide_eq_false (fun q=>nomatch q)
theorem key_rl (a:Str)(b:Int):decide ((Sum.inr a:Key)=Sum.inl b)=false:=decide_eq_false (fun q=>nomatch q)
noncomputable def mixKind (prog:Program)(w:World):PySem.KeyKind prog w Key where
 is:=keyIs
 hash:=keyH w
 inj:=fun v a b ha hb=>by
  rcases keyIs_shape ha with⟨i,t,rfl,rfl⟩|⟨x,t,rfl,rfl⟩
  .rcases keyIs_shape hb with⟨j,u,rfl,e⟩|⟨y,u,rfl,e⟩
   .injection e with e1 _;rw[e1]
   .exact nomatch e
  .rcases keyIs_shape hb with⟨j,u,rfl,e⟩|⟨y,u,rfl,e⟩
   .exact nomatch e
   .injection e with e1 _;rw[e1]
 byValue:=fun k v h=>by
  rcases keyIs_shape h with⟨i,t,rfl,rfl⟩|⟨x,t,rfl,rfl⟩ <;> rfl
 pyHash:=fun hv h=>by
  rcases keyIs_shape hv with⟨i,t,rfl,rfl⟩|⟨x,t,rfl,rfl⟩
  .exact wpAny_pyHash_int h
  .exact wpAny_pyHash_str h
 eqBool:=fun hu hv h=>by
  rcases keyIs_shape hu with⟨i,t,rfl,rfl⟩|⟨x,t,rfl,rfl⟩
  .rcases keyIs_shape hv with⟨j,u,rfl,rfl⟩|⟨y,u,rfl,rfl⟩
   .rw[key_ll]at h;exact wpAny_eqBool_int h
   .rw[key_lr]at h;exact SeqAt.EqAt.int_str i t y u _ _ _ _ h
  .rcases keyIs_shape hv with⟨j,u,rfl,rfl⟩|⟨y,u,rfl,rfl⟩
   .rw[key_rl]at h;exact SeqAt.EqAt.str_int x t j u _ _ _ _ h
   .rw[key_rr]at h;exact wpAny_eqBool_str h
 «strs»:=fun k x t v h=>by
  rcases keyIs_shape h with⟨i,u,rfl,e⟩|⟨y,u,rfl,e⟩
  .exact nomatch e
  .injection e with e1 _
   subst e1
   cases v <;> rfl
end
section
inductive V where
 |non|bl (b:Bool)|int (i:Int)|str (x:Str)|byt (b:Array UInt8)|flt (b:UInt64)|ref (a:Addr)|ty (n:String)
 deriving DecidableEq
noncomputable def RelV:V->Value->Prop
 | .non,u=>u=Value.none
 | .bl b,u=>u=Value.bool b
 | .int i,u=>∃ t,u=Value.int i t
 | .str x,u=>∃ t,u=Value.str x t
 | .byt b,u=>∃ t,u=Value.bytes b t
 | .flt b,u=>∃ t,u=Value.float b t
 | .ref a,u=>u=Value.ref a
 | .ty n,u=>u=Value.type n
noncomputable abbrev Vals:List V->List Value->Prop:=Paired RelV
theorem Vals.length {xs:List V}{us:List Value}(r:Vals xs us):xs.length=us.length:=Paired.length r
theorem Vals.get:∀{xs:List V}{us:List Value}{i:Nat}{x:V},Vals xs us->xs[i]? =some x->∃ u,us[i]? =some u/\RelV x u
 |_,_,_,_,.nil,e=>by simp at e
 |_,_,0,_,.cons r _,e=>by simp at e;subst e;exact⟨_,rfl,r⟩
 |_,_,i+1,x,.cons _ t,e=>by
  obtain⟨u,h1,h2⟩:=Vals.get (i:=i) (x:=x) t (by simpa using e)
  exact⟨u,by simpa using h1,h2⟩
theorem Vals.set {x:V}{u:Value}(r:RelV x u):∀{xs:List V}{us:List Value}(i:Nat),Vals xs us->Vals (xs.set i x) (us.set i u)
 |_,_,_,.nil=>.nil
 |_,_,0,.cons _ t=>.cons r t
 |_,_,i+1,.cons q t=>.cons q (Vals.set r i t)
theorem Vals.append:∀{xs ys:List V}{us ws:List Value},Vals xs us->Vals ys ws->Vals (xs++ys) (us++ws)
 |_,_,_,_,.nil,s=>s
 |_,_,_,_,.cons r t,s=>.cons r (Vals.append t s)
theorem Vals.take:∀{xs:List V}{us:List Value}(n:Nat),Vals xs us->Vals (xs.take n) (us.take n)
 |_,_,0,_=>.nil
 |_,_,_+1,.nil=>.nil
 |_,_,n+1,.cons r t=>.cons r (Vals.take n t)
theorem Vals.drop:∀{xs:List V}{us:List Value}(n:Nat),Vals xs us->Vals (xs.drop n) (us.drop n)
 |_,_,0,r=>r
 |_,_,_+1,.nil=>.nil
 |_,_,n+1,.cons _ t=>Vals.drop n t
noncomputable def RelO:Option V->Option Value->Prop
 |some v,some u=>RelV v u
 |none,none=>True
 |_,_=>False
noncomputable def KV {κ:Type}:List (κ×V)->List (κ×Value)->Prop:=Paired fun(p:κ×V)(q:κ×Value)=>p.1=q.1/\RelV p.2 q.2
noncomputable def kV:Key->V
 | .inl i=>.int i
 | .inr x=>.str x
inductive HO where
 |lst (xs:List V)
 |tup (xs:List V)
 |dK (kvs:List (Key×V))|dT (kvs:List (List Key×V))
 |set (S:Int->Bool) (n:Nat)
 |ins (C dx:Addr) (fs:List (Str×V))
 |own (x:Addr)
 |xd (fs:List (Str×V))
 |met (f x:Addr)
 |rng (lo hi:Int)
 |frz (o:Obj) (u:HO)
 |tbl (ps:Array Value)
 |ext (φ:Heap->Prop)
noncomputable abbrev Hp:=Addr->Option HO
noncomputable def upd (H:Hp)(a:Addr)(o:HO):Hp:=fun b=>if b=a then some o else H b
theorem upd_same {H:Hp}{a:Addr}{o:HO}:upd H a o a=some o:=by unfold upd;rw[if_pos rfl]
theorem upd_ne {H:Hp}{a b:Addr}{o:HO}(h:b≠a):upd H a o b=H b:=by unfold upd;rw[if_neg h]
theorem ne_of_none {H:Hp}{a b:Addr}{o:HO}(h:H a=some o)(h':H b=none):a≠b:=by
 intro e;subst e;rw[h]at h';cases h'
section
variable (P:Program)(w:World)
noncomputable def ObjOk (H:Hp)(h:Heap)(a:Addr):HO->Prop
 | .lst xs=>xs.length<=sizeLine/\∃(its:List Value)(n:Nat),Vals xs its/\h.get? a=some { cls:=.type "list",data:=.seq its.toArray n }
 | .tup xs=>xs.length<=sizeLine/\∃ its:List Value,Vals xs its/\IsTup h a its.toArray
 | .dK kvs=>kvs.length<=sizeLine/\(a==sysModules)=false/\∃ vs,KV kvs vs/\h.DictOf (mixKind P w) a vs
 | .dT kvs=>kvs.length<=sizeLine/\(a==sysModules)=false/\∃ xs:List (List Key×Addr×Value),
   Paired (fun(p:List Key×V)(q:List Key×Addr×Value)=>p.1=q.1/\H q.2.1=some (.tup (p.1.map kV))/\RelV p.2 q.2.2) kvs xs/\
   ∃ o es ep,h.get? a=some o/\o.ExactDict/\o.data= .dict es ep/\es.toList=xs.map (entryOfKey (tupleKind (mixKind P w)))/\(xs.map (·.1)).Nodup
 | .set S n=>h.SetOf (intKind P w) a S n
 | .ins C dx fs=>H dx=some (.own a)/\fs.length<=1000/\dx≠a/\h.get? a=some (W.instObj C dx)/\
   ∃ mA,h.Ns1 dx mA/\(∀ f,RelO (fs.lookup f) (mA f))/\PySem.Within mA (fs.map (·.1))
 | .own _=>∃ o,h.get? a=some o
 | .xd fs=>∃ mA,h.Ns1 a mA/\∀ f,RelO (fs.lookup f) (mA f)
 | .rng lo hi=>∃ t u v,h.get? a=some { cls:=.type "range",data:=.fields #[.int lo t,.int hi u,.int 1 v] }
 | .frz o u=>h.get? a=some o/\ObjOk H h a u
 | .tbl ps=>h.get? a=some { cls:=.none,data:=.fields ps }
 | .met f x=>h.get? a=some (W.methodObj (.ref f) (.ref x))
 | .ext φ=>φ h/\(∃ o,h.get? a=some o)/\∀ h1 h2:Heap,φ h1->(∀ o,h1.get? a=some o->h2.get? a=some o)->φ h2
noncomputable def HOk (H:Hp)(h:Heap):Prop:=∀ a o,H a=some o->ObjOk P w H h a o
end
section
variable {P:Program}{w:World}{H H':Hp}{h h':Heap}{a:Addr}{o:HO}
theorem ObjOk.lt (x:ObjOk P w H h a o):a<h.objs.size:=by
 cases o with
 |lst xs=>obtain⟨_,_,_,_,e⟩:=x;exact Heap.lt_size e
 |tup xs=>obtain⟨_,_,_,p⟩:=x;exact p.lt
 |dK kvs=>obtain⟨_,_,_,_,o,_,_,e,_⟩:=x;exact Heap.lt_size e
 |dT kvs=>obtain⟨_,_,_,_,o,_,_,e,_⟩:=x;exact Heap.lt_size e
 |set S n=>obtain⟨o,_,_,_,e,_⟩:=x;exact Heap.lt_size e
 |ins C dx fs=>obtain⟨_,_,_,e,_⟩:=x;exact Heap.lt_size e
 |own y=>obtain⟨_,e⟩:=x;exact Heap.lt_size e
 |xd fs=>obtain⟨_,⟨_,_,_,e,_⟩,_⟩:=x;exact Heap.lt_size e
 |rng lo hi=>obtain⟨_,_,_,e⟩:=x;exact Heap.lt_size e
 |frz ob u=>obtain⟨e,_⟩:=x;exact Heap.lt_size e
 |tbl ps=>exact Heap.lt_size (show h.get? a=some _ from x)
 |met f y=>exact Heap.lt_size (show h.get? a=some _ from x)
 |ext φ=>obtain⟨_,⟨_,e⟩,_⟩:=x;exact Heap.lt_size e
theorem Paired.mapP {J β:Type}{F G:J->β->Prop}:∀{z:List J}{j:List β},Paired F z j->(∀ a b,F a b->G a b)->Paired G z j
 |_,_,.nil,_=>.nil
 |_,_,.cons r t,f=>.cons (f _ _ r) (Paired.mapP t f)
theorem ObjOk.stay (x:ObjOk P w H h a o)(k:∀ b u,(b=a\/H b=some (.own a))->h.get? b=some u->h'.get? b=some u)
  (J:∀ b,H b=some (.own a)->H' b=some (.own a)) (G:∀ b xs,H b=some (.tup xs)->H' b=some (.tup xs)):ObjOk P w H' h' a o:=by
 induction o with
 |lst xs=>obtain⟨z,its,n,r,e⟩:=x;exact⟨z,its,n,r,k _ _ (.inl rfl) e⟩
 |tup xs=>obtain⟨z,its,r,ob,e,c⟩:=x;exact⟨z,its,r,ob,k _ _ (.inl rfl) e,c⟩
 |dK kvs=>obtain⟨z,y,vs,r,ob,es,ep,e,c⟩:=x;exact⟨z,y,vs,r,ob,es,ep,k _ _ (.inl rfl) e,c⟩
 |dT kvs=>
  obtain⟨z,y,xs,r,ob,es,ep,e,c⟩:=x
  exact⟨z,y,xs,Paired.mapP r fun p q z=>⟨z.1,G _ _ z.2.1,z.2.2⟩,ob,es,ep,k _ _ (.inl rfl) e,c⟩
 |set S n=>obtain⟨ob,es,ep,t,e,c⟩:=x;exact⟨ob,es,ep,t,k _ _ (.inl rfl) e,c⟩
 |ins C dx fs=>
  obtain⟨d,z,ne,e,mA,⟨od,es,ep,L,c⟩,r⟩:=x
  exact⟨J _ d,z,ne,k _ _ (.inl rfl) e,mA,⟨od,es,ep,k _ _ (.inr d) L,c⟩,r⟩
 |own y=>obtain⟨ob,e⟩:=x;exact⟨ob,k _ _ (.inl rfl) e⟩
 |xd fs=>obtain⟨mA,⟨od,es,ep,e,c⟩,r⟩:=x;exact⟨mA,⟨od,es,ep,k _ _ (.inl rfl) e,c⟩,r⟩
 |rng lo hi=>obtain⟨t,u,v,e⟩:=x;exact⟨t,u,v,k _ _ (.inl rfl) e⟩
 |frz ob u j=>obtain⟨e,q⟩:=x;exact⟨k _ _ (.inl rfl) e,j q⟩
 |tbl ps=>
  have e:h.get? a=some { cls:=.none,data:=.fields ps }:=x
  show h'.get? a=some { cls:=.none,data:=.fields ps }
  exact k a _ (.inl rfl) e
 |met f y=>
  have e:h.get? a=some (W.methodObj (.ref f) (.ref y)):=x
  show h'.get? a=some (W.methodObj (.ref f) (.ref y))
  exact k a _ (.inl rfl) e
 |ext φ=>obtain⟨p,⟨o,e⟩,st⟩:=x;exact⟨st _ _ p fun o q=>k _ _ (.inl rfl) q,⟨o,k _ _ (.inl rfl) e⟩,st⟩
theorem HOk.lt (x:HOk P w H h)(e:H a=some o):a<h.objs.size:=(x a o e).lt
theorem HOk.fresh (x:HOk P w H h)(e:h.objs.size<=a):H a=none:=by
 cases q:H a with
 |none=>rfl
 |some u=>exact absurd (Nat.lt_of_lt_of_le (x.lt q) e) (Nat.lt_irrefl _)
theorem HOk.kept (x:HOk P w H h)(k:∀ b u,h.get? b=some u->h'.get? b=some u):HOk P w H h':=fun a o e=>
 (x a o e).stay (fun b u _ q=>k b u q) (fun _ q=>q) fun _ _ q=>q
theorem HOk.laid (x:HOk P w H h)(k:∀ b u,h.get? b=some u->h'.get? b=some u)(hp:h.objs.size<=a)(new:ObjOk P w (upd H a o) h' a o):HOk P w (upd H a o) h':=fun b u e=>by
 have hn:=x.fresh hp
 by_cases j:b=a
 .subst j;rw[upd_same]at e;cases e;exact new
 .rw[upd_ne j]at e
  exact(x b u e).stay (fun c v _ q=>k c v q) (fun c q=>by rw[upd_ne (ne_of_none q hn)];exact q) fun c xs q=>by rw[upd_ne (ne_of_none q hn)];exact q
end
noncomputable def Rd (H:Hp)(a:Addr)(u:HO):Prop:=H a=some u\/∃ o,H a=some (.frz o u)
theorem Rd.ok {P:Program}{w:World}{H:Hp}{h:Heap}{a:Addr}{u:HO}(r:Rd H a u)(x:HOk P w H h):ObjOk P w H h a u:=by
 rcases r with r|⟨o,r⟩
 .exact x a u r
 .obtain⟨_,q⟩:=x a _ r
  exact q
noncomputable def Mut:Option HO->Prop
 |some (.lst _)=>True
 |some (.dK _)=>True
 |some (.dT _)=>True
 |some (.set _ _)=>True
 |some (.ins _ _ _)=>True
 |some (.ext _)=>True
 |_=>False
section
variable {P:Program}{w:World}{H:Hp}{h h':Heap}{x e:Addr}{o':HO}
theorem HOk.write (ok:HOk P w H h)(L:Mut (H x))(Y:e=x\/H e=some (.own x))(k:∀ b u,b≠e->h.get? b=some u->h'.get? b=some u)(U:∃ u,h'.get? e=some u)
  (new:ObjOk P w (upd H x o') h' x o'):HOk P w (upd H x o') h':=fun b u q=>by
 have G:∀ c y,H c=some (.own y)->c≠x:=fun c y r z=>by subst z;rw[r]at L;exact L
 have J:∀ c xs,H c=some (.tup xs)->c≠x:=fun c xs r z=>by subst z;rw[r]at L;exact L
 by_cases O:b=x
 .subst O;rw[upd_same]at q;cases q;exact new
 .rw[upd_ne O]at q
  by_cases j:b=e
  .have q':H b=some (.own x):=by
    rcases Y with z|z
    .exact absurd (j.trans z) O
    .rw[j];exact z
   rw[q]at q';cases q'
   obtain⟨v,Z⟩:=U
   exact⟨v,by rw[j];exact Z⟩
  .refine(ok b u q).stay (fun c v N r=>k c v ?_ r) (fun c r=>by rw[upd_ne (G c b r)];exact r) fun c xs r=>by rw[upd_ne (J c xs r)];exact r
   rcases N with rfl|N
   .exact j
   .rintro rfl
    rcases Y with z|z
    .exact G c b N z
    .rw[N]at z;cases z;exact O rfl
end
structure Un (fs ex:List Addr)(H H':Hp)(h h':Heap):Prop where
 keep:∀ b o,h.get? b=some o->H b=none->b∉fs->b∉ex->h'.get? b=some o
 slot:∀ b o,h.get? b=some o->H b=none->b∈fs->b∉ex->∃ sl,h'.get? b=some { o with slots:=sl }
 free:∀ b o,h.get? b=some o->H b=none->b∉ex->H' b=none
 there:∀ b o,h.get? b=some o->b∉ex->∃ o',h'.get? b=some o'
 tups:∀ b xs,H b=some (.tup xs)->H' b=some (.tup xs)
 frzs:∀ b o u,H b=some (.frz o u)->H' b=some (.frz o u)
 tbls:∀ b ps,H b=some (.tbl ps)->∃ more,H' b=some (.tbl (ps++more))
section
variable {fs fs' ex ex':List Addr}{H H1 H2:Hp}{h h1 h2 h':Heap}{a x e:Addr}{o:HO}
theorem Un.any (u:Un fs ex H H1 h h1){b:Addr}{ob:Obj}(q:h.get? b=some ob)(n:H b=none)(j:b∉ex):∃ sl,h1.get? b=some { ob with slots:=sl }:=by
 by_cases z:b∈fs
 .exact u.slot b ob q n z j
 .exact⟨ob.slots,u.keep b ob q n z j⟩
theorem Un.kept (k:∀ b u,h.get? b=some u->h'.get? b=some u):Un fs ex H H h h':=
 ⟨fun b ob q _ _ _=>k b ob q,fun b ob q _ _ _=>⟨ob.slots,k b ob q⟩,fun _ _ _ n _=>n,fun b ob q _=>⟨ob,k b ob q⟩,fun _ _ q=>q,fun _ _ _ q=>q,fun _ ps q=>⟨#[],by rw[q];simp⟩⟩
theorem Un.refl:Un fs ex H H h h:=Un.kept fun _ _ q=>q
theorem Un.laid (k:∀ b u,h.get? b=some u->h'.get? b=some u)(hp:h.objs.size<=a)(hn:H a=none):Un fs ex H (upd H a o) h h' where
 keep:=fun b u q _ _ _=>k b u q
 slot:=fun b u q _ _ _=>⟨u.slots,k b u q⟩
 free:=fun b u q n _=>by rw[upd_ne (Nat.ne_of_lt (Nat.lt_of_lt_of_le (Heap.lt_size q) hp))];exact n
 there:=fun b u q _=>⟨u,k b u q⟩
 tups:=fun b xs q=>by rw[upd_ne (ne_of_none q hn)];exact q
 frzs:=fun b u xs q=>by rw[upd_ne (ne_of_none q hn)];exact q
 tbls:=fun b ps q=>⟨#[],by rw[upd_ne (ne_of_none q hn),q];simp⟩
theorem Un.write (G:Mut (H x))(O:e=x\/H e=some (.own x))(k:∀ b u,b≠e->h.get? b=some u->h'.get? b=some u)(J:∃ u,h'.get? e=some u):Un fs ex H (upd H x o) h h':=by
 have L:∀ b,H b=none->b≠x:=fun b n z=>by subst z;rw[n]at G;exact G
 have N:∀ b,H b=none->b≠e:=fun b n z=>by
  subst z
  rcases O with r|r
  .exact L b n r
  .rw[n]at r;cases r
 have hm:∀ b u,H b=some u->¬ Mut (some u)->b≠x:=fun b u q nm z=>by subst z;rw[q]at G;exact nm G
 refine⟨fun b u q n _ _=>k b u (N b n) q,fun b u q n _ _=>⟨u.slots,k b u (N b n) q⟩,fun b u q n _=>by rw[upd_ne (L b n)];exact n,fun b u q _=>?_,
  fun b xs q=>by rw[upd_ne (hm b _ q fun z=>z)];exact q,fun b u xs q=>by rw[upd_ne (hm b _ q fun z=>z)];exact q,fun b ps q=>⟨#[],by rw[upd_ne (hm b _ q fun z=>z),q];simp⟩⟩
 by_cases j:b=e
 .subst j;exact J
 .exact⟨u,k b u j q⟩
end
noncomputable def trk (h:Heap)(H:Hp):List Addr:=(List.range h.objs.size).filter fun a=>(H a).isSome
noncomputable def hidT (h:Heap)(H:Hp):Heap:=W.hideAll h (trk h H)
theorem hidT_size (h:Heap)(H:Hp):(hidT h H).objs.size=h.objs.size:=W.hideAll_size _ _
theorem hidT_get {h:Heap}{H:Hp}{b:Addr}{o:Obj}(e:h.get? b=some o)(n:H b=none):(hidT h H).get? b=some o:=
 W.hideAll_get _ e fun hm=>by
  have q:(H b).isSome=true:=(List.mem_filter.mp hm).2
  rw[n]at q;simp at q
theorem of_hidT {h:Heap}{H:Hp}{b:Addr}{o:Obj}(e:(hidT h H).get? b=some o):h.get? b=some o/\H b=none:=by
 have j:h.get? b=some o:=W.of_hideAll (trk h H) e
 refine⟨j,?_⟩
 cases q:H b with
 |none=>rfl
 |some x=>
  have hm:b∈trk h H:=List.mem_filter.mpr ⟨List.mem_range.mpr (Heap.lt_size j),by simp[q]⟩
  have z:(hidT h H).get? b=none:=W.hideAll_none (trk h H) hm
  rw[z]at e;cases e
noncomputable def allNews (g h:Heap)(L:Addr):List (Addr×Obj):=(List.range h.objs.size).filterMap fun a=>if a=L\/(g.get? a).isSome=true then none else (h.get? a).map fun o=>(a,o)
noncomputable def rest (g h:Heap)(L d:Addr):List (Addr×Obj):=(allNews g h L).filter fun p=>decide (p.1≠d)
end
section
structure Mod (K:W.Frag)(mg:Str->Option Value)(base:Heap):Prop where
 kin:K.In base
 glob:base.Ns mainGlobals mg
 blt:∃ mb,base.Ns builtinsNs mb/\∀ x:Str,x≠"__name__"->mb x=bootBuiltins x
 nolimit:base.NoLimit
structure Cx where
 prog:Program
 w:World
 K:W.Frag
 mg:Str->Option Value
 base:Heap
 A:Around
 N:List Str
 s₀:Shared
 H₀:Hp
 env:Env
 outer:List Env
 stack:List Env
 ex:List Addr
 fn:Str->Bool
 calm:Bool
 pn:List (Addr×Obj)
 xe:Value->Shared->Prop
noncomputable def frs (l:List Env):List Addr:=l.filterMap (·.frame)
noncomputable abbrev Cx.fs (X:Cx):List Addr:=frs X.outer
noncomputable def Vis (sc:Scope)(x:Str):Prop:=sc.names.lookup x=some .local\/sc.names.lookup x=some .cell\/sc.names.lookup x=some .free
noncomputable def Loc (sc:Scope)(x:Str):Prop:=sc.names.lookup x=some .local\/sc.names.lookup x=some .cell
noncomputable def Look (env:Env)(h:Heap)(m:Str->Option Value)(x:Str)(u:Value):Prop:=
 (env.kindOf x=some .local/\m x=some u)\/((env.kindOf x=some .cell\/env.kindOf x=some .free)/\∃ c,env.cells.lookup x=some c/\h.IsCell c (some u))
structure Cx.Ok (X:Cx):Prop where
 mod:Mod X.K X.mg X.base
 kind:X.env.scope.kind= .function
 glob:X.env.globals=mainGlobals
 blt:X.env.builtins=builtinsNs
 above:X.s₀.heap.objs.size<=X.env.locals
 inj:∀ x y c,X.env.cells.lookup x=some c->X.env.cells.lookup y=some c->x=y
 has:∀ x,(X.env.kindOf x=some .cell\/X.env.kindOf x=some .free)->∃ c,X.env.cells.lookup x=some c
 cab:∀ x c,X.fn x=true->X.env.cells.lookup x=some c->X.s₀.heap.objs.size<=c
 hd:X.calm=true->X.A.handled=none
 frames:X.A.frames=some X.stack
 stk:X.stack=X.outer\/(X.stack=X.env::X.outer/\X.env.frame=some X.env.locals)
 exf:∀ b∈X.ex,b≠X.env.locals/\∀ x c,X.env.cells.lookup x=some c->c≠b
 bs:∀ b o,X.base.get? b=some o->X.s₀.heap.get? b=some o/\X.H₀ b=none
 bsz:X.base.objs.size<=X.s₀.heap.objs.size
 noex:∀ b o,X.base.get? b=some o->b∉X.ex
 exfs:∀ b∈X.ex,b∉X.fs
 funs:X.s₀.heap.FunFrames X.base X.outer
 frf:∀ b∈X.fs,X.H₀ b=none
structure Inv (X:Cx)(pins:List (Addr×Obj))(σ:List (Option V))(H:Hp)(s:Shared):Prop where
 ok:X.Ok
 os:s.os=X.s₀.os
 bare:AllBare s.gens
 base:Un X.fs X.ex X.H₀ H X.s₀.heap s.heap
 loc:∃ m,s.heap.Ns X.env.locals m/\∀(i:Nat)(x:Str)(v:V),X.N[i]? =some x->σ[i]? =some (some v)->Vis X.env.scope x->∃ u,RelV v u/\Look X.env s.heap m x u
 cell:∀ x c,X.env.cells.lookup x=some c->∃ v,s.heap.IsCell c v
 free:H X.env.locals=none
 freeC:∀ x c,X.env.cells.lookup x=some c->H c=none
 pin:∀ p∈X.pn++pins,s.heap.get? p.1=some p.2/\H p.1=none/\p.1≠X.env.locals/\p.1∉X.fs/\∀ v,p.2.data≠ .cell v
 hok:HOk X.prog X.w H s.heap
 len:σ.length=X.N.length
section
variable {X:Cx}{pins:List (Addr×Obj)}{σ:List (Option V)}{H H':Hp}{s:Shared}{h':Heap}
theorem Cx.Ok.nofr (ok:X.Ok){b:Addr}{o:Obj}(e:X.base.get? b=some o):b∉X.fs:=fun j=>by
 have:=(ok.funs.mem j).1
 rw[e]at this;cases this
theorem Inv.bs (I:Inv X pins σ H s):∀ b o,X.base.get? b=some o->s.heap.get? b=some o/\H b=none:=fun b o e=>
 ⟨I.base.keep b o (I.ok.bs b o e).1 (I.ok.bs b o e).2 (I.ok.nofr e) (I.ok.noex b o e),I.base.free b o (I.ok.bs b o e).1 (I.ok.bs b o e).2 (I.ok.noex b o e)⟩
theorem Inv.bk (I:Inv X pins σ H s):∀ b o,X.base.get? b=some o->s.heap.get? b=some o:=fun b o e=>(I.bs b o e).1
theorem Inv.mod (I:Inv X pins σ H s):Mod X.K X.mg X.base:=I.ok.mod
theorem Inv.kIn (I:Inv X pins σ H s):X.K.In s.heap:=I.ok.mod.kin.keeps I.bk
theorem Inv.lt (I:Inv X pins σ H s):X.env.locals<s.heap.objs.size:=let ⟨_,hn,_⟩:=I.loc;hn.lt
theorem Inv.sz (I:Inv X pins σ H s):X.s₀.heap.objs.size<=s.heap.objs.size:=Nat.le_trans I.ok.above (Nat.le_of_lt I.lt)
theorem Inv.nofs (I:Inv X pins σ H s){a:Addr}(h:s.heap.objs.size<=a):a∉X.fs:=fun z=>by
 obtain⟨_,o,j,_⟩:=I.ok.funs.mem z
 exact absurd (Nat.lt_of_lt_of_le (Heap.lt_size j) (Nat.le_trans I.sz h)) (Nat.lt_irrefl _)
theorem Inv.cne (I:Inv X pins σ H s):∀ x c,X.env.cells.lookup x=some c->c≠X.env.locals:=fun x c e z=>by
 obtain⟨v,o,J,hd⟩:=I.cell x c e
 obtain⟨m,⟨o',es,ep,j,G,_⟩,_⟩:=I.loc
 rw[z,j]at J;cases J;rw[G]at hd;cases hd
theorem Inv.funs (I:Inv X pins σ H s):s.heap.FunFrames X.base X.outer:=by
 have all:∀(l:List Env),(∀ b∈frs l,b∈X.fs)->X.s₀.heap.FunFrames X.base l->s.heap.FunFrames X.base l:=by
  intro l
  induction l with
  |nil=>intro _ _;trivial
  |cons env r O=>
   intro N Z
   obtain⟨hk,⟨L,o,j,hn,Y,hd⟩,U⟩:=Z
   have J:L∈X.fs:=N L (by unfold frs;rw[filterMap_cons,j];exact mem_cons_self)
   obtain⟨sl,e⟩:=I.base.slot L o Y (I.ok.frf L J) J fun z=>I.ok.exfs L z J
   exact⟨hk,⟨L,_,j,hn,e,hd⟩,O (fun b G=>N b (by unfold frs;rw[filterMap_cons,j];exact mem_cons_of_mem _ G)) U⟩
 exact all X.outer (fun _ G=>G) I.ok.funs
theorem Inv.stack (I:Inv X pins σ H s):s.heap.FunFrames X.base X.stack:=by
 rcases I.ok.stk with e|⟨e,j⟩
 .rw[e];exact I.funs
 .rw[e]
  obtain⟨m,hn,_⟩:=I.loc
  refine .cons (by rw[I.ok.kind];decide) j hn ?_ I.funs
  exact Heap.get?_none_of_le (Nat.le_trans I.ok.bsz I.ok.above)
theorem Inv.stkSub (I:Inv X pins σ H s):∀ b∈frs X.stack,b∈X.env.locals::X.fs:=fun b j=>by
 rcases I.ok.stk with e|⟨e,z⟩
 .rw[e]at j;exact mem_cons_of_mem _ j
 .rw[e]at j
  unfold frs at j
  rw[filterMap_cons,z]at j
  exact j
theorem Inv.stkFree (I:Inv X pins σ H s):∀ b∈frs X.stack,H b=none:=fun b j=>by
 rcases List.mem_cons.mp (I.stkSub b j)with e|j
 .rw[e];exact I.free
 .obtain⟨_,o,ho,_⟩:=I.ok.funs.mem j
  exact I.base.free b o ho (I.ok.frf b j) fun z=>I.ok.exfs b z j
theorem Inv.step {g':Array GenState}{t':Nat}{d':Drawn}{ch:List Addr}(I:Inv X pins σ H s)
  (J:∀ b∈ch,(b∈X.ex\/X.s₀.heap.objs.size<=b)/\b≠X.env.locals/\(∀ x c,X.env.cells.lookup x=some c->c≠b)/\∀ p∈X.pn++pins,p.1≠b)
  (keep:∀ b o,b≠X.env.locals->b∉X.fs->b∉ch->s.heap.get? b=some o->H b=none->h'.get? b=some o)
  (slot:∀ b o,b≠X.env.locals->b∈X.fs->b∉ch->s.heap.get? b=some o->H b=none->∃ sl,h'.get? b=some { o with slots:=sl }) (free:∀ b o,b∉ch->s.heap.get? b=some o->H b=none->H' b=none)
  (there:∀ b o,b∉ch->s.heap.get? b=some o->∃ o',h'.get? b=some o')
  (tups:∀ b xs,H b=some (.tup xs)->H' b=some (.tup xs)) (frzs:∀ b o u,H b=some (.frz o u)->H' b=some (.frz o u)) (tbls:∀ b ps,H b=some (.tbl ps)->∃ more,H' b=some (.tbl (ps++more)))
  (ns:∀ m,s.heap.Ns X.env.locals m->h'.Ns X.env.locals m) (hok:HOk X.prog X.w H' h') (hg:AllBare g'):
  Inv X pins σ H' { s with heap:=h',gens:=g',drawn:=d',toks:=t' }:=by
 have Z:∀ b o,X.s₀.heap.get? b=some o->b≠X.env.locals:=fun b o e=>Nat.ne_of_lt (Nat.lt_of_lt_of_le (Heap.lt_size e) I.ok.above)
 have N:∀ b o,X.s₀.heap.get? b=some o->b∉X.ex->b∉ch:=fun b o e j U=>by
  rcases (J b U).1 with z|z
  .exact j z
  .exact absurd (Nat.lt_of_lt_of_le (Heap.lt_size e) z) (Nat.lt_irrefl _)
 have L:∀ x c,X.env.cells.lookup x=some c->∀ v,s.heap.IsCell c v->h'.IsCell c v:=fun x c e v a0=>by
  obtain⟨o,Y,hd⟩:=a0
  have G:c∉ch:=fun z=>(J c z).2.2.1 x c e rfl
  by_cases hc:c∈X.fs
  .obtain⟨sl,q⟩:=slot c o (I.cne x c e) hc G Y (I.freeC x c e)
   exact⟨_,q,hd⟩
  .exact⟨o,keep c o (I.cne x c e) hc G Y (I.freeC x c e),hd⟩
 refine⟨I.ok,I.os,hg,⟨fun b o e n U j=>?_,fun b o e n U j=>?_,fun b o e n j=>?_,fun b o e j=>?_,fun b xs e=>tups b xs (I.base.tups b xs e),fun b o xs e=>frzs b o xs (I.base.frzs b o xs e),fun b ps e=>?_⟩,?_,fun x c e=>?_,?_,fun x c e=>?_,fun p hp=>?_,hok,I.len⟩
 .exact keep b o (Z b o e) U (N b o e j) (I.base.keep b o e n U j) (I.base.free b o e n j)
 .obtain⟨sl,O⟩:=I.base.slot b o e n U j
  obtain⟨a1,e2⟩:=slot b _ (Z b o e) U (N b o e j) O (I.base.free b o e n j)
  exact⟨a1,e2⟩
 .obtain⟨o',O⟩:=I.base.there b o e j
  exact free b o' (N b o e j) O (I.base.free b o e n j)
 .obtain⟨o',O⟩:=I.base.there b o e j
  exact there b o' (N b o e j) O
 .obtain⟨m1,O⟩:=I.base.tbls b ps e
  obtain⟨m2,e2⟩:=tbls b _ O
  exact⟨m1++m2,by rw[e2,Array.append_assoc]⟩
 .obtain⟨m,hn,hl⟩:=I.loc
  refine⟨m,ns m hn,fun i x v O e2 e3=>?_⟩
  obtain⟨u,r,l⟩:=hl i x v O e2 e3
  refine⟨u,r,?_⟩
  rcases l with l|⟨k,c,e,z⟩
  .exact .inl l
  .exact .inr ⟨k,c,e,L x c e _ z⟩
 .obtain⟨v,z⟩:=I.cell x c e
  exact⟨v,L x c e v z⟩
 .obtain⟨m,⟨o,_,_,Y,_⟩,_⟩:=I.loc
  exact free _ o (fun z=>(J _ z).2.1 rfl) Y I.free
 .obtain⟨v,o,Y,hd⟩:=I.cell x c e
  exact free c o (fun z=>(J c z).2.2.1 x c e rfl) Y (I.freeC x c e)
 .obtain⟨e,n,ne,nf,d⟩:=I.pin p hp
  have G:p.1∉ch:=fun z=>(J p.1 z).2.2.2 p hp rfl
  exact⟨keep p.1 p.2 ne nf G e n,free p.1 p.2 G e n,ne,nf,d⟩
theorem Inv.un {t':Nat}(I:Inv X pins σ H s)(u:Un X.fs [] H H' s.heap h')(hok:HOk X.prog X.w H' h'):Inv X pins σ H' { s with heap:=h',toks:=t' }:=by
 obtain⟨m,⟨o,es,ep,N,r⟩,_⟩:=id I.loc
 obtain⟨sl,U⟩:=u.any N I.free (by simp)
 exact I.step (g':=s.gens) (d':=s.drawn) (ch:=[]) (fun _ z=>nomatch z) (fun b o _ G _ e n=>u.keep b o e n G (by simp)) (fun b o _ G _ e n=>u.slot b o e n G (by simp)) (fun b o _ e n=>u.free b o e n (by simp)) (fun b o _ e=>u.there b o e (by simp)) u.tups u.frzs u.tbls (fun Y hm=>by
  obtain⟨o',J,L,j,O⟩:=hm
  rw[N]at j;cases j
  exact⟨_,J,L,U,O⟩) hok I.bare
theorem Inv.call {g':Array GenState}{t':Nat}{d':Drawn}{ch:List Addr}(I:Inv X pins σ H s)(u:Un (frs X.stack) ch H H' s.heap h')(hok:HOk X.prog X.w H' h')(Z:AllBare g')
  (J:∀ b∈ch,(b∈X.ex\/X.s₀.heap.objs.size<=b)/\b≠X.env.locals/\(∀ x c,X.env.cells.lookup x=some c->c≠b)/\∀ p∈X.pn++pins,p.1≠b):
  Inv X pins σ H' { s with heap:=h',gens:=g',drawn:=d',toks:=t' }:=by
 obtain⟨m,⟨o,es,ep,U,r⟩,_⟩:=id I.loc
 obtain⟨sl,L⟩:=u.any U I.free fun z=>(J _ z).2.1 rfl
 exact I.step (ch:=ch) J (fun b o L hb j e n=>u.keep b o e n (fun z=>(List.mem_cons.mp (I.stkSub b z)).elim L hb) j) (fun b o _ _ j e n=>u.any e n j) (fun b o j e n=>u.free b o e n j) (fun b o j e=>u.there b o e j) u.tups u.frzs u.tbls (fun m' hm=>by
  obtain⟨o',N,O,G,Y⟩:=hm
  rw[U]at G;cases G
  exact⟨_,N,O,L,Y⟩) hok Z
theorem Inv.turned {t':Nat}{it:Addr}(I:Inv X pins σ H s)(k:∀ b o,b≠it->s.heap.get? b=some o->h'.get? b=some o)(hn:H it=none)(J:it≠X.env.locals)
  (h1:it∈X.ex\/X.s₀.heap.objs.size<=it) (h2:∀ x c,X.env.cells.lookup x=some c->c≠it) (N:∀ p∈X.pn++pins,p.1≠it):Inv X pins σ H { s with heap:=h',toks:=t' }:=by
 have G:∀ b u,H b=some u->b≠it:=fun b u e z=>by rw[z,hn]at e;cases e
 refine I.step (g':=s.gens) (d':=s.drawn) (ch:=[it]) (fun b L=>?_) (fun b o _ _ j e _=>k b o (fun z=>j (by simp[z])) e) (fun b o _ _ j e _=>⟨o.slots,k b o (fun z=>j (by simp[z])) e⟩) (fun _ _ _ _ n=>n)
  (fun b o j e=>⟨o,k b o (fun z=>j (by simp[z])) e⟩) (fun _ _ e=>e) (fun _ _ _ e=>e) (fun b ps e=>⟨#[],by rw[e];simp⟩) (fun m hm=>?_) (fun b u e=>?_) I.bare
 .have e:b=it:=by simpa using L
  subst e
  exact⟨h1,J,h2,N⟩
 .obtain⟨o,es,ep,ho,r⟩:=hm
  exact⟨o,es,ep,k _ o (Ne.symm J) ho,r⟩
 .refine(I.hok b u e).stay (fun c v j q=>k c v ?_ q) (fun _ q=>q) fun _ _ q=>q
  rcases j with z|z
  .rw[z];exact G b u e
  .exact G c _ z
theorem Inv.tok (I:Inv X pins σ H s)(t:Nat):Inv X pins σ H { s with toks:=t }:=I.un (h':=s.heap) (t':=t) Un.refl I.hok
theorem Inv.kept {t':Nat}(I:Inv X pins σ H s)(k:∀ b u,s.heap.get? b=some u->h'.get? b=some u):Inv X pins σ H { s with heap:=h',toks:=t' }:=I.un (Un.kept k) (I.hok.kept k)
theorem Inv.laid {a:Addr}{o:HO}{t':Nat}(I:Inv X pins σ H s)(k:∀ b u,s.heap.get? b=some u->h'.get? b=some u)(hp:s.heap.objs.size<=a)(new:ObjOk X.prog X.w (upd H a o) h' a o):
  Inv X pins σ (upd H a o) { s with heap:=h',toks:=t' }:=I.un (Un.laid k hp (I.hok.fresh hp)) (I.hok.laid k hp new)
theorem Inv.write {x e:Addr}{o:HO}{t':Nat}(I:Inv X pins σ H s)(z:Mut (H x))(G:e=x\/H e=some (.own x))(k:∀ b u,b≠e->s.heap.get? b=some u->h'.get? b=some u)(j:∃ u,h'.get? e=some u)
  (new:ObjOk X.prog X.w (upd H x o) h' x o):Inv X pins σ (upd H x o) { s with heap:=h',toks:=t' }:=I.un (Un.write z G k j) (I.hok.write z G k j new)
theorem Inv.pins_of {pins':List (Addr×Obj)}(I:Inv X pins σ H s)(h:∀ p∈pins',s.heap.get? p.1=some p.2/\H p.1=none/\p.1≠X.env.locals/\p.1∉X.fs/\∀ v,p.2.data≠ .cell v):Inv X pins' σ H s:=
 ⟨I.ok,I.os,I.bare,I.base,I.loc,I.cell,I.free,I.freeC,fun p hp=>(List.mem_append.mp hp).elim (fun z=>I.pin p (mem_append_left _ z)) (h p),I.hok,I.len⟩
theorem nodup_ix {N:List Str}(z:N.Nodup){i j:Nat}{x:Str}(a:N[i]? =some x)(b:N[j]? =some x):i=j:=by
 obtain⟨h1,J⟩:=List.getElem?_eq_some_iff.mp a
 obtain⟨h2,G⟩:=List.getElem?_eq_some_iff.mp b
 exact(getElem_inj z).mp (J.trans G.symm)
theorem store_ok2 {M:Model}{A:Around}{E:Value->Shared->Prop}{i:Nat}{x:Str}{v:V}{u:Value}{Q:Unit->Shared->Prop}(I:Inv X pins σ H s)(hN:X.N.Nodup)(hi:X.N[i]? =some x)(U:Loc X.env.scope x)(r:RelV v u)
  (h:∀ s',Inv X pins (σ.set i (some v)) H s'->(∃ a,Heap.SameBut a s.heap s'.heap/\(a=X.env.locals\/X.env.cells.lookup x=some a))->Q () s') (hf:X.fn x=true\/X.env.scope.names.lookup x=some .local:=by first|exact .inl rfl|exact .inr rfl|assumption):wpAny M A (storeName X.env x u) Q E s:=by
 obtain⟨m,hn,hl⟩:=id I.loc
 have a3:(X.env.scope.kind== .class || (X.env.scope.kind== .module&&X.env.locals != X.env.globals))=false:=by rw[I.ok.kind];rfl
 have a0:i<σ.length:=by rw[I.len];exact(List.getElem?_eq_some_iff.mp hi).1
 have cne:=I.cne
 have J:∀{a:Addr}{h':Heap},(∃ o,s.heap.get? a=some o/\H a=none)->Heap.SameBut a s.heap h'->HOk X.prog X.w H h':=fun{a h'} ha G b ob e=>by
  obtain⟨_,_,Y⟩:=ha
  refine(I.hok b ob e).stay (fun c w' O q=>(G.2 c ?_).trans q) (fun _ q=>q) fun _ _ q=>q
  rintro rfl
  rcases O with rfl|O
  .rw[Y]at e;cases e
  .rw[Y]at O;cases O
 rcases U with hk|hk
 .refine wpAny_storeName_local hk hn (fun h' a6 G=>?_) a3
  obtain⟨oL,_,_,a5,_⟩:=id hn
  refine h _ ⟨I.ok,I.os,I.bare,⟨fun b o e n hb U=>?_,fun b o e n hb U=>?_,I.base.free,fun b o e U=>?_,I.base.tups,I.base.frzs,I.base.tbls⟩,⟨_,a6,fun j y v' L Z e3=>?_⟩,fun y c e=>?_,I.free,I.freeC,fun p hp=>?_,J ⟨oL,a5,I.free⟩ G,by simpa using I.len⟩ ⟨_,G,.inl rfl⟩
  .exact(G.2 b (Nat.ne_of_lt (Nat.lt_of_lt_of_le (Heap.lt_size e) I.ok.above))).trans (I.base.keep b o e n hb U)
  .obtain⟨sl,L⟩:=I.base.slot b o e n hb U
   exact⟨sl,(G.2 b (Nat.ne_of_lt (Nat.lt_of_lt_of_le (Heap.lt_size e) I.ok.above))).trans L⟩
  .obtain⟨o',L⟩:=I.base.there b o e U
   exact⟨o',(G.2 b (Nat.ne_of_lt (Nat.lt_of_lt_of_le (Heap.lt_size e) I.ok.above))).trans L⟩
  .by_cases hj:j=i
   .subst hj
    rw[hi]at L;cases L
    rw[getElem?_set_self a0]at Z
    cases Z
    exact⟨u,r,.inl ⟨hk,by simp⟩⟩
   .rw[getElem?_set_ne (Ne.symm hj)]at Z
    obtain⟨u',r',q⟩:=hl j y v' L Z e3
    refine⟨u',r',?_⟩
    rcases q with⟨k,e⟩|⟨k,c,e,z⟩
    .refine .inl ⟨k,?_⟩
     have:y≠x:=fun e=>hj (nodup_ix hN L (e ▸ hi))
     simp[this,e]
    .exact .inr ⟨k,c,e,z.sameBut G (cne y c e)⟩
  .obtain⟨w',z⟩:=I.cell y c e
   exact⟨w',z.sameBut G (cne y c e)⟩
  .obtain⟨e,n,ne,nf,d⟩:=I.pin p hp
   exact⟨(G.2 p.1 ne).trans e,n,ne,nf,d⟩
 .have hfn:X.fn x=true:=by
   rcases hf with z|z
   .exact z
   .rw[z]at hk;cases hk
  obtain⟨c,O⟩:=I.ok.has x (.inl hk)
  obtain⟨w',z⟩:=I.cell x c O
  refine wpAny_storeName_cell I.ok.kind hk O z (fun h' a4 G=>?_)
  obtain⟨oc,a2,a1⟩:=id z
  refine h { s with heap:=h' } ⟨I.ok,I.os,I.bare,⟨fun b o e n hb U=>?_,fun b o e n hb U=>?_,I.base.free,fun b o e U=>?_,I.base.tups,I.base.frzs,I.base.tbls⟩,⟨m,hn.sameBut G (Ne.symm (cne x c O)),fun j y v' L Z e3=>?_⟩,fun y c' e=>?_,I.free,I.freeC,fun p hp=>?_,J ⟨oc,a2,I.freeC x c O⟩ G,by simpa using I.len⟩ ⟨c,G,.inr O⟩
  .exact(G.2 b (Nat.ne_of_lt (Nat.lt_of_lt_of_le (Heap.lt_size e) (I.ok.cab x c hfn O)))).trans (I.base.keep b o e n hb U)
  .obtain⟨sl,L⟩:=I.base.slot b o e n hb U
   exact⟨sl,(G.2 b (Nat.ne_of_lt (Nat.lt_of_lt_of_le (Heap.lt_size e) (I.ok.cab x c hfn O)))).trans L⟩
  .obtain⟨o',L⟩:=I.base.there b o e U
   exact⟨o',(G.2 b (Nat.ne_of_lt (Nat.lt_of_lt_of_le (Heap.lt_size e) (I.ok.cab x c hfn O)))).trans L⟩
  .by_cases hj:j=i
   .subst hj
    rw[hi]at L;cases L
    rw[getElem?_set_self a0]at Z
    cases Z
    exact⟨u,r,.inr ⟨.inl hk,c,O,a4⟩⟩
   .rw[getElem?_set_ne (Ne.symm hj)]at Z
    obtain⟨u',r',q⟩:=hl j y v' L Z e3
    refine⟨u',r',?_⟩
    rcases q with q|⟨k,c',e,z'⟩
    .exact .inl q
    .refine .inr ⟨k,c',e,z'.sameBut G ?_⟩
     rintro rfl
     exact hj (nodup_ix hN L (I.ok.inj _ _ _ e O ▸ hi))
  .by_cases hcc:c'=c
   .subst hcc;exact⟨_,a4⟩
   .obtain⟨w2,z2⟩:=I.cell y c' e
    exact⟨w2,z2.sameBut G hcc⟩
  .obtain⟨e,n,ne,nf,d⟩:=I.pin p hp
   refine⟨(G.2 p.1 ?_).trans e,n,ne,nf,d⟩
   intro q
   rw[q,a2]at e
   have q':oc=p.2:=Option.some.inj e
   exact d w' (by rw[<-q'];exact a1)
theorem store_ok {M:Model}{A:Around}{E:Value->Shared->Prop}{i:Nat}{x:Str}{v:V}{u:Value}{Q:Unit->Shared->Prop}(I:Inv X pins σ H s)(G:X.N.Nodup)(hi:X.N[i]? =some x)(j:Loc X.env.scope x)(r:RelV v u)
  (h:∀ s',Inv X pins (σ.set i (some v)) H s'->Q () s') (z:X.fn x=true\/X.env.scope.names.lookup x=some .local:=by first|exact .inl rfl|exact .inr rfl|assumption):wpAny M A (storeName X.env x u) Q E s:=
 store_ok2 I G hi j r (fun s' J _=>h s' J) z
theorem Inv.call' {s':Shared}{ch:List Addr}(I:Inv X pins σ H s)(z:s'.os=s.os)(u:Un (frs X.stack) ch H H' s.heap s'.heap)(hok:HOk X.prog X.w H' s'.heap)(G:AllBare s'.gens)
  (j:∀ b∈ch,(b∈X.ex\/X.s₀.heap.objs.size<=b)/\b≠X.env.locals/\(∀ x c,X.env.cells.lookup x=some c->c≠b)/\∀ p∈X.pn++pins,p.1≠b):Inv X pins σ H' s':=by
 obtain⟨h',g',d',t',o'⟩:=s'
 have e:o'=s.os:=z
 subst e
 exact I.call (g':=g') (t':=t') (d':=d') u hok G j
end
noncomputable abbrev XK:=Value->Option Addr->Hp->Prop
noncomputable abbrev St:=List (Option V)
noncomputable abbrev VK:=V->Hp->Prop
noncomputable abbrev TE:=St->Hp->VK->Prop
noncomputable abbrev TT:=St->Hp->(Bool->Hp->Prop)->Prop
noncomputable abbrev TA:=St->Hp->(List V->Hp->Prop)->Prop
structure Ends where
 nx:St->Hp->Prop
 rt:VK
 bk:St->Hp->Prop:=fun _ _=>False
 ct:St->Hp->Prop:=fun _ _=>False
noncomputable abbrev TS:=Ends->St->Hp->Prop
noncomputable def EP (X:Cx)(pins:List (Addr×Obj))(σ:St)(Q:VK)(u:Value)(s':Shared):Prop:=∃ v H',Inv X pins σ H' s'/\RelV v u/\Q v H'
noncomputable def TP (X:Cx)(pins:List (Addr×Obj))(σ:St)(Q:Bool->Hp->Prop)(b:Bool)(s':Shared):Prop:=∃ H',Inv X pins σ H' s'/\Q b H'
noncomputable def AP (X:Cx)(pins:List (Addr×Obj))(σ:St)(Q:List V->Hp->Prop)(us:List Value)(s':Shared):Prop:=∃ vs H',Inv X pins σ H' s'/\Vals vs us/\Q vs H'
noncomputable def SP (X:Cx)(pins:List (Addr×Obj))(D:Ends)(f:Flow)(s':Shared):Prop:=
 match f with
 | .next=>∃ σ' H',Inv X pins σ' H' s'/\D.nx σ' H'
 | .brk=>∃ σ' H',Inv X pins σ' H' s'/\D.bk σ' H'
 | .cont=>∃ σ' H',Inv X pins σ' H' s'/\D.ct σ' H'
 | .ret u=>∃ v σ' H',Inv X pins σ' H' s'/\RelV v u/\D.rt v H'
noncomputable def PE (X:Cx)(e:Expr)(t:TE):Prop:=
 ∀(pins:List (Addr×Obj))(s:Shared)(σ:St)(H:Hp)(Q:VK),Inv X pins σ H s->t σ H Q->wpAny (model X.prog X.w) X.A (eval e X.env) (EP X pins σ Q) X.xe s
noncomputable def PT (X:Cx)(e:Expr)(t:TT):Prop:=
 ∀(pins:List (Addr×Obj))(s:Shared)(σ:St)(H:Hp)(Q:Bool->Hp->Prop),Inv X pins σ H s->t σ H Q->wpAny (model X.prog X.w) X.A (isTrue e X.env (eval e X.env)) (TP X pins σ Q) X.xe s
noncomputable def PW (X:Cx)(e:Expr)(t:TT):Prop:=
 ∀(whole:Sem Value)(pins:List (Addr×Obj))(s:Shared)(σ:St)(H:Hp)(Q:Bool->Hp->Prop),Inv X pins σ H s->t σ H Q->wpAny (model X.prog X.w) X.A (isTrue e X.env whole) (TP X pins σ Q) X.xe s
theorem PW.pt {X:Cx}{e:Expr}{t:TT}(h:PW X e t):PT X e t:=h _
noncomputable def PA (X:Cx)(es:List Expr)(t:TA):Prop:=
 ∀(pos:Pos)(pins:List (Addr×Obj))(s:Shared)(σ:St)(H:Hp)(Q:List V->Hp->Prop),Inv X pins σ H s->t σ H Q->wpAny (model X.prog X.w) X.A (spliced (backTo pos (starEach es X.env))) (AP X pins σ Q) X.xe s
noncomputable def PS (X:Cx)(st:Stmt)(t:TS):Prop:=
 ∀(pins:List (Addr×Obj))(s:Shared)(σ:St)(H:Hp)(D:Ends),Inv X pins σ H s->t D σ H->wpAny (model X.prog X.w) X.A (exec st X.env) (SP X pins D) X.xe s
noncomputable def PSs (X:Cx)(st:List Stmt)(t:TS):Prop:=
 ∀(pins:List (Addr×Obj))(s:Shared)(σ:St)(H:Hp)(D:Ends),Inv X pins σ H s->t D σ H->wpAny (model X.prog X.w) X.A (execs st X.env) (SP X pins D) X.xe s
theorem thn {j:Type}{t:Sem j}{Q z:j->Shared->Prop}{M:Model}{A:Around}{E:Value->Shared->Prop}{s:Shared}(h:wpAny M A t Q E s)(G:∀ a s,Q a s->z a s):wpAny M A t z E s:=wpAny_mono h G fun _ _ x=>x
end
section
section
variable {X:Cx}
noncomputable def tVar (i:Nat):TE:=fun σ H Q=>∃ v,σ[i]? =some (some v)/\Q v H
noncomputable def tC (v:V):TE:=fun _ H Q=>Q v H
theorem pe_var {i:Nat}{x:Str}{pos:Pos}(Y:X.N[i]? =some x)(O:Vis X.env.scope x)(hd:(x==("__debug__":Str))=false:=by decide)(J:(x==("__classdict__":Str))=false:=by decide):PE X (.Name x pos) (tVar i):=by
 intro pins s σ H Q I h
 obtain⟨v,e,h⟩:=h
 obtain⟨m,hn,U⟩:=I.loc
 obtain⟨u,r,l⟩:=U i x v Y e O
 have G:EP X pins σ Q u s:=⟨v,H,I,r,h⟩
 rcases l with⟨z,hm⟩|⟨z,c,L,j⟩
 .exact wpAny_Name (wpAny_loadName_local I.ok.kind z hn hm G) hd
 .rcases z with z|z
  .exact wpAny_Name (wpAny_loadName_cell I.ok.kind z L j G) hd
  .exact wpAny_Name (wpAny_loadName_free I.ok.kind z L j G J) hd
theorem pe_int {i j pos}:PE X (.Constant (.int i) j pos) (tC (.int i)):=fun _ _ _ H _ I h=>wpAny_Constant_int ⟨.int i,H,I.tok _,⟨_,rfl⟩,h⟩
theorem pe_bl {b j pos}:PE X (.Constant (.bool b) j pos) (tC (.bl b)):=fun _ _ _ H _ I h=>Constant_bool ⟨.bl b,H,I,rfl,h⟩
theorem pe_non {j pos}:PE X (.Constant .none j pos) (tC .non):=fun _ _ _ H _ I h=>Constant_none ⟨.non,H,I,rfl,h⟩
theorem pe_str {x j pos}:PE X (.Constant (.str x) j pos) (tC (.str x)):=fun _ _ _ H _ I h=>Calls.Constant_str ⟨.str x,H,I.tok _,⟨_,rfl⟩,h⟩
noncomputable def Gl (X:Cx)(x:Str):Prop:=X.env.kindOf x=some .globalImplicit
theorem ld_glob {E:Value->Shared->Prop}{pins:List (Addr×Obj)}{s:Shared}{σ:St}{H:Hp}{x:Str}{u:Value}{pos:Pos}{Q:Value->Shared->Prop}(I:Inv X pins σ H s)(j:Gl X x)(hm:X.mg x=some u)(h:Q u s)
  (hd:(x==("__debug__":Str))=false:=by decide):wpAny (model X.prog X.w) X.A (eval (.Name x pos) X.env) Q E s:=
 Calls.Name_function_global I.ok.kind j (Calls.loadGlobal_global (by rw[I.ok.glob];exact I.mod.glob.keeps I.bk) hm h) hd
theorem ld_blt {E:Value->Shared->Prop}{pins:List (Addr×Obj)}{s:Shared}{σ:St}{H:Hp}{x:Str}{u:Value}{pos:Pos}{Q:Value->Shared->Prop}(I:Inv X pins σ H s)(z:Gl X x)(hm:X.mg x=none)(j:bootBuiltins x=some u)(h:Q u s)
  (hn:x≠"__name__":=by decide) (hd:(x==("__debug__":Str))=false:=by decide):wpAny (model X.prog X.w) X.A (eval (.Name x pos) X.env) Q E s:=by
 obtain⟨mb,h1,h2⟩:=I.mod.blt
 exact Calls.Name_function_global I.ok.kind z (Calls.loadGlobal_builtin (by rw[I.ok.glob];exact I.mod.glob.keeps I.bk) hm (by rw[I.ok.blt];exact h1.keeps I.bk) ((h2 x hn).trans j) h) hd
theorem pe_glob {x:Str}{v:V}{u:Value}{pos:Pos}(j:Gl X x)(hm:X.mg x=some u)(r:RelV v u)(hd:(x==("__debug__":Str))=false:=by decide):PE X (.Name x pos) (tC v):=
 fun _ _ _ H _ I h=>ld_glob I j hm ⟨v,H,I,r,h⟩ hd
theorem pe_bltn {x:Str}{v:V}{u:Value}{pos:Pos}(z:Gl X x)(hm:X.mg x=none)(j:bootBuiltins x=some u)(r:RelV v u)(hn:x≠"__name__":=by decide)(hd:(x==("__debug__":Str))=false:=by decide):PE X (.Name x pos) (tC v):=
 fun _ _ _ H _ I h=>ld_blt I z hm j ⟨v,H,I,r,h⟩ hn hd
variable {a b:Expr}{ta tb:TE}{pos:Pos}
variable {tA tB':TT}{rest:List Expr}
noncomputable def tAnd (t u:TT):TT:=fun σ H Q=>t σ H fun c H1=>if c=true then u σ H1 Q else Q false H1
noncomputable def tOr (t u:TT):TT:=fun σ H Q=>t σ H fun c H1=>if c=true then Q true H1 else u σ H1 Q
noncomputable def tNot (t:TT):TT:=fun σ H Q=>t σ H fun c H1=>Q (!c) H1
theorem pw_and1 (ha:PT X a tA):PW X (.BoolOp .And [a] pos) tA:=by
 intro j pins s σ H Q I h
 refine isTrue_and (thn (ha pins s σ H Q I h) fun c s1 e=>?_)
 cases c with
 |true=>exact isTrue_and_nil e
 |false=>exact e
theorem pw_or1 (ha:PT X a tA):PW X (.BoolOp .Or [a] pos) tA:=by
 intro j pins s σ H Q I h
 refine isTrue_or (thn (ha pins s σ H Q I h) fun c s1 e=>?_)
 cases c with
 |false=>exact isTrue_or_nil e
 |true=>exact e
theorem pw_and (ha:PT X a tA)(L:PW X (.BoolOp .And (b::rest) pos) tB'):PW X (.BoolOp .And (a::b::rest) pos) (tAnd tA tB'):=by
 intro J pins s σ H Q I h
 refine isTrue_and (thn (ha pins s σ H _ I h) fun c s1 j=>?_)
 obtain⟨H1,G,z⟩:=j
 cases c with
 |true=>exact L J pins s1 σ H1 Q G z
 |false=>exact⟨H1,G,z⟩
theorem pw_or (ha:PT X a tA)(L:PW X (.BoolOp .Or (b::rest) pos) tB'):PW X (.BoolOp .Or (a::b::rest) pos) (tOr tA tB'):=by
 intro J pins s σ H Q I h
 refine isTrue_or (thn (ha pins s σ H _ I h) fun c s1 j=>?_)
 obtain⟨H1,G,z⟩:=j
 cases c with
 |true=>exact⟨H1,G,z⟩
 |false=>exact L J pins s1 σ H1 Q G z
theorem pt_not (ha:PT X a tA):PT X (.UnaryOp .Not a pos) (tNot tA):=by
 intro pins s σ H Q I h
 exact isTrue_not (ha pins s σ H (fun c H1=>Q (!c) H1) I h)
noncomputable def tAndV (ta tb:TE):TE:=fun σ H Q=>ta σ H fun x H1=>∃ c,x= .bl c/\if c=true then tb σ H1 Q else Q (.bl false) H1
noncomputable def tNotV (ta:TE):TE:=fun σ H Q=>ta σ H fun x H1=>∃ c,x= .bl c/\Q (.bl (!c)) H1
theorem pe_one {j}{t:TE}(h:PE X a t):PE X (.BoolOp j [a] pos) t:=fun pins s σ H Q I hw=>BoolOp_one (h pins s σ H Q I hw)
theorem pe_and (ha:PE X a ta)(L:PE X (.BoolOp .And (b::rest) pos) tb):PE X (.BoolOp .And (a::b::rest) pos) (tAndV ta tb):=by
 intro pins s σ H Q I h
 refine BoolOp_and (thn (ha pins s σ H _ I h) fun v s1 j=>?_)
 obtain⟨x,H1,G,J,z⟩:=j
 obtain⟨c,rfl,z⟩:=z
 cases J
 refine wpAny_truthy_bool ?_
 cases c with
 |true=>exact L pins s1 σ H1 Q G z
 |false=>exact⟨.bl false,H1,G,rfl,z⟩
theorem pe_not (ha:PE X a ta):PE X (.UnaryOp .Not a pos) (tNotV ta):=by
 intro pins s σ H Q I h
 refine UnaryOp_ (thn (ha pins s σ H _ I h) fun v s1 j=>?_)
 obtain⟨x,H1,J,G,z⟩:=j
 obtain⟨c,rfl,z⟩:=z
 cases G
 exact not_of (wpAny_truthy_bool ⟨.bl (!c),H1,J,rfl,z⟩)
end
end
section
noncomputable def SqL (K:W.Frag)(H:Hp)(a:Addr)(xs:List V):Prop:=
 Rd H a (.lst xs)\/
  ∃(o:Obj)(its:Array Value)(n:Nat),K.lookup a=some o/\o.cls= .type "list"/\o.dict=none/\o.data= .seq its n/\its.size<=sizeLine/\Vals xs its.toList
noncomputable def SqT (K:W.Frag)(H:Hp)(a:Addr)(xs:List V):Prop:=
 Rd H a (.tup xs)\/
  ∃(o:Obj)(its:Array Value)(n:Nat),K.lookup a=some o/\o.cls= .type "tuple"/\o.data= .seq its n/\its.size<=sizeLine/\Vals xs its.toList
noncomputable def absV:Value->Option V
 | .none=>some .non
 | .bool b=>some (.bl b)
 | .int i _=>some (.int i)
 | .str x _=>some (.str x)
 | .bytes b _=>some (.byt b)
 | .float b _=>some (.flt b)
 | .ref a=>some (.ref a)
 | .type n=>some (.ty n)
 |_=>none
theorem RelV.abs {x:V}{u:Value}(r:RelV x u):absV u=some x:=by
 cases x with
 |non=>cases r;rfl
 |bl _=>cases r;rfl
 |int _=>obtain⟨t,rfl⟩:=r;rfl
 |str _=>obtain⟨t,rfl⟩:=r;rfl
 |byt _=>obtain⟨t,rfl⟩:=r;rfl
 |flt _=>obtain⟨t,rfl⟩:=r;rfl
 |ref _=>cases r;rfl
 |ty _=>cases r;rfl
theorem RelV.inj {x y:V}{u:Value}(r:RelV x u)(q:RelV y u):x=y:=Option.some.inj (r.abs.symm.trans q.abs)
theorem Vals.inj:∀{xs ys:List V}{us:List Value},Vals xs us->Vals ys us->xs=ys
 |_,_,_,.nil,.nil=>rfl
 |_,_,_,.cons r t,.cons r' t'=>by rw[r.inj r',Vals.inj t t']
section
variable {X:Cx}{pins:List (Addr×Obj)}{σ:St}{H:Hp}{s:Shared}{a:Addr}{xs ys:List V}
theorem SqL.of {K:W.Frag}(h:H a=some (.lst xs)):SqL K H a xs:=.inl (.inl h)
theorem SqT.of {K:W.Frag}(h:H a=some (.tup xs)):SqT K H a xs:=.inl (.inl h)
theorem Inv.list (I:Inv X pins σ H s)(h:SqL X.K H a xs):∃ its:List Value,Vals xs its/\PlainL s.heap a its.toArray/\xs.length<=sizeLine:=by
 rcases h with h|⟨o,its,n,G,J,hd,j,L,r⟩
 .obtain⟨z,its,n,r,e⟩:=h.ok I.hok
  exact⟨its,r,⟨_,n,e,rfl,rfl,rfl⟩,z⟩
 .refine⟨its.toList,r,⟨o,n,I.kIn a o G,J,hd,by simpa using j⟩,?_⟩
  have e:=r.length
  simp only[Array.length_toList]at e
  omega
theorem Inv.tuple (I:Inv X pins σ H s)(h:SqT X.K H a xs):∃ its:List Value,Vals xs its/\IsTup s.heap a its.toArray/\xs.length<=sizeLine:=by
 rcases h with h|⟨o,its,n,G,J,j,L,r⟩
 .obtain⟨z,its,r,p⟩:=h.ok I.hok
  exact⟨its,r,p,z⟩
 .refine⟨its.toList,r,⟨o,I.kIn a o G,J,n,by simpa using j⟩,?_⟩
  have e:=r.length
  simp only[Array.length_toList]at e
  omega
theorem Inv.list_inj (I:Inv X pins σ H s)(h:SqL X.K H a xs)(h':SqL X.K H a ys):xs=ys:=by
 obtain⟨its,r,⟨o,n,e,_,_,d⟩,_⟩:=I.list h
 obtain⟨its',z,⟨o',n',j,_,_,d'⟩,_⟩:=I.list h'
 rw[e]at j;cases j
 rw[d]at d'
 injection d' with G _
 have:its=its':=by simpa using congrArg Array.toList G
 subst this
 exact r.inj z
theorem Inv.tuple_inj (I:Inv X pins σ H s)(h:SqT X.K H a xs)(h':SqT X.K H a ys):xs=ys:=by
 obtain⟨its,r,⟨o,e,_,n,d⟩,_⟩:=I.tuple h
 obtain⟨its',z,⟨o',j,_,n',d'⟩,_⟩:=I.tuple h'
 rw[e]at j;cases j
 rw[d]at d'
 injection d' with G _
 have:its=its':=by simpa using congrArg Array.toList G
 subst this
 exact r.inj z
end
noncomputable abbrev Cx.wish (X:Cx)(E:Value->Shared->Prop):Cx:={ X with xe:=E }
noncomputable abbrev Cx.nox (X:Cx):Cx:=X.wish fun _ _=>False
theorem Cx.Ok.wish {X:Cx}(ok:X.Ok)(E:Value->Shared->Prop):(X.wish E).Ok:=
 ⟨ok.mod,ok.kind,ok.glob,ok.blt,ok.above,ok.inj,ok.has,ok.cab,ok.hd,ok.frames,ok.stk,ok.exf,ok.bs,ok.bsz,ok.noex,ok.exfs,ok.funs,ok.frf⟩
theorem Cx.Ok.unwish {X:Cx}{E:Value->Shared->Prop}(ok:(X.wish E).Ok):X.Ok:=
 ⟨ok.mod,ok.kind,ok.glob,ok.blt,ok.above,ok.inj,ok.has,ok.cab,ok.hd,ok.frames,ok.stk,ok.exf,ok.bs,ok.bsz,ok.noex,ok.exfs,ok.funs,ok.frf⟩
section
variable {X:Cx}{pins:List (Addr×Obj)}{σ:St}{H:Hp}{s:Shared}{E:Value->Shared->Prop}
theorem Inv.wish (I:Inv X pins σ H s)(E:Value->Shared->Prop):Inv (X.wish E) pins σ H s:=⟨I.ok.wish E,I.os,I.bare,I.base,I.loc,I.cell,I.free,I.freeC,I.pin,I.hok,I.len⟩
theorem Inv.unwish (I:Inv (X.wish E) pins σ H s):Inv X pins σ H s:=⟨I.ok.unwish,I.os,I.bare,I.base,I.loc,I.cell,I.free,I.freeC,I.pin,I.hok,I.len⟩
theorem SP.unwish {D:Ends}{f:Flow}{s':Shared}(h:SP (X.wish E) pins D f s'):SP X pins D f s':=by
 cases f with
 |next=>obtain⟨j,H',I,q⟩:=h;exact⟨j,H',I.unwish,q⟩
 |brk=>obtain⟨j,H',I,q⟩:=h;exact⟨j,H',I.unwish,q⟩
 |cont=>obtain⟨j,H',I,q⟩:=h;exact⟨j,H',I.unwish,q⟩
 |ret u=>obtain⟨v,j,H',I,r,q⟩:=h;exact⟨v,j,H',I.unwish,r,q⟩
theorem PSs.nox {st:List Stmt}{t:TS}(h:PSs X.nox st t):PSs X st t:=fun pins s σ H D I hw=>
 wpAny_mono (h pins s σ H D (I.wish _) hw) (fun _ _ q=>q.unwish) fun _ _ z=>False.elim z
end
section
variable {X:Cx}{st:Stmt}{rest:List Stmt}{t u:TS}{e:Expr}{te:TE}{pos:Pos}
noncomputable def tNext:TS:=fun D σ H=>D.nx σ H
noncomputable def tSeq (t u:TS):TS:=fun D σ H=>t { D with nx:=u D } σ H
theorem pss_nil:PSs X [] tNext:=fun _ _ σ H _ I h=>wpAny_execs_nil ⟨σ,H,I,h⟩
theorem pss_cons (h1:PS X st t)(h2:PSs X rest u):PSs X (st::rest) (tSeq t u):=by
 intro pins s σ H D I h
 refine wpAny_execs_cons (thn (h1 pins s σ H { D with nx:=u D } I h) fun f s1 q=>?_)
 cases f with
 |next=>
  obtain⟨j,H',z,q⟩:=q
  exact h2 pins s1 j H' D z q
 |ret v=>exact q
 |brk=>exact q
 |cont=>exact q
theorem pss_one (h1:PS X st t):PSs X [st] t:=by
 intro pins s σ H D I h
 refine wpAny_execs_cons (thn (h1 pins s σ H D I h) fun f s1 q=>?_)
 cases f with
 |next=>exact wpAny_execs_nil q
 |ret v=>exact q
 |brk=>exact q
 |cont=>exact q
theorem Inv.quiet {pins:List (Addr×Obj)}{σ:St}{H:Hp}{s:Shared}(I:Inv X pins σ H s):interactive X.env=false:=by simp[interactive,I.ok.kind]
noncomputable def tDrop (te:TE):TS:=fun D σ H=>te σ H fun _ H1=>D.nx σ H1
theorem ps_expr (G:PE X e te)(z:swapsWith e none pos.line X.env=pure false:=by rfl):PS X (.Expr e pos) (tDrop te):=by
 intro pins s σ H D I h
 exact wpAny_Expr_any (thn (G pins s σ H _ I h) fun v s1 ⟨x,H1,J,L,j⟩=>⟨σ,H1,J,j⟩) I.quiet z
noncomputable def tRet (te:TE):TS:=fun D σ H=>te σ H D.rt
theorem ps_ret (G:PE X e te):PS X (.Return (some e) pos) (tRet te):=by
 intro pins s σ H D I h
 exact wpAny_Return_some (thn (G pins s σ H _ I h) fun v s1 ⟨x,H1,J,j,z⟩=>⟨x,σ,H1,J,j,z⟩)
noncomputable def tIfS (c:TT)(t u:TS):TS:=fun D σ H=>c σ H fun b H1=>if b=true then t D σ H1 else u D σ H1
theorem ps_if {c:Expr}{a b:List Stmt}{tc:TT}(J:PT X c tc)(ha:PSs X a t)(L:PSs X b u):PS X (.If c a b pos) (tIfS tc t u):=by
 intro pins s σ H D I h
 refine wpAny_If (thn (J pins s σ H _ I h) fun d s1 j=>?_)
 obtain⟨H1,G,z⟩:=j
 cases d with
 |true=>exact ha pins s1 σ H1 D G z
 |false=>exact L pins s1 σ H1 D G z
noncomputable def tNever:TS:=fun _ _ _=>False
theorem ps_never:PS X st tNever:=fun _ _ _ _ _ _ h=>h.elim
end
noncomputable abbrev TG:=V->St->Hp->(St->Hp->Prop)->Prop
noncomputable abbrev TGs:=List V->St->Hp->(St->Hp->Prop)->Prop
noncomputable def PG (X:Cx)(target:Expr)(t:TG):Prop:=
 ∀(pins:List (Addr×Obj))(s:Shared)(σ:St)(H:Hp)(v:V)(u:Value)(Q:St->Hp->Prop),Inv X pins σ H s->RelV v u->t v σ H Q->
  wpAny (model X.prog X.w) X.A (assign target X.env u) (fun _ s'=>∃ σ' H',Inv X pins σ' H' s'/\Q σ' H') X.xe s
noncomputable def PGs (X:Cx)(ts:List Expr)(t:TGs):Prop:=
 ∀(pins:List (Addr×Obj))(s:Shared)(σ:St)(H:Hp)(vs:List V)(us:List Value)(Q:St->Hp->Prop),Inv X pins σ H s->Vals vs us->t vs σ H Q->
  wpAny (model X.prog X.w) X.A (assignInOrder ((assignEach ts X.env).map (·.2)) us) (fun _ s'=>∃ σ' H',Inv X pins σ' H' s'/\Q σ' H') X.xe s
noncomputable abbrev TSet:=V->V->V->Hp->(Hp->Prop)->Prop
noncomputable def PSet (X:Cx)(t:TSet):Prop:=
 ∀(pins:List (Addr×Obj))(s:Shared)(σ:St)(H:Hp)(o i v:V)(ov iv u:Value)(Q:Hp->Prop),Inv X pins σ H s->RelV o ov->RelV i iv->RelV v u->t o i v H Q->
  wpAny (model X.prog X.w) X.A (setItem ov iv u) (fun _ s'=>∃ H',Inv X pins σ H' s'/\Q H') X.xe s
noncomputable abbrev TIp:=V->V->Hp->VK->Prop
noncomputable def PIp (X:Cx)(op:Operator)(t:TIp):Prop:=
 ∀(pins:List (Addr×Obj))(s:Shared)(σ:St)(H:Hp)(x y:V)(v u:Value)(Q:VK),Inv X pins σ H s->RelV x v->RelV y u->t x y H Q->
  wpAny (model X.prog X.w) X.A (inplaceOp op v u) (EP X pins σ Q) X.xe s
section
variable {X:Cx}{pos:Pos}
noncomputable def gName (i:Nat):TG:=fun v σ H Q=>Q (σ.set i (some v)) H
theorem pg_name {i:Nat}{x:Str}(G:X.N.Nodup)(hi:X.N[i]? =some x)(j:Loc X.env.scope x)(z:X.fn x=true\/X.env.scope.names.lookup x=some .local:=by first|exact .inl rfl|exact .inr rfl|assumption):PG X (.Name x pos) (gName i):=by
 intro pins s σ H v u Q I r h
 exact wpAny_assign_Name (store_ok I G hi j r (fun s' J=>⟨_,H,J,h⟩) z)
noncomputable def gNil:TGs:=fun vs σ H Q=>vs=[]/\Q σ H
noncomputable def gCons (t:TG)(u:TGs):TGs:=fun vs σ H Q=>∃ v r,vs=v::r/\t v σ H fun σ' H'=>u r σ' H' Q
theorem pgs_nil:PGs X [] gNil:=by
 intro pins s σ H vs us Q I r h
 obtain⟨e,h⟩:=h
 subst e
 cases r
 exact assignInOrder_nil ⟨σ,H,I,h⟩
theorem pgs_cons {e:Expr}{es:List Expr}{t:TG}{u:TGs}(h1:PG X e t)(h2:PGs X es u)
  (L:(assignEach (e::es) X.env).map (·.2)=assign e X.env::(assignEach es X.env).map (·.2):=by rfl):PGs X (e::es) (gCons t u):=by
 intro pins s σ H vs us Q I r h
 obtain⟨v,U,N,h⟩:=h
 subst N
 cases r with
 |cons r G=>
  rw[L]
  refine assignInOrder_cons (thn (h1 pins s σ H _ _ _ I r h) fun _ s1 j=>?_)
  obtain⟨z,H1,O,J⟩:=j
  exact h2 pins s1 z H1 _ _ Q O G J
noncomputable def gTup (K:W.Frag)(n:Nat)(t:TGs):TG:=fun v σ H Q=>∃ a xs,v= .ref a/\SqT K H a xs/\xs.length=n/\t xs σ H Q
theorem pg_tup {es:List Expr}{k:Nat}{t:TGs}{n:Nat}(O:X.calm=true)(h:PGs X es t)
  (hn:(assignEach es X.env).length=n:=by rfl) (j:(assignEach es X.env).findIdx? (·.1)=none:=by rfl):PG X (.Tuple es k pos) (gTup X.K n t):=by
 intro pins s σ H v u Q I r hw
 obtain⟨a,xs,U,L,N,hw⟩:=hw
 subst U
 cases r
 obtain⟨its,z,J,Z⟩:=I.tuple L
 refine assign_Tuple_tuple (I.ok.hd O) J (by simp[hn,<-N,z.length]) j fun h' G=>?_
 have Y:Inv X pins σ H { s with heap:=h' }:=I.kept (t':=s.toks) fun b o e=>G b o (Nat.ne_of_lt (Heap.lt_size e)) e
 exact h pins _ σ H xs _ Q Y (by simpa using z) hw
noncomputable def gSub (to ti:TE)(t:TSet):TG:=fun v σ H Q=>to σ H fun o H1=>ti σ H1 fun i H2=>t o i v H2 fun H3=>Q σ H3
theorem pg_sub {o i:Expr}{to J:TE}{t:TSet}(ho:PE X o to)(hi:PE X i J)(Z:PSet X t)
  (ha:∀ v,assign (.Subscript o i pos) X.env v=(do
   let z ← holding [v] (eval o X.env)
   let G ← holding [v,z] (eval i X.env)
   standAt pos
   holding [v,z,G] (setItem z G v)
   release [v,z,G] []):=by intro _;rfl):PG X (.Subscript o i pos) (gSub to J t):=by
 intro pins s σ H v u Q I r h
 rw[ha]
 refine wpAny_bind (wpAny_holding (thn (ho pins s σ H _ I h) fun z s1 j=>?_))
 obtain⟨x,H1,I1,N,Y⟩:=j
 refine wpAny_bind (wpAny_holding (thn (hi pins s1 σ H1 _ I1 Y) fun G s2 j=>?_))
 obtain⟨y,H2,I2,L,U⟩:=j
 refine wpAny_bind (wpAny_standAt (wpAny_bind (wpAny_holding (thn (Z pins s2 σ H2 x y v z G u _ I2 N L r U) fun _ s3 j=>?_))))
 obtain⟨H3,I3,O⟩:=j
 exact wpAny_release ⟨σ,H3,I3,O⟩
noncomputable def tAsg (te:TE)(g:TG):TS:=fun D σ H=>te σ H fun x H1=>g x σ H1 D.nx
theorem ps_asg {tg e:Expr}{te:TE}{g:TG}(N:PE X e te)(L:PG X tg g)(J:swapsWithSole [tg] e pos.line X.env=pure false:=by rfl)(hw:swappedStores [tg] e X.env=pure none:=by rfl)
  (h1:(assignEach [tg] X.env).map (·.2)=[assign tg X.env]:=by rfl):PS X (.Assign [tg] e pos) (tAsg te g):=by
 intro pins s σ H D I h
 refine wpAny_Assign_stores (thn (N pins s σ H _ I h) fun v s1 j=>?_) J hw
 obtain⟨x,H1,O,z,G⟩:=j
 rw[h1]
 exact thn (L pins s1 σ H1 x v _ O z G) fun _ s2 q=>q
theorem ps_set {i:Nat}{x:Str}{e:Expr}{te:TE}{pos':Pos}(Y:X.N.Nodup)(hi:X.N[i]? =some x)(J:Loc X.env.scope x)(U:PE X e te)(L:swapsWith e (some (.Name x pos')) pos.line X.env=pure false:=by rfl)(O:X.fn x=true\/X.env.scope.names.lookup x=some .local:=by first|exact .inl rfl|exact .inr rfl|assumption):
  PS X (.Assign [.Name x pos'] e pos) (tAsg te (gName i)):=by
 intro pins s σ H D I h
 refine wpAny_Assign_Name (thn (U pins s σ H _ I h) fun v s1 j=>?_) L
 obtain⟨y,H1,I1,z,G⟩:=j
 exact store_ok I1 Y hi J z (fun s2 Z=>⟨_,H1,Z,G⟩) O
noncomputable def tAug (i:Nat)(te:TE)(ti:TIp):TS:=fun D σ H=>∃ x,σ[i]? =some (some x)/\te σ H fun y H1=>ti x y H1 fun z H2=>D.nx (σ.set i (some z)) H2
theorem ps_aug {i:Nat}{x:Str}{e:Expr}{te:TE}{Y:Operator}{ti:TIp}{pos':Pos}(hN:X.N.Nodup)(hi:X.N[i]? =some x)(Z:Loc X.env.scope x)(he:PE X e te)(ho:PIp X Y ti)(hf:X.fn x=true\/X.env.scope.names.lookup x=some .local:=by first|exact .inl rfl|exact .inr rfl|assumption):
  PS X (.AugAssign (.Name x pos') Y e pos) (tAug i te ti):=by
 intro pins s σ H D I h
 obtain⟨v,e1,h⟩:=h
 obtain⟨m,hn,hl⟩:=I.loc
 have U:Vis X.env.scope x:=by rcases Z with k|k;exact .inl k;exact .inr (.inl k)
 obtain⟨u,r,l⟩:=hl i x v hi e1 U
 refine wpAny_AugAssign_Name ?_
 have go:wpAny (model X.prog X.w) X.A (eval e X.env) (fun w O=>wpAny (model X.prog X.w) X.A (inplaceOp Y u w) (fun r L=>wpAny (model X.prog X.w) X.A (storeName X.env x r) (fun _=>SP X pins D .next) X.xe L) X.xe O) X.xe s:=by
  refine thn (he pins s σ H _ I h) fun w s1 j=>?_
  obtain⟨y,H1,I1,r1,q1⟩:=j
  refine thn (ho pins s1 σ H1 v y u w _ I1 r r1 q1) fun z s2 j=>?_
  obtain⟨zv,H2,I2,r2,q2⟩:=j
  exact store_ok I2 hN hi Z r2 (fun s3 I3=>⟨_,H2,I3,q2⟩) hf
 rcases l with⟨G,hm⟩|⟨G,c,hc,J⟩
 .exact wpAny_loadName_local I.ok.kind G hn hm go
 .rcases G with G|G
  .exact wpAny_loadName_cell I.ok.kind G hc J go
  .rcases Z with k|k
   .have:X.env.scope.names.lookup x=some .free:=G
    rw[k]at this;cases this
   .have:X.env.scope.names.lookup x=some .free:=G
    rw[k]at this;cases this
noncomputable def ipI (f:Int->Int->Int):TIp:=fun x y H Q=>∃ i j,x= .int i/\y= .int j/\Q (.int (f i j)) H
theorem ip_add:PIp X .Add (ipI fun i j=>i+j):=by
 intro pins s σ H x y v u Q I G z h
 obtain⟨i,j,L,J,q⟩:=h
 subst L;subst J
 obtain⟨t,rfl⟩:=G
 obtain⟨t',rfl⟩:=z
 exact iadd_int ⟨.int _,H,I.tok _,⟨_,rfl⟩,q⟩
end
section
variable {X:Cx}{pos:Pos}
end
structure It where
 go:Nat->Hp->Prop
 yld:Nat->Hp->V->Hp->Prop
 stop:Nat->Hp->Prop
noncomputable def FpOk (X:Cx)(pins:List (Addr×Obj))(H:Hp)(b:Addr):Prop:=
 H b=none/\b≠X.env.locals/\b∉X.fs/\(b∈X.ex\/X.s₀.heap.objs.size<=b)/\(∀ x c,X.env.cells.lookup x=some c->c≠b)/\∀ p∈X.pn++pins,p.1≠b
theorem Inv.fpOk {X:Cx}{pins:List (Addr×Obj)}{σ:St}{H H':Hp}{s:Shared}{b:Addr}(I:Inv X pins σ H s)(j:s.heap.objs.size<=b)(hn:H' b=none):FpOk X pins H' b:=by
 refine⟨hn,Nat.ne_of_gt (Nat.lt_of_lt_of_le I.lt j),I.nofs j,.inr (Nat.le_trans I.sz j),fun x c e z=>?_,fun p hp z=>?_⟩
 .obtain⟨v,q⟩:=I.cell x c e
  exact absurd (Nat.lt_of_lt_of_le q.lt (by rw[z];exact j)) (Nat.lt_irrefl _)
 .exact absurd (Nat.lt_of_lt_of_le (Heap.lt_size (I.pin p hp).1) (by rw[z];exact j)) (Nat.lt_irrefl _)
structure Turn (P:Program)(w:World)(K:W.Frag)(tg:Expr)(J:It)(fp:List Addr)(it:Addr)(tn:Nat->Heap->Prop):Prop where
 mem:it∈fp
 obj:∀ i h,tn i h->∀ b∈fp,∃ o,h.get? b=some o/\∀ v,o.data≠ .cell v
 keep:∀ i h h',tn i h->(∀ b∈fp,∀ o,h.get? b=some o->h'.get? b=some o)->tn i h'
 item:∀(X:Cx),X.prog=P->X.w=w->X.K=K->X.calm=true->∀(i:Nat)(pins:List (Addr×Obj))(s:Shared)(σ:St)(H:Hp)(E:Value->Shared->Prop),Inv X pins σ H s->(∀ b∈fp,FpOk X pins H b)->tn i s.heap->J.go i H->
  wpAny (model P w) X.A (pyNext (.ref it)) (fun r s1=>∃ u,r=some u/\
   wpAny (model P w) X.A (letOwnedTupleGo tg (.ref it) u) (fun _ s2=>∃ x H',Inv X pins σ H' s2/\RelV x u/\J.yld i H x H'/\tn (i+1) s2.heap/\∀ b∈fp,H' b=none) E s1) E s
 done:∀(X:Cx),X.prog=P->X.w=w->X.K=K->X.calm=true->∀(i:Nat)(pins:List (Addr×Obj))(s:Shared)(σ:St)(H:Hp)(E:Value->Shared->Prop),Inv X pins σ H s->(∀ b∈fp,FpOk X pins H b)->tn i s.heap->J.stop i H->
  wpAny (model P w) X.A (pyNext (.ref it)) (fun r s1=>r=none/\Inv X pins σ H s1) E s
 self:∀(A:Around)(i:Nat)(s:Shared)(Q:Value->Shared->Prop)(E:Value->Shared->Prop),tn i s.heap->Q (.ref it) s->wpAny (model P w) A (pyIter (.ref it)) Q E s
noncomputable abbrev TI:=St->Hp->(It->Hp->Prop)->Prop
noncomputable def PIE (X:Cx)(pins:List (Addr×Obj))(σ:St)(tg:Expr)(R:It->Hp->Prop)(itv:Value)(s2:Shared):Prop:=
 ∃(it:Addr)(fp:List Addr)(tn:Nat->Heap->Prop)(J:It)(H':Hp),itv= .ref it/\Inv X pins σ H' s2/\Turn X.prog X.w X.K tg J fp it tn/\tn 0 s2.heap/\(∀ b∈fp,FpOk X pins H' b)/\R J H'
noncomputable def PI (X:Cx)(tg iter:Expr)(wi:TI):Prop:=
 ∀(pins:List (Addr×Obj))(s:Shared)(σ:St)(H:Hp)(R:It->Hp->Prop),Inv X pins σ H s->wi σ H R->
  wpAny (model X.prog X.w) X.A (eval iter X.env) (fun v s1=>wpAny (model X.prog X.w) X.A (pyIter v) (PIE X pins σ tg R) X.xe s1) X.xe s
theorem go_of {M:Model}{A:Around}{E:Value->Shared->Prop}{s:Shared}{tg:Expr}{it:Addr}{u:Value}{o:Obj}{n:String}{vs:Array Value}{Q:Unit->Shared->Prop}(z:s.heap.get? it=some o)(G:o.cls= .type n)(hd:o.data= .fields vs)
  (hn:["enumerate","zip","dict_itemiterator","dict_reverseitemiterator","odict_iterator","itertools.zip_longest","itertools.pairwise"].contains n=false) (j:Q () s):wpAny M A (letOwnedTupleGo tg (.ref it) u) Q E s:=by
 unfold letOwnedTupleGo
 cases tg <;> first
  |exact wpAny_pure j
  | (cases u <;> first
    |exact wpAny_pure j
    | (refine wpAny_bind (wpAny_load z ?_)
       rw[G,hd]
       show wpAny M A (if (["enumerate","zip","dict_itemiterator","dict_reverseitemiterator","odict_iterator","itertools.zip_longest","itertools.pairwise"].contains n&&vs[0]? ==some (rawInt _))=true then _ else _) Q E s
       rw[if_neg (by intro h;rw[hn,Bool.false_and]at h;cases h)]
       exact wpAny_pure j))
noncomputable def Itl (K:W.Frag)(a:Addr):It:=
 ⟨fun i H=>∃ xs x,SqL K H a xs/\xs[i]? =some x,fun i H x H'=>H'=H/\∀ xs,SqL K H a xs->xs[i]? =some x,fun i H=>∃ xs,SqL K H a xs/\xs.length<=i⟩
noncomputable def Itr (lo:Int)(n:Nat):It:=⟨fun i _=>i<n,fun i H x H'=>H'=H/\x= .int (lo+i),fun i _=>n<=i⟩
theorem turn_list {P:Program}{w:World}{K:W.Frag}{tg:Expr}(a it:Addr):Turn P w K tg (Itl K a) [it] it (fun i h=>h.IsListIter it a i) where
 mem:=by simp
 obj:=fun i h st b j=>by
  have e:b=it:=by simpa using j
  subst e
  obtain⟨o,e,c,d⟩:=st
  exact⟨o,e,fun v z=>by rw[d]at z;cases z⟩
 keep:=fun i h h' st k=>st.at fun o e=>k it (by simp) o e
 item:=by
  intro X U hw Y hc i pins s σ H E I J st O
  subst U hw Y
  obtain⟨xs,x,G,N⟩:=O
  obtain⟨its,L,p,hz⟩:=I.list G
  obtain⟨u,hu,ru⟩:=L.get N
  obtain⟨f0,f1,f2,f3,f4,Z⟩:=J it (by simp)
  refine wpAny_pyNext_list_item st p.isList (x:=u) (by simpa using hu) fun h' st' sb=>?_
  have I1:Inv X pins σ H { s with heap:=h' }:=I.turned (t':=s.toks) (fun b o j e=>(sb.2 b j).trans e) f0 f1 f3 f4 Z
  obtain⟨o,e,c,d⟩:=id st'
  exact⟨u,rfl,go_of (s:={ s with heap:=h' }) e c d (by decide) ⟨x,H,I1,ru,⟨rfl,fun ys hy=>by rw[I.list_inj hy G];exact N⟩,st',fun b j=>(J b j).1⟩⟩
 done:=by
  intro X U hw Y hc i pins s σ H E I J st O
  subst U hw Y
  obtain⟨xs,G,N⟩:=O
  obtain⟨its,L,p,hz⟩:=I.list G
  obtain⟨f0,f1,f2,f3,f4,Z⟩:=J it (by simp)
  have hl:=L.length
  exact wpAny_pyNext_list_end (I.ok.hd hc) st p.isList (by simp;omega) fun h' eb=>⟨rfl,I.turned (t':=s.toks) (fun b o j e=>eb b o j e) f0 f1 f3 f4 Z⟩
 self:=fun _ _ _ _ _ st h=>wpAny_pyIter_listiter st h
theorem turn_range {P:Program}{w:World}{K:PySem.W.Frag}{tg:Expr}(it:Addr)(lo:Int)(n:Nat):Turn P w K tg (Itr lo n) [it] it (fun i h=>IsRangeIter h it (lo+(i:Nat)*1) ((n:Int)-(i:Nat)) 1) where
 mem:=by simp
 obj:=fun i h st b j=>by
  have e:b=it:=by simpa using j
  subst e
  exact⟨_,st,fun v z=>by
   have z':Data.fields _=Data.cell v:=z
   cases z'⟩
 keep:=fun i h h' st k=>k it (by simp) _ st
 item:=by
  intro X N hw O L i pins s σ H E I G st J
  subst N hw O
  obtain⟨f0,f1,f2,Z,Y,U⟩:=G it (by simp)
  have W:=Walks.range (prog:=X.prog) (w:=X.w) (I.ok.hd L) it lo 1 n
  refine W.item i s _ _ J st fun v h' tk hv st' kk=>?_
  obtain⟨t,rfl⟩:=hv
  have I1:Inv X pins σ H { s with heap:=h',toks:=tk }:=I.turned (fun b o j e=>kk b o (by simpa using j) e) f0 f1 Z Y U
  refine⟨_,rfl,go_of (s:={ s with heap:=h',toks:=tk }) (n:="range_iterator") st' rfl rfl (by decide) ⟨.int (lo+i),H,I1,⟨t,?_⟩,⟨rfl,rfl⟩,st',fun b j=>(G b j).1⟩⟩
  rw[Int.mul_one]
 done:=by
  intro X N hw O L i pins s σ H E I G st J
  subst N hw O
  obtain⟨f0,f1,f2,Z,Y,U⟩:=G it (by simp)
  exact wpAny_pyNext_range_end (I.ok.hd L) st (by have:n<=i:=J;omega) fun h' eb=>⟨rfl,I.turned (t':=s.toks) (fun b o j e=>eb b o j e) f0 f1 Z Y U⟩
 self:=fun _ _ _ _ _ st h=>wpAny_pyIter_rangeiter st h
end
section
section
variable {X:Cx}{tg:Expr}
noncomputable def iList (K:W.Frag)(tl:TE):TI:=fun σ H R=>tl σ H fun x H1=>∃ a,x= .ref a/\(∃ xs,SqL K H1 a xs)/\R (Itl K a) H1
theorem pi_list {l:Expr}{tl:TE}(N:PE X l tl):PI X tg l (iList X.K tl):=by
 intro pins s σ H R I h
 refine thn (N pins s σ H _ I h) fun v s1 j=>?_
 obtain⟨x,H1,z,G,J⟩:=j
 obtain⟨a,e,⟨xs,L⟩,q⟩:=J
 subst e
 cases G
 obtain⟨its,U,p,Y⟩:=z.list L
 refine wpAny_pyIter_list p.isList ?_
 refine⟨s1.heap.objs.size,[s1.heap.objs.size],_,_,H1,rfl,z.kept (t':=s1.toks) fun b o e=>Heap.get?_push_of_some _ e,turn_list a _,⟨_,Heap.get?_push_size _ rfl,rfl,rfl⟩,fun b O=>?_,q⟩
 have e:b=s1.heap.objs.size:=by simpa using O
 subst e
 exact z.fpOk (Nat.le_refl _) (z.hok.fresh (Nat.le_refl _))
theorem range_it {pins:List (Addr×Obj)}{σ:St}{H:Hp}{s:Shared}{R:It->Hp->Prop}{E:Value->Shared->Prop}{lo hi:Int}{t u v:Tok}{tk:Nat}(I:Inv X pins σ H s)(h1:-(2^62)<=lo)(h2:lo<2^62)(J:-(2^62)<=hi)(G:hi<2^62)
  (q:R (Itr lo (hi-lo).toNat) H):wpAny (model X.prog X.w) X.A (pyIter (.ref s.heap.objs.size)) (PIE X pins σ tg R) E { s with heap:=s.heap.push { cls:=.type "range",data:=.fields #[.int lo t,.int hi u,.int 1 v] },toks:=tk }:=by
 refine wpAny_pyIter_range (IsRange.new ..) (small_one h1 h2 J G) ?_
 have j:Inv X pins σ H { s with heap:=s.heap.push { cls:=.type "range",data:=.fields #[.int lo t,.int hi u,.int 1 v] },toks:=tk }:=I.kept fun b o e=>Heap.get?_push_of_some _ e
 refine⟨(s.heap.push { cls:=.type "range",data:=.fields #[.int lo t,.int hi u,.int 1 v] }).objs.size,[(s.heap.push { cls:=.type "range",data:=.fields #[.int lo t,.int hi u,.int 1 v] }).objs.size],_,_,H,rfl,
  j.kept (t':=tk) fun b o e=>Heap.get?_push_of_some _ e,turn_range _ lo (hi-lo).toNat,?_,fun b z=>?_,q⟩
 .have e1:lo+((0:Nat):Int)*1=lo:=by simp
  have L:(((hi-lo).toNat:Nat):Int)-((0:Nat):Int)=Builtin.Range.rangeSize lo hi 1:=by rw[rangeSize_one];split <;> omega
  show IsRangeIter _ _ (lo+((0:Nat):Int)*1) ((((hi-lo).toNat:Nat):Int)-((0:Nat):Int)) 1
  rw[e1,L]
  exact Heap.get?_push_size _ rfl
 .have e:b=(s.heap.push { cls:=.type "range",data:=.fields #[.int lo t,.int hi u,.int 1 v] }).objs.size:=by simpa using z
  subst e
  exact j.fpOk (Nat.le_refl _) (j.hok.fresh (Nat.le_refl _))
noncomputable def iRng1 (ta:TA):TI:=fun σ H R=>ta σ H fun vs H1=>∃ j:Int,vs=[.int j]/\ -(2^62)<=j/\j<2^62/\R (Itr 0 j.toNat) H1
theorem pi_range1 {a:Expr}{ta:TA}{p pos:Pos}(U:Gl X "range")(hm:X.mg "range"=none)(ha:PA X [a] ta)(O:starEach [a] X.env=[(false,eval a X.env)]:=by rfl):PI X tg (.Call (.Name "range" p) [a] [] pos) (iRng1 ta):=by
 intro pins s σ H R I h
 refine Call_ (ld_blt I U hm boot_range (PyProof.Rows.callWith_type1 (thn (ha pos pins s σ H _ I h) fun us s1 z=>?_) O rfl))
 obtain⟨vs,H1,Y,L,G⟩:=z
 obtain⟨j,e,G,N,q⟩:=G
 subst e
 cases L with
 |cons r J=>
  cases J
  obtain⟨t,rfl⟩:=r
  exact call_range_1 (range_it Y (by omega) (by omega) G N (by simpa using q))
noncomputable def tFor (wi:TI)(g:TG)(tb:TS):TS:=fun D σ H=>wi σ H fun J H1=>∃ W:Nat->Nat->St->Hp->Prop,(∃ m,W 0 m σ H1)/\∀ i m σ H,W i m σ H->
 (J.stop i H/\D.nx σ H)\/(J.go i H/\∃ N:St->Hp->Prop,(∀ σ' H',N σ' H'->∃ m',m'<m/\W (i+1) m' σ' H')/\∀ x H',J.yld i H x H'->g x σ H' fun σ2 H2=>tb { D with nx:=N,ct:=N,bk:=D.nx } σ2 H2)
noncomputable def pinsAt (fp:List Addr)(h:Heap):List (Addr×Obj):=fp.filterMap fun b=>(h.get? b).map fun o=>(b,o)
theorem mem_pinsAt {fp:List Addr}{h:Heap}{b:Addr}{o:Obj}(j:b∈fp)(e:h.get? b=some o):(b,o)∈pinsAt fp h:=List.mem_filterMap.mpr ⟨b,j,by rw[e];rfl⟩
theorem of_pinsAt {fp:List Addr}{h:Heap}{p:Addr×Obj}(hp:p∈pinsAt fp h):p.1∈fp/\h.get? p.1=some p.2:=by
 obtain⟨b,j,e⟩:=List.mem_filterMap.mp hp
 cases q:h.get? b with
 |none=>rw[q]at e;cases e
 |some o=>
  rw[q]at e
  have z:(b,o)=p:=Option.some.inj e
  subst z
  exact⟨j,q⟩
theorem Inv.pinned {pins:List (Addr×Obj)}{σ:St}{H:Hp}{s:Shared}{fp:List Addr}(I:Inv X pins σ H s)(L:∀ b∈fp,FpOk X pins H b)(J:∀ b∈fp,∃ o,s.heap.get? b=some o/\∀ v,o.data≠ .cell v):Inv X (pins++pinsAt fp s.heap) σ H s:=
 I.pins_of fun p hp=>(List.mem_append.mp hp).elim (fun z=>I.pin p (mem_append_right _ z)) fun z=>by
  obtain⟨j,e⟩:=of_pinsAt z
  obtain⟨U,O,N,_⟩:=L p.1 j
  obtain⟨o,G,d⟩:=J p.1 j
  rw[e]at G;cases G
  exact⟨e,U,O,N,d⟩
theorem Inv.unpinned {pins pl:List (Addr×Obj)}{σ:St}{H:Hp}{s:Shared}(I:Inv X (pins++pl) σ H s):Inv X pins σ H s:=I.pins_of fun p hp=>I.pin p (mem_append_right _ (mem_append_left _ hp))
theorem ps_for {iter:Expr}{body:List Stmt}{wi:TI}{g:TG}{tb:TS}{pos:Pos}(hp:PassesOwn (model X.prog X.w) X.A X.env X.xe)(hc:X.calm=true)(hi:PI X tg iter wi)(hg:PG X tg g)(U:PSs X body tb)
  (hs:∀ x,foldedSetIterable iter X.env x=pure x:=by intro _;rfl):PS X (.For tg iter body [] pos) (tFor wi g tb):=by
 intro pins s σ H D I h
 refine wpAny_For (thn (hi pins s σ H _ I h) fun v s1 h1=>thn h1 fun a7 s2 h2=>?_) hs
 obtain⟨it,fp,tn,J,H2,e,I2,T,a4,f2,W,⟨m0,w0⟩,turn⟩:=h2
 subst e
 have L:∀{H':Hp},(∀ b∈fp,H' b=none)->∀ b∈fp,FpOk X pins H' b:=fun hn b U=>⟨hn b U,(f2 b U).2⟩
 refine codeAny_forLoop_any (fun n s'=>∃ i G H',Inv X pins G H' s'/\tn i s'.heap/\(∀ b∈fp,H' b=none)/\W i n G H') ?_ m0 ⟨0,σ,H2,I2,a4,fun b U=>(f2 b U).1,w0⟩
 rintro n s3 ⟨i,z,H3,I3,a1,a2,w3⟩
 rcases turn i n z H3 w3 with⟨stop,qn⟩|⟨go,N,hN,step⟩
 .refine wpAny_passesOwn hp (thn (T.done X rfl rfl rfl hc i pins s3 z H3 X.xe I3 (L a2) a1 stop) fun r s4 ⟨hr,I4⟩=>?_)
  subst hr
  exact wpAny_execs_nil ⟨z,H3,I4,qn⟩
 .refine wpAny_passesOwn hp (thn (T.item X rfl rfl rfl hc i pins s3 z H3 X.xe I3 (L a2) a1 go) fun r s4 ⟨u,hr,h4⟩=>?_)
  subst hr
  refine wpAny_passesOwn hp (thn h4 fun _ s5 O=>?_)
  obtain⟨x,H5,I5,r5,y5,a0,a5⟩:=O
  have a6:=I5.pinned (L a5) (T.obj _ _ a0)
  refine wpAny_passesOwn hp (thn (hg _ s5 z H5 x u _ a6 r5 (step x H5 y5)) fun _ s6 O=>?_)
  obtain⟨a3,H6,I6,q6⟩:=O
  refine wpAny_passesOwn hp (thn (U _ s6 a3 H6 _ I6 q6) fun f s7 q7=>?_)
  have again:∀{j:St}{Z:Hp},Inv X (pins++pinsAt fp s5.heap) j Z s7->N j Z->∃ m,m<n/\∃ i G H',Inv X pins G H' s7/\tn i s7.heap/\(∀ b∈fp,H' b=none)/\W i m G H':=fun{j Z} Y n7=>by
   obtain⟨m',hm,w7⟩:=hN j Z n7
   refine⟨m',hm,i+1,j,Z,Y.unpinned,T.keep _ _ _ a0 fun b U o e=>(Y.pin (b,o) (mem_append_right _ (mem_append_right _ (mem_pinsAt U e)))).1,fun b U=>?_,w7⟩
   obtain⟨o,e,d⟩:=T.obj _ _ a0 b U
   exact(Y.pin (b,o) (mem_append_right _ (mem_append_right _ (mem_pinsAt U e)))).2.1
  cases f with
  |next=>obtain⟨j,Z,Y,n7⟩:=q7;exact again Y n7
  |cont=>obtain⟨j,Z,Y,n7⟩:=q7;exact again Y n7
  |brk=>obtain⟨j,Z,Y,q7⟩:=q7;exact⟨j,Z,Y.unpinned,q7⟩
  |ret v=>obtain⟨x7,j,Z,Y,r7,q7⟩:=q7;exact⟨x7,j,Z,Y.unpinned,r7,q7⟩
end
end
section
noncomputable abbrev R2:=V->V->Hp->VK->Prop
noncomputable def OpR (X:Cx)(f:Value->Value->Sem Value)(r:R2):Prop:=
 ∀(pins:List (Addr×Obj))(s:Shared)(σ:St)(H:Hp)(x y:V)(v u:Value)(Q:VK),Inv X pins σ H s->RelV x v->RelV y u->r x y H Q->
  wpAny (model X.prog X.w) X.A (f v u) (EP X pins σ Q) X.xe s
noncomputable def UnR (X:Cx)(f:Value->Sem Value)(r:V->Hp->VK->Prop):Prop:=
 ∀(pins:List (Addr×Obj))(s:Shared)(σ:St)(H:Hp)(x:V)(v:Value)(Q:VK),Inv X pins σ H s->RelV x v->r x H Q->
  wpAny (model X.prog X.w) X.A (f v) (EP X pins σ Q) X.xe s
noncomputable def CallR (X:Cx)(f:Value)(r:List V->Hp->VK->Prop):Prop:=
 ∀(pins:List (Addr×Obj))(s:Shared)(σ:St)(H:Hp)(xs:List V)(us:List Value)(Q:VK),Inv X pins σ H s->Vals xs us->r xs H Q->
  wpAny (model X.prog X.w) X.A (call f us) (EP X pins σ Q) X.xe s
noncomputable def TruR (X:Cx)(r:V->Hp->(Bool->Hp->Prop)->Prop):Prop:=
 ∀(pins:List (Addr×Obj))(s:Shared)(σ:St)(H:Hp)(x:V)(v:Value)(Q:Bool->Hp->Prop),Inv X pins σ H s->RelV x v->r x H Q->
  wpAny (model X.prog X.w) X.A (truthy v) (TP X pins σ Q) X.xe s
noncomputable def tOp (r:R2)(ta tb:TE):TE:=fun σ H Q=>ta σ H fun x H1=>tb σ H1 fun y H2=>r x y H2 Q
noncomputable def tUn (r:V->Hp->VK->Prop)(ta:TE):TE:=fun σ H Q=>ta σ H fun x H1=>r x H1 Q
noncomputable def rI (C:Int->Int->Prop)(g:Int->Int->V):R2:=fun x y H Q=>∃ i j,x= .int i/\y= .int j/\C i j/\Q (g i j) H
noncomputable def rI0 (g:Int->Int->V):R2:=fun x y H Q=>∃ i j,x= .int i/\y= .int j/\Q (g i j) H
noncomputable def rU (g:Int->V):V->Hp->VK->Prop:=fun x H Q=>∃ i,x= .int i/\Q (g i) H
section
variable {X:Cx}{a b c:Expr}{ta tb tc:TE}{pos:Pos}
theorem binT (ha:PE X a ta)(Y:PE X b tb){pins:List (Addr×Obj)}{s:Shared}{σ:St}{H:Hp}{R:V->V->Hp->Prop}(I:Inv X pins σ H s)
  (h:ta σ H fun x H1=>tb σ H1 fun y H2=>R x y H2) {Q:Value->Shared->Prop} {f:Value->Value->Sem Value}
  (U:∀ v u s2 x y H2,Inv X pins σ H2 s2->RelV x v->RelV y u->R x y H2->wpAny (model X.prog X.w) X.A (f v u) Q X.xe s2):
  wpAny (model X.prog X.w) X.A (eval a X.env) (fun v G=>wpAny (model X.prog X.w) X.A (eval b X.env) (fun u z=>wpAny (model X.prog X.w) X.A (f v u) Q X.xe z) X.xe G) X.xe s:=by
 refine thn (ha pins s σ H _ I h) fun v s1 j=>?_
 obtain⟨x,H1,I1,L,O⟩:=j
 refine thn (Y pins s1 σ H1 _ I1 O) fun u s2 j=>?_
 obtain⟨y,H2,Z,J,N⟩:=j
 exact U v u s2 x y H2 Z L J N
theorem pe_op {j:Operator}{r:R2}(G:OpR X (binaryOp j) r)(ha:PE X a ta)(J:PE X b tb):PE X (.BinOp a j b pos) (tOp r ta tb):=by
 intro pins s σ H Q I h
 exact wpAny_BinOp (binT ha J I h fun v u s2 x y H2 L rx z q=>G pins s2 σ H2 x y v u Q L rx z q)
theorem pe_un {j:UnaryOp}{r:V->Hp->VK->Prop}(J:UnR X (unaryOp j) r)(ha:PE X a ta):PE X (.UnaryOp j a pos) (tUn r ta):=by
 intro pins s σ H Q I h
 exact UnaryOp_ (thn (ha pins s σ H _ I h) fun v s1 ⟨x,H1,L,z,G⟩=>J pins s1 σ H1 x v Q L z G)
theorem opI {f:Value->Value->Sem Value}{C:Int->Int->Prop}{g:Int->Int->Int}
  (rule:∀(i j:Int)(t u:Tok)(s:Shared)(Q:Value->Shared->Prop)(E:Value->Shared->Prop),C i j->Q (.int (g i j) s.toks) { s with toks:=s.toks+1 }->wpAny (model X.prog X.w) X.A (f (.int i t) (.int j u)) Q E s):
  OpR X f (rI C fun i j=>.int (g i j)):=by
 intro pins s σ H x y v u Q I rx z h
 obtain⟨i,j,rfl,rfl,G,q⟩:=h
 obtain⟨t,rfl⟩:=rx
 obtain⟨t',rfl⟩:=z
 exact rule i j t t' s _ _ G ⟨.int (g i j),H,I.tok _,⟨_,rfl⟩,q⟩
theorem opI0 {f:Value->Value->Sem Value}{g:Int->Int->Int}
  (rule:∀(i j:Int)(t u:Tok)(s:Shared)(Q:Value->Shared->Prop)(E:Value->Shared->Prop),Q (.int (g i j) s.toks) { s with toks:=s.toks+1 }->wpAny (model X.prog X.w) X.A (f (.int i t) (.int j u)) Q E s):
  OpR X f (rI0 fun i j=>.int (g i j)):=by
 intro pins s σ H x y v u Q I rx z h
 obtain⟨i,j,rfl,rfl,q⟩:=h
 obtain⟨t,rfl⟩:=rx
 obtain⟨t',rfl⟩:=z
 exact rule i j t t' s _ _ ⟨.int (g i j),H,I.tok _,⟨_,rfl⟩,q⟩
theorem opB0 {f:Value->Value->Sem Value}{g:Int->Int->Bool}
  (rule:∀(i j:Int)(t u:Tok)(s:Shared)(Q:Value->Shared->Prop)(E:Value->Shared->Prop),Q (.bool (g i j)) s->wpAny (model X.prog X.w) X.A (f (.int i t) (.int j u)) Q E s):
  OpR X f (rI0 fun i j=>.bl (g i j)):=by
 intro pins s σ H x y v u Q I rx z h
 obtain⟨i,j,rfl,rfl,q⟩:=h
 obtain⟨t,rfl⟩:=rx
 obtain⟨t',rfl⟩:=z
 exact rule i j t t' s _ _ ⟨.bl (g i j),H,I,rfl,q⟩
noncomputable def CDiv (i j:Int):Prop:=0<j/\j<1073741824
noncomputable def CPow (i j:Int):Prop:=0<=j/\j<=1000000/\i.natAbs<2^64
noncomputable def CMul (i j:Int):Prop:=(-(2^64)<i/\i<2^64)\/(-(2^64)<j/\j<2^64)
theorem CMul.ok {i j:Int}(h:CMul i j):IntMulOk i j:=by
 rcases h with⟨h1,h2⟩|⟨h1,h2⟩
 .exact .of_left (intBits_le_64 h1 h2)
 .exact .of_right (intBits_le_64 h1 h2)
theorem two_pow_nn (k:Nat):(0:Int)<=2^k:=by
 rw[two_pow_cast]
 exact Int.natCast_nonneg _
theorem op_add:OpR X (binaryOp .Add) (rI0 fun i j=>.int (i+j)):=opI0 fun _ _ _ _ _ _ _ q=>add_int q
theorem op_sub:OpR X (binaryOp .Sub) (rI0 fun i j=>.int (i-j)):=opI0 fun _ _ _ _ _ _ _ q=>sub_int q
theorem op_mul:OpR X (binaryOp .Mult) (rI CMul fun i j=>.int (i*j)):=opI fun _ _ _ _ _ _ _ z q=>mul_int q z.ok
theorem op_fdiv:OpR X (binaryOp .FloorDiv) (rI CDiv fun i j=>.int (i / j)):=opI fun i j _ _ _ _ _ z q=>by
 have h1:(0:Int)<j:=z.1
 have h2:j<1073741824:=z.2
 exact floordiv_int (by omega) (by rw[Int.fdiv_eq_ediv_of_nonneg i (by omega)];exact q) (.inl (PyProof.noPylong_small (by omega)))
theorem op_mod:OpR X (binaryOp .Mod) (rI (fun _ j=>0<j) fun i j=>.int (i % j)):=opI fun i j _ _ _ _ _ z q=>by
 have h1:(0:Int)<j:=z
 exact mod_int' (by omega) (by rw[Int.fmod_eq_emod_of_nonneg i (by omega)];exact q)
theorem op_pow:OpR X (binaryOp .Pow) (rI CPow fun i j=>.int (i^j.toNat)):=opI fun _ _ _ _ _ _ _ z q=>pow_int_small z.1 z.2.1 z.2.2 q
theorem op_shr:OpR X (binaryOp .RShift) (rI (fun _ j=>0<=j) fun i j=>.int (i / 2^j.toNat)):=opI fun i j _ _ _ _ _ z q=>
 rshift_int z (by rw[Int.fdiv_eq_ediv_of_nonneg i (two_pow_nn _)];exact q)
theorem op_and:OpR X (binaryOp .BitAnd) (rI0 fun i j=>.int (Builtin.bitAnd i j)):=opI0 fun _ _ _ _ _ _ _ q=>and_int q
theorem unI {f:Value->Sem Value}{g:Int->Int}
  (rule:∀(i:Int)(t:Tok)(s:Shared)(Q:Value->Shared->Prop)(E:Value->Shared->Prop),Q (.int (g i) s.toks) { s with toks:=s.toks+1 }->wpAny (model X.prog X.w) X.A (f (.int i t)) Q E s):
  UnR X f (rU fun i=>.int (g i)):=by
 intro pins s σ H x v Q I rx h
 obtain⟨i,rfl,q⟩:=h
 obtain⟨t,rfl⟩:=rx
 exact rule i t s _ _ ⟨.int (g i),H,I.tok _,⟨_,rfl⟩,q⟩
theorem un_neg:UnR X (unaryOp .USub) (rU fun i=>.int (-i)):=unI fun _ _ _ _ _ q=>neg_int q
end
noncomputable def scal:V->V->Bool
 | .non,.non=>true| .non,.int _=>true| .int _,.non=>true| .non,.bl _=>true| .bl _,.non=>true| .non,.str _=>true| .str _,.non=>true
 | .int _,.int _=>true| .bl _,.bl _=>true| .str _,.str _=>true| .byt _,.byt _=>true
 | .int _,.str _=>true| .str _,.int _=>true| .bl _,.str _=>true| .str _,.bl _=>true
 |_,_=>false
noncomputable def rEq:R2:=fun x y H Q=>scal x y=true/\Q (.bl (decide (x=y))) H
noncomputable def rNe:R2:=fun x y H Q=>scal x y=true/\Q (.bl (!decide (x=y))) H
theorem dec_int {i j:Int}:decide (V.int i=V.int j)=(i==j):=by
 rw[Bool.eq_iff_iff]
 simp
theorem dec_bl {i j:Bool}:decide (V.bl i=V.bl j)=(i==j):=by
 rw[Bool.eq_iff_iff]
 simp
theorem dec_str {i j:Str}:decide (V.str i=V.str j)=(i==j):=by
 rw[Bool.eq_iff_iff]
 simp
theorem dec_byt {i j:Array UInt8}:decide (V.byt i=V.byt j)=(i.toList==j.toList):=by
 rw[Bool.eq_iff_iff]
 cases i
 cases j
 simp
section
variable {X:Cx}{a b c:Expr}{ta tb tc:TE}{pos:Pos}
theorem fin_bl {pins:List (Addr×Obj)}{σ:St}{H:Hp}{s:Shared}{Q:VK}{k j:Bool}(I:Inv X pins σ H s)(q:Q (.bl k) H)(e:k=j):EP X pins σ Q (.bool j) s:=by
 subst e
 exact⟨.bl k,H,I,rfl,q⟩
theorem op_eq:OpR X (compareOp .Eq) rEq:=by
 intro pins s σ H x y v u Q I rx z h
 obtain⟨G,q⟩:=h
 cases x with
 |non=>
  cases rx
  cases y with
  |non=>cases z;exact PySem.EqNone.eq_none_none (fin_bl I q (by simp))
  |bl j=>cases z;exact PySem.EqNone.eq_none_bool (fin_bl I q (by simp))
  |int j=>obtain⟨t',rfl⟩:=z;exact PySem.EqNone.eq_none_int (fin_bl I q (by simp))
  |str j=>obtain⟨t',rfl⟩:=z;exact PySem.EqNone.eq_none_str (fin_bl I q (by simp))
  |_=>exact absurd (show false=true from G) Bool.false_ne_true
 |bl i=>
  cases rx
  cases y with
  |non=>cases z;exact PySem.EqNone.eq_bool_none (fin_bl I q (by simp))
  |bl j=>cases z;exact eq_bool (fin_bl I q dec_bl)
  |str j=>obtain⟨t',rfl⟩:=z;exact PySem.EqMixed.eq_bool_str (fin_bl I q (by simp))
  |_=>exact absurd (show false=true from G) Bool.false_ne_true
 |int i=>
  obtain⟨t,rfl⟩:=rx
  cases y with
  |non=>cases z;exact PySem.EqNone.eq_int_none (fin_bl I q (by simp))
  |int j=>obtain⟨t',rfl⟩:=z;exact eq_int (fin_bl I q dec_int)
  |str j=>obtain⟨t',rfl⟩:=z;exact PySem.EqMixed.eq_int_str (fin_bl I q (by simp))
  |_=>exact absurd (show false=true from G) Bool.false_ne_true
 |str i=>
  obtain⟨t,rfl⟩:=rx
  cases y with
  |non=>cases z;exact PySem.EqNone.eq_str_none (fin_bl I q (by simp))
  |bl j=>cases z;exact PySem.EqMixed.eq_str_bool (fin_bl I q (by simp))
  |int j=>obtain⟨t',rfl⟩:=z;exact PySem.EqMixed.eq_str_int (fin_bl I q (by simp))
  |str j=>obtain⟨t',rfl⟩:=z;exact eq_str (fin_bl I q dec_str)
  |_=>exact absurd (show false=true from G) Bool.false_ne_true
 |byt i=>
  obtain⟨t,rfl⟩:=rx
  cases y with
  |byt j=>obtain⟨t',rfl⟩:=z;exact W.eq_bytes (fin_bl I q dec_byt)
  |_=>exact absurd (show false=true from G) Bool.false_ne_true
 |_=>cases y <;> exact absurd (show false=true from G) Bool.false_ne_true
theorem op_ne:OpR X (compareOp .NotEq) rNe:=by
 intro pins s σ H x y v u Q I rx z h
 obtain⟨G,q⟩:=h
 cases x with
 |non=>
  cases rx
  cases y with
  |non=>cases z;exact PySem.EqNone.ne_none_none (fin_bl I q (by simp))
  |bl j=>cases z;exact PySem.EqNone.ne_none_bool (fin_bl I q (by simp))
  |int j=>obtain⟨t',rfl⟩:=z;exact PySem.EqNone.ne_none_int (fin_bl I q (by simp))
  |str j=>obtain⟨t',rfl⟩:=z;exact PySem.EqNone.ne_none_str (fin_bl I q (by simp))
  |_=>exact absurd (show false=true from G) Bool.false_ne_true
 |bl i=>
  cases rx
  cases y with
  |non=>cases z;exact PySem.EqNone.ne_bool_none (fin_bl I q (by simp))
  |bl j=>cases z;exact ne_bool (fin_bl I q (congrArg not dec_bl))
  |str j=>obtain⟨t',rfl⟩:=z;exact PySem.EqMixed.ne_bool_str (fin_bl I q (by simp))
  |_=>exact absurd (show false=true from G) Bool.false_ne_true
 |int i=>
  obtain⟨t,rfl⟩:=rx
  cases y with
  |non=>cases z;exact PySem.EqNone.ne_int_none (fin_bl I q (by simp))
  |int j=>obtain⟨t',rfl⟩:=z;exact ne_int (fin_bl I q (congrArg not dec_int))
  |str j=>obtain⟨t',rfl⟩:=z;exact PySem.EqMixed.ne_int_str (fin_bl I q (by simp))
  |_=>exact absurd (show false=true from G) Bool.false_ne_true
 |str i=>
  obtain⟨t,rfl⟩:=rx
  cases y with
  |non=>cases z;exact PySem.EqNone.ne_str_none (fin_bl I q (by simp))
  |bl j=>cases z;exact PySem.EqMixed.ne_str_bool (fin_bl I q (by simp))
  |int j=>obtain⟨t',rfl⟩:=z;exact PySem.EqMixed.ne_str_int (fin_bl I q (by simp))
  |str j=>obtain⟨t',rfl⟩:=z;exact ne_str (fin_bl I q (congrArg not dec_str))
  |_=>exact absurd (show false=true from G) Bool.false_ne_true
 |byt i=>
  obtain⟨t,rfl⟩:=rx
  cases y with
  |byt j=>obtain⟨t',rfl⟩:=z;exact W.ne_bytes (fin_bl I q (congrArg not dec_byt))
  |_=>exact absurd (show false=true from G) Bool.false_ne_true
 |_=>cases y <;> exact absurd (show false=true from G) Bool.false_ne_true
theorem op_lt:OpR X (compareOp .Lt) (rI0 fun i j=>.bl (decide (i<j))):=opB0 fun _ _ _ _ _ _ _ q=>lt_int q
theorem op_le:OpR X (compareOp .LtE) (rI0 fun i j=>.bl (decide (i<=j))):=opB0 fun _ _ _ _ _ _ _ q=>le_int q
theorem op_gt:OpR X (compareOp .Gt) (rI0 fun i j=>.bl (decide (j<i))):=opB0 fun _ _ _ _ _ _ _ q=>gt_int q
theorem op_ge:OpR X (compareOp .GtE) (rI0 fun i j=>.bl (decide (j<=i))):=opB0 fun _ _ _ _ _ _ _ q=>ge_int q
theorem OpR.or {f:Value->Value->Sem Value}{r z:R2}(h:OpR X f r)(h':OpR X f z):OpR X f (fun x y H Q=>r x y H Q\/z x y H Q):=by
 intro pins s σ H x y v u Q I rx j q
 rcases q with q|q
 .exact h pins s σ H x y v u Q I rx j q
 .exact h' pins s σ H x y v u Q I rx j q
theorem nomark (b:Expr){j:CmpOp}(h:j≠ .In:=by decide)(h2:j≠ .NotIn:=by decide):behindInMarks j b=false:=by
 have G:(j==CmpOp.In)=false:=by cases j <;> first|rfl|exact absurd rfl h
 have z:(j==CmpOp.NotIn)=false:=by cases j <;> first|rfl|exact absurd rfl h2
 cases b <;> simp[behindInMarks,G,z]
theorem pe_cmpR {j:CmpOp}{r:R2}(G:OpR X (compareOp j) r)(ha:PE X a ta)(J:PE X b tb)(hm:behindInMarks j b=false):PE X (.Compare a [j] [b] pos) (tOp r ta tb):=by
 intro pins s σ H Q I h
 exact wpAny_Compare1 (binT ha J I h fun v u s2 x y H2 L rx z q=>G pins s2 σ H2 x y v u Q L rx z q) hm
noncomputable def tTest (t:TE):TT:=fun σ H Q=>t σ H fun x H'=>∃ k,x= .bl k/\Q k H'
theorem pt_cmpR {j:CmpOp}{r:R2}(Y:OpR X (compareOp j) r)(ha:PE X a ta)(Z:PE X b tb)(hm:behindInMarks j b=false):PT X (.Compare a [j] [b] pos) (tTest (tOp r ta tb)):=by
 intro pins s σ H Q I h
 refine wpAny_isTrue_Compare1 (thn (ha pins s σ H _ I h) fun v s1 ⟨x,H1,I1,L,U⟩=>thn (Z pins s1 σ H1 _ I1 U) fun u s2 ⟨y,H2,I2,J,O⟩=>
  thn (Y pins s2 σ H2 x y v u _ I2 L J O) fun c s3 ⟨z,H3,I3,G,k,e,N⟩=>?_) hm
 subst e
 cases G
 exact wpAny_truthy_bool ⟨H3,I3,N⟩
noncomputable def tChain (r r':R2)(ta tb tc:TE):TE:=fun σ H Q=>ta σ H fun x H1=>tb σ H1 fun y H2=>r x y H2 fun z H3=>∃ k,z= .bl k/\
 (if k=true then tc σ H3 fun w' H4=>r' y w' H4 Q else Q (.bl false) H3)
theorem pt_chain {J j:CmpOp}{r O:R2}(ho:OpR X (compareOp J) r)(L:OpR X (compareOp j) O)(ha:PE X a ta)(hb:PE X b tb)(hc:PE X c tc)
  (hm:lastMarks [J,j] [b,c]=false:=by with_unfolding_all rfl):PT X (.Compare a [J,j] [b,c] pos) (tTest (tChain r O ta tb tc)):=by
 intro pins s σ H Q I h
 refine isTrue_chain (thn (ha pins s σ H _ I h) fun v s1 ⟨x,H1,I1,r1,q1⟩=>test_link (thn (hb pins s1 σ H1 _ I1 q1) fun u s2 ⟨y,H2,I2,N,q2⟩=>
  thn (ho pins s2 σ H2 x y v u _ I2 r1 N q2) fun d s3 ⟨z,Z,Y,r3,k,e,U⟩=>?_)) hm
 subst e
 cases r3
 refine wpAny_truthy_bool ?_
 cases k with
 |false=>
  obtain⟨k',e',q'⟩:=U
  cases e'
  exact ite_ff ⟨Z,Y,q'⟩
 |true=>
  refine ite_tt (test_last (thn (hc pins s3 σ Z _ Y U) fun w' s4 ⟨z',H4,I4,r4,q4⟩=>thn (L pins s4 σ H4 y z' u w' _ I4 N r4 q4) fun d' s5 G=>?_))
  obtain⟨z2,H5,I5,r5,k2,e2,q5⟩:=G
  subst e2
  cases r5
  exact wpAny_truthy_bool ⟨H5,I5,q5⟩
noncomputable def TruV (K:W.Frag)(x:V)(H:Hp)(k:Bool):Prop:=
 match x with
 | .non=>k=false
 | .bl b=>k=b
 | .int i=>k=(i != 0)
 | .str y=>y.length<=sizeLine/\k=((y.length:Int) != 0)
 | .byt y=>y.size<=sizeLine/\k=((y.size:Int) != 0)
 | .ref p=>(∃ xs,SqL K H p xs/\k= !xs.isEmpty)\/(∃ xs,SqT K H p xs/\k= !xs.isEmpty)\/∃ kvs,H p=some (.dK kvs)/\k= !kvs.isEmpty
 |_=>False
theorem isEmpty_kv {κ:Type}{kvs:List (κ×V)}{vs:List (κ×Value)}(r:KV kvs vs):(!vs.isEmpty)= !kvs.isEmpty:=by
 cases r <;> rfl
theorem isEmpty_of {xs:List V}{its:List Value}(r:Vals xs its):(!its.toArray.isEmpty)= !xs.isEmpty:=by
 cases r <;> simp
theorem line63:(sizeLine:Nat)<2^63:=by rw[sizeLine_eq];decide
theorem tru_ok:TruR X (fun x H Q=>∃ k,TruV X.K x H k/\Q k H):=by
 intro pins s σ H x v Q I rx h
 obtain⟨k,e,q⟩:=h
 have U:=line63
 have O:sizeLine=16777216:=sizeLine_eq
 cases x with
 |non=>
  cases rx
  have j:k=false:=e
  subst j
  exact truthy_none ⟨H,I,q⟩
 |bl b=>
  cases rx
  have j:k=b:=e
  subst j
  exact wpAny_truthy_bool ⟨H,I,q⟩
 |int i=>
  obtain⟨t,rfl⟩:=rx
  have j:k=(i != 0):=e
  subst j
  exact PySem.P.truthy_int ⟨H,I,q⟩
 |str y=>
  obtain⟨t,rfl⟩:=rx
  obtain⟨L,j⟩:y.length<=sizeLine/\k=((y.length:Int) != 0):=e
  subst j
  exact PySem.P.truthy_str (by omega) ⟨H,I.tok _,q⟩
 |byt y=>
  obtain⟨t,rfl⟩:=rx
  obtain⟨L,j⟩:y.size<=sizeLine/\k=((y.size:Int) != 0):=e
  subst j
  exact W.truthy_bytes (by omega) ⟨H,I.tok _,q⟩
 |ref p=>
  cases rx
  have j:(∃ xs,SqL X.K H p xs/\k= !xs.isEmpty)\/(∃ xs,SqT X.K H p xs/\k= !xs.isEmpty)\/∃ kvs,H p=some (.dK kvs)/\k= !kvs.isEmpty:=e
  rcases j with⟨xs,G,j⟩|⟨xs,G,j⟩|⟨kvs,G,j⟩
  .subst j
   obtain⟨its,r,pl,J⟩:=I.list G
   have z:=r.length
   exact wpAny_truthy_list pl.isList (by simp only[size_toArray];omega) ⟨H,I.tok _,by rw[isEmpty_of r];exact q⟩
  .subst j
   obtain⟨its,r,pl,J⟩:=I.tuple G
   have z:=r.length
   exact truthy_tuple pl (by simp only[size_toArray];omega) ⟨H,I.tok _,by rw[isEmpty_of r];exact q⟩
  .subst j
   obtain⟨J,N,vs,r,m⟩:kvs.length<=sizeLine/\(p==sysModules)=false/\∃ vs,KV kvs vs/\s.heap.DictOf (mixKind X.prog X.w) p vs:=I.hok p _ G
   have z:kvs.length=vs.length:=Paired.length r
   exact wpAny_truthy_dict N m (by omega) ⟨H,I.tok _,by rw[isEmpty_kv r];exact q⟩
 |_=>exact(show False from e).elim
theorem pt_truth (ha:PE X a ta)(J:∀ j,isTrue a X.env j=(do let v ← j;standAt a.pos;holding [v] (truthy v))):
  PT X a (fun σ H Q=>ta σ H fun x H'=>∃ k,TruV X.K x H' k/\Q k H'):=by
 intro pins s σ H Q I h
 exact isTrue_plain (thn (ha pins s σ H _ I h) fun v s1 ⟨x,H1,L,z,G⟩=>tru_ok pins s1 σ H1 x v Q L z G) (J _)
theorem vals1 {x:V}{us:List Value}(r:Vals [x] us):∃ u,us=[u]/\RelV x u:=by
 cases r with
 |cons z j=>cases j;exact⟨_,rfl,z⟩
theorem vals2 {x y:V}{us:List Value}(r:Vals [x,y] us):∃ u j,us=[u,j]/\RelV x u/\RelV y j:=by
 cases r with
 |cons L J=>
  cases J with
  |cons G z=>cases z;exact⟨_,_,rfl,L,G⟩
theorem call_abs:CallR X (.builtin "abs") (fun xs H Q=>∃ i,xs=[.int i]/\Q (.int (if i<0 then -i else i)) H):=by
 intro pins s σ H xs us Q I r h
 obtain⟨i,rfl,q⟩:=h
 obtain⟨u,rfl,t,rfl⟩:=vals1 r
 exact call_abs_int fun u tk=>⟨.int (if i<0 then -i else i),H,I.tok _,⟨_,rfl⟩,q⟩
theorem call_max2 (G:X.calm=true):CallR X (.builtin "max") (fun xs H Q=>∃ i j,xs=[.int i,.int j]/\Q (.int (if j>i then j else i)) H):=by
 intro pins s σ H xs us Q I r h
 obtain⟨i,j,rfl,q⟩:=h
 obtain⟨u,J,rfl,⟨t,rfl⟩,⟨t',rfl⟩⟩:=vals2 r
 refine max_two_ints (I.ok.hd G) fun h' tk k=>⟨_,H,I.kept k,?_,q⟩
 by_cases z:j>i
 .rw[if_pos z,if_pos z];exact⟨_,rfl⟩
 .rw[if_neg z,if_neg z];exact⟨_,rfl⟩
theorem call_min2 (G:X.calm=true):CallR X (.builtin "min") (fun xs H Q=>∃ i j,xs=[.int i,.int j]/\Q (.int (if j<i then j else i)) H):=by
 intro pins s σ H xs us Q I r h
 obtain⟨i,j,rfl,q⟩:=h
 obtain⟨u,J,rfl,⟨t,rfl⟩,⟨t',rfl⟩⟩:=vals2 r
 refine min_two_ints (I.ok.hd G) fun h' tk k=>⟨_,H,I.kept k,?_,q⟩
 by_cases z:j<i
 .rw[if_pos z,if_pos z];exact⟨_,rfl⟩
 .rw[if_neg z,if_neg z];exact⟨_,rfl⟩
theorem call_int1:CallR X (.type "int") (fun xs H Q=>(∃ i,xs=[.int i]/\Q (.int i) H)\/∃ k,xs=[.bl k]/\Q (.int (if k then 1 else 0)) H):=by
 intro pins s σ H xs us Q I r h
 rcases h with⟨i,rfl,q⟩|⟨k,rfl,q⟩
 .obtain⟨u,rfl,t,rfl⟩:=vals1 r
  exact call_int_int ⟨.int i,H,I,⟨_,rfl⟩,q⟩
 .obtain⟨u,rfl,r1⟩:=vals1 r
  cases r1
  exact call_int_bool ⟨.int (if k then 1 else 0),H,I.tok _,⟨_,rfl⟩,q⟩
end
end
section
structure ObjM (h:Heap)(x dx C:Addr)(mA:Str->Option Value):Prop where
 obj:h.get? x=some (W.instObj C dx)
 ns:h.Ns1 dx mA
 ne:dx≠x
section
variable {prog:Program}{w:World}{A:Around}{E:Value->Shared->Prop}{s:Shared}{K:W.Frag}{x dx C f:Addr}{mA:Str->Option Value}{name:Str}{v:Value}
end
section
variable {P:Program}{w:World}{H H':Hp}{h h':Heap}{a C dx:Addr}{fs fs':List (Str×V)}
end
structure Cls (K:W.Frag)(C:Addr):Prop where
 pg:W.plainGet K C Str.empty=true
 hd:W.hasDictIn K C=true
 po:W.plainOver K C=true
 sa:W.findIn K (.ref C) "__setattr__"=some (some (.builtin "object.__setattr__"))
structure Con (K:W.Frag)(C:Addr)(f:Str)(v:V)(u:Value):Prop where
 at_:W.findIn K (.ref C) f=some (some u)
 rel:RelV v u
 get:W.specialIn K u "__get__"=some none
 cp:W.copiedNames.contains f=false
structure Meth (K:W.Frag)(C:Addr)(m:Str)(f:Addr):Prop where
 at_:W.findIn K (.ref C) m=some (some (.ref f))
 fn:W.isFn K (.ref f)=true
 kp:W.keepIn K (.ref f)=true
section
variable {X:Cx}{pins:List (Addr×Obj)}{σ:St}{H:Hp}{s:Shared}{a C dx:Addr}{fs:List (Str×V)}{f:Str}{v:V}{A:Around}{E:Value->Shared->Prop}
end
section
variable {X:Cx}{o e value:Expr}{f:Str}{pos pos' tpos:Pos}{ta tv:TE}
end
section
variable {X:Cx}{pins:List (Addr×Obj)}{σ:St}{H:Hp}{s:Shared}{A:Around}{E:Value->Shared->Prop}{Q:Value->Shared->Prop}{c:Value}{b:Bool}
inductive TyOf (K:W.Frag)(H:Hp):V->Value->Prop where
 |non:TyOf K H .non (.type "NoneType")
 |bl (x:Bool):TyOf K H (.bl x) (.type "bool")
 |int (i:Int):TyOf K H (.int i) (.type "int")
 |str (x:Str):TyOf K H (.str x) (.type "str")
 |flt (x:UInt64):TyOf K H (.flt x) (.type "float")
 |lst {a:Addr} {xs:List V} (e:H a=some (.lst xs)):TyOf K H (.ref a) (.type "list")
 |frz {a:Addr} {o:Obj} {xs:List V} (e:H a=some (.frz o (.lst xs))):TyOf K H (.ref a) (.type "list")
 |tup {a:Addr} {xs:List V} (e:H a=some (.tup xs)):TyOf K H (.ref a) (.type "tuple")
 |dK {a:Addr} {kvs:List (Key×V)} (e:H a=some (.dK kvs)):TyOf K H (.ref a) (.type "dict")
 |dT {a:Addr} {kvs:List (List Key×V)} (e:H a=some (.dT kvs)):TyOf K H (.ref a) (.type "dict")
 |ins {a C dx:Addr} {fs:List (Str×V)} (e:H a=some (.ins C dx fs)) (cl:Cls K C) (ha:W.findIn K (.ref C) "__class__"=some (some (.builtin "object.__class__")))
   (hn:W.specialIn K (.builtin "object.__class__") "__get__"=some (some (.builtin "getset_descriptor.__get__"))) (htk:W.takesIn K (.builtin "object.__class__")=some true)
   (hm:W.mroIn K C (.type "object")=some true):TyOf K H (.ref a) (.ref C)
end
end
section
structure Room (k:Nat)(A:Around):Prop where
 hd:A.handled=none
 dp:A.depth+3*k+5<recursionLimit
 un:A.units+16*k+200<cLine
theorem Room.mono {j k:Nat}{A:Around}(r:Room k A)(h:j<=k):Room j A:=⟨r.hd,by have:=r.dp;omega,by have:=r.un;omega⟩
theorem Room.deeper {k:Nat}{A:Around}(r:Room (k+1) A)(env:Env):Room k (A.deeper env):=
 ⟨r.hd,by have:=r.dp;show A.depth+1+3*k+5<_;omega,by have:=r.un;show A.units+3+16*k+200<_;omega⟩
theorem Room.depth {k:Nat}{A:Around}(r:Room k A):A.depth<recursionLimit:=by have:=r.dp;omega
theorem Room.units {k:Nat}{A:Around}(r:Room k A):A.units+64<cLine:=by have:=r.un;omega
noncomputable def tNil:TA:=fun _ H Q=>Q [] H
noncomputable def tCons (ta:TE)(tr:TA):TA:=fun σ H Q=>ta σ H fun x H1=>tr σ H1 fun xs H2=>Q (x::xs) H2
section
variable {X:Cx}{e:Expr}{es:List Expr}{te:TE}{t:TA}{pos:Pos}
theorem pa_nil:PA X [] tNil:=fun _ _ _ _ H Q I h=>Calls.spliced_nil ⟨[],H,I,.nil,h⟩
theorem pa_cons (ha:PE X e te)(O:PA X es t)(N:starEach (e::es) X.env=(false,eval e X.env)::starEach es X.env:=by rfl):PA X (e::es) (tCons te t):=by
 intro pos pins s σ H Q I h
 rw[N]
 show wpAny _ _ (spliced ((false,eval e X.env)::backTo pos (starEach es X.env))) _ _ s
 refine Calls.spliced_cons (thn (ha pins s σ H _ I h) fun u s1 j=>?_)
 obtain⟨x,H1,Y,G,L⟩:=j
 exact thn (O pos pins s1 σ H1 _ Y L) fun us s2 ⟨xs,H2,U,z,J⟩=>⟨x::xs,H2,U,.cons G z,J⟩
noncomputable def tTup (t:TA):TE:=fun σ H Q=>t σ H fun xs H1=>xs.length<=sizeLine/\∀ p,H1 p=none->Q (.ref p) (upd H1 p (.tup xs))
noncomputable def tLst (t:TA):TE:=fun σ H Q=>t σ H fun xs H1=>xs.length<=sizeLine/\∀ p,H1 p=none->Q (.ref p) (upd H1 p (.lst xs))
theorem pe_tup {G}(h:PA X es t):PE X (.Tuple es G pos) (tTup t):=by
 intro pins s σ H Q I J
 refine wpAny_Tuple_spliced (thn (h pos pins s σ H _ I J) fun us s1 ⟨xs,H1,j,r,z,q⟩=>⟨by rw[<-r.length];exact z,?_⟩)
 have L:H1 s1.heap.objs.size=none:=j.hok.fresh (Nat.le_refl _)
 refine⟨.ref s1.heap.objs.size,upd H1 s1.heap.objs.size (.tup xs),j.laid (t':=s1.toks) (fun b u e=>Heap.get?_push_of_some _ e) (Nat.le_refl _) ?_,rfl,q _ L⟩
 exact⟨z,us,r,⟨_,Heap.get?_push_size _ rfl,rfl,_,rfl⟩⟩
theorem pe_lst (h:PA X es t):PE X (.List es pos) (tLst t):=by
 intro pins s σ H Q I G
 refine wpAny_List_spliced (thn (h pos pins s σ H _ I G) fun us s1 ⟨xs,H1,j,r,z,q⟩=>⟨by rw[<-r.length];exact z,?_⟩)
 have J:H1 s1.heap.objs.size=none:=j.hok.fresh (Nat.le_refl _)
 refine⟨.ref s1.heap.objs.size,upd H1 s1.heap.objs.size (.lst xs),j.laid (t':=s1.toks) (fun b u e=>Heap.get?_push_of_some _ e) (Nat.le_refl _) ?_,rfl,q _ J⟩
 exact⟨z,us,0,r,Heap.get?_push_size _ rfl⟩
end
noncomputable abbrev Sp:=List V->Hp->VK->XK->Prop
noncomputable abbrev CXT:=List Env->Hp->Shared->XK->Value->Shared->Prop
structure Env0 (P:Program)(w:World)(K:W.Frag)(mg:Str->Option Value)(base:Heap)(A:Around)(outer:List Env)(s:Shared)(H:Hp):Prop where
 frames:A.frames=some outer
 mod:Mod K mg base
 bs:∀ b o,base.get? b=some o->s.heap.get? b=some o/\H b=none
 bsz:base.objs.size<=s.heap.objs.size
 funs:s.heap.FunFrames base outer
 frf:∀ b∈frs outer,H b=none
 hok:HOk P w H s.heap
 bare:AllBare s.gens
noncomputable def CE (outer:List Env)(P:Program)(w:World)(H:Hp)(s:Shared)(Q:VK)(u:Value)(s':Shared):Prop:=
 ∃ v H',s'.os=s.os/\AllBare s'.gens/\Un (frs outer) [] H H' s.heap s'.heap/\HOk P w H' s'.heap/\RelV v u/\Q v H'
noncomputable def CR (CX:CXT)(outer:List Env)(P:Program)(w:World)(H:Hp)(s:Shared)(Q:VK)(E:XK)(r:Result)(s':Shared):Prop:=
 match r with
 | .ok (.ret u)=>CE outer P w H s Q u s'
 | .ok _=>False
 | .error e=>CX outer H s E e s'
structure FnOk (P:Program)(w:World)(K:W.Frag)(mg:Str->Option Value)(base:Heap)(CX:CXT)(k:Nat)(f:Addr)(fd:FuncData)(ps:List Str)(sp:Sp):Prop where
 len:∀ vs H Q E,sp vs H Q E->vs.length=ps.length
 run:∀(A:Around)(outer:List Env)(s:Shared)(H:Hp)(args:Args)(us:List Value)(vs:List V)(Q:VK)(E:XK),Room k A->Env0 P w K mg base A outer s H->BindsTo s fd args (ps.zip us)->Vals vs us->sp vs H Q E->
  codeAny (model P w) A (.call (.ref f) args) (CR CX outer P w H s Q E) s
theorem FnOk.mono {P:Program}{w:World}{K:W.Frag}{mg:Str->Option Value}{base:Heap}{CX:CXT}{j k:Nat}{f:Addr}{fd:FuncData}{ps:List Str}{sp:Sp}(F:FnOk P w K mg base CX j f fd ps sp)(h:j<=k):
  FnOk P w K mg base CX k f fd ps sp:=⟨F.len,fun A outer s H args us vs Q E z=>F.run A outer s H args us vs Q E (z.mono h)⟩
section
variable {X:Cx}{pins:List (Addr×Obj)}{σ:St}{H:Hp}{s s':Shared}
theorem Inv.env0 (I:Inv X pins σ H s):Env0 X.prog X.w X.K X.mg X.base X.A X.stack s H:=
 ⟨I.ok.frames,I.ok.mod,I.bs,Nat.le_trans I.ok.bsz I.sz,I.stack,I.stkFree,I.hok,I.bare⟩
theorem Inv.after {Q:VK}{u:Value}(I:Inv X pins σ H s)(h:CE X.stack X.prog X.w H s Q u s'):EP X pins σ Q u s':=by
 obtain⟨v,H',os,bare,un,hok,r,q⟩:=h
 obtain⟨hh,g,d,t,j⟩:=s'
 obtain rfl:j=s.os:=os
 exact⟨v,H',I.call (h':=hh) (g':=g) (d':=d) (t':=t) (ch:=[]) un hok bare (fun b z=>absurd z (by simp)),r,q⟩
end
noncomputable def tCall (sp:Sp)(dvs:List V)(E:XK)(t:TA):TE:=fun σ H Q=>t σ H fun vs H1=>sp (vs++dvs) H1 Q E
noncomputable def Binds (K:W.Frag)(fd:FuncData)(ps:List Str)(ds:List Value):Prop:=
 ∀(s:Shared)(us:List Value),K.In s.heap->(us++ds).length=ps.length->BindsTo s fd ⟨us,[]⟩ (ps.zip (us++ds))
theorem Binds.all {K:W.Frag}{fd:FuncData}{ps:List Str}(h:∀ us:List Value,us.length=ps.length->bindArgs fd ⟨us,[]⟩=pure (ps.zip us)):Binds K fd ps []:=fun s us _ j=>by
 rw[append_nil]at j ⊢
 exact .of_eq (h us j)
noncomputable def Passes (CX:CXT)(X:Cx)(E:XK):Prop:=∀(pins:List (Addr×Obj))(σ:St)(H:Hp)(s:Shared)(e:Value)(s':Shared),Inv X pins σ H s->CX X.stack H s E e s'->X.xe e s'
section
variable {X:Cx}{CX:CXT}{k:Nat}{f C:Addr}{fd:FuncData}{ps:List Str}{sp:Sp}{dvs:List V}{ds:List Value}{E:XK}{x m:Str}{p pos apos:Pos}{e o:Expr}{es:List Expr}{ta:TE}{t:TA}
theorem run_fn {pins:List (Addr×Obj)}{σ:St}{H:Hp}{s:Shared}{Q:VK}{us:List Value}{vs:List V}(F:FnOk X.prog X.w X.K X.mg X.base CX k f fd ps sp)(J:Room k X.A)(N:Binds X.K fd ps ds)(hd:Vals dvs ds)(G:Passes CX X E)
  (I:Inv X pins σ H s) (r:Vals vs us) (h:sp (vs++dvs) H Q E):wpAny (model X.prog X.w) X.A (call (.ref f) us) (EP X pins σ Q) X.xe s:=by
 have z:Vals (vs++dvs) (us++ds):=r.append hd
 have L:(us++ds).length=ps.length:=by rw[<-z.length];exact F.len _ _ _ _ h
 refine wpAny_call (codeAny_mono (F.run X.A X.stack s H ⟨us,[]⟩ (us++ds) (vs++dvs) Q E J I.env0 (N s us I.kIn L) z h) fun r s' j=>?_)
 cases r with
 |error e=>exact G pins σ H s e s' I j
 |ok O=>
  cases O with
  |ret u=>exact I.after j
  |next=>exact False.elim j
  |brk=>exact False.elim j
  |cont=>exact False.elim j
theorem pe_call (F:FnOk X.prog X.w X.K X.mg X.base CX k f fd ps sp)(L:Room k X.A)(O:Gl X x)(hm:X.mg x=some (.ref f))(N:W.keepIn X.K (.ref f)=true)(Y:Binds X.K fd ps ds)(hd:Vals dvs ds)(J:Passes CX X E)
  (ha:PA X (e::es) t) (z:(x==("__debug__":Str))=false:=by decide) (U:starEach (e::es) X.env=(false,eval e X.env)::starEach es X.env:=by rfl) (j:(backTo pos (starEach es X.env)).any (·.1)=false:=by rfl):
  PE X (.Call (.Name x p) (e::es) [] pos) (tCall sp dvs E t):=by
 intro pins s σ H Q I h
 refine wpAny_Call_Name_kw (ld_glob I O hm ?_ z)
 refine W.callWith_K (h₀:=X.base) I.ok.mod.kin N (thn (ha pos pins s σ H _ I h) fun us s1 ⟨vs,H1,G,r,q⟩=>⟨G.kIn,?_⟩) U j
 exact run_fn F L Y hd J G r q
structure Mk (K:W.Frag)(C f:Addr):Prop where
 makes:W.makesIn K C=true
 init:W.findIn K (.ref C) "__init__"=some (some (.ref f))
 fn:W.isFn K (.ref f)=true
 kp:W.keepIn K (.ref C)=true
end
section
variable {X:Cx}{CX:CXT}{k:Nat}{f C:Addr}{fd:FuncData}{ps ks:List Str}{sp:Sp}{E:XK}{x m:Str}{p pos apos kpos:Pos}{e o:Expr}{es:List Expr}{kws:List Keyword}{te ta:TE}{t tk:TA}{nm:Option Str}
structure KBinds (K:W.Frag)(fd:FuncData)(ps ks:List Str)(g:List Value->List Value->List Value)(gV:List V->List V->List V):Prop where
 to:∀(s:Shared)(us ws:List Value),K.In s.heap->(g us ws).length=ps.length->BindsTo s fd ⟨us,ks.zip ws⟩ (ps.zip (g us ws))
 rel:∀{vs:List V}{us:List Value}{zs:List V}{ws:List Value},Vals vs us->Vals zs ws->Vals (gV vs zs) (g us ws)
variable {g:List Value->List Value->List Value}{gV:List V->List V->List V}
end
structure FnScope (N P:List Str)(sc:Scope):Prop where
 kind:sc.kind= .function
 co:sc.isCoroutine=false
 gen:sc.isGenerator=false
 nd:N.Nodup
 pre:N.take P.length=P
 par:∀ x∈P,sc.names.lookup x=some .local\/sc.names.lookup x=some .cell
 nofree:∀ y∈sc.names,y.2≠ .free
theorem bindL_out {kindOf:Str->Option NameKind}{x:Str}:∀{binds:List (Str×Value)}{m:Str->Option Value},(∀ v,(x,v)∉binds)->bindL kindOf binds m x=m x
 |[],_,_=>rfl
 | (n,v)::r,m,h=>by
  unfold bindL
  rw[bindL_out fun w hw=>h w (mem_cons_of_mem _ hw)]
  split
  .have:x≠n:=by rintro rfl;exact h v mem_cons_self
   simp[this]
  .rfl
theorem bindC_out {kindOf:Str->Option NameKind}{x:Str}:∀{binds:List (Str×Value)}{m:Str->Option Value},(∀ v,(x,v)∉binds)->bindC kindOf binds m x=m x
 |[],_,_=>rfl
 | (n,v)::r,m,h=>by
  unfold bindC
  rw[bindC_out fun w hw=>h w (mem_cons_of_mem _ hw)]
  split
  .rfl
  .have:x≠n:=by rintro rfl;exact h v mem_cons_self
   simp[this]
theorem bindL_get {kindOf:Str->Option NameKind}{x:Str}{v:Value}:∀{P:List Str}{vs:List Value}{i:Nat}{m:Str->Option Value},P.Nodup->P[i]? =some x->vs[i]? =some v->kindOf x=some .local->
  bindL kindOf (P.zip vs) m x=some v
 |[],_,_,_,_,h,_,_=>by simp at h
 |_::_,[],_,_,_,_,h,_=>by simp at h
 |p::P,w::vs,0,m,nd,h1,h2,hk=>by
  simp at h1 h2;subst h1;subst h2
  show bindL kindOf ((p,w)::P.zip vs) m p=_
  unfold bindL
  rw[bindL_out fun v j=>(List.nodup_cons.mp nd).1 (of_mem_zip j).1,if_pos hk]
  simp
 |p::P,w::vs,i+1,m,nd,h1,h2,hk=>by
  show bindL kindOf ((p,w)::P.zip vs) m x=_
  unfold bindL
  exact bindL_get (i:=i) (List.nodup_cons.mp nd).2 (by simpa using h1) (by simpa using h2) hk
theorem bindC_get {kindOf:Str->Option NameKind}{x:Str}{v:Value}:∀{P:List Str}{vs:List Value}{i:Nat}{m:Str->Option Value},P.Nodup->P[i]? =some x->vs[i]? =some v->kindOf x≠some .local->
  bindC kindOf (P.zip vs) m x=some v
 |[],_,_,_,_,h,_,_=>by simp at h
 |_::_,[],_,_,_,_,h,_=>by simp at h
 |p::P,w::vs,0,m,nd,h1,h2,hk=>by
  simp at h1 h2;subst h1;subst h2
  show bindC kindOf ((p,w)::P.zip vs) m p=_
  unfold bindC
  rw[bindC_out fun v j=>(List.nodup_cons.mp nd).1 (of_mem_zip j).1,if_neg hk]
  simp
 |p::P,w::vs,i+1,m,nd,h1,h2,hk=>by
  show bindC kindOf ((p,w)::P.zip vs) m x=_
  unfold bindC
  exact bindC_get (i:=i) (List.nodup_cons.mp nd).2 (by simpa using h1) (by simpa using h2) hk
noncomputable def start (N:List Str)(vs:List V):St:=vs.map some++List.replicate (N.length-vs.length) none
noncomputable def cxOf (CX:CXT)(P:Program)(w:World)(K:W.Frag)(mg:Str->Option Value)(base:Heap)(N:List Str)(qual:Str)(scope:Scope)(f:Addr)(cd:Value)(A:Around)(outer:List Env)(s:Shared)(H:Hp)(E:XK):Cx where
 prog:=P
 w:=w
 K:=K
 mg:=mg
 base:=base
 A:=A.deeper (envOfC qual scope s.heap.objs.size f cd)
 N:=N
 s₀:=s
 H₀:=H
 env:=envOfC qual scope s.heap.objs.size f cd
 outer:=outer
 stack:=envOfC qual scope s.heap.objs.size f cd::outer
 ex:=[]
 calm:=true
 fn:=fun _=>true
 pn:=[]
 xe:=fun e s'=>wpAny (model P w) (A.deeper (envOfC qual scope s.heap.objs.size f cd)) (leaving (envOfC qual scope s.heap.objs.size f cd) e) (fun _ s''=>CX outer H s E e s'') (fun e' s''=>CX outer H s E e' s'') s'
theorem cell_has {sc:Scope}{n:Nat}{x:Str}(h:sc.names.lookup x=some .cell):∃ c,(cellsFrom n sc.names []).lookup x=some c:=by
 have q:=W.cellsFrom_some sc.names n [] (.inl h)
 exact Option.isSome_iff_exists.mp q
theorem inv_start {CX:CXT}{P:Program}{w:World}{K:W.Frag}{mg:Str->Option Value}{base:Heap}{N ps:List Str}{qual:Str}{scope:Scope}{f:Addr}{cd:Value}{A:Around}{outer:List Env}{s s1:Shared}{H:Hp}{E:XK}{us:List Value}{vs:List V}
  (S:FnScope N ps scope) (hd:A.handled=none) (j:Env0 P w K mg base A outer s H) (hl:vs.length=ps.length) (r:Vals vs us)
  (x:InCallC s s.heap.objs.size (bindL (envOfC qual scope s.heap.objs.size f cd).kindOf (ps.zip us) fun _=>none) (cellsFrom (s.heap.objs.size+1) scope.names []) (bindC (envOfC qual scope s.heap.objs.size f cd).kindOf (ps.zip us) fun _=>none) s1):
  Inv (cxOf CX P w K mg base N qual scope f cd A outer s H E) [] (start N vs) H s1:=by
 have Z:ps.length<=N.length:=by have:=congrArg List.length S.pre;rw[length_take]at this;omega
 obtain⟨h1,tk,rfl,U⟩:=x.done
 have G:∀ b:Addr,b∉(cxOf CX P w K mg base N qual scope f cd A outer s H E).ex:=fun b z=>absurd (show b∈([]:List Addr)from z) (by simp)
 refine⟨⟨j.mod,S.kind,rfl,rfl,Nat.le_refl _,fun y z c h1 h2=>?_,fun y J=>?_,fun y c _ h=>?_,fun _=>hd,Around.frames_deeper j.frames,.inr ⟨rfl,rfl⟩,fun b z=>absurd z (G b),j.bs,j.bsz,fun b _ _=>G b,fun b z=>absurd z (G b),j.funs,j.frf⟩,
  rfl,j.bare,Un.kept U,⟨_,x.toInCall.ns,fun i y v h1 h2 h3=>?_⟩,fun y c h=>⟨_,x.cell y c h⟩,j.hok.fresh (Nat.le_refl _),fun y c h=>?_,fun p hp=>absurd (show p∈([]:List (Addr×Obj))from hp) (by simp),j.hok.kept U,?_⟩
 .exact name_of_addr x.apart (PySem.mem_of_lookup h1) (PySem.mem_of_lookup h2)
 .have J:scope.names.lookup y=some .cell\/scope.names.lookup y=some .free:=J
  rcases J with J|J
  .exact cell_has J
  .exact absurd rfl (S.nofree _ (PySem.mem_of_lookup J))
 .exact Nat.le_of_lt (x.above y c (PySem.mem_of_lookup h))
 .have hi:i<vs.length:=by
   unfold start at h2
   by_cases hi:i<vs.length
   .exact hi
   .rw[getElem?_append_right (by simpa using hi)]at h2
    rw[getElem?_replicate]at h2
    split at h2 <;> cases h2
  have ha:vs[i]? =some v:=by
   unfold start at h2
   rw[getElem?_append_left (by simpa using hi),getElem?_map]at h2
   cases e:vs[i]? with
   |none=>rw[e]at h2;cases h2
   |some a=>rw[e]at h2;cases h2;rfl
  obtain⟨u,O,Y⟩:=r.get ha
  have hp:ps[i]? =some y:=by
   rw[<-S.pre,getElem?_take_of_lt (by omega)];exact h1
  have L:ps.Nodup:=by rw[<-S.pre];exact S.nd.sublist (take_sublist _ _)
  refine⟨u,Y,?_⟩
  rcases S.par y (mem_of_getElem? hp)with k|k
  .exact .inl ⟨k,bindL_get L hp O k⟩
  .obtain⟨c,e⟩:=cell_has (n:=s.heap.objs.size+1) k
   refine .inr ⟨.inl k,c,e,?_⟩
   have q:=x.cell y c e
   rw[bindC_get L hp O (by show scope.names.lookup y≠_;rw[k];decide)]at q
   exact q
 .exact j.hok.fresh (Nat.le_of_lt (x.above y c (PySem.mem_of_lookup h)))
 .unfold start
  show _=N.length
  rw[length_append,length_map,length_replicate]
  omega
theorem fn_of {CX:CXT}{P:Program}{w:World}{K:W.Frag}{mg:Str->Option Value}{base:Heap}{k:Nat}{f:Addr}{name qual:Str}{params:Arguments}{body:List Stmt}{scope:Scope}{dV kV doc pm cdv ct oc:Value}{an od:Option Addr}
  {osl:Array (Option Value)} {N ps:List Str} {sp:Sp} (lk:K.lookup f=some ⟨oc,od,.func (W.fnOf name qual params body scope dV kV doc pm an cdv ct),osl⟩) (a1:W.codeIn K cdv qual=true) (S:FnScope N ps scope)
  (len:∀ vs H Q E,sp vs H Q E->vs.length=ps.length)
  (G:∀(A:Around)(outer:List Env)(s:Shared)(H:Hp)(vs:List V)(Q:VK)(E:XK),Room k (A.deeper (envOfC qual scope s.heap.objs.size f cdv))->sp vs H Q E->
   ∃ t,PSs (cxOf CX P w K mg base N qual scope f cdv A outer s H E) body t/\t { nx:=fun _ H'=>Q .non H',rt:=Q } (start N vs) H):
  FnOk P w K mg base CX (k+1) f (W.fnOf name qual params body scope dV kV doc pm an cdv ct) ps sp:=by
 refine⟨len,fun A outer s H args us vs Q E hr Y hb r O=>?_⟩
 have hl:=len _ _ _ _ O
 have KX:K.In s.heap:=Y.mod.kin.keeps fun b o e=>(Y.bs b o e).1
 have a0:s.heap.NoLimit:=Y.mod.nolimit.keeps fun b o e=>(Y.bs b o e).1
 have z:∀ y∈ps.zip us,scope.names.lookup y.1=some .local\/(scope.names.lookup y.1=some .cell/\((cellsFrom (s.heap.objs.size+1) scope.names []).lookup y.1).isSome=true):=fun⟨n,v⟩ hy=>by
  rcases S.par n (of_mem_zip hy).1 with q|q
  .exact .inl q
  .exact .inr ⟨q,W.cellsFrom_some _ _ _ (.inl q)⟩
 refine codeAny_call_function hr.depth (KX _ _ lk) rfl S.co S.gen rfl (W.codeRec_of KX a1) (hb _ _ _ _ ?_)
 refine wpAny_newFunctionEnv_cells S.kind z fun env he s1 x=>?_
 subst he
 refine⟨a0.keeps x.toInCall.keep,codeAny_func ?_⟩
 obtain⟨t,ht,hq⟩:=G A outer s H vs Q E (hr.deeper _) O
 have I:Inv (cxOf CX P w K mg base N qual scope f cdv A outer s H E) [] (start N vs) H s1:=inv_start S hr.hd Y hl r x
 refine wpAny_mono (ht [] s1 (start N vs) H _ I hq) (fun fl s' L=>?_) fun e s' L=>L
 have U:∀{j:St}{H':Hp}{v:V}{u:Value},Inv (cxOf CX P w K mg base N qual scope f cdv A outer s H E) [] j H' s'->RelV v u->Q v H'->CE outer P w H s Q u s':=
  fun{j H' v u} J Z q=>⟨v,H',J.os,J.bare,J.base,J.hok,Z,q⟩
 cases fl with
 |ret u=>
  obtain⟨v,j,H',J,Z,q⟩:=L
  exact U J Z q
 |next=>
  obtain⟨j,H',J,q⟩:=L
  exact U (v:=V.non) (u:=Value.none) J rfl q
 |brk=>
  obtain⟨_,_,_,q⟩:=L
  exact False.elim q
 |cont=>
  obtain⟨_,_,_,q⟩:=L
  exact False.elim q
end
section
section
variable {X:Cx}{x:Str}{p pos:Pos}{e:Expr}{es:List Expr}{t:TA}{id T:String}{r:List V->Hp->VK->Prop}
noncomputable def tCB (r:List V->Hp->VK->Prop)(t:TA):TE:=fun σ H Q=>t σ H fun vs H1=>r vs H1 Q
theorem pe_callB (U:CallR X (.builtin id) r)(N:Gl X x)(hm:X.mg x=none)(L:bootBuiltins x=some (.builtin id))(ha:PA X (e::es) t)(hn:x≠"__name__":=by decide)(z:(x==("__debug__":Str))=false:=by decide)
  (O:starEach (e::es) X.env=(false,eval e X.env)::starEach es X.env:=by rfl) (j:(backTo pos (starEach es X.env)).any (·.1)=false:=by rfl):PE X (.Call (.Name x p) (e::es) [] pos) (tCB r t):=by
 intro pins s σ H Q I h
 refine wpAny_Call_Name_kw (ld_blt I N hm L ?_ hn z)
 exact PyProof.Rows.callWith_builtin1 (thn (ha pos pins s σ H _ I h) fun us s1 ⟨vs,H1,Y,G,J⟩=>U pins s1 σ H1 vs us Q Y G J) O j
theorem pe_callTy (U:CallR X (.type T) r)(N:Gl X x)(hm:X.mg x=none)(L:bootBuiltins x=some (.type T))(ha:PA X (e::es) t)(hn:x≠"__name__":=by decide)(z:(x==("__debug__":Str))=false:=by decide)
  (O:starEach (e::es) X.env=(false,eval e X.env)::starEach es X.env:=by rfl) (j:(backTo pos (starEach es X.env)).any (·.1)=false:=by rfl):PE X (.Call (.Name x p) (e::es) [] pos) (tCB r t):=by
 intro pins s σ H Q I h
 refine wpAny_Call_Name_kw (ld_blt I N hm L ?_ hn z)
 exact PyProof.Rows.callWith_type1 (thn (ha pos pins s σ H _ I h) fun us s1 ⟨vs,H1,Y,G,J⟩=>U pins s1 σ H1 vs us Q Y G J) O j
end
end
end L2
namespace HT
open PySem PyProof.Rows
section
open PySem.SeqAt
open PySem.AutoSeq1 (wpAny_loadPart')
open PySem.MeetsSeq PySem.MeetsSeq2 PySem.MeetsSeq3
end
section
variable {prog:Program}{w:World}{A:Around}{E:Value->Shared->Prop}{s:Shared}
noncomputable def sIx (n d:Nat):Option Int->Nat
 |none=>d
 |some v=>if v<0 then (v+(n:Int)).toNat else min v.toNat n
theorem sIx_none (n d:Nat):sIx n d none=d:=rfl
theorem sIx_nat (n d k:Nat):sIx n d (some (k:Int))=min k n:=by
 show (if (k:Int)<0 then ((k:Int)+(n:Int)).toNat else min (k:Int).toNat n)=min k n
 rw[if_neg (by omega),Int.toNat_natCast]
end
end HT
namespace L2
open List
open PySem PySem.Spec PyProof.Rows
section
noncomputable abbrev TO:=St->Hp->(Option Int->Hp->Prop)->Prop
noncomputable def PO (X:Cx)(e:Option Expr)(t:TO):Prop:=
 ∀(pins:List (Addr×Obj))(s:Shared)(σ:St)(H:Hp)(Q:Option Int->Hp->Prop),Inv X pins σ H s->t σ H Q->
  wpAny (model X.prog X.w) X.A (evalPart e X.env) (fun u s'=>∃ o H',Inv X pins σ H' s'/\IsPart u o/\Q o H') X.xe s
noncomputable def tNoPart:TO:=fun _ H Q=>Q none H
noncomputable def tPart (t:TE):TO:=fun σ H Q=>t σ H fun x H1=>∃ i,x= .int i/\Q (some i) H1
section
variable {X:Cx}{e:Expr}{te:TE}{lo hi:Option Expr}{tl th:TO}{pos p2:Pos}
theorem po_none:PO X none tNoPart:=by
 intro pins s σ H Q I h
 rw[evalPart_none]
 exact wpAny_pure ⟨none,H,I,.none,h⟩
theorem po_some (h:PE X e te):PO X (some e) (tPart te):=by
 intro pins s σ H Q I hw
 rw[evalPart_some]
 refine thn (h pins s σ H _ I hw) fun u s1 j=>?_
 obtain⟨x,H1,J,z,G⟩:=j
 obtain⟨i,rfl,q⟩:=G
 obtain⟨t,rfl⟩:=z
 exact⟨some i,H1,J,.int i t,q⟩
noncomputable def SlR (X:Cx)(r:V->Option Int->Option Int->Hp->VK->Prop):Prop:=
 ∀(pins:List (Addr×Obj))(s:Shared)(σ:St)(H:Hp)(x:V)(v vl vu:Value)(lo hi:Option Int)(sl:Addr)(Q:VK),Inv X pins σ H s->RelV x v->s.heap.IsSliceOf sl vl vu .none->IsPart vl lo->IsPart vu hi->r x lo hi H Q->
  ∃ T id,typeLookup (.type T) "__getitem__"=pure (some (.builtin id))/\s.TypeIs v T/\wpAny (model X.prog X.w) X.A (getItem v (.ref sl)) (EP X pins σ Q) X.xe s
noncomputable def tSl (r:V->Option Int->Option Int->Hp->VK->Prop)(te:TE)(tl th:TO):TE:=fun σ H Q=>te σ H fun x H1=>tl σ H1 fun l H2=>th σ H2 fun u H3=>r x l u H3 Q
theorem pe_slice {r:V->Option Int->Option Int->Hp->VK->Prop}(hr:SlR X r)(he:PE X e te)(hl:PO X lo tl)(hu:PO X hi th):PE X (.Subscript e (.Slice lo hi none p2) pos) (tSl r te tl th):=by
 intro pins s σ H Q I h
 refine Subscript_ (thn (he pins s σ H _ I h) fun v s1 j=>?_)
 obtain⟨x,H1,I1,N,Y⟩:=j
 refine wpAny_Slice (thn (hl pins s1 σ H1 _ I1 Y) fun J s2 ⟨l,H2,I2,pl,U⟩=>thn (hu pins s2 σ H2 _ I2 U) fun G z j=>?_)
 obtain⟨u,L,I3,Z,O⟩:=j
 rw[evalPart_none]
 refine wpAny_pure ?_
 have I4:Inv X pins σ L { z with heap:=z.heap.push { cls:=.type "slice",data:=.fields #[J,G,.none] } }:=I3.kept (t':=z.toks) fun b ob q=>Heap.get?_push_of_some _ q
 obtain⟨T,id,hT,ht,hg⟩:=hr pins { z with heap:=z.heap.push { cls:=.type "slice",data:=.fields #[J,G,.none] } } σ L x v J G l u z.heap.objs.size Q I4 N (Heap.IsSliceOf.new ..) pl Z O
 show wpAny (model X.prog X.w) X.A (subscriptTail e (.Slice lo hi none p2) v (.ref z.heap.objs.size)) (EP X pins σ Q) X.xe { z with heap:=z.heap.push { cls:=.type "slice",data:=.fields #[J,G,.none] } }
 exact tail_any (ops:=[.ref z.heap.objs.size,v]) ht hT hg (by with_unfolding_all rfl)
noncomputable def cutV (xs:List V)(lo hi:Option Int):List V:=(xs.drop (HT.sIx xs.length 0 lo)).take (HT.sIx xs.length xs.length hi-HT.sIx xs.length 0 lo)
theorem cutV_length (xs:List V)(lo hi:Option Int):(cutV xs lo hi).length<=xs.length:=by
 unfold cutV
 rw[length_take,length_drop]
 omega
end
end
section
noncomputable def ixN (n:Nat)(i:Int):Option Nat:=if 0<=i then (if i<n then some i.toNat else none)else if -(n:Int)<=i then some (i+n).toNat else none
noncomputable def atI {α:Type}(xs:List α)(i:Int):Option α:=(ixN xs.length i).bind fun j=>xs[j]?
theorem ixN_seq {n:Nat}{i:Int}{j:Nat}(h:ixN n i=some j):seqIndex? i n=some j/\j<n/\ -(n:Int)<=i/\i<n:=by
 unfold ixN at h
 by_cases z:0<=i
 .rw[if_pos z]at h
  by_cases h1:i<n
  .rw[if_pos h1]at h
   have e:i.toNat=j:=Option.some.inj h
   exact⟨by rw[seqIndex_of z h1,e],by omega,by omega,h1⟩
  .rw[if_neg h1]at h;cases h
 .rw[if_neg z]at h
  by_cases h1:-(n:Int)<=i
  .rw[if_pos h1]at h
   have e:(i+n).toNat=j:=Option.some.inj h
   exact⟨by rw[seqIndex_neg (by omega) h1,e],by omega,h1,by omega⟩
  .rw[if_neg h1]at h;cases h
theorem atI_get {z:Type}{xs:List z}{i:Int}{v:z}(h:atI xs i=some v):∃ j,seqIndex? i xs.length=some j/\xs[j]? =some v/\j<xs.length/\ -(xs.length:Int)<=i/\i<xs.length:=by
 unfold atI at h
 cases e:ixN xs.length i with
 |none=>rw[e]at h;cases h
 |some j=>
  rw[e]at h
  obtain⟨h1,h2,J,G⟩:=ixN_seq e
  exact⟨j,h1,h,h2,J,G⟩
theorem atI_last {j:Type}(xs:List j)(v:j):atI (xs++[v]) (-1)=some v:=by
 have z:(xs++[v]).length=xs.length+1:=by simp
 have e:ixN (xs++[v]).length (-1)=some xs.length:=by
  unfold ixN
  rw[z,if_neg (by decide),if_pos (by omega)]
  congr 1
  omega
 unfold atI
 rw[e]
 show (xs++[v])[xs.length]? =some v
 simp
noncomputable def PlainIx (b:Expr):Prop:=∀ o i,subscripted b false o i=operate [o,i] (getItem o i)
noncomputable def IxR (X:Cx)(r:R2):Prop:=
 ∀(value slice:Expr)(pins:List (Addr×Obj))(s:Shared)(σ:St)(H:Hp)(x y:V)(v u:Value)(Q:VK),Inv X pins σ H s->RelV x v->RelV y u->r x y H Q->
  subscripted slice false v u=operate [v,u] (getItem v u)->wpAny (model X.prog X.w) X.A (subscriptTail value slice v u) (EP X pins σ Q) X.xe s
noncomputable def MtR (X:Cx)(id:String)(r:V->List V->Hp->VK->Prop):Prop:=
 ∀(pins:List (Addr×Obj))(s:Shared)(σ:St)(H:Hp)(x:V)(xs:List V)(v:Value)(us:List Value)(Q:VK),Inv X pins σ H s->RelV x v->Vals xs us->r x xs H Q->
  wpAny (model X.prog X.w) X.A (call (.builtin id) (v::us)) (EP X pins σ Q) X.xe s
section
variable {X:Cx}{a b:Expr}{ta tb:TE}{pos:Pos}
theorem pe_ix {r:R2}(G:IxR X r)(ha:PE X a ta)(J:PE X b tb)(z:PlainIx b):PE X (.Subscript a b pos) (tOp r ta tb):=by
 intro pins s σ H Q I h
 exact Subscript_ (binT ha J I h fun v u s2 x y H2 L rx j q=>G a b pins s2 σ H2 x y v u Q L rx j q (z _ _))
noncomputable def rIxL (K:W.Frag):R2:=fun x y H Q=>∃ p xs i v,x= .ref p/\y= .int i/\SqL K H p xs/\atI xs i=some v/\Q v H
theorem ix_list:IxR X (rIxL X.K):=by
 intro value J pins s σ H x y v u Q I rx Y h N
 obtain⟨p,xs,i,z,rfl,rfl,Z,he,q⟩:=h
 cases rx
 obtain⟨t,rfl⟩:=Y
 obtain⟨its,r,pl,hz⟩:=I.list Z
 obtain⟨j,h1,h2,h3,h4,h5⟩:=atI_get he
 obtain⟨w,U,L⟩:=r.get h2
 have hl:=r.length
 have hn:=line63
 have G:EP X pins σ Q w s:=⟨z,H,I,L,q⟩
 by_cases O:0<=i
 .have hj:i.toNat=j:=by
   rw[seqIndex_of O h5]at h1
   exact Option.some.inj h1
  exact item_listR pl.isList O (by omega) (by rw[hj];simpa using U) G N
 .have hj:(i+(its.toArray.size:Int)).toNat=j:=by
   rw[seqIndex_neg (by omega) h4]at h1
   rw[size_toArray,<-hl]
   exact Option.some.inj h1
  exact subscriptTail_builtinR (x:=w) pl.isList.typeIs slot_list_getitem.lookup
   (wpAny_getItem_list_neg (Q:=fun r s'=>r=w/\EP X pins σ Q r s') pl.isList (by omega) (by rw[size_toArray] <;> omega) (by omega) (by rw[hj];simpa using U) ⟨rfl,G⟩) N
theorem mapSeq_set (its:List Value)(n j:Nat)(u:Value):Obj.mapSeq (·.setIfInBounds j u) { cls:=.type "list",data:=.seq its.toArray n }={ cls:=.type "list",data:=.seq (its.set j u).toArray n }:=by
 simp[Obj.mapSeq]
theorem Inv.lst {pins:List (Addr×Obj)}{σ:St}{H:Hp}{s:Shared}{p:Addr}{xs:List V}(I:Inv X pins σ H s)(h:H p=some (.lst xs)):
  ∃(its:List Value)(n:Nat),Vals xs its/\s.heap.get? p=some { cls:=.type "list",data:=.seq its.toArray n }/\xs.length<=sizeLine:=by
 obtain⟨z,its,n,r,e⟩:=I.hok p _ h
 exact⟨its,n,r,e,z⟩
theorem Inv.lstUpd {pins:List (Addr×Obj)}{σ:St}{H:Hp}{s:Shared}{p:Addr}{xs ys:List V}{its its':List Value}{n n':Nat}{f:Obj->Obj}(I:Inv X pins σ H s)(h:H p=some (.lst xs))
  (G:s.heap.get? p=some { cls:=.type "list",data:=.seq its.toArray n }) (j:f { cls:=.type "list",data:=.seq its.toArray n }={ cls:=.type "list",data:=.seq its'.toArray n' }) (r:Vals ys its') (z:ys.length<=sizeLine) (t:Nat):
  Inv X pins σ (upd H p (.lst ys)) { s with heap:=s.heap.update p f,toks:=t }:=by
 have e:(s.heap.update p f).get? p=some { cls:=.type "list",data:=.seq its'.toArray n' }:=by
  rw[Heap.get?_update_self f G (by rw[j] <;> rfl),j]
 refine I.write (x:=p) (e:=p) (by rw[h];trivial) (.inl rfl) (fun b u J q=>(Heap.get?_update_other _ _ (Ne.symm J)).trans q) ⟨_,e⟩ ?_
 exact⟨z,its',n',r,e⟩
noncomputable def rSetL:V->V->V->Hp->(Hp->Prop)->Prop:=fun o i v H Q=>∃ p xs k j,o= .ref p/\i= .int k/\H p=some (.lst xs)/\ixN xs.length k=some j/\Q (upd H p (.lst (xs.set j v)))
theorem set_list:PSet X rSetL:=by
 intro pins s σ H o i v ov iv u Q I Y Z U h
 obtain⟨p,xs,k,j,rfl,rfl,hp,hj,q⟩:=h
 cases Y
 obtain⟨t,rfl⟩:=Z
 obtain⟨its,n,r,z,hz⟩:=I.lst hp
 obtain⟨h1,h2,L,J⟩:=ixN_seq hj
 have G:=r.length
 have hn:=line63
 have O:Inv X pins σ (upd H p (.lst (xs.set j v))) { s with heap:=s.heap.update p (Obj.mapSeq (·.setIfInBounds j u)) }:=
  I.lstUpd hp z (mapSeq_set its n j u) (r.set U j) (by rw[length_set];exact hz) s.toks
 by_cases N:0<=k
 .have hk:k.toNat=j:=by
   rw[seqIndex_of N J]at h1
   exact Option.some.inj h1
  exact W.ki_setAt z N (by omega) (by rw[size_toArray,<-G];exact J) (by rw[hk];exact⟨_,O,q⟩)
 .have hk:(k+(its.toArray.size:Int)).toNat=j:=by
   rw[seqIndex_neg (by omega) L]at h1
   rw[size_toArray,<-G]
   exact Option.some.inj h1
  exact W.ki_setBack z (by omega) (by rw[size_toArray,<-G];exact L) (by omega) (by rw[hk];exact⟨_,O,q⟩)
theorem slice_bounds (lo hi:Option Int)(n:Nat):(sliceBounds lo hi none n).1=((HT.sIx n 0 lo:Nat):Int)/\(sliceBounds lo hi none n).2.1=((HT.sIx n n hi:Nat):Int)/\(sliceBounds lo hi none n).2.2=1:=by
 refine⟨?_,?_,rfl⟩
 .cases lo with
  |none=>simp[sliceBounds,HT.sIx]
  |some i=>
   simp only[sliceBounds,HT.sIx,Option.getD_none,show (1:Int)>0 by decide,if_true]
   by_cases h:i<0
   .simp only[h,if_true] <;> omega
   .simp only[h,if_false] <;> omega
 .cases hi with
  |none=>simp[sliceBounds,HT.sIx]
  |some i=>
   simp only[sliceBounds,HT.sIx,Option.getD_none,show (1:Int)>0 by decide,if_true]
   by_cases h:i<0
   .simp only[h,if_true] <;> omega
   .simp only[h,if_false] <;> omega
theorem slicePick_cut (its:List Value)(lo hi:Option Int):slicePick its.toArray lo hi none=((its.drop (HT.sIx its.length 0 lo)).take (HT.sIx its.length its.length hi-HT.sIx its.length 0 lo)).toArray:=by
 obtain⟨h1,h2,j⟩:=slice_bounds lo hi its.toArray.size
 unfold slicePick
 rw[h1,h2,j]
 simp only[sliceRange_one,pick_run,size_toArray] <;> rfl
noncomputable def rSlL (K:W.Frag):V->Option Int->Option Int->Hp->VK->Prop:=fun x lo hi H Q=>∃ a xs,x= .ref a/\SqL K H a xs/\∀ p,H p=none->Q (.ref p) (upd H p (.lst (cutV xs lo hi)))
theorem sl_list:SlR X (rSlL X.K):=by
 intro pins s σ H x v U O lo hi sl Q I rx N pl G h
 obtain⟨a,xs,rfl,L,q⟩:=h
 cases rx
 obtain⟨its,r,z,J⟩:=I.list L
 have j:=r.length
 refine⟨"list",_,slot_list_getitem.lookup,z.isList.typeIs,?_⟩
 refine wpAny_getItem_list_slice z.isList N pl G .none (by simp) ?_ (by rw[size_toArray] <;> omega)
 rw[slicePick_cut,<-j]
 refine⟨.ref s.heap.objs.size,_,I.laid (t':=s.toks) (o:=.lst (cutV xs lo hi)) (fun b ob q=>Heap.get?_push_of_some _ q) (Nat.le_refl _) ?_,rfl,q _ (I.hok.fresh (Nat.le_refl _))⟩
 exact⟨Nat.le_trans (cutV_length xs lo hi) J,_,0,(r.drop (HT.sIx xs.length 0 lo)).take (HT.sIx xs.length xs.length hi-HT.sIx xs.length 0 lo),Heap.get?_push_size _ rfl⟩
theorem call_len_seq:CallR X (.builtin "len") (fun xs H Q=>∃ p ys,xs=[.ref p]/\(SqL X.K H p ys\/SqT X.K H p ys)/\Q (.int ys.length) H):=by
 intro pins s σ H xs us Q I r h
 obtain⟨p,ys,rfl,z,q⟩:=h
 obtain⟨u,rfl,rx⟩:=vals1 r
 cases rx
 have hn:=line63
 rcases z with z|z
 .obtain⟨its,r',pl,hz⟩:=I.list z
  have j:=r'.length
  exact Calls.call_len_list pl.isList (by simp only[size_toArray] <;> omega) ⟨.int ys.length,H,I.tok _,⟨s.toks+1,by rw[size_toArray,j]⟩,q⟩
 .obtain⟨its,r',pl,hz⟩:=I.tuple z
  have j:=r'.length
  exact len_tuple pl (by simp only[size_toArray] <;> omega) ⟨.int ys.length,H,I.tok _,⟨s.toks+1,by rw[size_toArray,j]⟩,q⟩
theorem call_list_of:CallR X (.type "list") (fun xs H Q=>∃ p ys,xs=[.ref p]/\(SqL X.K H p ys\/SqT X.K H p ys)/\∀ l,H l=none->Q (.ref l) (upd H l (.lst ys))):=by
 intro pins s σ H xs us Q I r h
 obtain⟨p,ys,rfl,J,q⟩:=h
 obtain⟨u,rfl,rx⟩:=vals1 r
 cases rx
 have N:∀(its:List Value),Vals ys its->ys.length<=sizeLine->∀(h':Heap)(z:Nat),(∀ b o',s.heap.get? b=some o'->h'.get? b=some o')->
   h'.get? s.heap.objs.size=some { cls:=.type "list",dict:=none,data:=.seq its.toArray z,slots:=#[] }->EP X pins σ Q (.ref s.heap.objs.size) { s with heap:=h' }:=fun its j G h' z kp e=>
  ⟨.ref s.heap.objs.size,_,I.laid (t':=s.toks) kp (Nat.le_refl _) (show ObjOk X.prog X.w _ h' _ (.lst ys)from⟨G,its,z,j,e⟩),rfl,q _ (I.hok.fresh (Nat.le_refl _))⟩
 rcases J with J|J
 .obtain⟨its,j,pl,G⟩:=I.list J
  have L:=j.length
  obtain⟨o,O,U,n,hd⟩:=pl.isList
  exact call_list_seq p (.inl rfl) O U hd (fun h' z kp e=>N its j G h' z kp e) (by simp only[size_toArray] <;> omega)
 .obtain⟨its,j,pl,G⟩:=I.tuple J
  have L:=j.length
  obtain⟨o,O,U,n,hd⟩:=pl
  exact call_list_seq p (.inr rfl) O U hd (fun h' z kp e=>N its j G h' z kp e) (by simp only[size_toArray] <;> omega)
noncomputable def tyV (K:W.Frag)(T:String)(x:V)(H:Hp):Prop:=match x with
 | .str _=>T="str"
 | .int _=>T="int"
 | .ref p=>(T="list"/\∃ xs,SqL K H p xs)\/(T="tuple"/\∃ o,K.lookup p=some o/\o.cls= .type "tuple"/\o.dict=none)\/
   (T="dict"/\((∃ kvs,H p=some (.dK kvs))\/∃ kvs,H p=some (.dT kvs)))\/(T="set"/\∃ S n,H p=some (.set S n))
 |_=>False
theorem tyV_is {pins:List (Addr×Obj)}{σ:St}{H:Hp}{s:Shared}{T:String}{x:V}{v:Value}(I:Inv X pins σ H s)(r:RelV x v)(ty:tyV X.K T x H):
  s.TypeIs v T/\∀ a,v= .ref a->∃ ob,s.heap.get? a=some ob/\ob.dict=none:=by
 cases x with
 |str z=>
  obtain⟨t,rfl⟩:=r
  cases (show T="str" from ty)
  exact⟨typeIs_str s z t,fun _ e=>nomatch e⟩
 |int i=>
  obtain⟨t,rfl⟩:=r
  cases (show T="int" from ty)
  exact⟨typeIs_int s i t,fun _ e=>nomatch e⟩
 |ref p=>
  cases r
  rcases ty with⟨rfl,xs,J⟩|⟨rfl,o,j,L,hd⟩|⟨rfl,j⟩|⟨rfl,S,n,j⟩
  .obtain⟨its,_,pl,_⟩:=I.list J
   refine⟨pl.isList.typeIs,fun a e=>?_⟩
   cases e
   obtain⟨o,n,e,c,hd,_⟩:=pl
   exact⟨o,e,hd⟩
  .refine⟨⟨o,I.kIn p o j,L⟩,fun a e=>?_⟩
   cases e
   exact⟨o,I.kIn _ o j,hd⟩
  .have z:∃ o,s.heap.get? p=some o/\o.ExactDict:=by
    rcases j with⟨kvs,j⟩|⟨kvs,j⟩
    .obtain⟨_,_,_,_,o,_,_,e,ex,_⟩:=I.hok p _ j
     exact⟨o,e,ex⟩
    .obtain⟨_,_,_,_,o,_,_,e,ex,_⟩:=I.hok p _ j
     exact⟨o,e,ex⟩
   obtain⟨o,e,ex⟩:=z
   refine⟨⟨o,e,ex.1⟩,fun a G=>?_⟩
   cases G
   exact⟨o,e,ex.2.1⟩
  .obtain⟨o,_,_,_,e,ex,_⟩:=I.hok p _ j
   refine⟨⟨o,e,ex.1⟩,fun a G=>?_⟩
   cases G
   exact⟨o,e,ex.2.1⟩
 |_=>exact False.elim ty
noncomputable def tBM (K:W.Frag)(T:String)(r:V->List V->Hp->VK->Prop)(to:TE)(t:TA):TE:=fun σ H Q=>to σ H fun x H1=>tyV K T x H1/\t σ H1 fun xs H2=>r x xs H2 Q
variable {o e:Expr}{es:List Expr}{to:TE}{t:TA}{name:Str}{apos cpos:Pos}{T id:String}{r:V->List V->Hp->VK->Prop}
theorem pe_bm (pa:PlainAttrs T)(slot:Slot T name id)(N:typeOf (.builtin id)=pure (.type "method_descriptor"))(hm:MtR X id r)(ho:PE X o to)(ha:PA X (e::es) t)
  (G:attributeBase o name X.env (eval o X.env)=eval o X.env:=by rfl)
  (L:((backTo cpos (starEach (e::es) X.env)).all (fun x=>!x.1)&&(backToKw cpos (keywordEach [] X.env)).all (fun x=>x.1.isSome)
   &&decide ((e::es).length+([]:List Keyword).length+(if ([]:List Keyword).isEmpty then 0 else 1)<30))=true:=by rfl)
  (z:(apos.endLine==cpos.line)=true:=by rfl) (hs:starEach (e::es) X.env=(false,eval e X.env)::starEach es X.env:=by rfl) (j:(backTo cpos (starEach es X.env)).any (·.1)=false:=by rfl):
  PE X (.Call (.Attribute o name apos) (e::es) [] cpos) (tBM X.K T r to t):=by
 intro pins s σ H Q I h
 refine wpAny_Call_method_late G L z rfl (thn (ho pins s σ H _ I h) fun v s1 J=>?_)
 obtain⟨x,H1,Y,O,ty,q1⟩:=J
 obtain⟨h1,h2⟩:=tyV_is Y O ty
 refine⟨T,id,pa,slot,N,h1,h2,?_⟩
 have U:=ha cpos pins s1 σ H1 _ Y q1
 rw[hs]at U ⊢
 refine Calls.callWith_builtin (by show (false || (backTo cpos (starEach es X.env)).any (·.1))=false;rw[j] <;> rfl) (Calls.evalArgs_plain ?_)
 exact thn U fun us s2 ⟨vs,H2,I2,Z,q2⟩=>hm pins s2 σ H2 x vs v us Q I2 O Z q2
end
end
section
noncomputable def MtM (X:Cx)(id:String)(r:V->List V->Hp->VK->Prop):Prop:=
 ∀(pins:List (Addr×Obj))(s:Shared)(σ:St)(H:Hp)(x:V)(xs:List V)(v:Value)(us:List Value)(Q:VK),Inv X pins σ H s->RelV x v->Vals xs us->r x xs H Q->
  wpAny (model X.prog X.w) X.A (call (.builtin id) (v::us)) (EP X pins σ Q) X.xe s
theorem Vals.one:∀{x:V}{us:List Value},Vals [x] us->∃ u,us=[u]/\RelV x u
 |_,_,.cons r .nil=>⟨_,rfl,r⟩
theorem Vals.reverse {xs:List V}{us:List Value}(h:Vals xs us):Vals xs.reverse us.reverse:=by
 induction h with
 |nil=>exact .nil
 |cons r t j=>rw[reverse_cons,reverse_cons];exact Vals.append j (.cons r .nil)
section
variable {X:Cx}{pins:List (Addr×Obj)}{σ:St}{H:Hp}{s:Shared}{l b:Addr}{xs ys zs:List V}
theorem Inv.lset {its its':List Value}{n:Nat}{f:Array Value->Array Value}{t':Nat}(I:Inv X pins σ H s)(N:H l=some (.lst xs))
  (e:s.heap.get? l=some { cls:=.type "list",data:=.seq its.toArray n }) (J:f its.toArray=its'.toArray) (z:Vals ys its') (j:ys.length<=sizeLine):
  Inv X pins σ (upd H l (.lst ys)) { s with heap:=s.heap.update l (Obj.mapSeq f),toks:=t' }:=by
 have q:=PySem.IsL.update e f
 rw[J]at q
 refine I.write (x:=l) (e:=l) (by rw[N];exact trivial) (.inl rfl) (fun b' u L G=>(Heap.get?_update_other s.heap (Obj.mapSeq f) (Ne.symm L)).trans G) ⟨_,q⟩ ?_
 exact⟨j,its',_,z,q⟩
theorem Inv.lnew {its:List Value}{t':Nat}(I:Inv X pins σ H s)(z:Vals ys its)(j:ys.length<=sizeLine):
  Inv X pins σ (upd H s.heap.objs.size (.lst ys)) { s with heap:=s.heap.push { cls:=.type "list",data:=.seq its.toArray },toks:=t' }:=
 I.laid (fun _ _ q=>Heap.get?_push_of_some _ q) (Nat.le_refl _) ⟨j,its,0,z,Heap.get?_push_size _ rfl⟩
theorem Inv.fresh (I:Inv X pins σ H s):H s.heap.objs.size=none:=I.hok.fresh (Nat.le_refl _)
theorem Inv.lstM (I:Inv X pins σ H s)(j:H l=some (.lst xs)):xs.length<=sizeLine/\∃(its:List Value)(n:Nat),Vals xs its/\xs.length=its.length/\s.heap.get? l=some { cls:=.type "list",data:=.seq its.toArray n }:=by
 obtain⟨z,its,n,r,e⟩:=I.hok l _ j
 exact⟨z,its,n,r,r.length,e⟩
end
section
variable {X:Cx}
noncomputable def rAppend:V->List V->Hp->VK->Prop:=fun x vs H Q=>∃ l xs y,x= .ref l/\vs=[y]/\H l=some (.lst xs)/\xs.length<sizeLine/\Q .non (upd H l (.lst (xs++[y])))
theorem mt_append:MtM X "list.append" rAppend:=by
 intro pins s σ H x vs v us Q I rx G h
 obtain⟨l,xs,y,rfl,rfl,j,L,q⟩:=h
 cases rx
 obtain⟨u,rfl,J⟩:=G.one
 obtain⟨z,its,n,r,N,e⟩:=I.lstM j
 refine call_meets F.slot_list_append ⟨_,e,rfl⟩ F.entry_list_append (F.args_list_append_2 _ _) (PySem.list_append l its.toArray n u (by rw[size_toArray];omega)) ⟨e,?_⟩
 refine⟨.non,_,I.lset (its':=its++[u]) j e (by simp) (r.append (.cons J .nil)) ?_,rfl,q⟩
 rw[length_append,length_singleton]
 omega
end
section
variable {prog:Program}{w:World}{A:Around}{E:Value->Shared->Prop}{s:Shared}
end
section
variable {X:Cx}
end
end
end L2
namespace Att
open PySem PySem.W PySem.Calls PyProof.Rows
theorem ints_of_wellAll {P:Params}{h:Heap}:∀(ns:List Int)(vs:List Value),WellAll P h vs (ns.map WData.int)->IntsAre vs ns:=by
 intro ns
 induction ns with
 |nil=>
  intro vs w
  rw[List.map_nil]at w
  cases w
  exact .nil
 |cons n ns j=>
  intro vs w
  rw[List.map_cons]at w
  cases w with
  |cons a b=>
   cases a
   exact .cons _ _ (j _ b)
theorem script_of {l:OpenLaw}{n:Nat}(hn:l.most=some n){P:Params}{h:Heap}{args:List WData}{j:List Value}
  (z:l.row.toRowW.claim.pre args=true) (O:WellAll P h j args):
  ∃ a vs ns,j=[Value.ref a]/\args=[WData.list (ns.map WData.int)]/\h.get? a=some { cls:=.type "list",data:=.seq vs.toArray }/\IntsAre vs ns/\ns.length<=n:=by
 have U:WShape.hasAll [] args [.list .int]=true:=(pre_splitW z).1
 have Y:l.pre.holds [] { args:=args }=true:=(pre_splitW z).2
 obtain⟨d,r,rfl,h1,h2⟩:=hasAllW_cons U
 obtain rfl:=hasAllW_nil h2
 obtain⟨xs,rfl,h3⟩:=hasW_list h1
 obtain⟨ns,rfl⟩:=items_int h3
 have G:ns.length<=n:=by
  unfold OpenLaw.pre at Y
  have N:(WTm.not (.lt (.lit (.int (n:Int))) (.len (.arg 0)))).holds [] { args:=[.list (ns.map .int)] }=true:=by
   have N:=(holds_andW Y).1
   rw[hn]at N
   exact N
  have L:=condW_of N (w_not (w_lt w_lit (w_len_list (w_arg rfl))))
  rw[List.length_map]at L
  refine Nat.le_of_not_lt fun q=>?_
  have q':(n:Int)<((ns.length:Nat):Int):=by omega
  first
   | (rw[decide_eq_true q']at L;exact absurd L (by decide))
   | (simp at L;omega)
 cases O with
 |cons w1 Z=>
  cases Z
  cases w1 with
  |list ho J=>exact⟨_,_,ns,rfl,rfl,ho,ints_of_wellAll ns _ J,G⟩
theorem post_true (l:OpenLaw)(args:List WData):l.row.toRowW.claim.post args (.bool true) args=true:=
 postW_of (r:=l.row.toRowW) (X:=(true==true))
  (show WShape.has [] (.bool true) .bool=true by first|rfl|decide|simp[WShape.has,WShape.arms,WShape.armsAll])
  (show (WTm.eq .res (.lit (.bool true))).value [] { args:=args,res:=some (.bool true),after:=args }=some (.bool (true==true))from w_eq_bool (w_res rfl) w_lit) rfl
theorem attach_call {l:OpenLaw}{n:Nat}{q:Program}{z:List Str}{XP:(Str->Option Value)->Heap->Prop}{YP:World->Heap->Prop}{d:DefRec}
  (hn:l.most=some n) (a1:d.params.defaults=[])
  (call:∀(w:World)(s₀ j:Shared)(mg mb:Str->Option Value)(U:Addr)(o:Obj)(pm cd doc:Value)(a:Addr)(vs:List Value)(ns:List Int),
   Ground q z [] XP w s₀ mg mb j.heap->YP w j.heap->
   j.heap.get? U=some o->o.data= .func (docDef d.name d.params d.body d.scope pm cd doc)->j.heap.CodeRec cd d.name->mg d.name=some (.ref U)->
   j.heap.get? a=some { cls:=.type "list",data:=.seq vs.toArray }->IntsAre vs ns->ns.length<=n->j.gens=#[]->
   codeAny (model l.prog w) callerA (.call (.ref U) ⟨[.ref a],[]⟩) (fun r s'=>r= .ok (.ret (.bool true))/\OldK j.heap s'.heap/\s'.os=j.os/\AllBare s'.gens) j):
  WalkO q z XP YP l.row.toRowW d [] (fun f vs=>PySem.call f vs):=by
 intro w s₀ j mg mb G Y U o pm cd doc dV kV ho hd a2 hD a0 hg args a3 as L a4 a5 Z a6
 obtain rfl:dV= .none:=Dflts.none hD a1
 obtain rfl:kV= .none:=Dflts.noKw hD
 obtain⟨a,vs,ns,rfl,rfl,N,J,O⟩:=script_of hn L Z
 refine enter_call (codeAny_mono (call w s₀ j mg mb U o pm cd doc a vs ns G Y ho (fd_plain hd) a2 a0 N J O hg) fun r s' hq=>?_)
 obtain⟨rfl,h2,h3,h4⟩:=hq
 exact⟨.inl ⟨.bool true,.bool true,[],rfl,fun _=>rfl,.bool true,post_true l _,fun _=>⟨List.Pairwise.nil,fun _ hm=>(nomatch hm)⟩⟩,h2,h3,h4⟩
section
variable {prog:Program}{w:World}{A:Around}{E:Value->Shared->Prop}{s:Shared}{K:Frag}
end
end Att
namespace L2
open List
open PySem PySem.Spec PyProof.Rows
section
theorem vals_ints:∀{vs:List Value}{ns:List Int},IntsAre vs ns->Vals (ns.map V.int) vs
 |_,_,.nil=>.nil
 |_,_,.cons n t h=>.cons ⟨t,rfl⟩ (vals_ints h)
noncomputable def Only (H:Hp):Prop:=∀ b,H b=none\/∃ o xs,H b=some (.frz o (.lst xs))
theorem law_call {P:Program}{w:World}{K:W.Frag}{mg mb:Str->Option Value}{CX:CXT}{k:Nat}{fa a:Addr}{fd:FuncData}{x:Str}{sp:Sp}{j:Shared}{vs:List Value}{ns:List Int}
  (KX:K.In j.heap) (a0:j.heap.Ns mainGlobals mg) (J:j.heap.Ns builtinsNs mb) (a5:∀ x:Str,x≠"__name__"->mb x=bootBuiltins x) (a1:j.heap.NoLimit) (hg:j.gens=#[])
  (ha:j.heap.get? a=some { cls:=.type "list",data:=.seq vs.toArray }) (hi:IntsAre vs ns) (hl:ns.length<=sizeLine) (hr:Room k callerA)
  (F:∀ base:Heap,K.In base->base.Ns mainGlobals mg->FnOk P w K mg base CX k fa fd [x] sp) (O:∀(s:Shared)(u:Value),BindsTo s fd ⟨[u],[]⟩ [(x,u)])
  (a4:∀ H:Hp,Only H->SqL K H a (ns.map V.int)->sp [.ref a] H (fun v _=>v= .bl true) fun _ _ _=>False)
  (a6:∀ H e s',CX [] H j (fun _ _ _=>False) e s'->False):
  codeAny (model P w) callerA (.call (.ref fa) ⟨[.ref a],[]⟩) (fun r s'=>r= .ok (.ret (.bool true))/\OldK j.heap s'.heap/\s'.os=j.os/\AllBare s'.gens) j:=by
 have rv:=vals_ints hi
 have Y:=hi.length
 have N:∀ H:Hp,Only H->SqL K H a (ns.map V.int)->HOk P w H j.heap->(∀ b,H b≠none->b=a)->(H a≠none->K.lookup a=none)->
   codeAny (model P w) callerA (.call (.ref fa) ⟨[.ref a],[]⟩) (fun r s'=>r= .ok (.ret (.bool true))/\OldK j.heap s'.heap/\s'.os=j.os/\AllBare s'.gens) j:=by
  intro H hO hS hok hA hK
  have G:∀{b:Addr}{o:Obj},j.heap.get? b=some o->H b=none->(hidT j.heap H).get? b=some o:=fun e n=>hidT_get e n
  have a3:∀{b:Addr}{o:Obj}{es:Array DictEntry}{ep:Nat},j.heap.get? b=some o->o.data= .dict es ep->H b=none:=fun{b o es ep} e d=>by
   cases q:H b with
   |none=>rfl
   |some u=>
    have e':b=a:=hA b (by rw[q];simp)
    subst e'
    rw[ha]at e;cases e
    have d':Data.seq vs.toArray _=Data.dict es ep:=d
    cases d'
  have L:∀{b:Addr}{m:Str->Option Value},j.heap.Ns b m->(hidT j.heap H).Ns b m:=fun{b m} ⟨o,es,ep,e,d,r⟩=>⟨o,es,ep,G e (a3 e d),d,r⟩
  have a2:K.In (hidT j.heap H):=fun b o e=>G (KX b o e) (by
   cases q:H b with
   |none=>rfl
   |some u=>
    have e':b=a:=hA b (by rw[q];simp)
    subst e'
    rw[hK (by rw[q];simp)]at e;cases e)
  have hM:Mod K mg (hidT j.heap H):=⟨a2,L a0,⟨mb,L J,a5⟩,let ⟨mc,h1,h2⟩:=a1;⟨mc,L h1,h2⟩⟩
  have e0:Env0 P w K mg (hidT j.heap H) callerA [] j H:=⟨rfl,hM,fun b o e=>of_hidT e,Nat.le_of_eq (hidT_size _ _),trivial,fun b J=>absurd (show b∈([]:List Addr)from J) (by simp),hok,.of_eq hg⟩
  refine codeAny_mono ((F _ a2 (L a0)).run callerA [] j H ⟨[.ref a],[]⟩ [.ref a] [.ref a] _ _ hr e0 (O j (.ref a)) (.cons rfl .nil) (a4 H hO hS)) fun r s' h=>?_
  cases r with
  |error e=>exact(a6 H e s' h).elim
  |ok fl=>
   cases fl with
   |next=>exact False.elim h
   |brk=>exact False.elim h
   |cont=>exact False.elim h
   |ret u=>
    obtain⟨v,H',os,bare,un,Z,r',q⟩:=h
    have q':v= .bl true:=q
    subst q'
    obtain rfl:u=Value.bool true:=r'
    refine⟨rfl,OldK.of_keep fun b o e=>?_,os,bare⟩
    cases q:H b with
    |none=>exact un.keep b o e q (by intro z;exact absurd (show b∈([]:List Addr)from z) (by simp)) (by simp)
    |some u=>
     rcases hO b with z|⟨ob,xs,z⟩
     .rw[q]at z;cases z
     .have z2:=un.frzs b ob _ z
      obtain⟨e1,_⟩:=hok b _ z
      obtain⟨e2,_⟩:=Z b _ z2
      rw[e]at e1;cases e1
      exact e2
 cases hk:K.lookup a with
 |some o=>
  have e:=KX a o hk
  rw[ha]at e
  cases e
  refine N (fun _=>none) (fun _=>.inl rfl) (.inr ⟨_,vs.toArray,_,hk,rfl,rfl,rfl,by rw[size_toArray,Y];exact hl,by simpa using rv⟩) (fun b u z=>by have U:(none:Option HO)=some u:=z;cases U) (fun b z=>absurd rfl z) fun z=>absurd rfl z
 |none=>
  refine N (fun b=>if b=a then some (.frz { cls:=.type "list",data:=.seq vs.toArray } (.lst (ns.map V.int)))else none) (fun b=>?_) (.inl (.inr ⟨{ cls:=.type "list",data:=.seq vs.toArray },if_pos rfl⟩)) (fun b u z=>?_) (fun b z=>?_) fun _=>hk
  .by_cases J:b=a
   .exact .inr ⟨_,_,if_pos J⟩
   .exact .inl (if_neg J)
  .by_cases J:b=a
   .have U:=(if_pos J).symm.trans z
    cases U
    subst J
    exact⟨ha,by rw[length_map];exact hl,vs,_,rv,ha⟩
   .have U:=(if_neg J).symm.trans z
    cases U
  .by_cases J:b=a
   .exact J
   .exact absurd (if_neg J) z
end
section
theorem walk_of {l:W.OpenLaw}{n k:Nat}{q:Program}{z:List Str}{XP:(Str->Option Value)->Heap->Prop}{YP:World->Heap->Prop}{d:DefRec}{K:Params->W.Frag}{CX:World->CXT}{sp:World->Sp}{x:Str}
  (hn:l.most=some n) (Z:n<=sizeLine) (a1:d.params.defaults=[]) (hr:Room k callerA)
  (hY:∀(w:World)(h:Heap),YP w h->(K w.params).In h)
  (F:∀(w:World)(mg:Str->Option Value)(O:Addr)(h:Heap),(K w.params).In h->h.Ns mainGlobals mg->mg d.name=some (.ref O)->
   ∃ fd:FuncData,(∀(s:Shared)(u:Value),BindsTo s fd ⟨[u],[]⟩ [(x,u)])/\
    ∀ base:Heap,(K w.params).In base->base.Ns mainGlobals mg->FnOk l.prog w (K w.params) mg base (CX w) k O fd [x] (sp w))
  (U:∀(w:World)(H:Hp)(a:Addr)(ns:List Int),ns.length<=n->Only H->SqL (K w.params) H a (ns.map V.int)->sp w [.ref a] H (fun v _=>v= .bl true) fun _ _ _=>False)
  (a2:∀(w:World)(H:Hp)(s:Shared)(e:Value)(s':Shared),CX w [] H s (fun _ _ _=>False) e s'->False):
  W.WalkO q z XP YP l.row.toRowW d [] (fun f vs=>PySem.call f vs):=by
 refine Att.attach_call hn a1 fun w s₀ L mg mb O o pm cd doc a vs ns G Y ho hd a3 a0 N J j hg=>?_
 have KX:=hY w _ Y
 obtain⟨fd,hb,hF⟩:=F w mg O _ KX G.T.g a0
 exact law_call KX G.T.g G.T.b G.T.builtins G.T.nolimit hg N J (Nat.le_trans j Z) hr hF hb (fun H hO hS=>U w H a ns j hO hS) fun H e s'=>a2 w H L e s'
end
section
noncomputable def defArgs (s:Stmt):Arguments:=match s with
 | .FunctionDef _ a _ _ _ _ _ _ _ _=>a
 |_=>{ posonlyargs:=[],args:=[],vararg:=none,kwonlyargs:=[],kw_defaults:=[],kwarg:=none,defaults:=[] }
noncomputable def defBody (s:Stmt):List Stmt:=match s with
 | .FunctionDef _ _ b _ _ _ _ _ _ _=>b
 |_=>[]
noncomputable def defScope (s:Stmt):Scope:=match s with
 | .FunctionDef _ _ _ _ _ _ sc _ _ _=>sc
 |_=>{ kind:=.function,names:=[],isGenerator:=false,isCoroutine:=false }
noncomputable abbrev CX0:CXT:=fun _ _ _ _ _ _=>False
noncomputable abbrev E0:XK:=fun _ _ _=>False
theorem pass0 {X:Cx}:Passes CX0 X E0:=fun _ _ _ _ _ _ _ h=>h.elim
structure Fun (K:W.Frag)(x qual:Str)(st:Stmt)(f:Addr)(fd:FuncData):Prop where
 ex:∃(oc:Value)(od:Option Addr)(kV doc pm:Value)(an:Option Addr)(cdv ct:Value)(osl:Array (Option Value)),
  fd=W.fnOf x qual (defArgs st) (defBody st) (defScope st) .none kV doc pm an cdv ct/\K.lookup f=some ⟨oc,od,.func fd,osl⟩/\W.codeIn K cdv qual=true
 kp:W.keepIn K (.ref f)=true
section
variable {P:Program}{w:World}{K:W.Frag}{mg:Str->Option Value}{base:Heap}
theorem Fun.ok {x qual:Str}{st:Stmt}{f:Addr}{fd:FuncData}{N ps:List Str}{k:Nat}{sp:Sp}(F:Fun K x qual st f fd)(S:FnScope N ps (defScope st))(len:∀ vs H Q E,sp vs H Q E->vs.length=ps.length)
  (j:∀(cdv:Value)(A:Around)(outer:List Env)(s:Shared)(H:Hp)(vs:List V)(Q:VK)(E:XK),Room k (A.deeper (envOfC qual (defScope st) s.heap.objs.size f cdv))->sp vs H Q E->
   ∃ t,PSs (cxOf CX0 P w K mg base N qual (defScope st) f cdv A outer s H E).nox (defBody st) t/\t { nx:=fun _ H'=>Q .non H',rt:=Q } (start N vs) H):FnOk P w K mg base CX0 (k+1) f fd ps sp:=by
 obtain⟨oc,od,kV,doc,pm,an,cdv,ct,osl,rfl,J,G⟩:=F.ex
 refine fn_of J G S len fun A outer s H vs Q E L z=>?_
 obtain⟨t,h,q⟩:=j cdv A outer s H vs Q E L z
 exact⟨t,h.nox,q⟩
theorem Fun.binds {x qual:Str}{st:Stmt}{f:Addr}{fd:FuncData}{ps:List Str}(F:Fun K x qual st f fd)
  (h:∀(kV doc pm:Value)(an:Option Addr)(cdv ct:Value)(us:List Value),us.length=ps.length->bindArgs (W.fnOf x qual (defArgs st) (defBody st) (defScope st) .none kV doc pm an cdv ct) ⟨us,[]⟩=pure (ps.zip us)):Binds K fd ps []:=by
 obtain⟨oc,od,kV,doc,pm,an,cdv,ct,osl,rfl,z,j⟩:=F.ex
 exact .all (h kV doc pm an cdv ct)
theorem fun_mk {x qual:Str}{st:Stmt}{f:Addr}{oc:Value}{od an:Option Addr}{osl:Array (Option Value)}{kV doc pm cdv ct:Value}(l:K.lookup f=some ⟨oc,od,.func (W.fnOf x qual (defArgs st) (defBody st) (defScope st) .none kV doc pm an cdv ct),osl⟩)
  (c:W.codeIn K cdv qual=true) (k:W.keepIn K (.ref f)=true):Fun K x qual st f (W.fnOf x qual (defArgs st) (defBody st) (defScope st) .none kV doc pm an cdv ct):=⟨⟨oc,od,kV,doc,pm,an,cdv,ct,osl,rfl,l,c⟩,k⟩
end
section
variable {X:Cx}
theorem pv (i:Nat){x:Str}{pos:Pos}(G:X.N[i]? =some x:=by rfl)(z:Vis X.env.scope x:=by first|exact Or.inl rfl|exact Or.inr (Or.inl rfl)|exact Or.inr (Or.inr rfl))(hd:(x==("__debug__":Str))=false:=by decide)
  (j:(x==("__classdict__":Str))=false:=by decide):PE X (.Name x pos) (tVar i):=pe_var G z hd j
end
theorem iteF {A B:Prop}(h:B):if false=true then A else B:=by
 rw[if_neg Bool.false_ne_true]
 exact h
theorem iteT {A B:Prop}(h:A):if true=true then A else B:=by
 rw[if_pos rfl]
 exact h
noncomputable def Same (H H':Hp):Prop:=∀ b o,H b=some o->H' b=some o
theorem Same.refl (H:Hp):Same H H:=fun _ _ h=>h
theorem Same.trans {H H1 H2:Hp}(a:Same H H1)(b:Same H1 H2):Same H H2:=fun c o h=>b c o (a c o h)
theorem Same.free {H H':Hp}(e:Same H H'){l:Addr}(h:H' l=Option.none):H l=Option.none:=by
 cases q:H l with
 |none=>rfl
 |some o=>
  rw[e l o q]at h
  cases h
theorem Same.seq {K:W.Frag}{H H':Hp}{a:Addr}{xs:List V}(e:Same H H')(h:SqL K H a xs):SqL K H' a xs:=by
 rcases h with (h|⟨o,h⟩)|h
 .exact .inl (.inl (e _ _ h))
 .exact .inl (.inr ⟨o,e _ _ h⟩)
 .exact .inr h
end
section
noncomputable def clOf (cells:List (Str×Addr)):List (Str×NameKind)->List (Str×Addr)->List (Str×Addr)
 |[],cs=>cs
 | (n,k)::r,cs=>if k= .free then (match cells.lookup n with |some c=>clOf cells r ((n,c)::cs)|none=>clOf cells r cs)else clOf cells r cs
theorem closure_run {env:Env}:∀(names:List (Str×NameKind))(z:List (Str×Addr)),(∀ x∈names,x.2= .free->∃ c,env.cells.lookup x.1=some c)->
  (forIn names z fun x r=>if (x.2==NameKind.free)=true then do let c ← cellOf env x.1;pure (ForInStep.yield ((x.1,c)::r))else pure (ForInStep.yield r):Sem (List (Str×Addr)))=pure (clOf env.cells names z)
 |[],z,_=>rfl
 | (n,k)::r,z,h=>by
  have J:∀ x∈r,x.2= .free->∃ c,env.cells.lookup x.1=some c:=fun x L=>h x (mem_cons_of_mem _ L)
  rw[forIn_cons]
  by_cases G:k= .free
  .subst G
   obtain⟨c,N⟩:=h (n,.free) mem_cons_self rfl
   have j:env.cells.lookup n=some c:=N
   have e:cellOf env n=pure c:=by unfold cellOf;rw[j]
   simp only[beq_self_eq_true,if_true,e,pure_bind]
   rw[closure_run r _ J]
   simp only[clOf,if_true,j]
  .have hb:(k==NameKind.free)=false:=by simpa using G
   simp only[hb,Bool.false_eq_true,if_false,pure_bind]
   rw[closure_run r z J]
   simp only[clOf,G,if_false]
theorem closureFor_clOf {env:Env}{scope:Scope}(h:∀ x∈scope.names,x.2= .free->∃ c,env.cells.lookup x.1=some c):closureFor scope env=pure (clOf env.cells scope.names []):=by
 have q:=closure_run (env:=env) scope.names [] h
 simp only[closureFor]
 refine Eq.trans ?_ q
 have e:∀(m:Sem (List (Str×Addr))),(m >>= fun j=>pure j)=m:=fun m=>by simp
 first| (rw[e];rfl)|rfl|simp
theorem clOf_sub {cells:List (Str×Addr)}{x:Str}{c:Addr}:∀(names:List (Str×NameKind))(j:List (Str×Addr)),(∀ y d,j.lookup y=some d->cells.lookup y=some d)->(clOf cells names j).lookup x=some c->cells.lookup x=some c
 |[],j,h,e=>h x c e
 | (n,k)::r,j,h,e=>by
  unfold clOf at e
  split at e
  .split at e
   .rename_i d hd
    refine clOf_sub r _ (fun y d' q=>?_) e
    rw[lookup_cons]at q
    split at q
    .rename_i hy
     have:y=n:=by simpa using hy
     subst this
     cases q;exact hd
    .exact h y d' q
   .exact clOf_sub r j h e
  .exact clOf_sub r j h e
theorem clOf_mono {cells:List (Str×Addr)}{x:Str}:∀(names:List (Str×NameKind))(j:List (Str×Addr)),(j.lookup x).isSome=true->((clOf cells names j).lookup x).isSome=true
 |[],j,h=>h
 | (n,k)::r,j,h=>by
  unfold clOf
  split
  .split
   .refine clOf_mono r _ ?_
    rw[lookup_cons];split
    .rfl
    .exact h
   .exact clOf_mono r j h
  .exact clOf_mono r j h
theorem clOf_has {cells:List (Str×Addr)}{x:Str}{c:Addr}(z:cells.lookup x=some c):∀(names:List (Str×NameKind))(j:List (Str×Addr)),(x,NameKind.free)∈names->((clOf cells names j).lookup x).isSome=true
 |[],j,h=>absurd h (by simp)
 | (n,k)::r,j,h=>by
  unfold clOf
  rcases List.mem_cons.mp h with e|h
  .cases e
   rw[if_pos rfl,z]
   refine clOf_mono r _ ?_
   simp[lookup_cons]
  .split
   .split
    .exact clOf_has z r _ h
    .exact clOf_has z r j h
   .exact clOf_has z r j h
theorem lookup_relabel_free {env:Env}:∀{names:List (Str×NameKind)}{x:Str},names.lookup x=some .free->
  (names.map fun(n,k)=>if (k==NameKind.free&&env.scope.kind== .function&&env.kindOf n==some .cell)then (n,NameKind.cell)else (n,k)).lookup x=some .cell\/
  (names.map fun(n,k)=>if (k==NameKind.free&&env.scope.kind== .function&&env.kindOf n==some .cell)then (n,NameKind.cell)else (n,k)).lookup x=some .free
 |[],_,h=>by simp at h
 | (n,k)::r,x,h=>by
  have j:=@lookup_relabel_free env r x
  show List.lookup x ((if (k==NameKind.free&&env.scope.kind== .function&&env.kindOf n==some .cell)=true then (n,NameKind.cell)else (n,k))::_)=_\/List.lookup x ((if (k==NameKind.free&&env.scope.kind== .function&&env.kindOf n==some .cell)=true then (n,NameKind.cell)else (n,k))::_)=_
  by_cases z:(k==NameKind.free&&env.scope.kind== .function&&env.kindOf n==some .cell)=true
  .rw[if_pos z]
   cases hx:x==n with
   |true=>left;simp only[lookup_cons,hx]
   |false=>simp only[lookup_cons,hx]at h ⊢;exact j h
  .rw[if_neg z]
   cases hx:x==n with
   |true=>right;simp only[lookup_cons,hx]at h ⊢;exact h
   |false=>simp only[lookup_cons,hx]at h ⊢;exact j h
theorem relabel_free_mem {env:Env}:∀{names:List (Str×NameKind)}{x:Str}{k:NameKind},(∀ y∈names,y.2≠ .cell)->
  (names.map fun(n,k)=>if (k==NameKind.free&&env.scope.kind== .function&&env.kindOf n==some .cell)then (n,NameKind.cell)else (n,k)).lookup x=some k->(k= .cell\/k= .free)->(x,NameKind.free)∈names
 |[],_,_,_,h,_=>by simp at h
 | (n,G)::r,x,k,hc0,h,z=>by
  have L:=@relabel_free_mem env r x k (fun y N=>hc0 y (mem_cons_of_mem _ N))
  have h:List.lookup x ((if (G==NameKind.free&&env.scope.kind== .function&&env.kindOf n==some .cell)=true then (n,NameKind.cell)else (n,G))::_)=_:=h
  by_cases J:(G==NameKind.free&&env.scope.kind== .function&&env.kindOf n==some .cell)=true
  .rw[if_pos J]at h
   have O:G= .free:=by
    have:=J;simp only[Bool.and_eq_true]at this;simpa using this.1.1
   cases hx:x==n with
   |true=>
    have j:x=n:=by simpa using hx
    subst j;subst O;exact mem_cons_self
   |false=>simp only[lookup_cons,hx]at h;exact mem_cons_of_mem _ (L h z)
  .rw[if_neg J]at h
   cases hx:x==n with
   |true=>
    have j:x=n:=by simpa using hx
    subst j
    simp only[lookup_cons,hx]at h
    have e:G=k:=Option.some.inj h
    subst e
    rcases z with z|z
    .exact absurd z (hc0 _ mem_cons_self)
    .subst z;exact mem_cons_self
   |false=>simp only[lookup_cons,hx]at h;exact mem_cons_of_mem _ (L h z)
end
section
structure Blk (X:Cx)(sc:Scope)(N:List Str)(src:List (Option Nat)):Prop where
 kind:sc.kind= .function
 nocell:∀ y∈sc.names,y.2≠ .cell
 names:∀ y∈sc.names,y.2= .local->sc.names.lookup y.1=some .local
 free:∀ y∈sc.names,y.2= .free->X.env.kindOf y.1=some .cell\/X.env.kindOf y.1=some .free
 fv:∀(j i:Nat),src[j]? =some (some i)->∃ x,N[j]? =some x/\X.N[i]? =some x/\sc.names.lookup x=some .free
 len:src.length=N.length
noncomputable def blk0 (src:List (Option Nat))(σ:St):St:=src.map fun o=>o.bind fun i=>(σ[i]?).join
noncomputable def blkCx (X:Cx)(sc:Scope)(C:Addr)(N:List Str)(fp:List Addr)(s:Shared)(H:Hp):Cx where
 prog:=X.prog
 w:=X.w
 K:=X.K
 mg:=X.mg
 base:=X.base
 A:=X.A
 N:=N
 s₀:=s
 H₀:=H
 env:=compEnvC sc (clOf X.env.cells sc.names []) C X.env
 outer:=X.stack
 stack:=X.stack
 ex:=fp
 fn:=fun _=>false
 calm:=true
 pn:=[]
 xe:=fun _ _=>False
section
variable {X:Cx}{pins:List (Addr×Obj)}{σ:St}{H:Hp}{s:Shared}
theorem Blk.cl {sc:Scope}{N:List Str}{src:List (Option Nat)}(B:Blk X sc N src)(ok:X.Ok):closureFor sc X.env=pure (clOf X.env.cells sc.names []):=
 closureFor_clOf fun x j z=>ok.has x.1 (B.free x j z)
theorem cl_sub {sc:Scope}{x:Str}{c:Addr}(h:(clOf X.env.cells sc.names []).lookup x=some c):X.env.cells.lookup x=some c:=
 clOf_sub sc.names [] (fun y d e=>by simp at e) h
theorem blk_start {sc:Scope}{N:List Str}{src:List (Option Nat)}{fp:List Addr}{D C:Addr}{O:Heap}{t:Nat}{m:Str->Option Value}
  (B:Blk X sc N src) (I:Inv X pins σ H s) (hc:X.calm=true) (Y:∀ b∈fp,FpOk X pins H b) (a2:∀ b∈fp,∃ o,s.heap.get? b=some o)
  (U:∀ b o,s.heap.get? b=some o->O.get? b=some o) (Z:s.heap.objs.size<=D) (a6:O.get? D=some { cls:=.type "list",data:=.seq #[] 0 })
  (hn:O.Ns C m) (hC:s.heap.objs.size<=C) (a7:D≠C):
  Inv (blkCx X sc C N fp s H) [] (blk0 src σ) (upd H D (.lst [])) { s with heap:=O,toks:=t }:=by
 have a4:H D=none:=I.hok.fresh Z
 have a5:H C=none:=I.hok.fresh hC
 have new:ObjOk X.prog X.w (upd H D (.lst [])) O D (.lst []):=⟨Nat.zero_le _,[],0,.nil,a6⟩
 have cC:∀ x c,X.env.cells.lookup x=some c->c≠C:=fun x c e z=>by
  obtain⟨v,q⟩:=I.cell x c e
  exact absurd (Nat.lt_of_lt_of_le q.lt (by rw[z];exact hC)) (Nat.lt_irrefl _)
 have cD:∀ x c,X.env.cells.lookup x=some c->c≠D:=fun x c e z=>by
  obtain⟨v,q⟩:=I.cell x c e
  exact absurd (Nat.lt_of_lt_of_le q.lt (by rw[z];exact Z)) (Nat.lt_irrefl _)
 refine⟨⟨I.ok.mod,?_,I.ok.glob,I.ok.blt,hC,fun x y c h1 h2=>?_,fun x J=>?_,fun x c h _=>(by cases h),fun _=>I.ok.hd hc,I.ok.frames,.inl rfl,fun b G=>⟨?_,fun x c e=>?_⟩,I.bs,Nat.le_trans I.ok.bsz I.sz,fun b o e G=>?_,fun b G z=>?_,I.stack,I.stkFree⟩,
  rfl,I.bare,Un.laid U Z a4,⟨m,hn,fun i x v e1 j e3=>?_⟩,fun x c e=>?_,?_,fun x c e=>?_,fun p hp=>?_,I.hok.laid U Z new,?_⟩
 .show (relabel sc X.env).kind=_
  exact B.kind
 .exact I.ok.inj x y c (cl_sub h1) (cl_sub h2)
 .have hx':(∃ k,(relabel sc X.env).names.lookup x=some k/\(k= .cell\/k= .free)):=by
   rcases J with J|J
   .exact⟨_,J,.inl rfl⟩
   .exact⟨_,J,.inr rfl⟩
  obtain⟨k,e,a1⟩:=hx'
  have hm:=relabel_free_mem B.nocell e a1
  obtain⟨c,a3⟩:=I.ok.has x (B.free _ hm rfl)
  exact Option.isSome_iff_exists.mp (clOf_has a3 sc.names [] hm)
 .obtain⟨o,e⟩:=a2 b G
  exact Nat.ne_of_lt (Nat.lt_of_lt_of_le (Heap.lt_size e) hC)
 .exact(Y b G).2.2.2.2.1 x c (cl_sub e)
 .rcases (Y b G).2.2.2.1 with z|z
  .exact I.ok.noex b o e z
  .exact absurd (Nat.lt_of_lt_of_le (Heap.lt_size e) (Nat.le_trans I.ok.bsz z)) (Nat.lt_irrefl _)
 .rcases List.mem_cons.mp (I.stkSub b z)with z|z
  .exact(Y b G).2.1 z
  .exact(Y b G).2.2.1 z
 .have e2':∃ k,src[i]? =some (some k)/\σ[k]? =some (some v):=by
   unfold blk0 at j
   rw[getElem?_map]at j
   cases q:src[i]? with
   |none=>rw[q]at j;cases j
   |some o=>
    rw[q]at j
    cases o with
    |none=>cases j
    |some k=>
     refine⟨k,rfl,?_⟩
     have j:(σ[k]?).join=some v:=Option.some.inj j
     cases qq:σ[k]? with
     |none=>rw[qq]at j;cases j
     |some z=>rw[qq]at j;exact congrArg some j
  obtain⟨k,ek,ev⟩:=e2'
  obtain⟨x',n1,n2,n3⟩:=B.fv i k ek
  have:x'=x:=by
   have e1:N[i]? =some x:=e1
   rw[n1]at e1;exact Option.some.inj e1
  subst this
  obtain⟨m0,a8,a0⟩:=I.loc
  have L:=B.free (x',.free) (PySem.mem_of_lookup n3) rfl
  obtain⟨u,r,l⟩:=a0 k x' v n2 ev (by rcases L with z|z;exact .inr (.inl z);exact .inr (.inr z))
  refine⟨u,r,.inr ⟨?_,?_⟩⟩
  .exact lookup_relabel_free n3
  .rcases l with⟨l,_⟩|⟨_,c,ec,z⟩
   .rcases L with q|q <;> (rw[q]at l;cases l)
   .obtain⟨c',ec'⟩:=Option.isSome_iff_exists.mp (clOf_has ec sc.names [] (PySem.mem_of_lookup n3))
    have:=cl_sub ec'
    rw[ec]at this;cases this
    obtain⟨o,ho,hd⟩:=z
    exact⟨c,ec',o,U c o ho,hd⟩
 .obtain⟨v,o,ho,hd⟩:=I.cell x c (cl_sub e)
  exact⟨v,o,U c o ho,hd⟩
 .show upd H D _ C=none
  rw[upd_ne (Ne.symm a7)];exact a5
 .rw[upd_ne (cD x c (cl_sub e))];exact I.freeC x c (cl_sub e)
 .exact absurd (show p∈([]:List (Addr×Obj))++[]from hp) (by simp)
 .show (blk0 src σ).length=N.length
  unfold blk0;rw[length_map];exact B.len
end
end
section
noncomputable abbrev noE:Value->Shared->Prop:=fun _ _=>False
theorem toE {j:Type}{t:Sem j}{Q z:j->Shared->Prop}{M:Model}{A:Around}{E:Value->Shared->Prop}{s:Shared}(h:wpAny M A t Q noE s)(G:∀ a s,Q a s->z a s):wpAny M A t z E s:=
 wpAny_mono h G fun _ _ x=>x.elim
noncomputable abbrev compTests (ifs:List Expr)(env:Env):Sem Bool:=forIn ifs true fun c r=>if r=true then do let ok ← isTrue c env (eval c env);pure (ForInStep.yield ok)else pure (ForInStep.yield r)
theorem compLoop_any {prog:Program}{w:World}{A:Around}{R:Result->Shared->Prop}{s:Shared}{a1 j iter:Expr}{Z:List Expr}{scope:Scope}{pos:Pos}{it acc:Value}{env:Env}(I:Nat->Shared->Prop)
  (turn:∀ n s,I n s->wpAny (model prog w) A (pyNext it) (fun r J=>match r with
   |none=>R (.ok .next) J
   |some v=>wpAny (model prog w) A (letOwnedTupleGo j it v) (fun _ G=>wpAny (model prog w) A (assign j env v) (fun _ O=>
     wpAny (model prog w) A (compTests Z env) (fun ok z=>
      if ok=true then wpAny (model prog w) A (eval a1 env) (fun x N=>
       wpAny (model prog w) A (call (.builtin "list.append") [acc,x]) (fun _ L=>∃ m,m<n/\I m L) noE N) noE z
      else ∃ m,m<n/\I m z) noE O) noE G) noE J) noE s)
  (n:Nat) (h:I n s):
  codeAny (model prog w) A (.compLoop (.ListComp a1 [⟨j,iter,Z,0⟩] scope pos) 0 it acc env) R s:=by
 refine codeAny_loop rfl I (fun n s hI=>?_) n h
 show wpAny _ A ((compTurn (.ListComp a1 [⟨j,iter,Z,0⟩] scope pos) 0 it acc env).onRaise (fun x=>do noteFrame x env;theTreesLotGoes x)) _ _ s
 refine wpAny_noted ?_
 rw[compTurn_list]
 refine wpAny_bind (wpAny_standAt (wpAny_bind (toE (turn n s hI) (fun r J Y=>?_))))
 cases r with
 |none=>exact wpAny_pure Y
 |some v=>
  refine wpAny_bind (toE Y fun _ G a0=>?_)
  refine wpAny_bind (toE a0 (fun _ O a4=>wpAny_bind (toE a4 (fun ok z U=>?_))))
  cases ok with
  |false=>exact wpAny_pure ⟨rfl,U⟩
  |true=>
   exact wpAny_bind (wpAny_bind (toE U (fun x N a3=>wpAny_bind (toE a3 (fun _ L a2=>wpAny_pure (wpAny_pure ⟨rfl,a2⟩))))))
noncomputable def PTs (X:Cx)(ifs:List Expr)(t:TT):Prop:=
 ∀(pins:List (Addr×Obj))(s:Shared)(σ:St)(H:Hp)(Q:Bool->Hp->Prop),Inv X pins σ H s->t σ H Q->wpAny (model X.prog X.w) X.A (compTests ifs X.env) (TP X pins σ Q) X.xe s
noncomputable def tYes:TT:=fun _ H Q=>Q true H
theorem pts_nil {X:Cx}:PTs X [] tYes:=fun pins s σ H Q I h=>wpAny_pure ⟨H,I,h⟩
theorem pts_one {X:Cx}{c:Expr}{t:TT}(h:PT X c t):PTs X [c] t:=fun pins s σ H Q I q=>wpAny_tests_one (h pins s σ H Q I q)
noncomputable def tComp (src:List (Option Nat))(wi:TI)(g:TG)(tc:TT)(te:TE):TE:=fun σ H Q=>wi σ H fun J H1=>∀ D,H1 D=none->∃ W:Nat->Nat->St->Hp->Prop,(∃ m,W 0 m (blk0 src σ) (upd H1 D (.lst [])))/\∀ i m σ' H',W i m σ' H'->
 (J.stop i H'/\Q (.ref D) H')\/(J.go i H'/\∃ N:St->Hp->Prop,(∀ σ2 H2,N σ2 H2->∃ m',m'<m/\W (i+1) m' σ2 H2)/\∀ x H2,J.yld i H' x H2->g x σ' H2 fun σ3 H3=>tc σ3 H3 fun b H4=>
  if b=true then te σ3 H4 fun y H5=>∃ xs,H5 D=some (.lst xs)/\xs.length<sizeLine/\N σ3 (upd H5 D (.lst (xs++[y])))else N σ3 H4)
section
variable {X:Cx}
theorem comp_block {sc:Scope}{N:List Str}{src:List (Option Nat)}{tg aa iter:Expr}{a8:List Expr}{pos:Pos}{g:TG}{tc:TT}{te:TE}(B:Blk X sc N src)(hc:X.calm=true)
  (hg:∀ C fp s H,PG (blkCx X sc C N fp s H) tg g) (ht:∀ C fp s H,PTs (blkCx X sc C N fp s H) a8 tc) (he:∀ C fp s H,PE (blkCx X sc C N fp s H) aa te)
  {pins:List (Addr×Obj)} {σ:St} {H:Hp} {s:Shared} {it:Addr} {fp:List Addr} {tn:Nat->Heap->Prop} {J:It} {Q:VK} {E:Value->Shared->Prop}
  (I:Inv X pins σ H s) (T:Turn X.prog X.w X.K tg J fp it tn) (st:tn 0 s.heap) (hf:∀ b∈fp,FpOk X pins H b)
  (hW:∀ D,H D=none->∃ W:Nat->Nat->St->Hp->Prop,(∃ m,W 0 m (blk0 src σ) (upd H D (.lst [])))/\∀ i m Z H',W i m Z H'->
   (J.stop i H'/\Q (.ref D) H')\/(J.go i H'/\∃ N:St->Hp->Prop,(∀ ab H2,N ab H2->∃ m',m'<m/\W (i+1) m' ab H2)/\∀ x H2,J.yld i H' x H2->g x Z H2 fun U H3=>tc U H3 fun b H4=>
    if b=true then te U H4 fun y H5=>∃ xs,H5 D=some (.lst xs)/\xs.length<sizeLine/\N U (upd H5 D (.lst (xs++[y])))else N U H4))
  {RR:Value->Addr->Result->Shared->Prop}
  (am:∀ D C H' s' m',Inv X pins σ H' s'->s'.heap.Ns C m'->H' C=none->s.heap.objs.size<=C->Q (.ref D) H'->RR (.ref D) C (.ok .next) s'):
  wpAny (model X.prog X.w) X.A (newList []) (fun acc a0=>wpAny (model X.prog X.w) X.A (newFunctionEnv sc X.env.globals (clOf X.env.cells sc.names []) [] X.env.qual none .none (some X.env)) (fun a5 ac=>
   codeAny (model X.prog X.w) X.A (.compStart (.ListComp aa [⟨tg,iter,a8,0⟩] sc pos) 0 (.ref it) acc { a5 with scope:=relabel sc X.env }) (RR acc a5.locals) ac) E a0) E s:=by
 refine wpAny_newObj_type (wpAny_newFunctionEnv B.nocell (by intro y hy;simp at hy) (fun O Y G=>?_) B.kind)
 dsimp only at Y G ⊢
 generalize a9:s.heap.push { cls:=.type "list",dict:=none,data:=.seq ([]:List Value).toArray }=H2 at Y G ⊢
 have hC:H2.objs.size=s.heap.objs.size+1:=by rw[<-a9,Heap.size_push]
 have ah:s.heap.objs.size≠H2.objs.size:=by rw[hC];exact Nat.ne_of_lt (Nat.lt_succ_self _)
 have a4:s.heap.objs.size<=H2.objs.size:=by rw[hC];exact Nat.le_succ _
 have below:∀ b,b<s.heap.objs.size->b≠H2.objs.size:=fun b L=>by rw[hC];exact Nat.ne_of_lt (Nat.lt_succ_of_lt L)
 have old:∀ b o,s.heap.get? b=some o->O.get? b=some o:=fun b o e=>G.extBut b o (below b (Heap.lt_size e)) (Heap.get?_push_of_some _ (a9 ▸ Heap.get?_push_of_some _ e))
 have ag:O.get? s.heap.objs.size=some { cls:=.type "list",data:=.seq #[] 0 }:=G.extBut _ _ ah (Heap.get?_push_of_some _ (a9 ▸ Heap.get?_push_size _ rfl))
 have af:∀ b∈fp,∃ o,s.heap.get? b=some o:=fun b L=>by obtain⟨o,e,_⟩:=T.obj _ _ st b L;exact⟨o,e⟩
 have ae:tn 0 O:=T.keep _ _ _ st fun b _ o e=>old b o e
 obtain⟨W,⟨m0,w0⟩,turn⟩:=hW s.heap.objs.size I.fresh
 have I1:=blk_start (t:=s.toks+([]:List (Str×Value)).length) B I hc hf af old (Nat.le_refl _) ag Y a4 ah
 have a2:∀{H':Hp},(∀ b∈fp,H' b=none)->∀ b∈fp,FpOk (blkCx X sc H2.objs.size N fp s H) [] H' b:=fun{H'} hn b L=>by
  obtain⟨f0,f1,f2,f3,f4,f5⟩:=hf b L
  refine⟨hn b L,I1.ok.exf b L |>.1,I1.ok.exfs b L,.inl L,fun x c e=>f4 x c (cl_sub e),fun p hp=>absurd (show p∈([]:List (Addr×Obj))++[]from hp) (by simp)⟩
 have al:∀ b∈fp,b≠s.heap.objs.size:=fun b L z=>by
  obtain⟨o,e⟩:=af b L
  exact absurd (Heap.lt_size e) (by rw[z];exact Nat.lt_irrefl _)
 have a3:∀ a0:Shared,a0={ s with heap:=O,toks:=s.toks+([]:List (Str×Value)).length }->
   codeAny (model X.prog X.w) X.A (.compLoop (.ListComp aa [⟨tg,iter,a8,0⟩] sc pos) 0 (.ref it) (.ref s.heap.objs.size) (compEnvC sc (clOf X.env.cells sc.names []) H2.objs.size X.env))
    (RR (.ref s.heap.objs.size) H2.objs.size) a0:=by
  rintro a0 rfl
  refine compLoop_any (fun n s'=>∃ i Z H',Inv (blkCx X sc H2.objs.size N fp s H) [] Z H' s'/\tn i s'.heap/\(∀ b∈fp,H' b=none)/\W i n Z H') ?_ m0
   ⟨0,_,_,I1,ae,fun b L=>by rw[upd_ne (al b L)];exact(hf b L).1,w0⟩
  rintro n s3 ⟨i,U,H3,I3,ad,ai,w3⟩
  rcases turn i n U H3 w3 with⟨stop,qn⟩|⟨go,N',an,step⟩
  .refine thn (T.done (blkCx X sc H2.objs.size N fp s H) rfl rfl rfl rfl i [] s3 U H3 noE I3 (a2 ai) ad stop) fun r s4 ⟨hr,I4⟩=>?_
   subst hr
   obtain⟨m4,ak,_⟩:=id I4.loc
   refine am _ _ H3 s4 m4 ?_ ak I4.free a4 qn
   exact I.call' (ch:=fp) I4.os I4.base I4.hok I4.bare fun b L=>⟨(hf b L).2.2.2.1,(hf b L).2.1,(hf b L).2.2.2.2.1,(hf b L).2.2.2.2.2⟩
  .refine thn (T.item (blkCx X sc H2.objs.size N fp s H) rfl rfl rfl rfl i [] s3 U H3 noE I3 (a2 ai) ad go) fun r s4 ⟨u,hr,h4⟩=>?_
   subst hr
   refine thn h4 fun _ s5 j=>?_
   obtain⟨x,H5,I5,r5,y5,a7,ap⟩:=j
   have aq:=I5.pinned (a2 ap) (T.obj _ _ a7)
   have again:∀{s7:Shared}{a1:St}{H7:Hp},Inv (blkCx X sc H2.objs.size N fp s H) ([]++pinsAt fp s5.heap) a1 H7 s7->N' a1 H7->∃ m,m<n/\∃ i Z H',Inv (blkCx X sc H2.objs.size N fp s H) [] Z H' s7/\tn i s7.heap/\(∀ b∈fp,H' b=none)/\W i m Z H':=fun{s7 a1 H7} I7 n7=>by
    obtain⟨m',hm,w7⟩:=an a1 H7 n7
    refine⟨m',hm,i+1,a1,H7,I7.unpinned,T.keep _ _ _ a7 fun b L o e=>(I7.pin (b,o) (mem_append_right _ (mem_append_right _ (mem_pinsAt L e)))).1,fun b L=>?_,w7⟩
    obtain⟨o,e,d⟩:=T.obj _ _ a7 b L
    exact(I7.pin (b,o) (mem_append_right _ (mem_append_right _ (mem_pinsAt L e)))).2.1
   refine thn (hg _ _ _ _ _ s5 U H5 x u _ aq r5 (step x H5 y5)) fun _ s6 j=>?_
   obtain⟨a6,H6,I6,q6⟩:=j
   refine thn (ht _ _ _ _ _ s6 a6 H6 _ I6 q6) fun ok s7 j=>?_
   obtain⟨H7,I7,q7⟩:=j
   cases ok with
   |false=>
    rw[if_neg Bool.false_ne_true]at q7 ⊢
    exact again I7 q7
   |true=>
    rw[if_pos rfl]at q7 ⊢
    refine thn (he _ _ _ _ _ s7 a6 H7 _ I7 q7) fun y s8 j=>?_
    obtain⟨v8,H8,I8,r8,q8⟩:=j
    obtain⟨xs,ao,aj,n8⟩:=q8
    refine thn (mt_append _ s8 a6 H8 (.ref s.heap.objs.size) [v8] (.ref s.heap.objs.size) [y] (fun _ H9=>H9=upd H8 s.heap.objs.size (.lst (xs++[v8]))) I8 rfl (.cons r8 .nil) ⟨_,xs,v8,rfl,rfl,ao,aj,rfl⟩) fun _ s9 j=>?_
    obtain⟨v9,H9,I9,r9,q9⟩:=j
    subst q9
    exact again I9 n8
 refine codeAny_compStart_list (a3 _ rfl) (toE (T.self X.A 0 { s with heap:=O,toks:=s.toks+([]:List (Str×Value)).length } (fun v s'=>v= .ref it/\s'={ s with heap:=O,toks:=s.toks+([]:List (Str×Value)).length }) noE ae ⟨rfl,rfl⟩) fun v s' j=>?_)
 obtain⟨e1,e2⟩:=j
 subst e1;subst e2
 exact a3 _ rfl
theorem Inv.letGo {pins:List (Addr×Obj)}{σ:St}{H:Hp}{s L:Shared}{C:Addr}{h':Heap}(I:Inv X pins σ H s)(j:∃ G H0,Inv X pins G H0 L)(J:L.heap.objs.size<=C)(hn:H C=none)(N:Heap.SameBut C s.heap h'):Inv X pins σ H { s with heap:=h' }:=by
 obtain⟨G,H0,j⟩:=j
 refine I.turned (t':=s.toks) (it:=C) (fun b o O e=>(N.2 b O).trans e) hn (Nat.ne_of_gt (Nat.lt_of_lt_of_le j.lt J)) (.inr (Nat.le_trans j.sz J)) (fun x c e z=>?_) fun p hp z=>?_
 .obtain⟨v,q⟩:=j.cell x c e
  exact absurd (Nat.lt_of_lt_of_le q.lt (by rw[z];exact J)) (Nat.lt_irrefl _)
 .exact absurd (Nat.lt_of_lt_of_le (Heap.lt_size (j.pin p hp).1) (by rw[z];exact J)) (Nat.lt_irrefl _)
theorem pe_comp {sc:Scope}{N:List Str}{src:List (Option Nat)}{tg O iter:Expr}{j:List Expr}{pos:Pos}{Z:TI}{g:TG}{tc:TT}{te:TE}(B:Blk X sc N src)(hc:X.calm=true)
  (hi:PI X tg iter Z) (hg:∀ C fp s H,PG (blkCx X sc C N fp s H) tg g) (ht:∀ C fp s H,PTs (blkCx X sc C N fp s H) j tc) (he:∀ C fp s H,PE (blkCx X sc C N fp s H) O te)
  (hs:∀ x,foldedSetIterable iter X.env x=pure x:=by intro _;rfl):
  PE X (.ListComp O [⟨tg,iter,j,0⟩] sc pos) (tComp src Z g tc te):=by
 intro pins s σ H Q I h
 rw[eval_ListComp]
 refine wpAny_comprehension_free (use:=none) rfl hs (B.cl I.ok) B.kind B.names (wpAny_mono (hi pins s σ H _ I h) (fun xv a1 G=>wpAny_mono G (fun a2 a0 z=>?_) fun _ _ e=>e) fun _ _ e=>e)
 obtain⟨it,fp,tn,J,H2,rfl,I2,T,U,f2,hW⟩:=z
 refine comp_block (RR:=fun acc C=>compPost (model X.prog X.w) X.A X.xe none (EP X pins σ Q) acc C) (Q:=Q) B hc hg ht he I2 T U f2 hW ?_
 intro D C H' s' m' I' hn hC Y q
 exact⟨m',hn,fun a3 L=>⟨.ref D,H',I'.letGo ⟨_,_,I2⟩ Y hC L,rfl,q⟩⟩
theorem ps_setC {i:Nat}{y:Str}{U:Pos}{sc:Scope}{N:List Str}{src:List (Option Nat)}{tg G iter:Expr}{j:List Expr}{pos L:Pos}{wi:TI}{g:TG}{tc:TT}{te:TE}(hN:X.N.Nodup)(a5:X.N[i]? =some y)(hx:Loc X.env.scope y)
  (B:Blk X sc N src) (hc:X.calm=true)
  (hi:PI X tg iter wi) (hg:∀ C fp s H,PG (blkCx X sc C N fp s H) tg g) (ht:∀ C fp s H,PTs (blkCx X sc C N fp s H) j tc) (he:∀ C fp s H,PE (blkCx X sc C N fp s H) G te)
  (a3:swapsWith (.ListComp G [⟨tg,iter,j,0⟩] sc pos) (some (.Name y U)) L.line X.env=pure true:=by rfl)
  (hs:∀ x,foldedSetIterable iter X.env x=pure x:=by intro _;rfl) (hf:X.fn y=true\/X.env.scope.names.lookup y=some .local:=by first|exact .inl rfl|exact .inr rfl|assumption):
  PS X (.Assign [.Name y U] (.ListComp G [⟨tg,iter,j,0⟩] sc pos) L) (tAsg (tComp src wi g tc te) (gName i)):=by
 intro pins s σ H Dn I h
 rw[exec_Assign_Name_used _ _ _ _ a3]
 refine wpAny_bind (wpAny_standAt (wpAny_bind ?_))
 show wpAny _ _ (do let _ ← comprehension (.ListComp G [⟨tg,iter,j,0⟩] sc pos) sc X.env _ (newList []) false (eval iter X.env) (some (assign (.Name y U) X.env))) _ _ s
 refine wpAny_bind (wpAny_mono (wpAny_comprehension_free (use:=some (assign (.Name y U) X.env)) (Q:=fun _ s'=>SP X pins Dn .next s') rfl hs (B.cl I.ok) B.kind B.names
  (wpAny_mono (hi pins s σ H _ I h) (fun xv a9 Z=>wpAny_mono Z (fun ab a8 Y=>?_) fun _ _ e=>e) fun _ _ e=>e)) (fun _ s' hq=>wpAny_pure (wpAny_pure hq)) fun _ _ e=>e)
 obtain⟨it,fp,tn,J,H2,rfl,I2,T,a2,f2,hW⟩:=Y
 refine comp_block (RR:=fun acc C=>compPost (model X.prog X.w) X.A X.xe (some (assign (.Name y U) X.env)) (fun _ s'=>SP X pins Dn .next s') acc C) (Q:=fun x H1=>gName i x σ H1 Dn.nx) B hc hg ht he I2 T a2 f2 hW ?_
 intro D C H' s' m' I' hn hC O q
 show wpAny _ _ (assign (.Name y U) X.env (.ref D)) _ _ _
 refine wpAny_assign_Name (store_ok2 I' hN a5 hx (v:=.ref D) rfl (fun aa a7 a1=>?_) hf)
 obtain⟨a,a4,ha⟩:=a1
 have a6:C≠a:=fun z=>by
  rcases ha with ha|ha
  .have:=I2.lt;rw[<-ha,<-z]at this
   exact absurd (Nat.lt_of_lt_of_le this O) (Nat.lt_irrefl _)
  .obtain⟨v,qv⟩:=I2.cell y a ha
   exact absurd (Nat.lt_of_lt_of_le qv.lt (by rw[<-z];exact O)) (Nat.lt_irrefl _)
 exact⟨m',hn.sameBut a4 a6,fun ac a0=>⟨_,H',a7.letGo ⟨_,_,I2⟩ O hC a0,q⟩⟩
end
end
section
section
variable {X:Cx}{pins:List (Addr×Obj)}{σ:St}{H:Hp}{s:Shared}{h':Heap}
theorem Inv.turnedL {t':Nat}{fp:List Addr}(I:Inv X pins σ H s)(k:∀ b o,b∉fp->s.heap.get? b=some o->h'.get? b=some o)(G:∀ b∈fp,FpOk X pins H b):Inv X pins σ H { s with heap:=h',toks:=t' }:=by
 have J:∀ b u,H b=some u->b∉fp:=fun b u e z=>by rw[(G b z).1]at e;cases e
 refine I.step (g':=s.gens) (d':=s.drawn) (ch:=fp) (fun b L=>⟨(G b L).2.2.2.1,(G b L).2.1,(G b L).2.2.2.2.1,(G b L).2.2.2.2.2⟩) (fun b o _ _ j e _=>k b o j e) (fun b o _ _ j e _=>⟨o.slots,k b o j e⟩) (fun _ _ _ _ n=>n)
  (fun b o j e=>⟨o,k b o j e⟩) (fun _ _ e=>e) (fun _ _ _ e=>e) (fun b ps e=>⟨#[],by rw[e];simp⟩) (fun m hm=>?_) (fun b u e=>?_) I.bare
 .obtain⟨o,es,ep,ho,r⟩:=hm
  exact⟨o,es,ep,k _ o (fun z=>(G _ z).2.1 rfl) ho,r⟩
 .refine(I.hok b u e).stay (fun c v j q=>k c v ?_ q) (fun _ q=>q) fun _ _ q=>q
  rcases j with z|z
  .rw[z];exact J b u e
  .exact J c _ z
theorem Inv.turnedN {t':Nat}{fp:List Addr}{T:Addr}{o:HO}(I:Inv X pins σ H s)(k:∀ b o,b∉fp->s.heap.get? b=some o->h'.get? b=some o)(J:∀ b∈fp,FpOk X pins H b)(N:s.heap.objs.size<=T)
  (new:ObjOk X.prog X.w (upd H T o) h' T o):Inv X pins σ (upd H T o) { s with heap:=h',toks:=t' }:=by
 have hn:H T=none:=I.hok.fresh N
 have ne:∀ b u,s.heap.get? b=some u->b≠T:=fun b u e z=>absurd (Nat.lt_of_lt_of_le (Heap.lt_size e) (by rw[z];exact N)) (Nat.lt_irrefl _)
 have L:∀ b u,H b=some u->b∉fp:=fun b u e z=>by rw[(J b z).1]at e;cases e
 refine I.step (g':=s.gens) (d':=s.drawn) (ch:=fp) (fun b G=>⟨(J b G).2.2.2.1,(J b G).2.1,(J b G).2.2.2.2.1,(J b G).2.2.2.2.2⟩) (fun b o _ _ j e _=>k b o j e) (fun b o _ _ j e _=>⟨o.slots,k b o j e⟩) (fun b o _ e n=>by rw[upd_ne (ne b o e)];exact n)
  (fun b o j e=>⟨o,k b o j e⟩) (fun b xs e=>by rw[upd_ne (ne_of_none e hn)];exact e) (fun b _ _ e=>by rw[upd_ne (ne_of_none e hn)];exact e) (fun b ps e=>⟨#[],by rw[upd_ne (ne_of_none e hn),e];simp⟩) (fun m hm=>?_) (fun b u e=>?_) I.bare
 .obtain⟨o,es,ep,ho,r⟩:=hm
  exact⟨o,es,ep,k _ o (fun z=>(J _ z).2.1 rfl) ho,r⟩
 .by_cases G:b=T
  .subst G;rw[upd_same]at e;cases e;exact new
  .rw[upd_ne G]at e
   refine(I.hok b u e).stay (fun c v j q=>k c v ?_ q) (fun c q=>by rw[upd_ne (ne_of_none q hn)];exact q) fun c xs q=>by rw[upd_ne (ne_of_none q hn)];exact q
   rcases j with z|z
   .rw[z];exact L b u e
   .exact L c _ z
end
structure Zip2 (z TI TO i1 i2:Addr):Prop where
 TIz:TI≠z
 TOz:TO≠z
 i1z:i1≠z
 i2z:i2≠z
 TITO:TI≠TO
 TIi1:TI≠i1
 TIi2:TI≠i2
 TOi1:TO≠i1
 TOi2:TO≠i2
 i12:i1≠i2
theorem ne_cls {h:Heap}{a b:Addr}{o u:Obj}(e:h.get? a=some o)(j:h.get? b=some u)(d:o.cls≠u.cls):a≠b:=by
 intro z;subst z;rw[e]at j;exact d (congrArg Obj.cls (Option.some.inj j))
theorem list_ne_of {n:String}(h:("list"==n)=false):Value.type "list"≠Value.type n:=fun e=>by cases e;revert h;decide
section
variable {X:Cx}
end
end
section
noncomputable abbrev IsTrip (h:Heap)(T:Addr)(a b c:Value):Prop:=h.get? T=some { cls:=.type "tuple",data:=.seq #[a,b,c] }
structure Zip3 (z TI TO i1 i2 i3:Addr):Prop where
 TIz:TI≠z
 TOz:TO≠z
 i1z:i1≠z
 i2z:i2≠z
 i3z:i3≠z
 TITO:TI≠TO
 TIi1:TI≠i1
 TIi2:TI≠i2
 TIi3:TI≠i3
 TOi1:TO≠i1
 TOi2:TO≠i2
 TOi3:TO≠i3
 i12:i1≠i2
 i13:i1≠i3
 i23:i2≠i3
theorem zip3_new (n:Nat):Zip3 (n+5) (n+3) (n+4) n (n+1) (n+2):=by
 constructor <;> (show ((_:Nat)≠_);omega)
structure Apart3 (z TO i1 i2 i3 l:Addr):Prop where
 lz:l≠z
 lTO:l≠TO
 l1:l≠i1
 l2:l≠i2
 l3:l≠i3
section
variable {prog:Program}{w:World}{A:Around}{E:Value->Shared->Prop}{s:Shared}
theorem updateSeq_trip {T:Addr}{a b c x:Value}{k:Nat}{Q:Unit->Shared->Prop}(j:IsTrip s.heap T a b c)
  (h:∀ h',h'.get? T=some { cls:=.type "tuple",data:=.seq ((#[a,b,c]:Array Value).setIfInBounds k x) }->Heap.SameBut T s.heap h'->Q () { s with heap:=h' }):
  wpAny (model prog w) A (updateSeq T (·.setIfInBounds k x)) Q E s:=by
 refine wpAny_updateSeq j rfl (h _ ?_ (Heap.SameBut.update ..))
 rw[Heap.get?_update_self _ j rfl]
 simp[Obj.mapSeq]
theorem zip3_next_item {z TI TO i1 i2 i3 l1 l2 l3:Addr}{k1 k2 k3:Nat}{xs ys zs:Array Value}{x y v a b c:Value}{Q:Value->Shared->Prop}(D:Zip3 z TI TO i1 i2 i3)(A1:Apart3 z TO i1 i2 i3 l1)(A2:Apart3 z TO i1 i2 i3 l2)(A3:Apart3 z TO i1 i2 i3 l3)
  (hz:IsZip s.heap z TI TO .none) (az:IsTrip s.heap TI (.ref i1) (.ref i2) (.ref i3)) (ay:IsTrip s.heap TO a b c)
  (h1:s.heap.IsListIter i1 l1 k1) (h2:s.heap.IsListIter i2 l2 k2) (h3:s.heap.IsListIter i3 l3 k3) (ax:s.heap.IsList l1 xs) (aw:s.heap.IsList l2 ys) (av:s.heap.IsList l3 zs) (hx:xs[k1]? =some x) (hy:ys[k2]? =some y) (hv:zs[k3]? =some v)
  (hQ:∀ h',IsZip h' z TI TO (rawInt s.heap.objs.size)->IsTrip h' TO x y v->h'.IsListIter i1 l1 (k1+1)->h'.IsListIter i2 l2 (k2+1)->h'.IsListIter i3 l3 (k3+1)->IsTrip h' s.heap.objs.size x y v->h'.objs.size=s.heap.objs.size+1->
   (∀ c o,c≠z->c≠TO->c≠i1->c≠i2->c≠i3->s.heap.get? c=some o->h'.get? c=some o)->Q (.ref s.heap.objs.size) { s with heap:=h' }):
  wpAny (model prog w) A (Builtin.«zip.__next__» ⟨[.ref z],[]⟩) (fun b0 s'=>∃ v,b0= .done (.ret v)/\Q v s') E s:=by
 show wpAny _ _ (field (.ref z) 2 >>= _) _ _ _
 refine wpAny_bind (wpAny_field hz rfl (x:=.bool false) rfl ?_)
 show wpAny _ _ (field (.ref z) 3 >>= _) _ _ _
 refine wpAny_bind (wpAny_field hz rfl (x:=.ref TI) rfl ?_)
 refine wpAny_bind (wpAny_seqItems az rfl ?_)
 show wpAny _ _ (Builtin.SmallTypes.ownedTupleIsFree (.ref z) >>= _) _ _ _
 refine wpAny_bind ?_
 unfold Builtin.SmallTypes.ownedTupleIsFree
 refine wpAny_bind (wpAny_field hz rfl (x:=.none) rfl (wpAny_pure ?_))
 simp only[if_true]
 refine wpAny_bind (wpAny_rule ?_)
 refine wpAny_bind (wpAny_field hz rfl (x:=.ref TO) rfl ?_)
 refine wpAny_bind (wpAny_setField_rec hz (by simp) fun ar a4 G=>?_)
 replace a4:IsZip ar z TI TO .ellipsis:=a4
 refine wpAny_bind ?_
 simp only[zipIdx_cons,zipIdx_nil,forIn_cons,forIn_nil]
 refine wpAny_bind (wpAny_bind (wpAny_onRaise ?_))
 show wpAny _ _ (Builtin.SmallTypes.nextOf (.ref i1) >>= _) _ _ _
 refine wpAny_bind (wpAny_nextOf_list_item (h1.extBut G.extBut D.i1z) (ax.extBut G.extBut A1.lz) hx fun aq ak L=>wpAny_pure ?_)
 have a9:IsTrip aq TO a b c:=L.extBut _ _ D.TOi1 (G.extBut _ _ D.TOz ay)
 refine wpAny_bind (wpAny_seqItems a9 rfl ?_)
 refine wpAny_bind (updateSeq_trip a9 fun ap a2 J=>?_)
 replace a2:IsTrip ap TO x b c:=a2
 refine wpAny_bind (wpAny_letGo (wpAny_pure ?_))
 refine wpAny_bind (wpAny_bind (wpAny_onRaise ?_))
 show wpAny _ _ (Builtin.SmallTypes.nextOf (.ref i2) >>= _) _ _ _
 refine wpAny_bind (wpAny_nextOf_list_item (((h2.extBut G.extBut D.i2z).extBut L.extBut D.i12.symm).extBut J.extBut D.TOi2.symm)
  (((aw.extBut G.extBut A2.lz).extBut L.extBut A2.l1).extBut J.extBut A2.lTO) hy fun ao ai O=>wpAny_pure ?_)
 have a8:IsTrip ao TO x b c:=O.extBut _ _ D.TOi2 a2
 refine wpAny_bind (wpAny_seqItems a8 rfl ?_)
 refine wpAny_bind (updateSeq_trip a8 fun an a1 N=>?_)
 replace a1:IsTrip an TO x y c:=a1
 refine wpAny_bind (wpAny_letGo (wpAny_pure ?_))
 refine wpAny_bind (wpAny_bind (wpAny_onRaise ?_))
 show wpAny _ _ (Builtin.SmallTypes.nextOf (.ref i3) >>= _) _ _ _
 refine wpAny_bind (wpAny_nextOf_list_item (((((h3.extBut G.extBut D.i3z).extBut L.extBut D.i13.symm).extBut J.extBut D.TOi3.symm).extBut O.extBut D.i23.symm).extBut N.extBut D.TOi3.symm)
  (((((av.extBut G.extBut A3.lz).extBut L.extBut A3.l1).extBut J.extBut A3.lTO).extBut O.extBut A3.l2).extBut N.extBut A3.lTO) hv fun am ag Y=>wpAny_pure ?_)
 have a7:IsTrip am TO x y c:=Y.extBut _ _ D.TOi3 a1
 refine wpAny_bind (wpAny_seqItems a7 rfl ?_)
 refine wpAny_bind (updateSeq_trip a7 fun j Z U=>?_)
 replace Z:IsTrip j TO x y v:=Z
 refine wpAny_bind (wpAny_letGo (wpAny_pure (wpAny_pure ?_)))
 refine wpAny_bind (wpAny_seqItems Z rfl ?_)
 refine wpAny_bind (wpAny_newTuple ?_)
 have au:j.objs.size=s.heap.objs.size:=by rw[U.1,Y.1,N.1,O.1,J.1,L.1,G.1]
 have aa:IsZip j z TI TO .ellipsis:=U.extBut _ _ D.TOz.symm (Y.extBut _ _ D.i3z.symm (N.extBut _ _ D.TOz.symm (O.extBut _ _ D.i2z.symm (J.extBut _ _ D.TOz.symm (L.extBut _ _ D.i1z.symm a4)))))
 have ae:∀ c o,c≠z->c≠TO->c≠i1->c≠i2->c≠i3->s.heap.get? c=some o->j.get? c=some o:=fun c o c1 c2 c3 c4 c5 e=>
  U.extBut _ _ c2 (Y.extBut _ _ c5 (N.extBut _ _ c2 (O.extBut _ _ c4 (J.extBut _ _ c2 (L.extBut _ _ c3 (G.extBut _ _ c1 e))))))
 have aj:j.IsListIter i1 l1 (k1+1):=((((ak.extBut J.extBut D.TOi1.symm).extBut O.extBut D.i12).extBut N.extBut D.TOi1.symm).extBut Y.extBut D.i13).extBut U.extBut D.TOi1.symm
 have ah:j.IsListIter i2 l2 (k2+1):=((ai.extBut N.extBut D.TOi2.symm).extBut Y.extBut D.i23).extBut U.extBut D.TOi2.symm
 have af:j.IsListIter i3 l3 (k3+1):=ag.extBut U.extBut D.TOi3.symm
 have ac:z<j.objs.size:=Heap.lt_size aa
 show wpAny _ _ (Builtin.SmallTypes.ownedTupleHandOut (.ref z) (.ref j.objs.size) >>= _) _ _ _
 refine wpAny_bind ?_
 unfold Builtin.SmallTypes.ownedTupleHandOut
 have ad:IsZip (j.push { cls:=.type "tuple",data:=.seq #[x,y,v] }) z TI TO .ellipsis:=Heap.get?_push_of_some _ aa
 refine wpAny_bind (wpAny_setField_rec ad (by simp) fun al a3 a5=>?_)
 replace a3:IsZip al z TI TO (rawInt j.objs.size):=a3
 refine wpAny_setField_rec a3 (by simp) fun h₀ a0 a6=>?_
 replace a0:IsZip h₀ z TI TO (rawInt j.objs.size):=a0
 have up:∀ c o,c≠z->j.get? c=some o->h₀.get? c=some o:=fun c o c1 e=>a6.extBut _ _ c1 (a5.extBut _ _ c1 (Heap.get?_push_of_some _ e))
 have ab:IsTrip h₀ j.objs.size x y v:=a6.extBut _ _ (Nat.ne_of_gt ac) (a5.extBut _ _ (Nat.ne_of_gt ac) (Heap.get?_push_size _ rfl))
 have as:h₀.objs.size=j.objs.size+1:=by rw[a6.1,a5.1,Heap.size_push]
 rw[au]at a0 ab as
 refine wpAny_pure ⟨_,rfl,?_⟩
 show Q (.ref j.objs.size) _
 rw[au]
 exact hQ h₀ a0 (up _ _ D.TOz Z) (aj.at fun o e=>up _ o D.i1z e) (ah.at fun o e=>up _ o D.i2z e) (af.at fun o e=>up _ o D.i3z e) ab as fun c o c1 c2 c3 c4 c5 e=>up c o c1 (ae c o c1 c2 c3 c4 c5 e)
theorem zip3_next_end {z TI TO i1 i2 i3 l1 l2 l3:Addr}{k1 k2 k3:Nat}{xs ys zs:Array Value}{a b c:Value}{Q:Fin->Shared->Prop}(hh:A.handled=none)(D:Zip3 z TI TO i1 i2 i3)(A1:Apart3 z TO i1 i2 i3 l1)(A2:Apart3 z TO i1 i2 i3 l2)(A3:Apart3 z TO i1 i2 i3 l3)
  (hz:IsZip s.heap z TI TO .none) (al:IsTrip s.heap TI (.ref i1) (.ref i2) (.ref i3)) (ak:IsTrip s.heap TO a b c)
  (h1:s.heap.IsListIter i1 l1 k1) (h2:s.heap.IsListIter i2 l2 k2) (h3:s.heap.IsListIter i3 l3 k3) (ah:s.heap.IsList l1 xs) (ag:s.heap.IsList l2 ys) (aj:s.heap.IsList l3 zs) (ai:xs[k1]? =none\/ys[k2]? =none\/zs[k3]? =none)
  (hE:∀ h' e,(∀ c o,c≠z->c≠TO->c≠i1->c≠i2->c≠i3->s.heap.get? c=some o->h'.get? c=some o)->(∃ o,h'.get? e=some o/\o.cls= .type "StopIteration")->E (.ref e) { s with heap:=h' }):
  wpAny (model prog w) A (Builtin.«zip.__next__» ⟨[.ref z],[]⟩) Q E s:=by
 show wpAny _ _ (field (.ref z) 2 >>= _) _ _ _
 refine wpAny_bind (wpAny_field hz rfl (x:=.bool false) rfl ?_)
 show wpAny _ _ (field (.ref z) 3 >>= _) _ _ _
 refine wpAny_bind (wpAny_field hz rfl (x:=.ref TI) rfl ?_)
 refine wpAny_bind (wpAny_seqItems al rfl ?_)
 show wpAny _ _ (Builtin.SmallTypes.ownedTupleIsFree (.ref z) >>= _) _ _ _
 refine wpAny_bind ?_
 unfold Builtin.SmallTypes.ownedTupleIsFree
 refine wpAny_bind (wpAny_field hz rfl (x:=.none) rfl (wpAny_pure ?_))
 simp only[if_true]
 refine wpAny_bind (wpAny_rule ?_)
 refine wpAny_bind (wpAny_field hz rfl (x:=.ref TO) rfl ?_)
 refine wpAny_bind (wpAny_setField_rec hz (by simp) fun af O G=>?_)
 replace O:IsZip af z TI TO .ellipsis:=O
 refine wpAny_bind ?_
 simp only[zipIdx_cons,zipIdx_nil,forIn_cons,forIn_nil]
 refine wpAny_bind (wpAny_bind (wpAny_onRaise ?_))
 show wpAny _ _ (Builtin.SmallTypes.nextOf (.ref i1) >>= _) _ _ _
 cases hx:xs[k1]? with
 |none=>
  refine wpAny_bind (wpAny_nextOf_list_end hh (h1.extBut G.extBut D.i1z) (ah.extBut G.extBut A1.lz) hx fun a6 e j he=>?_)
  obtain⟨oe,U,Z⟩:=he
  have a9:IsZip a6 z TI TO .ellipsis:=j _ _ D.i1z.symm O
  have ac:e≠z:=fun x=>by subst x;rw[a9]at U;cases U;simp at Z
  refine wpAny_setField_rec a9 (by simp) fun a5 _ J=>hE a5 e (fun c o c1 _ c3 _ _ x=>J.extBut _ _ c1 (j _ _ c3 (G.extBut _ _ c1 x))) ⟨oe,J.extBut _ _ ac U,Z⟩
 |some x=>
  refine wpAny_bind (wpAny_nextOf_list_item (h1.extBut G.extBut D.i1z) (ah.extBut G.extBut A1.lz) hx fun a6 an j=>wpAny_pure ?_)
  have a2:IsTrip a6 TO a b c:=j.extBut _ _ D.TOi1 (G.extBut _ _ D.TOz ak)
  refine wpAny_bind (wpAny_seqItems a2 rfl ?_)
  refine wpAny_bind (updateSeq_trip a2 fun a5 Y J=>?_)
  replace Y:IsTrip a5 TO x b c:=Y
  refine wpAny_bind (wpAny_letGo (wpAny_pure ?_))
  refine wpAny_bind (wpAny_bind (wpAny_onRaise ?_))
  show wpAny _ _ (Builtin.SmallTypes.nextOf (.ref i2) >>= _) _ _ _
  cases hy:ys[k2]? with
  |none=>
   refine wpAny_bind (wpAny_nextOf_list_end hh (((h2.extBut G.extBut D.i2z).extBut j.extBut D.i12.symm).extBut J.extBut D.TOi2.symm)
    (((ag.extBut G.extBut A2.lz).extBut j.extBut A2.l1).extBut J.extBut A2.lTO) hy fun a4 e L he=>?_)
   obtain⟨oe,U,Z⟩:=he
   have a8:IsZip a4 z TI TO .ellipsis:=L _ _ D.i2z.symm (J.extBut _ _ D.TOz.symm (j.extBut _ _ D.i1z.symm O))
   have ac:e≠z:=fun x=>by subst x;rw[a8]at U;cases U;simp at Z
   refine wpAny_setField_rec a8 (by simp) fun a3 _ N=>hE a3 e (fun c o c1 c2 c3 c4 _ x=>N.extBut _ _ c1 (L _ _ c4 (J.extBut _ _ c2 (j.extBut _ _ c3 (G.extBut _ _ c1 x))))) ⟨oe,N.extBut _ _ ac U,Z⟩
  |some y=>
   have hv:zs[k3]? =none:=by
    rcases ai with h|h|h
    .rw[hx]at h;cases h
    .rw[hy]at h;cases h
    .exact h
   refine wpAny_bind (wpAny_nextOf_list_item (((h2.extBut G.extBut D.i2z).extBut j.extBut D.i12.symm).extBut J.extBut D.TOi2.symm)
    (((ag.extBut G.extBut A2.lz).extBut j.extBut A2.l1).extBut J.extBut A2.lTO) hy fun a4 am L=>wpAny_pure ?_)
   have a1:IsTrip a4 TO x b c:=L.extBut _ _ D.TOi2 Y
   refine wpAny_bind (wpAny_seqItems a1 rfl ?_)
   refine wpAny_bind (updateSeq_trip a1 fun a3 a0 N=>?_)
   replace a0:IsTrip a3 TO x y c:=a0
   refine wpAny_bind (wpAny_letGo (wpAny_pure ?_))
   refine wpAny_bind (wpAny_bind (wpAny_onRaise ?_))
   show wpAny _ _ (Builtin.SmallTypes.nextOf (.ref i3) >>= _) _ _ _
   refine wpAny_bind (wpAny_nextOf_list_end hh (((((h3.extBut G.extBut D.i3z).extBut j.extBut D.i13.symm).extBut J.extBut D.TOi3.symm).extBut L.extBut D.i23.symm).extBut N.extBut D.TOi3.symm)
    (((((aj.extBut G.extBut A3.lz).extBut j.extBut A3.l1).extBut J.extBut A3.lTO).extBut L.extBut A3.l2).extBut N.extBut A3.lTO) hv fun ae e ab he=>?_)
   obtain⟨oe,U,Z⟩:=he
   have a7:IsZip ae z TI TO .ellipsis:=ab _ _ D.i3z.symm (N.extBut _ _ D.TOz.symm (L.extBut _ _ D.i2z.symm (J.extBut _ _ D.TOz.symm (j.extBut _ _ D.i1z.symm O))))
   have ac:e≠z:=fun x=>by subst x;rw[a7]at U;cases U;simp at Z
   refine wpAny_setField_rec a7 (by simp) fun ad _ aa=>hE ad e (fun c o c1 c2 c3 c4 c5 x=>aa.extBut _ _ c1 (ab _ _ c5 (N.extBut _ _ c2 (L.extBut _ _ c4 (J.extBut _ _ c2 (j.extBut _ _ c3 (G.extBut _ _ c1 x))))))) ⟨oe,aa.extBut _ _ ac U,Z⟩
theorem pyNext_zip3_item {z TI TO i1 i2 i3 l1 l2 l3:Addr}{k1 k2 k3:Nat}{xs ys zs:Array Value}{x y v a b c:Value}{Q:Option Value->Shared->Prop}(D:Zip3 z TI TO i1 i2 i3)(A1:Apart3 z TO i1 i2 i3 l1)(A2:Apart3 z TO i1 i2 i3 l2)(A3:Apart3 z TO i1 i2 i3 l3)
  (O:IsZip s.heap z TI TO .none) (N:IsTrip s.heap TI (.ref i1) (.ref i2) (.ref i3)) (L:IsTrip s.heap TO a b c)
  (h1:s.heap.IsListIter i1 l1 k1) (h2:s.heap.IsListIter i2 l2 k2) (h3:s.heap.IsListIter i3 l3 k3) (J:s.heap.IsList l1 xs) (G:s.heap.IsList l2 ys) (j:s.heap.IsList l3 zs) (Z:xs[k1]? =some x) (Y:ys[k2]? =some y) (hv:zs[k3]? =some v)
  (hQ:∀ h',IsZip h' z TI TO (rawInt s.heap.objs.size)->IsTrip h' TO x y v->h'.IsListIter i1 l1 (k1+1)->h'.IsListIter i2 l2 (k2+1)->h'.IsListIter i3 l3 (k3+1)->IsTrip h' s.heap.objs.size x y v->h'.objs.size=s.heap.objs.size+1->
   (∀ c o,c≠z->c≠TO->c≠i1->c≠i2->c≠i3->s.heap.get? c=some o->h'.get? c=some o)->Q (some (.ref s.heap.objs.size)) { s with heap:=h' }):
  wpAny (model prog w) A (pyNext (.ref z)) Q E s:=by
 have U:s.TypeIs (.ref z) "zip":=⟨_,O,rfl⟩
 unfold pyNext
 exact wpAny_bind (wpAny_attempt (wpAny_callSpecial?_slot (name:=Str.ofString "__next__") U F.slot_zip_next
  (wpAny_call_entry F.slot_zip_next U F.entry_zip_next
   (zip3_next_item D A1 A2 A3 O N L h1 h2 h3 J G j Z Y hv fun h' a1 a2 a3 a4 a5 a6 a7 a8=>wpAny_pure (hQ h' a1 a2 a3 a4 a5 a6 a7 a8)) (F.args_zip_next_1 _))))
theorem pyNext_zip3_end {z TI TO i1 i2 i3 l1 l2 l3:Addr}{k1 k2 k3:Nat}{xs ys zs:Array Value}{a b c:Value}{Q:Option Value->Shared->Prop}(hh:A.handled=none)(D:Zip3 z TI TO i1 i2 i3)(A1:Apart3 z TO i1 i2 i3 l1)(A2:Apart3 z TO i1 i2 i3 l2)(A3:Apart3 z TO i1 i2 i3 l3)
  (U:IsZip s.heap z TI TO .none) (O:IsTrip s.heap TI (.ref i1) (.ref i2) (.ref i3)) (N:IsTrip s.heap TO a b c)
  (h1:s.heap.IsListIter i1 l1 k1) (h2:s.heap.IsListIter i2 l2 k2) (h3:s.heap.IsListIter i3 l3 k3) (L:s.heap.IsList l1 xs) (J:s.heap.IsList l2 ys) (G:s.heap.IsList l3 zs) (j:xs[k1]? =none\/ys[k2]? =none\/zs[k3]? =none)
  (hQ:∀ h',(∀ c o,c≠z->c≠TO->c≠i1->c≠i2->c≠i3->s.heap.get? c=some o->h'.get? c=some o)->Q none { s with heap:=h' }):wpAny (model prog w) A (pyNext (.ref z)) Q E s:=by
 have Y:s.TypeIs (.ref z) "zip":=⟨_,U,rfl⟩
 unfold pyNext
 refine wpAny_bind (wpAny_attempt (wpAny_callSpecial?_slot (name:=Str.ofString "__next__") Y F.slot_zip_next
  (wpAny_call_entry F.slot_zip_next Y F.entry_zip_next (zip3_next_end hh D A1 A2 A3 U O N h1 h2 h3 L J G j fun h' e hk he=>?_) (F.args_zip_next_1 _))))
 obtain⟨o,Z,hc⟩:=he
 refine wpAny_bind (wpAny_isInstance (T:="StopIteration") (b:=true) ⟨o,Z,hc⟩ isSubtype_stop ?_)
 exact wpAny_pure (hQ _ hk)
noncomputable abbrev z3H1 (h:Heap)(l1:Addr):Heap:=h.push { cls:=.type "list_iterator",data:=.fields #[.ref l1,.int 0 0] }
noncomputable abbrev z3H2 (h:Heap)(l1 l2:Addr):Heap:=(z3H1 h l1).push { cls:=.type "list_iterator",data:=.fields #[.ref l2,.int 0 0] }
noncomputable abbrev z3H3 (h:Heap)(l1 l2 l3:Addr):Heap:=(z3H2 h l1 l2).push { cls:=.type "list_iterator",data:=.fields #[.ref l3,.int 0 0] }
noncomputable abbrev z3H4 (h:Heap)(l1 l2 l3:Addr):Heap:=(z3H3 h l1 l2 l3).push { cls:=.type "tuple",data:=.seq #[.ref h.objs.size,.ref (z3H1 h l1).objs.size,.ref (z3H2 h l1 l2).objs.size] }
noncomputable abbrev z3H5 (h:Heap)(l1 l2 l3:Addr):Heap:=(z3H4 h l1 l2 l3).push { cls:=.type "tuple",data:=.seq #[.none,.none,.none] }
noncomputable abbrev z3H6 (h:Heap)(l1 l2 l3:Addr):Heap:=(z3H5 h l1 l2 l3).push { cls:=.type "zip",data:=.fields #[.none,.bool false,.bool false,.ref (z3H3 h l1 l2 l3).objs.size,.ref (z3H4 h l1 l2 l3).objs.size] }
theorem typeCall_zip_3 (a b c:Value):checkTypeCall "zip" ⟨[a,b,c],[]⟩=pure ():=by kernel_rfl
theorem newCall_zip_3 (a b c:Value):checkBuiltinCall "zip.__new__" ⟨[.type "zip",a,b,c],[]⟩=pure ():=by kernel_rfl
theorem args_init_4 (a b c d:Value):argsOk "object.__init__" ⟨[a,b,c,d],[]⟩:=by
 unfold argsOk;rw[signature?_of (id:="object.__init__") (n:=['_','_','t','i','n','i','_','_']) (o:=['t','c','e','j','b','o']) (by kernel_rfl) F.owner_object];kernel_rfl
set_option maxHeartbeats 8000000 in
theorem meets_zip3_new (l1 l2 l3:Addr)(xs ys zs:Array Value):
  Meets (Builtin.«zip.__new__» ⟨[.type "zip",.ref l1,.ref l2,.ref l3],[]⟩) (fun _ R s=>s.heap.IsList l1 xs/\s.heap.IsList l2 ys/\s.heap.IsList l3 zs/\
   R (.ok (.ret (.ref (z3H5 s.heap l1 l2 l3).objs.size))) { s with heap:=z3H6 s.heap l1 l2 l3 }):=
 .of_wp fun prog w A R s h=>by
  obtain⟨hp,g,d,tk,os⟩:=s;obtain⟨G,z,j,h⟩:=h
  have O:=sub_zip
  have N:Heap.IsList (Shared.heap ⟨hp,g,d,tk,os⟩) l1 xs:=G
  have L:Heap.IsList (Shared.heap ⟨hp.push { cls:=.type "list_iterator",data:=.fields #[.ref l1,.int 0 0] },g,d,tk,os⟩) l2 ys:=Heap.IsList.push z _
  have J:Heap.IsList (Shared.heap ⟨(hp.push { cls:=.type "list_iterator",data:=.fields #[.ref l1,.int 0 0] }).push { cls:=.type "list_iterator",data:=.fields #[.ref l2,.int 0 0] },g,d,tk,os⟩) l3 zs:=Heap.IsList.push (Heap.IsList.push j _) _
  wp_walk using wpAny_pyIter_list N,wpAny_pyIter_list L,wpAny_pyIter_list J
  exact⟨_,rfl,h⟩
theorem call_zip_3 {l1 l2 l3:Addr}{xs ys zs:Array Value}{Q:Value->Shared->Prop}(O:s.heap.IsList l1 xs)(N:s.heap.IsList l2 ys)(L:s.heap.IsList l3 zs)
  (h:∀ h',IsZip h' (s.heap.objs.size+5) (s.heap.objs.size+3) (s.heap.objs.size+4) .none->IsTrip h' (s.heap.objs.size+3) (.ref s.heap.objs.size) (.ref (s.heap.objs.size+1)) (.ref (s.heap.objs.size+2))->
   IsTrip h' (s.heap.objs.size+4) .none .none .none->h'.IsListIter s.heap.objs.size l1 0->h'.IsListIter (s.heap.objs.size+1) l2 0->h'.IsListIter (s.heap.objs.size+2) l3 0->
   (∀ c o,s.heap.get? c=some o->h'.get? c=some o)->Q (.ref (s.heap.objs.size+5)) { s with heap:=h' }):
  wpAny (model prog w) A (call (.type "zip") [.ref l1,.ref l2,.ref l3]) Q E s:=by
 refine callType_new F.called_zip (by decide) (typeCall_zip_3 _ _ _) (newCall_zip_3 _ _ _) (fun obj=>args_init_4 obj _ _ _) F.entry_zip_new
  (meets_zip3_new l1 l2 l3 xs ys zs) ⟨O,N,L,?_⟩
 have J:(z3H1 s.heap l1).objs.size=s.heap.objs.size+1:=Heap.size_push ..
 have G:(z3H2 s.heap l1 l2).objs.size=s.heap.objs.size+2:=by rw[Heap.size_push,J]
 have z:(z3H3 s.heap l1 l2 l3).objs.size=s.heap.objs.size+3:=by rw[Heap.size_push,G]
 have j:(z3H4 s.heap l1 l2 l3).objs.size=s.heap.objs.size+4:=by rw[Heap.size_push,z]
 have Y:(z3H5 s.heap l1 l2 l3).objs.size=s.heap.objs.size+5:=by rw[Heap.size_push,j]
 have U:(z3H6 s.heap l1 l2 l3).get? (z3H5 s.heap l1 l2 l3).objs.size=some _:=Heap.get?_push_size _ rfl
 have Z:(z3H6 s.heap l1 l2 l3).get? (z3H4 s.heap l1 l2 l3).objs.size=some _:=Heap.get?_push_of_some _ (Heap.get?_push_size _ rfl)
 have g4:(z3H6 s.heap l1 l2 l3).get? (z3H3 s.heap l1 l2 l3).objs.size=some _:=Heap.get?_push_of_some _ (Heap.get?_push_of_some _ (Heap.get?_push_size _ rfl))
 have g3:(z3H6 s.heap l1 l2 l3).get? (z3H2 s.heap l1 l2).objs.size=some _:=Heap.get?_push_of_some _ (Heap.get?_push_of_some _ (Heap.get?_push_of_some _ (Heap.get?_push_size _ rfl)))
 have g2:(z3H6 s.heap l1 l2 l3).get? (z3H1 s.heap l1).objs.size=some _:=Heap.get?_push_of_some _ (Heap.get?_push_of_some _ (Heap.get?_push_of_some _ (Heap.get?_push_of_some _ (Heap.get?_push_size _ rfl))))
 have g1:(z3H6 s.heap l1 l2 l3).get? s.heap.objs.size=some _:=Heap.get?_push_of_some _ (Heap.get?_push_of_some _ (Heap.get?_push_of_some _ (Heap.get?_push_of_some _ (Heap.get?_push_of_some _ (Heap.get?_push_size _ rfl)))))
 show _/\_
 rw[z,j,Y]at U
 rw[j]at Z
 rw[J,G,z]at g4
 rw[G]at g3
 rw[J]at g2
 rw[Y]
 exact⟨⟨_,U,rfl⟩,h _ U g4 Z ⟨_,g1,rfl,rfl⟩ ⟨_,g2,rfl,rfl⟩ ⟨_,g3,rfl,rfl⟩ fun c o x=>
  Heap.get?_push_of_some _ (Heap.get?_push_of_some _ (Heap.get?_push_of_some _ (Heap.get?_push_of_some _ (Heap.get?_push_of_some _ (Heap.get?_push_of_some _ x)))))⟩
end
noncomputable def Itz3 (K:W.Frag)(l1 l2 l3:Addr):It:=
 ⟨fun i H=>∃ xs ys zs x y z,SqL K H l1 xs/\SqL K H l2 ys/\SqL K H l3 zs/\xs[i]? =some x/\ys[i]? =some y/\zs[i]? =some z,
  fun i H v H'=>∃ t x y z,v= .ref t/\H t=none/\H'=upd H t (.tup [x,y,z])/\(∀ xs,SqL K H l1 xs->xs[i]? =some x)/\(∀ ys,SqL K H l2 ys->ys[i]? =some y)/\(∀ zs,SqL K H l3 zs->zs[i]? =some z),
  fun i H=>∃ xs ys zs,SqL K H l1 xs/\SqL K H l2 ys/\SqL K H l3 zs/\(xs.length<=i\/ys.length<=i\/zs.length<=i)⟩
theorem apart3_of {h:Heap}{z TI TO i1 i2 i3 l m1 m2 L:Addr}{its:Array Value}{a b c U:Value}{k1 k2 k3:Nat}(N:IsZip h z TI TO U)(J:IsTrip h TO a b c)(h1:h.IsListIter i1 m1 k1)(h2:h.IsListIter i2 m2 k2)(O:h.IsListIter i3 L k3)
  (p:h.IsList l its):Apart3 z TO i1 i2 i3 l:=by
 obtain⟨o1,Z,c1,_⟩:=h1
 obtain⟨o2,Y,c2,_⟩:=h2
 obtain⟨o3,e3,c3,_⟩:=O
 obtain⟨po,j,G,_⟩:=p
 exact⟨ne_cls j N (by rw[G];exact list_ne_of (by decide)),ne_cls j J (by rw[G];exact list_ne_of (by decide)),ne_cls j Z (by rw[G,c1];exact list_ne_of (by decide)),ne_cls j Y (by rw[G,c2];exact list_ne_of (by decide)),ne_cls j e3 (by rw[G,c3];exact list_ne_of (by decide))⟩
theorem turn_zip3 {P:Program}{w:World}{K:W.Frag}{es:List Expr}{tk:Nat}{tp:Pos}(z TI TO i1 i2 i3 l1 l2 l3:Addr)(D:Zip3 z TI TO i1 i2 i3):
  Turn P w K (.Tuple es tk tp) (Itz3 K l1 l2 l3) [z,TI,TO,i1,i2,i3] z
   (fun i h=>IsZip h z TI TO .none/\IsTrip h TI (.ref i1) (.ref i2) (.ref i3)/\(∃ a b c,IsTrip h TO a b c)/\h.IsListIter i1 l1 i/\h.IsListIter i2 l2 i/\h.IsListIter i3 l3 i) where
 mem:=by simp
 obj:=fun i h st b hb=>by
  obtain⟨O,J,⟨a,c,d,j⟩,⟨o1,e1,_,d1⟩,⟨o2,e2,_,d2⟩,⟨o3,e3,_,d3⟩⟩:=st
  simp only[mem_cons,not_mem_nil,or_false]at hb
  rcases hb with rfl|rfl|rfl|rfl|rfl|rfl
  .exact⟨_,O,fun v q=>by cases q⟩
  .exact⟨_,J,fun v q=>by cases q⟩
  .exact⟨_,j,fun v q=>by cases q⟩
  .exact⟨_,e1,fun v q=>by rw[d1]at q;cases q⟩
  .exact⟨_,e2,fun v q=>by rw[d2]at q;cases q⟩
  .exact⟨_,e3,fun v q=>by rw[d3]at q;cases q⟩
 keep:=fun i h h' st k=>by
  obtain⟨O,J,⟨a,c,d,j⟩,h1,h2,U⟩:=st
  exact⟨k z (by simp) _ O,k TI (by simp) _ J,⟨a,c,d,k TO (by simp) _ j⟩,h1.at fun o e=>k i1 (by simp) o e,h2.at fun o e=>k i2 (by simp) o e,U.at fun o e=>k i3 (by simp) o e⟩
 item:=by
  intro X hP hw hK N i pins s σ H E I hf st hg
  subst hP hw hK
  obtain⟨xs,ys,zs,x,y,v,a0,Z,Y,hx,hy,hv⟩:=hg
  obtain⟨ae,a9,p1,_⟩:=I.list a0
  obtain⟨ad,a8,p2,_⟩:=I.list Z
  obtain⟨ac,a7,p3,_⟩:=I.list Y
  obtain⟨u1,am,aj⟩:=a9.get hx
  obtain⟨u2,al,ai⟩:=a8.get hy
  obtain⟨u3,ak,ah⟩:=a7.get hv
  obtain⟨O,J,⟨a,b,c,j⟩,h1,h2,U⟩:=st
  refine pyNext_zip3_item D (apart3_of O j h1 h2 U p1.isList) (apart3_of O j h1 h2 U p2.isList) (apart3_of O j h1 h2 U p3.isList) O J j h1 h2 U p1.isList p2.isList p3.isList (x:=u1) (y:=u2) (v:=u3) (by simpa using am) (by simpa using al) (by simpa using ak) fun h' a1 a2 a3 a4 ao a5 a6 hk=>?_
  refine⟨_,rfl,?_⟩
  refine wpAny_letOwnedTupleGo_zip a1 fun ab ag G=>?_
  have af:z<s.heap.objs.size:=Heap.lt_size O
  have kk:∀ c o,c∉[z,TI,TO,i1,i2,i3]->s.heap.get? c=some o->ab.get? c=some o:=fun c o N e=>by
   simp only[mem_cons,not_mem_nil,or_false,not_or]at N
   exact G.extBut _ _ N.1 (hk c o N.1 N.2.2.1 N.2.2.2.1 N.2.2.2.2.1 N.2.2.2.2.2 e)
  have hT:ab.get? s.heap.objs.size=some { cls:=.type "tuple",data:=.seq #[u1,u2,u3] }:=G.extBut _ _ (Nat.ne_of_gt af) a5
  have I2:Inv X pins σ (upd H s.heap.objs.size (.tup [x,y,v])) { s with heap:=ab,toks:=s.toks }:=
   I.turnedN (T:=s.heap.objs.size) (o:=.tup [x,y,v]) kk hf (Nat.le_refl _) ⟨by show 3<=sizeLine;decide,[u1,u2,u3],.cons aj (.cons ai (.cons ah .nil)),⟨_,hT,rfl,_,rfl⟩⟩
  refine⟨.ref s.heap.objs.size,_,I2,rfl,⟨_,x,y,v,rfl,I.fresh,rfl,fun zs L=>by rw[I.list_inj L a0];exact hx,fun zs L=>by rw[I.list_inj L Z];exact hy,fun zs L=>by rw[I.list_inj L Y];exact hv⟩,
   ⟨ag,G.extBut _ _ D.TIz (hk _ _ D.TIz D.TITO D.TIi1 D.TIi2 D.TIi3 J),⟨_,_,_,G.extBut _ _ D.TOz a2⟩,a3.extBut G.extBut D.i1z,a4.extBut G.extBut D.i2z,ao.extBut G.extBut D.i3z⟩,fun c aa=>?_⟩
  have an:c<s.heap.objs.size:=by
   obtain⟨o1,e1,_⟩:=h1
   obtain⟨o2,e2,_⟩:=h2
   obtain⟨o3,e3,_⟩:=U
   simp only[mem_cons,not_mem_nil,or_false]at aa
   rcases aa with rfl|rfl|rfl|rfl|rfl|rfl
   .exact af
   .exact Heap.lt_size J
   .exact Heap.lt_size j
   .exact Heap.lt_size e1
   .exact Heap.lt_size e2
   .exact Heap.lt_size e3
  rw[upd_ne (Nat.ne_of_lt an)]
  exact(hf c aa).1
 done:=by
  intro X hP hw hK N i pins s σ H E I hf st hg
  subst hP hw hK
  obtain⟨xs,ys,zs,a0,Z,Y,hl⟩:=hg
  obtain⟨ae,a9,p1,_⟩:=I.list a0
  obtain⟨ad,a8,p2,_⟩:=I.list Z
  obtain⟨ac,a7,p3,_⟩:=I.list Y
  obtain⟨O,J,⟨a,b,c,j⟩,h1,h2,U⟩:=st
  have ar:=a9.length
  have aq:=a8.length
  have ap:=a7.length
  refine pyNext_zip3_end (I.ok.hd N) D (apart3_of O j h1 h2 U p1.isList) (apart3_of O j h1 h2 U p2.isList) (apart3_of O j h1 h2 U p3.isList) O J j h1 h2 U p1.isList p2.isList p3.isList ?_ fun h' hk=>⟨rfl,?_⟩
  .rcases hl with q|q|q
   .exact .inl (by simp;omega)
   .exact .inr (.inl (by simp;omega))
   .exact .inr (.inr (by simp;omega))
  exact I.turnedL (t':=s.toks) (fun c o N e=>by
   simp only[mem_cons,not_mem_nil,or_false,not_or]at N
   exact hk c o N.1 N.2.2.1 N.2.2.2.1 N.2.2.2.2.1 N.2.2.2.2.2 e) hf
 self:=fun _ _ _ _ _ st h=>wpAny_pyIter_zip st.1 h
section
variable {X:Cx}
noncomputable def iZip3 (K:W.Frag)(ta:TA):TI:=fun σ H R=>ta σ H fun vs H1=>∃ a b c xs ys zs,vs=[.ref a,.ref b,.ref c]/\SqL K H1 a xs/\SqL K H1 b ys/\SqL K H1 c zs/\R (Itz3 K a b c) H1
theorem pi_zip3 {a b c:Expr}{ta:TA}{p pos:Pos}{es:List Expr}{tk:Nat}{tp:Pos}(hg:Gl X "zip")(hm:X.mg "zip"=none)(ha:PA X [a,b,c] ta)(hs:starEach [a,b,c] X.env=(false,eval a X.env)::starEach [b,c] X.env:=by rfl)(O:∀ pos,((backTo pos (starEach [b,c] X.env)).any fun x=>x.1)=false:=by intro _;rfl):
  PI X (.Tuple es tk tp) (.Call (.Name "zip" p) [a,b,c] [] pos) (iZip3 X.K ta):=by
 intro pins s σ H R I h
 refine Call_ (ld_blt I hg hm boot_zip (PyProof.Rows.callWith_type1 (thn (ha pos pins s σ H _ I h) fun us s1 G=>?_) hs (O _)))
 obtain⟨vs,H1,j,r1,N⟩:=G
 obtain⟨l1,l2,l3,xs,ys,zs,e,N,q2,q3,q⟩:=N
 subst e
 cases r1 with
 |cons r z=>
  cases z with
  |cons r' z=>
   cases z with
   |cons L z=>
   cases z
   cases r
   cases r'
   cases L
   obtain⟨a4,a7,p1,_⟩:=j.list N
   obtain⟨a3,a6,p2,_⟩:=j.list q2
   obtain⟨a2,a5,p3,_⟩:=j.list q3
   refine call_zip_3 p1.isList p2.isList p3.isList fun h' hz a1 a0 Z Y U hk=>?_
   have I2:Inv X pins σ H1 { s1 with heap:=h',toks:=s1.toks }:=j.kept hk
   refine wpAny_pyIter_zip (s:={ s1 with heap:=h' }) hz ?_
   refine⟨_,[s1.heap.objs.size+5,s1.heap.objs.size+3,s1.heap.objs.size+4,s1.heap.objs.size,s1.heap.objs.size+1,s1.heap.objs.size+2],_,_,H1,rfl,I2,turn_zip3 _ _ _ _ _ _ l1 l2 l3 (zip3_new _),
    ⟨hz,a1,⟨_,_,_,a0⟩,Z,Y,U⟩,fun b hb=>?_,q⟩
   have J:s1.heap.objs.size<=b:=by
    simp only[mem_cons,not_mem_nil,or_false]at hb
    rcases hb with rfl|rfl|rfl|rfl|rfl|rfl
    .exact Nat.le_add_right _ 5
    .exact Nat.le_add_right _ 3
    .exact Nat.le_add_right _ 4
    .exact Nat.le_refl _
    .exact Nat.le_add_right _ 1
    .exact Nat.le_add_right _ 2
   exact j.fpOk J (j.hok.fresh J)
end
noncomputable def Ite (K:W.Frag)(l:Addr):It:=
 ⟨fun i H=>∃ xs x,SqL K H l xs/\xs[i]? =some x,
  fun i H v H'=>∃ t x,v= .ref t/\H t=none/\H'=upd H t (.tup [.int i,x])/\(∀ xs,SqL K H l xs->xs[i]? =some x),
  fun i H=>∃ xs,SqL K H l xs/\xs.length<=i⟩
theorem turn_enum {P:Program}{w:World}{K:W.Frag}{es:List Expr}{tk:Nat}{tp:Pos}(e it l:Addr)(a0:e≠it):
  Turn P w K (.Tuple es tk tp) (Ite K l) [e,it] e (fun i h=>(∃ old,IsEnum h e it (i:Nat) old)/\h.IsListIter it l i) where
 mem:=by simp
 obj:=fun i h st b hb=>by
  obtain⟨⟨old,z⟩,⟨o1,e1,_,d1⟩⟩:=st
  simp only[mem_cons,not_mem_nil,or_false]at hb
  rcases hb with rfl|rfl
  .exact⟨_,z,fun v q=>by cases q⟩
  .exact⟨_,e1,fun v q=>by rw[d1]at q;cases q⟩
 keep:=fun i h h' st k=>by
  obtain⟨⟨old,z⟩,h1⟩:=st
  exact⟨⟨old,k e (by simp) _ z⟩,h1.at fun o q=>k it (by simp) o q⟩
 item:=by
  intro X hP hw hK G i pins s σ H E I hf st hg
  subst hP hw hK
  obtain⟨xs,x,J,hx⟩:=hg
  obtain⟨U,L,p1,_⟩:=I.list J
  obtain⟨u1,a7,a6⟩:=L.get hx
  obtain⟨⟨old,z⟩,h1⟩:=st
  refine wpAny_pyNext_enum_item z h1 p1.isList (x:=u1) (by simpa using a7) a0 fun h' a1 a2 a3 a4 hk=>?_
  refine⟨_,rfl,?_⟩
  refine wpAny_letOwnedTupleGo_enum a1 fun O a5 j=>?_
  have Z:e<s.heap.objs.size:=Heap.lt_size z
  have kk:∀ c o,c∉[e,it]->s.heap.get? c=some o->O.get? c=some o:=fun c o G q=>by
   simp only[mem_cons,not_mem_nil,or_false,not_or]at G
   exact j.extBut _ _ G.1 (hk c o G.1 G.2 q)
  have hT:O.get? s.heap.objs.size=some { cls:=.type "tuple",data:=.seq #[.int i s.toks,u1] }:=j.extBut _ _ (Nat.ne_of_gt Z) a3
  have I2:Inv X pins σ (upd H s.heap.objs.size (.tup [.int i,x])) { s with heap:=O,toks:=s.toks+1 }:=
   I.turnedN (T:=s.heap.objs.size) (o:=.tup [.int i,x]) kk hf (Nat.le_refl _) ⟨by show 2<=sizeLine;decide,[.int i s.toks,u1],.cons ⟨_,rfl⟩ (.cons a6 .nil),⟨_,hT,rfl,_,rfl⟩⟩
  refine⟨.ref s.heap.objs.size,_,I2,rfl,⟨_,x,rfl,I.fresh,rfl,fun zs Y=>by rw[I.list_inj Y J];exact hx⟩,
   ⟨⟨_,a5⟩,a2.extBut j.extBut a0.symm⟩,fun c N=>?_⟩
  have a8:c<s.heap.objs.size:=by
   obtain⟨o1,e1,_⟩:=h1
   simp only[mem_cons,not_mem_nil,or_false]at N
   rcases N with rfl|rfl
   .exact Z
   .exact Heap.lt_size e1
  rw[upd_ne (Nat.ne_of_lt a8)]
  exact(hf c N).1
 done:=by
  intro X hP hw hK G i pins s σ H E I hf st hg
  subst hP hw hK
  obtain⟨xs,J,hl⟩:=hg
  obtain⟨U,L,p1,_⟩:=I.list J
  obtain⟨⟨old,z⟩,h1⟩:=st
  have a9:=L.length
  refine wpAny_pyNext_enum_end (I.ok.hd G) z h1 p1.isList (by simp;omega) fun h' hk=>⟨rfl,?_⟩
  exact I.turnedL (t':=s.toks) (fun c o G q=>by
   simp only[mem_cons,not_mem_nil,or_false,not_or]at G
   exact hk c o G.2 q) hf
 self:=fun A i s Q E st h=>by
  obtain⟨⟨old,z⟩,h1⟩:=st
  have hT:s.TypeIs (.ref e) "enumerate":=⟨_,z,rfl⟩
  refine wpAny_pyIter_slot hT F.slot_enumerate_iter (wpAny_call_entry F.slot_enumerate_iter hT F.entry_enumerate_iter ?_ (F.args_enumerate_iter_1 _))
  show wpAny _ _ (ret (.ref e)) _ _ s
  exact wpAny_pure ⟨_,rfl,"enumerate",_,hT,F.slot_enumerate_next.lookup,h⟩
section
variable {X:Cx}
noncomputable def iEnum (K:W.Frag)(ta:TA):TI:=fun σ H R=>ta σ H fun vs H1=>∃ a xs,vs=[.ref a]/\SqL K H1 a xs/\R (Ite K a) H1
theorem pi_enum {a:Expr}{ta:TA}{p pos:Pos}{es:List Expr}{tk:Nat}{tp:Pos}(hg:Gl X "enumerate")(hm:X.mg "enumerate"=none)(ha:PA X [a] ta)(hs:starEach [a] X.env=[(false,eval a X.env)]:=by rfl):
  PI X (.Tuple es tk tp) (.Call (.Name "enumerate" p) [a] [] pos) (iEnum X.K ta):=by
 intro pins s σ H R I h
 refine Call_ (ld_blt I hg hm boot_enumerate (PyProof.Rows.callWith_type1 (thn (ha pos pins s σ H _ I h) fun us s1 j=>?_) hs rfl))
 obtain⟨vs,H1,J,r1,L⟩:=j
 obtain⟨l,xs,e,L,q⟩:=L
 subst e
 cases r1 with
 |cons r Z=>
  cases Z
  cases r
  obtain⟨O,Y,p1,_⟩:=J.list L
  refine call_enumerate_list p1.isList fun h' N z a0 hk=>?_
  have I2:Inv X pins σ H1 { s1 with heap:=h',toks:=s1.toks }:=J.kept hk
  have hT:({ s1 with heap:=h' }:Shared).TypeIs (.ref (s1.heap.objs.size+1)) "enumerate":=⟨_,N,rfl⟩
  refine(turn_enum (P:=X.prog) (w:=X.w) (K:=X.K) (es:=es) (tk:=tk) (tp:=tp) (s1.heap.objs.size+1) s1.heap.objs.size l (Nat.ne_of_gt (Nat.lt_succ_self _))).self X.A 0 { s1 with heap:=h' } _ _ ⟨⟨_,N⟩,z⟩ ?_
  refine⟨_,[s1.heap.objs.size+1,s1.heap.objs.size],_,_,H1,rfl,I2,turn_enum _ _ l (Nat.ne_of_gt (Nat.lt_succ_self _)),⟨⟨_,N⟩,z⟩,fun b U=>?_,q⟩
  have G:s1.heap.objs.size<=b:=by
   simp only[mem_cons,not_mem_nil,or_false]at U
   rcases U with rfl|rfl
   .exact Nat.le_succ _
   .exact Nat.le_refl _
  exact J.fpOk G (J.hok.fresh G)
end
end
section
noncomputable def XAt (a C:Addr)(h:Heap):Prop:=∃ o vs,h.get? a=some o/\o.cls= .ref C/\o.data= .fields vs
noncomputable def xName (K:W.Frag)(C:Addr):Option Str:=match K.lookup C with
 |some ⟨_,_,.cls cd,_⟩=>some cd.name
 |_=>none
inductive D where
 |non|bl (b:Bool)|int (i:Int)|str (x:Str)|lst (ds:List D)|tup (ds:List D)|exc (c:Str)
 |ptr (a:Addr)|obj (c:Str) (ns:List Str) (ds:List D)
mutual
inductive Rep (K:W.Frag)(F:Hp):V->D->Prop
 |non:Rep K F .non .non
 |bl (b:Bool):Rep K F (.bl b) (.bl b)
 |int (i:Int):Rep K F (.int i) (.int i)
 |str (x:Str):Rep K F (.str x) (.str x)
 |lst {a:Addr} {xs:List V} {ds:List D}:SqL K F a xs->Reps K F xs ds->Rep K F (.ref a) (.lst ds)
 |tup {a:Addr} {xs:List V} {ds:List D}:SqT K F a xs->Reps K F xs ds->Rep K F (.ref a) (.tup ds)
 |exc {a C:Addr} {c:Str}:(W.nsIn K mainGlobals c=some (some (.ref C))/\xName K C=some c)->F a=some (.ext (XAt a C))->Rep K F (.ref a) (.exc c)
 |ptr (a:Addr):Rep K F (.ref a) (.ptr a)
 |obj {a dx C:Addr} {c:Str} {ns:List Str} {xs:List V} {ds:List D}:W.nsIn K mainGlobals c=some (some (.ref C))->ns.length=xs.length->F a=some (.ins C dx (ns.zip xs))->F dx=some (.own a)->Reps K F xs ds->Rep K F (.ref a) (.obj c ns ds)
inductive Reps (K:W.Frag)(F:Hp):List V->List D->Prop
 |nil:Reps K F [] []
 |cons {v:V} {d:D} {vs:List V} {ds:List D}:Rep K F v d->Reps K F vs ds->Reps K F (v::vs) (d::ds)
end
theorem Same.seqT {K:W.Frag}{H H':Hp}{a:Addr}{xs:List V}(e:Same H H')(h:SqT K H a xs):SqT K H' a xs:=by
 rcases h with (h|⟨o,h⟩)|h
 .exact .inl (.inl (e _ _ h))
 .exact .inl (.inr ⟨o,e _ _ h⟩)
 .exact .inr h
section
variable {K:W.Frag}{F F':Hp}
mutual
theorem Rep.mono (e:Same F F'):∀{v:V}{d:D},Rep K F v d->Rep K F' v d
 |_,_,.non=>.non
 |_,_,.bl b=>.bl b
 |_,_,.int i=>.int i
 |_,_,.str x=>.str x
 |_,_,.lst h r=>.lst (e.seq h) (Reps.mono e r)
 |_,_,.tup h r=>.tup (e.seqT h) (Reps.mono e r)
 |_,_,.exc h r=>.exc h (e _ _ r)
 |_,_,.ptr a=>.ptr a
 |_,_,.obj c l h h2 r=>.obj c l (e _ _ h) (e _ _ h2) (Reps.mono e r)
theorem Reps.mono (e:Same F F'):∀{vs:List V}{ds:List D},Reps K F vs ds->Reps K F' vs ds
 |_,_,.nil=>.nil
 |_,_,.cons h r=>.cons (Rep.mono e h) (Reps.mono e r)
end
theorem Reps.length:∀{vs:List V}{ds:List D},Reps K F vs ds->vs.length=ds.length
 |_,_,.nil=>rfl
 |_,_,.cons _ r=>congrArg (·+1) (Reps.length r)
theorem Reps.get:∀{vs:List V}{ds:List D}{i:Nat}{d:D},Reps K F vs ds->ds[i]? =some d->∃ v,vs[i]? =some v/\Rep K F v d
 |_,_,_,_,.nil,e=>by simp at e
 |_,_,0,_,.cons h _,e=>by simp at e;subst e;exact⟨_,rfl,h⟩
 |_,_,i+1,d,.cons _ r,e=>by
  obtain⟨v,h1,h2⟩:=Reps.get (i:=i) (d:=d) r (by simpa using e)
  exact⟨v,by simpa using h1,h2⟩
theorem Reps.get':∀{vs:List V}{ds:List D}{i:Nat}{v:V},Reps K F vs ds->vs[i]? =some v->∃ d,ds[i]? =some d/\Rep K F v d
 |_,_,_,_,.nil,e=>by simp at e
 |_,_,0,_,.cons h _,e=>by simp at e;subst e;exact⟨_,rfl,h⟩
 |_,_,i+1,d,.cons _ r,e=>by
  obtain⟨v,h1,h2⟩:=Reps.get' (i:=i) (v:=d) r (by simpa using e)
  exact⟨v,by simpa using h1,h2⟩
theorem Reps.append:∀{vs ws:List V}{ds es:List D},Reps K F vs ds->Reps K F ws es->Reps K F (vs++ws) (ds++es)
 |_,_,_,_,.nil,s=>s
 |_,_,_,_,.cons h r,s=>.cons h (Reps.append r s)
theorem Reps.take:∀{vs:List V}{ds:List D}(n:Nat),Reps K F vs ds->Reps K F (vs.take n) (ds.take n)
 |_,_,0,_=>.nil
 |_,_,_+1,.nil=>.nil
 |_,_,n+1,.cons h r=>.cons h (Reps.take n r)
theorem Reps.drop:∀{vs:List V}{ds:List D}(n:Nat),Reps K F vs ds->Reps K F (vs.drop n) (ds.drop n)
 |_,_,0,r=>r
 |_,_,_+1,.nil=>.nil
 |_,_,n+1,.cons _ r=>Reps.drop n r
theorem Reps.set {v:V}{d:D}(h:Rep K F v d):∀{vs:List V}{ds:List D}(i:Nat),Reps K F vs ds->Reps K F (vs.set i v) (ds.set i d)
 |_,_,_,.nil=>.nil
 |_,_,0,.cons _ r=>.cons h r
 |_,_,i+1,.cons q r=>.cons q (Reps.set h i r)
theorem Reps.reverse {vs:List V}{ds:List D}(h:Reps K F vs ds):Reps K F vs.reverse ds.reverse:=by
 induction vs generalizing ds with
 |nil=>cases h;exact .nil
 |cons v vs j=>
  cases h with
  |cons h r=>rw[reverse_cons,reverse_cons];exact(j r).append (.cons h .nil)
end
structure Ext (F H F' H':Hp):Prop where
 ff:Same F F'
 hh:Same H H'
 fh:Same F' H'
 new:∀ b,F b=none->F' b≠none->H b=none
 nf:∀ b o u,F' b=some (.frz o u)->F b=some (.frz o u)
theorem Ext.refl {F H:Hp}(h:Same F H):Ext F H F H:=⟨Same.refl _,Same.refl _,h,fun b e n=>absurd e n,fun _ _ _ z=>z⟩
theorem Ext.trans {F H F1 H1 F2 H2:Hp}(a:Ext F H F1 H1)(b:Ext F1 H1 F2 H2):Ext F H F2 H2:=
 ⟨a.ff.trans b.ff,a.hh.trans b.hh,b.fh,fun c e n=>by
  by_cases h:F1 c=none
  .exact a.hh.free (b.new c h n)
  .exact a.new c e h,fun c o u z=>a.nf c o u (b.nf c o u z)⟩
theorem Same.put {F H:Hp}{p:Addr}{o:HO}(h:Same F H)(hp:F p=none):Same F (upd H p o):=fun b u e=>by
 rw[upd_ne (ne_of_none e hp)];exact h b u e
theorem Same.put2 {F H:Hp}{p:Addr}{o:HO}(h:Same F H):Same (upd F p o) (upd H p o):=fun b u e=>by
 by_cases j:b=p
 .subst j;rw[upd_same]at e ⊢;exact e
 .rw[upd_ne j]at e ⊢;exact h b u e
theorem Ext.laid {F H:Hp}{p:Addr}{o:HO}(h:Same F H)(hp:H p=none)(G:∀ a u,o≠ .frz a u:=by intro _ _ z;cases z):Ext F H (upd F p o) (upd H p o):=
 ⟨(Same.refl F).put (h.free hp),(Same.refl H).put hp,h.put2,fun b e n=>by
  by_cases j:b=p
  .subst j;exact hp
  .rw[upd_ne j]at n;exact absurd e n,fun b a u z=>by
  by_cases j:b=p
  .subst j;rw[upd_same]at z;exact absurd (Option.some.inj z) (G a u)
  .rw[upd_ne j]at z;exact z⟩
theorem Ext.own {F H:Hp}{p:Addr}{o:HO}(h:Same F H)(hp:H p=none):Ext F H F (upd H p o):=
 ⟨Same.refl F,(Same.refl H).put hp,h.put (h.free hp),fun b e n=>absurd e n,fun _ _ _ z=>z⟩
theorem Ext.freeze {F H F' H':Hp}{p:Addr}{o:HO}(a:Ext F H F' H')(G:F' p=none)(hp:H p=none)(L:H' p=some o)(J:∀ a u,o≠ .frz a u:=by intro _ _ z;cases z):Ext F H (upd F' p o) H':=
 ⟨a.ff.put (a.ff.free G),a.hh,fun b u e=>by
   by_cases j:b=p
   .subst j;rw[upd_same]at e;cases e;exact L
   .rw[upd_ne j]at e;exact a.fh b u e,fun b e n=>by
   by_cases j:b=p
   .subst j;exact hp
   .rw[upd_ne j]at n;exact a.new b e n,fun b c u z=>by
   by_cases j:b=p
   .subst j;rw[upd_same]at z;exact absurd (Option.some.inj z) (J c u)
   .rw[upd_ne j]at z;exact a.nf b c u z⟩
inductive S where
 |sh (d:D)|own (ds:List D)|ob (p:Addr) (ds:List D)
noncomputable abbrev Ro:=List (Option S)
structure Rl (K:W.Frag)(F0 H0 F H:Hp)(σ:St)(ρ:Ro):Prop where
 ext:Ext F0 H0 F H
 len:σ.length=ρ.length
 sh:∀(i:Nat) d,ρ[i]? =some (some (.sh d))->∃ v,σ[i]? =some (some v)/\Rep K F v d
 own:∀(i:Nat) ds,ρ[i]? =some (some (.own ds))->∃ p xs,σ[i]? =some (some (.ref p))/\F p=none/\H p=some (.lst xs)/\Reps K F xs ds/\H0 p=none
 inj:∀(i j:Nat) p ds es,i≠j->ρ[i]? =some (some (.own ds))->ρ[j]? =some (some (.own es))->σ[i]? =some (some (.ref p))->σ[j]? =some (some (.ref p))->False
 ob:∀(i:Nat) p ds,ρ[i]? =some (some (.ob p ds))->σ[i]? =some (some (.ref p))/\F p=none/\H0 p=none/\∃ xs,H p=some (.lst xs)/\Reps K F xs ds
 obn:∀(i j:Nat) p ds es,ρ[i]? =some (some (.ob p ds))->ρ[j]? =some (some (.own es))->σ[j]? =some (some (.ref p))->False
 ob1:∀(i j:Nat) p q ds es,ρ[i]? =some (some (.ob p ds))->ρ[j]? =some (some (.ob q es))->i=j
noncomputable def nob:Option S->Prop
 |some (.ob _ _)=>False
 |_=>True
theorem set_ob {ρ:Ro}{i j:Nat}{x:Option S}{p:Addr}{ds:List D}(e:(ρ.set i x)[j]? =some (some (.ob p ds)))(J:nob x:=by exact True.intro):i≠j/\ρ[j]? =some (some (.ob p ds)):=by
 by_cases G:i=j
 .subst G
  rcases Nat.lt_or_ge i ρ.length with z|z
  .rw[getElem?_set_self z]at e;cases e;exact J.elim
  .rw[getElem?_eq_none (by simpa using z)]at e;cases e
 .rw[getElem?_set_ne G]at e;exact⟨G,e⟩
section
variable {K:W.Frag}{F0 H0 F H F' H':Hp}{σ:St}{ρ:Ro}
theorem Rl.fh (r:Rl K F0 H0 F H σ ρ):Same F H:=r.ext.fh
theorem Rl.go (r:Rl K F0 H0 F H σ ρ)(e:Ext F H F' H'):Rl K F0 H0 F' H' σ ρ where
 ext:=r.ext.trans e
 len:=r.len
 sh:=fun i d h=>let ⟨v,a,b⟩:=r.sh i d h;⟨v,a,b.mono e.ff⟩
 own:=fun i ds h=>by
  obtain⟨p,xs,a,b,c,d,z⟩:=r.own i ds h
  refine⟨p,xs,a,?_,e.hh _ _ c,d.mono e.ff,z⟩
  cases q:F' p with
  |none=>rfl
  |some o=>have:=e.new p b (by rw[q];simp);rw[this]at c;cases c
 inj:=r.inj
 ob:=fun i p ds h=>by
  obtain⟨a,b,c,xs,d,z⟩:=r.ob i p ds h
  refine⟨a,?_,c,xs,e.hh _ _ d,z.mono e.ff⟩
  cases q:F' p with
  |none=>rfl
  |some o=>have:=e.new p b (by rw[q];simp);rw[this]at d;cases d
 obn:=r.obn
 ob1:=r.ob1
theorem Rl.set (r:Rl K F0 H0 F H σ ρ){i:Nat}{v:V}{d:D}(h:Rep K F v d):Rl K F0 H0 F H (σ.set i (some v)) (ρ.set i (some (.sh d))) where
 ext:=r.ext
 len:=by simp[r.len]
 sh:=fun j d' e=>by
  by_cases N:i=j
  .subst N
   have L:i<ρ.length:=by
    rcases Nat.lt_or_ge i ρ.length with z|z
    .exact z
    .rw[getElem?_eq_none (by simpa using z)]at e;cases e
   rw[getElem?_set_self L]at e
   cases e
   exact⟨v,by rw[getElem?_set_self (by rw[r.len];exact L)],h⟩
  .rw[getElem?_set_ne N]at e ⊢
   exact r.sh j d' e
 own:=fun j ds e=>by
  by_cases N:i=j
  .subst N
   have L:i<ρ.length:=by
    rcases Nat.lt_or_ge i ρ.length with z|z
    .exact z
    .rw[getElem?_eq_none (by simpa using z)]at e;cases e
   rw[getElem?_set_self L]at e
   cases e
  .rw[getElem?_set_ne N]at e ⊢
   exact r.own j ds e
 inj:=fun j k p ds es U J G e3 Y=>by
  have Z:i≠j:=fun z=>by
   subst z
   have L:i<ρ.length:=by
    rcases Nat.lt_or_ge i ρ.length with z|z
    .exact z
    .rw[getElem?_eq_none (by simpa using z)]at J;cases J
   rw[getElem?_set_self L]at J;cases J
  have O:i≠k:=fun z=>by
   subst z
   have L:i<ρ.length:=by
    rcases Nat.lt_or_ge i ρ.length with z|z
    .exact z
    .rw[getElem?_eq_none (by simpa using z)]at G;cases G
   rw[getElem?_set_self L]at G;cases G
  rw[getElem?_set_ne Z]at J e3
  rw[getElem?_set_ne O]at G Y
  exact r.inj j k p ds es U J G e3 Y
 ob:=fun j p ds e=>by
  obtain⟨n,e⟩:=set_ob e
  rw[getElem?_set_ne n];exact r.ob j p ds e
 obn:=fun j k p ds es J G e3=>by
  obtain⟨n,J⟩:=set_ob J
  have O:i≠k:=fun z=>by
   subst z
   have L:i<ρ.length:=by
    rcases Nat.lt_or_ge i ρ.length with z|z
    .exact z
    .rw[getElem?_eq_none (by simpa using z)]at G;cases G
   rw[getElem?_set_self L]at G;cases G
  rw[getElem?_set_ne O]at G e3
  exact r.obn j k p ds es J G e3
 ob1:=fun j k p q ds es J G=>r.ob1 j k p q ds es (set_ob J).2 (set_ob G).2
theorem Rl.setOwn (r:Rl K F0 H0 F H σ ρ){i:Nat}{p:Addr}{xs:List V}{ds:List D}(hF:F p=none)(hH:H p=some (.lst xs))(h:Reps K F xs ds)(h0:H0 p=none)
  (fr:∀(j:Nat) es,i≠j->ρ[j]? =some (some (.own es))->σ[j]? =some (some (.ref p))->False) (fo:∀(j:Nat) q es,ρ[j]? =some (some (.ob q es))->q≠p):Rl K F0 H0 F H (σ.set i (some (.ref p))) (ρ.set i (some (.own ds))) where
 ext:=r.ext
 len:=by simp[r.len]
 sh:=fun j d' e=>by
  by_cases Z:i=j
  .subst Z
   have G:i<ρ.length:=by
    rcases Nat.lt_or_ge i ρ.length with z|z
    .exact z
    .rw[getElem?_eq_none (by simpa using z)]at e;cases e
   rw[getElem?_set_self G]at e
   cases e
  .rw[getElem?_set_ne Z]at e ⊢
   exact r.sh j d' e
 own:=fun j es e=>by
  by_cases Z:i=j
  .subst Z
   have G:i<ρ.length:=by
    rcases Nat.lt_or_ge i ρ.length with z|z
    .exact z
    .rw[getElem?_eq_none (by simpa using z)]at e;cases e
   rw[getElem?_set_self G]at e
   cases e
   exact⟨p,xs,by rw[getElem?_set_self (by rw[r.len];exact G)],hF,hH,h,h0⟩
  .rw[getElem?_set_ne Z]at e ⊢
   exact r.own j es e
 inj:=fun j k q es L U J N e3 O=>by
  by_cases n1:i=j
  .subst n1
   rw[getElem?_set_ne U]at N O
   have G:i<σ.length:=by
    rcases Nat.lt_or_ge i σ.length with z|z
    .exact z
    .rw[getElem?_eq_none (by simpa using z)]at e3;cases e3
   rw[getElem?_set_self G]at e3
   cases e3
   exact fr k L U N O
  .rw[getElem?_set_ne n1]at J e3
   by_cases Y:i=k
   .subst Y
    have G:i<σ.length:=by
     rcases Nat.lt_or_ge i σ.length with z|z
     .exact z
     .rw[getElem?_eq_none (by simpa using z)]at O;cases O
    rw[getElem?_set_self G]at O
    cases O
    exact fr j es n1 J e3
   .rw[getElem?_set_ne Y]at N O
    exact r.inj j k q es L U J N e3 O
 ob:=fun j q es e=>by
  obtain⟨n,e⟩:=set_ob e
  rw[getElem?_set_ne n];exact r.ob j q es e
 obn:=fun j k q es L J N e3=>by
  obtain⟨n,J⟩:=set_ob J
  by_cases Y:i=k
  .subst Y
   have G:i<σ.length:=by
    rcases Nat.lt_or_ge i σ.length with z|z
    .exact z
    .rw[getElem?_eq_none (by simpa using z)]at e3;cases e3
   rw[getElem?_set_self G]at e3
   cases e3
   exact fo j p es J rfl
  .rw[getElem?_set_ne Y]at N e3
   exact r.obn j k q es L J N e3
 ob1:=fun j k p q ds es J N=>r.ob1 j k p q ds es (set_ob J).2 (set_ob N).2
theorem Rl.freeze (r:Rl K F0 H0 F H σ ρ){i:Nat}{ds:List D}(h:ρ[i]? =some (some (.own ds))):∃ F',Rl K F0 H0 F' H σ (ρ.set i (some (.sh (.lst ds))))/\Same F F':=by
 obtain⟨p,xs,a,b,c,d,z⟩:=r.own i ds h
 have N:i<ρ.length:=(List.getElem?_eq_some_iff.mp h).1
 have e:Ext F0 H0 (upd F p (.lst xs)) H:=r.ext.freeze b z c
 have ff:Same F (upd F p (.lst xs)):=(Same.refl F).put b
 refine⟨upd F p (.lst xs),⟨e,by simp[r.len],fun j d' q=>?_,fun j es q=>?_,fun j k q es J Y G L e3 e4=>?_,fun j q es G=>?_,fun j k q es J G L e3=>?_,fun j k q q' es J G L=>r.ob1 j k q q' es J (set_ob G).2 (set_ob L).2⟩,ff⟩
 .by_cases hj:i=j
  .subst hj
   rw[getElem?_set_self N]at q
   cases q
   exact⟨_,a,.lst (SqL.of upd_same) (d.mono ff)⟩
  .rw[getElem?_set_ne hj]at q
   obtain⟨v,v1,v2⟩:=r.sh j d' q
   exact⟨v,v1,v2.mono ff⟩
 .by_cases hj:i=j
  .subst hj
   rw[getElem?_set_self N]at q
   cases q
  .rw[getElem?_set_ne hj]at q
   obtain⟨Z,O,a',b',c',d',z'⟩:=r.own j es q
   have hp:Z≠p:=fun w=>r.inj i j p ds es hj h q a (by rw[<-w];exact a')
   exact⟨Z,O,a',by rw[upd_ne hp];exact b',c',d'.mono ff,z'⟩
 .have n1:i≠j:=fun w=>by subst w;rw[getElem?_set_self N]at G;cases G
  have U:i≠k:=fun w=>by subst w;rw[getElem?_set_self N]at L;cases L
  rw[getElem?_set_ne n1]at G
  rw[getElem?_set_ne U]at L
  exact r.inj j k q es J Y G L e3 e4
 .obtain⟨n,G⟩:=set_ob G
  obtain⟨o1,o2,o3,zs,o4,o5⟩:=r.ob j q es G
  have hp:q≠p:=fun w=>r.obn j i q es ds G h (by rw[w];exact a)
  exact⟨o1,by rw[upd_ne hp];exact o2,o3,zs,o4,o5.mono ff⟩
 .obtain⟨n,G⟩:=set_ob G
  have U:i≠k:=fun w=>by subst w;rw[getElem?_set_self N]at L;cases L
  rw[getElem?_set_ne U]at L
  exact r.obn j k q es J G L e3
theorem Rl.write (r:Rl K F0 H0 F H σ ρ){i:Nat}{p:Addr}{ys:List V}{ds es:List D}(h:ρ[i]? =some (some (.own ds)))(hp:σ[i]? =some (some (.ref p)))(hy:Reps K F ys es):
  Rl K F0 H0 F (upd H p (.lst ys)) σ (ρ.set i (some (.own es))):=by
 obtain⟨p',a0,a,b,c,d,z⟩:=r.own i ds h
 rw[hp]at a;cases a
 have hl:i<ρ.length:=(List.getElem?_eq_some_iff.mp h).1
 refine⟨⟨r.ext.ff,r.ext.hh.put z,r.ext.fh.put b,r.ext.new,r.ext.nf⟩,by simp[r.len],fun j d' q=>?_,fun j fs q=>?_,fun j k q fs fs' O G J e3 e4=>?_,fun j q fs G=>?_,fun j k q fs fs' G J e3=>?_,fun j k q q' es Z G J=>r.ob1 j k q q' es Z (set_ob G).2 (set_ob J).2⟩
 .by_cases hj:i=j
  .subst hj
   rw[getElem?_set_self hl]at q
   cases q
  .rw[getElem?_set_ne hj]at q
   exact r.sh j d' q
 .by_cases hj:i=j
  .subst hj
   rw[getElem?_set_self hl]at q
   cases q
   exact⟨p,ys,hp,b,upd_same,hy,z⟩
  .rw[getElem?_set_ne hj]at q
   obtain⟨p2,N,a2,b2,c2,d2,z2⟩:=r.own j fs q
   have L:p2≠p:=fun w=>r.inj i j p ds fs hj h q hp (by rw[<-w];exact a2)
   exact⟨p2,N,a2,b2,by rw[upd_ne L];exact c2,d2,z2⟩
 .have back:∀(m:Nat) Y,(ρ.set i (some (S.own es)))[m]? =some (some (.own Y))->∃ U,ρ[m]? =some (some (.own U)):=fun m Y e=>by
   by_cases hm:i=m
   .subst hm;exact⟨ds,h⟩
   .rw[getElem?_set_ne hm]at e;exact⟨Y,e⟩
  obtain⟨g1,G⟩:=back j fs G
  obtain⟨g2,J⟩:=back k fs' J
  exact r.inj j k q g1 g2 O G J e3 e4
 .obtain⟨n,G⟩:=set_ob G
  obtain⟨o1,o2,o3,zs,o4,o5⟩:=r.ob j q fs G
  have L:q≠p:=fun w=>r.obn j i q fs ds G h (by rw[w];exact hp)
  exact⟨o1,o2,o3,zs,by rw[upd_ne L];exact o4,o5⟩
 .obtain⟨n,G⟩:=set_ob G
  by_cases n2:i=k
  .subst n2;exact r.obn j i q fs ds G h e3
  .rw[getElem?_set_ne n2]at J
   exact r.obn j k q fs fs' G J e3
end
theorem Rep.n' {K:W.Frag}{F:Hp}{x:V}(r:Rep K F x .non):x= .non:=by cases r;rfl
theorem Rep.b' {K:W.Frag}{F:Hp}{x:V}{i:Bool}(r:Rep K F x (.bl i)):x= .bl i:=by cases r;rfl
theorem Rep.i' {K:W.Frag}{F:Hp}{x:V}{i:Int}(r:Rep K F x (.int i)):x= .int i:=by cases r;rfl
theorem Rep.s' {K:W.Frag}{F:Hp}{x:V}{i:Str}(r:Rep K F x (.str i)):x= .str i:=by cases r;rfl
theorem Rep.l' {K:W.Frag}{F:Hp}{x:V}{ds:List D}(r:Rep K F x (.lst ds)):∃ a xs,x= .ref a/\SqL K F a xs/\Reps K F xs ds:=by cases r with |lst s r=>exact⟨_,_,rfl,s,r⟩
theorem Rep.t' {K:W.Frag}{F:Hp}{x:V}{ds:List D}(r:Rep K F x (.tup ds)):∃ a xs,x= .ref a/\SqT K F a xs/\Reps K F xs ds:=by cases r with |tup s r=>exact⟨_,_,rfl,s,r⟩
end
section
noncomputable abbrev ME:=Ro->Option D
noncomputable abbrev ML:=Ro->Option (List D)
noncomputable abbrev MB:=Ro->Option Bool
noncomputable def TD (K:W.Frag)(m:ME):TE:=fun σ H Q=>∃ F0 H0 F ρ d,Rl K F0 H0 F H σ ρ/\m ρ=some d/\∀ v F' H',Ext F H F' H'->Rep K F' v d->Q v H'
noncomputable def TF (K:W.Frag)(m:ML):TE:=fun σ H Q=>∃ F0 H0 F ρ ds,Rl K F0 H0 F H σ ρ/\m ρ=some ds/\∀ p xs F' H',Ext F H F' H'->H p=none->F' p=none->H' p=some (.lst xs)->Reps K F' xs ds->Q (.ref p) H'
noncomputable def TB (K:W.Frag)(m:ML):TE:=fun σ H Q=>∃ F0 H0 F ρ ds,Rl K F0 H0 F H σ ρ/\m ρ=some ds/\∀ p xs F' H',Ext F H F' H'->SqL K H' p xs->Reps K F' xs ds->Q (.ref p) H'
noncomputable def TC (K:W.Frag)(c:MB):TT:=fun σ H Q=>∃ F0 H0 F ρ b,Rl K F0 H0 F H σ ρ/\c ρ=some b/\∀ F' H',Ext F H F' H'->Q b H'
noncomputable def TAs (K:W.Frag)(m:ML):TA:=fun σ H Q=>∃ F0 H0 F ρ ds,Rl K F0 H0 F H σ ρ/\m ρ=some ds/\∀ vs F' H',Ext F H F' H'->Reps K F' vs ds->Q vs H'
noncomputable def PD (X:Cx)(e:Expr)(m:ME):Prop:=PE X e (TD X.K m)
noncomputable def PF (X:Cx)(e:Expr)(m:ML):Prop:=PE X e (TF X.K m)
noncomputable def PB (X:Cx)(e:Expr)(m:ML):Prop:=PE X e (TB X.K m)
noncomputable def PC' (X:Cx)(e:Expr)(c:MB):Prop:=PT X e (TC X.K c)
noncomputable def PCw (X:Cx)(e:Expr)(c:MB):Prop:=PW X e (TC X.K c)
noncomputable def PAs (X:Cx)(es:List Expr)(m:ML):Prop:=PA X es (TAs X.K m)
section
variable {X:Cx}{a b c e:Expr}{ma mb:ME}{pos:Pos}
theorem PE.imp {t t':TE}(h:PE X e t)(i:∀ σ H Q,t' σ H Q->t σ H Q):PE X e t':=fun pins s σ H Q I q=>h pins s σ H Q I (i σ H Q q)
theorem PT.imp {t t':TT}(h:PT X e t)(i:∀ σ H Q,t' σ H Q->t σ H Q):PT X e t':=fun pins s σ H Q I q=>h pins s σ H Q I (i σ H Q q)
theorem PW.imp {t t':TT}(h:PW X e t)(i:∀ σ H Q,t' σ H Q->t σ H Q):PW X e t':=fun w pins s σ H Q I q=>h w pins s σ H Q I (i σ H Q q)
theorem PA.imp {es:List Expr}{t t':TA}(h:PA X es t)(i:∀ σ H Q,t' σ H Q->t σ H Q):PA X es t':=fun pos pins s σ H Q I q=>h pos pins s σ H Q I (i σ H Q q)
noncomputable def mvar (i:Nat):ME:=fun ρ=>match ρ[i]? with |some (some (.sh d))=>some d|_=>none
noncomputable def bvar (i:Nat):ML:=fun ρ=>match ρ[i]? with |some (some (.sh (.lst ds)))=>some ds|some (some (.own ds))=>some ds|some (some (.ob _ ds))=>some ds|_=>none
noncomputable def mc (d:D):ME:=fun _=>some d
theorem pd_var (i:Nat){x:Str}{pos:Pos}(h:PE X (.Name x pos) (tVar i)):PD X (.Name x pos) (mvar i):=h.imp fun σ H Q j=>by
 obtain⟨F0,H0,F,ρ,d,r,e,q⟩:=j
 unfold mvar at e
 split at e
 .rename_i h'
  cases e
  obtain⟨v,G,z⟩:=r.sh i _ h'
  exact⟨v,G,q v F H (.refl r.fh) z⟩
 .cases e
theorem pb_var (i:Nat){x:Str}{pos:Pos}(h:PE X (.Name x pos) (tVar i)):PB X (.Name x pos) (bvar i):=h.imp fun σ H Q j=>by
 obtain⟨F0,H0,F,ρ,d,r,e,q⟩:=j
 unfold bvar at e
 split at e
 .rename_i ds h'
  cases e
  obtain⟨v,z,J⟩:=r.sh i _ h'
  cases J with
  |lst s L=>exact⟨_,z,q _ _ F H (.refl r.fh) (r.fh.seq s) L⟩
 .rename_i ds h'
  cases e
  obtain⟨p,xs,z,J,e3,G,_⟩:=r.own i _ h'
  exact⟨_,z,q _ _ F H (.refl r.fh) (SqL.of e3) G⟩
 .rename_i p ds h'
  cases e
  obtain⟨z,J,_,xs,e3,G⟩:=r.ob i p _ h'
  exact⟨_,z,q _ _ F H (.refl r.fh) (SqL.of e3) G⟩
 .cases e
theorem pd_int {i:Int}{j pos}:PD X (.Constant (.int i) j pos) (mc (.int i)):=pe_int.imp fun σ H Q z=>by
 obtain⟨F0,H0,F,ρ,d,r,e,q⟩:=z
 cases e;exact q _ F H (.refl r.fh) (.int i)
theorem pd_bl {b:Bool}{j pos}:PD X (.Constant (.bool b) j pos) (mc (.bl b)):=pe_bl.imp fun σ H Q z=>by
 obtain⟨F0,H0,F,ρ,d,r,e,q⟩:=z
 cases e;exact q _ F H (.refl r.fh) (.bl b)
theorem pd_non {j pos}:PD X (.Constant .none j pos) (mc .non):=pe_non.imp fun σ H Q z=>by
 obtain⟨F0,H0,F,ρ,d,r,e,q⟩:=z
 cases e;exact q _ F H (.refl r.fh) .non
theorem pd_str {x:Str}{j pos}:PD X (.Constant (.str x) j pos) (mc (.str x)):=pe_str.imp fun σ H Q z=>by
 obtain⟨F0,H0,F,ρ,d,r,e,q⟩:=z
 cases e;exact q _ F H (.refl r.fh) (.str x)
noncomputable def mlst (m:ML):ME:=fun ρ=>(m ρ).map .lst
noncomputable def aslst (m:ME):ML:=fun ρ=>match m ρ with |some (.lst ds)=>some ds|_=>none
theorem pf_pd {m:ML}(h:PF X e m):PD X e (mlst m):=h.imp fun σ H Q j=>by
 obtain⟨F0,H0,F,ρ,d,r,e,q⟩:=j
 unfold mlst at e
 cases hm:m ρ with
 |none=>rw[hm]at e;cases e
 |some ds=>
  rw[hm]at e;cases e
  refine⟨F0,H0,F,ρ,ds,r,hm,fun p xs F' H' x hp z J G=>?_⟩
  exact q _ (upd F' p (.lst xs)) H' (x.freeze z hp J) (.lst (SqL.of upd_same) (G.mono ((Same.refl F').put z)))
theorem pd_pb (h:PD X e ma):PB X e (aslst ma):=h.imp fun σ H Q j=>by
 obtain⟨F0,H0,F,ρ,d,r,e,q⟩:=j
 unfold aslst at e
 split at e
 .rename_i ds hm
  cases e
  refine⟨F0,H0,F,ρ,_,r,hm,fun v F' H' x z=>?_⟩
  cases z with
  |lst s G=>exact q _ _ F' H' x (x.fh.seq s) G
 .cases e
theorem pf_pb {m:ML}(h:PF X e m):PB X e m:=h.imp fun σ H Q ⟨F0,H0,F,ρ,d,r,e,q⟩=>
 ⟨F0,H0,F,ρ,d,r,e,fun p xs F' H' x hp G z j=>q p xs F' H' x (SqL.of z) j⟩
@[irreducible] noncomputable def m2 (f:D->D->Option D)(x y:ME):ME:=fun ρ=>(x ρ).bind fun d=>(y ρ).bind fun e=>f d e
noncomputable def OpD (K:W.Frag)(r:R2)(f:D->D->Option D):Prop:=∀(F H:Hp)(x y:V)(d e g:D)(Q:VK),Same F H->Rep K F x d->Rep K F y e->f d e=some g->(∀ v F' H',Ext F H F' H'->Rep K F' v g->Q v H')->r x y H Q
theorem m2_some {f:D->D->Option D}{ρ:Ro}{g:D}(h:m2 f ma mb ρ=some g):∃ d e,ma ρ=some d/\mb ρ=some e/\f d e=some g:=by
 unfold m2 at h
 cases h1:ma ρ with
 |none=>rw[h1]at h;cases h
 |some d=>
  cases h2:mb ρ with
  |none=>rw[h1,h2]at h;cases h
  |some e=>rw[h1,h2]at h;exact⟨d,e,rfl,rfl,h⟩
theorem op_d {r:R2}{f:D->D->Option D}(U:OpD X.K r f){σ:St}{H:Hp}{Q:VK}(h:TD X.K (m2 f ma mb) σ H Q):tOp r (TD X.K ma) (TD X.K mb) σ H Q:=by
 obtain⟨F0,H0,F,ρ,g,G,e,q⟩:=h
 obtain⟨d,J,h1,h2,Y⟩:=m2_some e
 refine⟨F0,H0,F,ρ,d,G,h1,fun x F1 H1 z O=>⟨F0,H0,F1,ρ,J,G.go z,h2,fun y F2 H2 j N=>?_⟩⟩
 exact U F2 H2 x y d J g Q j.fh (O.mono j.ff) N Y fun v F' H' L=>q v F' H' ((z.trans j).trans L)
theorem pd_op {j:Operator}{r:R2}{f:D->D->Option D}(z:OpR X (binaryOp j) r)(G:OpD X.K r f)(ha:PD X a ma)(J:PD X b mb):PD X (.BinOp a j b pos) (m2 f ma mb):=(pe_op z ha J).imp fun _ _ _ h=>op_d G h
theorem pd_cmp {j:CmpOp}{r:R2}{f:D->D->Option D}(z:OpR X (compareOp j) r)(G:OpD X.K r f)(ha:PD X a ma)(J:PD X b mb)(hm:behindInMarks j b=false):PD X (.Compare a [j] [b] pos) (m2 f ma mb):=(pe_cmpR z ha J hm).imp fun _ _ _ h=>op_d G h
noncomputable def mtest (m:ME):MB:=fun ρ=>match m ρ with |some (.bl b)=>some b|_=>none
theorem pc_cmp {z:CmpOp}{r:R2}{f:D->D->Option D}(J:OpR X (compareOp z) r)(L:OpD X.K r f)(ha:PD X a ma)(N:PD X b mb)(hm:behindInMarks z b=false):PC' X (.Compare a [z] [b] pos) (mtest (m2 f ma mb)):=(pt_cmpR J ha N hm).imp fun σ H Q j=>by
 obtain⟨F0,H0,F,ρ,g,G,e,q⟩:=j
 unfold mtest at e
 split at e
 .rename_i k hk
  cases e
  refine op_d L ⟨F0,H0,F,ρ,.bl g,G,hk,fun v F' H' x r=>?_⟩
  cases r
  exact⟨_,rfl,q F' H' x⟩
 .cases e
noncomputable def int2 (g:Int->Int->Option D):D->D->Option D
 | .int i,.int j=>g i j
 |_,_=>none
theorem int2_inv {g:Int->Int->Option D}{d e w:D}(h:int2 g d e=some w):∃ i j,d= .int i/\e= .int j/\g i j=some w:=by
 cases d with
 |int i=>
  cases e with
  |int j=>exact⟨i,j,rfl,rfl,h⟩
  |_=>cases h
 |_=>cases h
theorem opd_rI0 {K:W.Frag}{g:Int->Int->V}{g':Int->Int->D}(J:∀ F i j,Rep K F (g i j) (g' i j)):OpD K (rI0 g) (int2 fun i j=>some (g' i j)):=by
 intro F H x y d e w Q s G z h q
 obtain⟨i,j,rfl,rfl,h'⟩:=int2_inv h
 clear h
 cases h'
 exact⟨i,j,G.i',z.i',q _ F H (.refl s) (J F i j)⟩
theorem opd_rI {K:W.Frag}{C:Int->Int->Prop}{ok:Int->Int->Bool}{g:Int->Int->V}{g':Int->Int->D}(N:∀ i j,ok i j=true->C i j)(L:∀ F i j,Rep K F (g i j) (g' i j)):
  OpD K (rI C g) (int2 fun i j=>if ok i j=true then some (g' i j)else none):=by
 intro F H x y d e w Q s J G h q
 obtain⟨i,j,rfl,rfl,h'⟩:=int2_inv h
 clear h
 by_cases z:ok i j=true
 .rw[if_pos z]at h'
  cases h'
  exact⟨i,j,J.i',G.i',N i j z,q _ F H (.refl s) (L F i j)⟩
 .rw[if_neg z]at h'
  cases h'
noncomputable def subD:D->D->Option D:=int2 fun i j=>some (.int (i-j))
noncomputable def mulOk (i j:Int):Bool:=(decide (-(2^64)<i)&&decide (i<2^64)) || (decide (-(2^64)<j)&&decide (j<2^64))
noncomputable def mulD:D->D->Option D:=int2 fun i j=>if mulOk i j=true then some (.int (i*j))else none
noncomputable def fdivOk (_ j:Int):Bool:=decide (0<j)&&decide (j<1073741824)
noncomputable def fdivD:D->D->Option D:=int2 fun i j=>if fdivOk i j=true then some (.int (i / j))else none
noncomputable def modOk (_ j:Int):Bool:=decide (0<j)
noncomputable def modD:D->D->Option D:=int2 fun i j=>if modOk i j=true then some (.int (i % j))else none
noncomputable def powOk (i j:Int):Bool:=decide (0<=j)&&decide (j<=1000000)&&decide (i.natAbs<2^64)
noncomputable def powD:D->D->Option D:=int2 fun i j=>if powOk i j=true then some (.int (i^j.toNat))else none
noncomputable def shrOk (_ j:Int):Bool:=decide (0<=j)
noncomputable def shrD:D->D->Option D:=int2 fun i j=>if shrOk i j=true then some (.int (i / 2^j.toNat))else none
noncomputable def andD:D->D->Option D:=int2 fun i j=>some (.int (Builtin.bitAnd i j))
noncomputable def ltD:D->D->Option D:=int2 fun i j=>some (.bl (decide (i<j)))
noncomputable def leD:D->D->Option D:=int2 fun i j=>some (.bl (decide (i<=j)))
noncomputable def gtD:D->D->Option D:=int2 fun i j=>some (.bl (decide (j<i)))
noncomputable def geD:D->D->Option D:=int2 fun i j=>some (.bl (decide (j<=i)))
theorem opd_sub {K:W.Frag}:OpD K (rI0 fun i j=>.int (i-j)) subD:=opd_rI0 fun F i j=>.int _
theorem opd_mul {K:W.Frag}:OpD K (rI CMul fun i j=>.int (i*j)) mulD:=opd_rI (fun i j h=>by
 unfold mulOk at h
 simp only[Bool.or_eq_true,Bool.and_eq_true,decide_eq_true_eq]at h
 exact h) fun F i j=>.int _
theorem opd_fdiv {K:W.Frag}:OpD K (rI CDiv fun i j=>.int (i / j)) fdivD:=opd_rI (fun i j h=>by
 unfold fdivOk at h
 simp only[Bool.and_eq_true,decide_eq_true_eq]at h
 exact h) fun F i j=>.int _
theorem opd_mod {K:W.Frag}:OpD K (rI (fun _ j=>0<j) fun i j=>.int (i % j)) modD:=opd_rI (fun i j h=>of_decide_eq_true h) fun F i j=>.int _
theorem opd_pow {K:W.Frag}:OpD K (rI CPow fun i j=>.int (i^j.toNat)) powD:=opd_rI (fun i j h=>by
 unfold powOk at h
 simp only[Bool.and_eq_true,decide_eq_true_eq]at h
 exact⟨h.1.1,h.1.2,h.2⟩) fun F i j=>.int _
theorem opd_shr {K:W.Frag}:OpD K (rI (fun _ j=>0<=j) fun i j=>.int (i / 2^j.toNat)) shrD:=opd_rI (fun i j h=>of_decide_eq_true h) fun F i j=>.int _
theorem opd_and {K:W.Frag}:OpD K (rI0 fun i j=>.int (Builtin.bitAnd i j)) andD:=opd_rI0 fun F i j=>.int _
theorem opd_lt {K:W.Frag}:OpD K (rI0 fun i j=>.bl (decide (i<j))) ltD:=opd_rI0 fun F i j=>.bl _
theorem opd_le {K:W.Frag}:OpD K (rI0 fun i j=>.bl (decide (i<=j))) leD:=opd_rI0 fun F i j=>.bl _
theorem opd_gt {K:W.Frag}:OpD K (rI0 fun i j=>.bl (decide (j<i))) gtD:=opd_rI0 fun F i j=>.bl _
theorem opd_ge {K:W.Frag}:OpD K (rI0 fun i j=>.bl (decide (j<=i))) geD:=opd_rI0 fun F i j=>.bl _
noncomputable def eqS:D->D->Option Bool
 | .non,.non=>some true| .non,.int _=>some false| .int _,.non=>some false| .non,.bl _=>some false| .bl _,.non=>some false| .non,.str _=>some false| .str _,.non=>some false
 | .int i,.int j=>some (i==j)| .bl i,.bl j=>some (i==j)| .str i,.str j=>some (i==j)
 | .int _,.str _=>some false| .str _,.int _=>some false| .bl _,.str _=>some false| .str _,.bl _=>some false
 |_,_=>none
noncomputable def eqSD (d e:D):Option D:=(eqS d e).map .bl
noncomputable def neSD (d e:D):Option D:=(eqS d e).map fun b=>.bl (!b)
noncomputable def scV:D->V
 | .bl b=>.bl b| .int i=>.int i| .str x=>.str x|_=>.non
theorem eqS_inv {d e:D}{k:Bool}(h:eqS d e=some k):scal (scV d) (scV e)=true/\decide (scV d=scV e)=k:=by
 cases d with
 |non=>cases e <;> cases h <;> exact⟨rfl,rfl⟩
 |bl i=>
  cases e <;> cases h
  .exact⟨rfl,rfl⟩
  .exact⟨rfl,dec_bl⟩
  .exact⟨rfl,rfl⟩
 |int i=>
  cases e <;> cases h
  .exact⟨rfl,rfl⟩
  .exact⟨rfl,dec_int⟩
  .exact⟨rfl,rfl⟩
 |str i=>
  cases e <;> cases h
  .exact⟨rfl,rfl⟩
  .exact⟨rfl,rfl⟩
  .exact⟨rfl,rfl⟩
  .exact⟨rfl,dec_str⟩
 |_=>cases h
theorem eqS_l {d e:D}{k:Bool}(h:eqS d e=some k){K:W.Frag}{F:Hp}{x:V}(r:Rep K F x d):x=scV d:=by
 cases d with
 |non=>exact r.n'
 |bl i=>exact r.b'
 |int i=>exact r.i'
 |str i=>exact r.s'
 |_=>cases h
theorem eqS_sym (d e:D)(k:Bool)(h:eqS d e=some k):∃ j,eqS e d=some j:=by
 cases d with
 |non=>cases e <;> cases h <;> exact⟨_,rfl⟩
 |bl i=>cases e <;> cases h <;> exact⟨_,rfl⟩
 |int i=>cases e <;> cases h <;> exact⟨_,rfl⟩
 |str i=>cases e <;> cases h <;> exact⟨_,rfl⟩
 |_=>cases h
theorem opd_eqS {K:W.Frag}:OpD K rEq eqSD:=by
 intro F H x y d e w Q s G z h q
 unfold eqSD at h
 cases hk:eqS d e with
 |none=>rw[hk]at h;cases h
 |some k=>
  rw[hk]at h
  cases h
  obtain⟨J,j⟩:=eqS_sym d e k hk
  obtain⟨h1,h2⟩:=eqS_inv hk
  rw[eqS_l hk G,eqS_l j z]
  refine⟨h1,?_⟩
  rw[h2]
  exact q _ F H (.refl s) (.bl _)
theorem opd_neS {K:W.Frag}:OpD K rNe neSD:=by
 intro F H x y d e w Q s G z h q
 unfold neSD at h
 cases hk:eqS d e with
 |none=>rw[hk]at h;cases h
 |some k=>
  rw[hk]at h
  cases h
  obtain⟨J,j⟩:=eqS_sym d e k hk
  obtain⟨h1,h2⟩:=eqS_inv hk
  rw[eqS_l hk G,eqS_l j z]
  refine⟨h1,?_⟩
  rw[h2]
  exact q _ F H (.refl s) (.bl _)
noncomputable def m1 (f:D->Option D)(x:ME):ME:=fun ρ=>(x ρ).bind f
noncomputable def negD:D->Option D
 | .int i=>some (.int (-i))
 |_=>none
theorem m1_some {f:D->Option D}{ρ:Ro}{g:D}(h:m1 f ma ρ=some g):∃ d,ma ρ=some d/\f d=some g:=by
 unfold m1 at h
 cases h1:ma ρ with
 |none=>rw[h1]at h;cases h
 |some d=>rw[h1]at h;exact⟨d,rfl,h⟩
theorem pd_neg (ha:PD X a ma):PD X (.UnaryOp .USub a pos) (m1 negD ma):=(pe_un un_neg ha).imp fun σ H Q j=>by
 obtain⟨F0,H0,F,ρ,g,G,e,q⟩:=j
 obtain⟨d,h1,h2⟩:=m1_some e
 refine⟨F0,H0,F,ρ,d,G,h1,fun x F1 H1 z J=>?_⟩
 cases J <;> first| (cases h2;done)|skip
 cases h2
 exact⟨_,rfl,q _ F1 H1 z (.int _)⟩
noncomputable def notD:D->Option D
 | .bl b=>some (.bl (!b))
 |_=>none
theorem pd_not (ha:PD X a ma):PD X (.UnaryOp .Not a pos) (m1 notD ma):=(pe_not ha).imp fun σ H Q j=>by
 obtain⟨F0,H0,F,ρ,g,G,e,q⟩:=j
 obtain⟨d,h1,h2⟩:=m1_some e
 refine⟨F0,H0,F,ρ,d,G,h1,fun x F1 H1 z J=>?_⟩
 cases J <;> first| (cases h2;done)|skip
 cases h2
 exact⟨_,rfl,q _ F1 H1 z (.bl _)⟩
noncomputable def mand (x y:ME):ME:=fun ρ=>match x ρ with |some (.bl true)=>y ρ|some (.bl false)=>some (.bl false)|_=>none
theorem pd_one {j}(h:PD X a ma):PD X (.BoolOp j [a] pos) ma:=pe_one h
theorem pd_and {rest:List Expr}(ha:PD X a ma)(O:PD X (.BoolOp .And (b::rest) pos) mb):PD X (.BoolOp .And (a::b::rest) pos) (mand ma mb):=(pe_and ha O).imp fun σ H Q j=>by
 obtain⟨F0,H0,F,ρ,g,G,e,q⟩:=j
 unfold mand at e
 split at e
 .rename_i h1
  refine⟨F0,H0,F,ρ,_,G,h1,fun x F1 H1 z J=>?_⟩
  cases J
  refine⟨true,rfl,?_⟩
  refine iteT ?_
  exact⟨F0,H0,F1,ρ,g,G.go z,e,fun y F2 H2 L N=>q y F2 H2 (z.trans L) N⟩
 .rename_i h1
  cases e
  refine⟨F0,H0,F,ρ,_,G,h1,fun x F1 H1 z J=>?_⟩
  cases J
  refine⟨false,rfl,?_⟩
  refine iteF ?_
  exact q _ F1 H1 z (.bl _)
 .cases e
noncomputable def truD:D->Option Bool
 | .non=>some false
 | .bl b=>some b
 | .int i=>some (i != 0)
 | .str y=>if y.length<=sizeLine then some ((y.length:Int) != 0)else none
 | .lst ds=>some (!ds.isEmpty)
 | .tup ds=>some (!ds.isEmpty)
 | .exc _=>none
 | .ptr _=>none
 | .obj _ _ _=>none
noncomputable def mtru (m:ME):MB:=fun ρ=>(m ρ).bind truD
theorem isEmpty_reps {K:W.Frag}{F:Hp}{vs:List V}{ds:List D}(h:Reps K F vs ds):(!ds.isEmpty)= !vs.isEmpty:=by cases h <;> rfl
theorem pc_tru (ha:PD X a ma)(O:∀ j,isTrue a X.env j=(do let v ← j;standAt a.pos;holding [v] (truthy v)):=by intro _;rfl):PC' X a (mtru ma):=(pt_truth ha O).imp fun σ H Q z=>by
 obtain⟨F0,H0,F,ρ,b,L,e,q⟩:=z
 unfold mtru at e
 cases h1:ma ρ with
 |none=>rw[h1]at e;cases e
 |some d=>
  rw[h1]at e
  refine⟨F0,H0,F,ρ,d,L,h1,fun x F1 H1 G N=>⟨b,?_,q F1 H1 G⟩⟩
  cases N with
  |non=>cases e;rfl
  |bl=>cases e;rfl
  |int=>cases e;rfl
  |str x=>
   have e:(if x.length<=sizeLine then some ((x.length:Int) != 0)else none)=some b:=e
   split at e
   .rename_i hz
    cases e
    exact⟨hz,rfl⟩
   .cases e
  |lst s J=>cases e;exact .inl ⟨_,G.fh.seq s,isEmpty_reps J⟩
  |tup s J=>cases e;exact .inr (.inl ⟨_,G.fh.seqT s,isEmpty_reps J⟩)
  |exc=>cases e
  |ptr=>cases e
  |obj=>cases e
variable {ca cb:MB}
noncomputable def cand (x y:MB):MB:=fun ρ=>match x ρ with |some true=>y ρ|some false=>some false|none=>none
noncomputable def cor (x y:MB):MB:=fun ρ=>match x ρ with |some true=>some true|some false=>y ρ|none=>none
noncomputable def cnot (x:MB):MB:=fun ρ=>(x ρ).map (!·)
theorem pc_w (h:PCw X a ca):PC' X a ca:=h.pt
theorem pw1_and (h:PC' X a ca):PCw X (.BoolOp .And [a] pos) ca:=pw_and1 h
theorem pw1_or (h:PC' X a ca):PCw X (.BoolOp .Or [a] pos) ca:=pw_or1 h
theorem pcw_and {rest:List Expr}(ha:PC' X a ca)(L:PCw X (.BoolOp .And (b::rest) pos) cb):PCw X (.BoolOp .And (a::b::rest) pos) (cand ca cb):=(pw_and ha L).imp fun σ H Q j=>by
 obtain⟨F0,H0,F,ρ,g,G,e,q⟩:=j
 unfold cand at e
 split at e
 .rename_i h1
  refine⟨F0,H0,F,ρ,_,G,h1,fun F1 H1 z=>?_⟩
  refine iteT ?_
  exact⟨F0,H0,F1,ρ,g,G.go z,e,fun F2 H2 J=>q F2 H2 (z.trans J)⟩
 .rename_i h1
  cases e
  refine⟨F0,H0,F,ρ,_,G,h1,fun F1 H1 z=>?_⟩
  refine iteF ?_
  exact q F1 H1 z
 .cases e
theorem pcw_or {rest:List Expr}(ha:PC' X a ca)(L:PCw X (.BoolOp .Or (b::rest) pos) cb):PCw X (.BoolOp .Or (a::b::rest) pos) (cor ca cb):=(pw_or ha L).imp fun σ H Q j=>by
 obtain⟨F0,H0,F,ρ,g,G,e,q⟩:=j
 unfold cor at e
 split at e
 .rename_i h1
  cases e
  refine⟨F0,H0,F,ρ,_,G,h1,fun F1 H1 z=>?_⟩
  refine iteT ?_
  exact q F1 H1 z
 .rename_i h1
  refine⟨F0,H0,F,ρ,_,G,h1,fun F1 H1 z=>?_⟩
  refine iteF ?_
  exact⟨F0,H0,F1,ρ,g,G.go z,e,fun F2 H2 J=>q F2 H2 (z.trans J)⟩
 .cases e
theorem pc_not (ha:PC' X a ca):PC' X (.UnaryOp .Not a pos) (cnot ca):=(pt_not ha).imp fun σ H Q j=>by
 obtain⟨F0,H0,F,ρ,g,G,e,q⟩:=j
 unfold cnot at e
 cases h1:ca ρ with
 |none=>rw[h1]at e;cases e
 |some k=>
  rw[h1]at e;cases e
  exact⟨F0,H0,F,ρ,k,G,h1,fun F1 H1 z=>q F1 H1 z⟩
noncomputable def anil:ML:=fun _=>some []
@[irreducible] noncomputable def acons (x:ME)(r:ML):ML:=fun ρ=>(x ρ).bind fun d=>(r ρ).bind fun ds=>some (d::ds)
theorem acons_some {r:ML}{ρ:Ro}{j:List D}(h:acons ma r ρ=some j):∃ d ds,ma ρ=some d/\r ρ=some ds/\j=d::ds:=by
 unfold acons at h
 cases h1:ma ρ with
 |none=>rw[h1]at h;cases h
 |some d=>
  cases h2:r ρ with
  |none=>rw[h1,h2]at h;cases h
  |some ds=>rw[h1,h2]at h;cases h;exact⟨d,ds,rfl,rfl,rfl⟩
theorem pas_nil:PAs X [] anil:=pa_nil.imp fun σ H Q j=>by
 obtain⟨F0,H0,F,ρ,g,z,e,q⟩:=j
 cases e;exact q [] F H (.refl z.fh) .nil
theorem pas_cons {es:List Expr}{m:ML}(ha:PD X a ma)(U:PAs X es m)(O:starEach (a::es) X.env=(false,eval a X.env)::starEach es X.env:=by rfl):PAs X (a::es) (acons ma m):=(pa_cons ha U O).imp fun σ H Q j=>by
 obtain⟨F0,H0,F,ρ,g,J,e,q⟩:=j
 obtain⟨d,ds,h1,h2,rfl⟩:=acons_some e
 refine⟨F0,H0,F,ρ,d,J,h1,fun x F1 H1 G N=>⟨F0,H0,F1,ρ,ds,J.go G,h2,fun xs F2 H2 z L=>?_⟩⟩
 exact q _ F2 H2 (G.trans z) (.cons (N.mono z.ff) L)
@[irreducible] noncomputable def sized (m:ML):ML:=fun ρ=>match m ρ with |some ds=>if ds.length<=sizeLine then some ds else none|none=>none
theorem sized_some {m:ML}{ρ:Ro}{j:List D}(h:sized m ρ=some j):m ρ=some j/\j.length<=sizeLine:=by
 unfold sized at h
 cases h1:m ρ with
 |none=>rw[h1]at h;cases h
 |some ds=>
  rw[h1]at h
  have h:(if ds.length<=sizeLine then some ds else none)=some j:=h
  split at h
  .rename_i hz;cases h;exact⟨rfl,hz⟩
  .cases h
theorem pf_lst {es:List Expr}{m:ML}(h:PAs X es m):PF X (.List es pos) (sized m):=(pe_lst h).imp fun σ H Q j=>by
 obtain⟨F0,H0,F,ρ,g,J,e,q⟩:=j
 obtain⟨h1,h2⟩:=sized_some e
 refine⟨F0,H0,F,ρ,g,J,h1,fun vs F1 H1 z G=>⟨by rw[G.length];exact h2,fun p hp=>?_⟩⟩
 exact q p vs F1 _ (z.trans (Ext.own z.fh hp)) (z.hh.free hp) (z.fh.free hp) upd_same G
noncomputable def mtup (m:ML):ME:=fun ρ=>(sized m ρ).map .tup
theorem pd_tup {es:List Expr}{m:ML}{k:Nat}(h:PAs X es m):PD X (.Tuple es k pos) (mtup m):=(pe_tup h).imp fun σ H Q j=>by
 obtain⟨F0,H0,F,ρ,g,J,e,q⟩:=j
 unfold mtup at e
 cases h1:sized m ρ with
 |none=>rw[h1]at e;cases e
 |some ds=>
  rw[h1]at e;cases e
  obtain⟨h1,h2⟩:=sized_some h1
  refine⟨F0,H0,F,ρ,ds,J,h1,fun vs F1 H1 z G=>⟨by rw[G.length];exact h2,fun p hp=>?_⟩⟩
  exact q _ _ _ (z.trans (Ext.laid z.fh hp)) (.tup (SqT.of upd_same) (G.mono ((Same.refl F1).put (z.fh.free hp))))
noncomputable def mlen (m:ML):ME:=fun ρ=>(m ρ).map fun ds=>.int ds.length
@[irreducible] noncomputable def mix (m:ML)(i:ME):ME:=fun ρ=>(m ρ).bind fun ds=>(i ρ).bind fun| .int k=>atI ds k|_=>none
theorem atI_reps {K:W.Frag}{F:Hp}{vs:List V}{ds:List D}{k:Int}{d:D}(r:Reps K F vs ds)(h:atI ds k=some d):∃ v,atI vs k=some v/\Rep K F v d:=by
 unfold atI at h ⊢
 rw[r.length]
 cases q:ixN ds.length k with
 |none=>rw[q]at h;cases h
 |some j=>
  rw[q]at h
  exact r.get h
theorem pd_ix {G:ML}(ha:PB X a G)(Y:PD X b mb)(U:PlainIx b:=by exact fun _ _=>rfl):PD X (.Subscript a b pos) (mix G mb):=(pe_ix ix_list ha Y U).imp fun σ H Q j=>by
 obtain⟨F0,H0,F,ρ,g,L,e,q⟩:=j
 unfold mix at e
 cases h1:G ρ with
 |none=>rw[h1]at e;cases e
 |some ds=>
  cases h2:mb ρ with
  |none=>rw[h1,h2]at e;cases e
  |some i=>
   rw[h1,h2]at e
   refine⟨F0,H0,F,ρ,ds,L,h1,fun p xs F1 H1 J s1 O=>⟨F0,H0,F1,ρ,i,L.go J,h2,fun y F2 H2 z N=>?_⟩⟩
   cases N <;> first| (cases e;done)|skip
   rename_i k
   obtain⟨v,h3,Z⟩:=atI_reps (O.mono z.ff) (show atI ds k=some g from e)
   exact⟨p,xs,k,v,rfl,rfl,z.hh.seq s1,h3,q v F2 H2 (J.trans z) Z⟩
theorem cut_reps {K:W.Frag}{F:Hp}{vs:List V}{ds:List D}(r:Reps K F vs ds)(lo hi:Option Int):Reps K F (cutV vs lo hi) ((ds.drop (HT.sIx ds.length 0 lo)).take (HT.sIx ds.length ds.length hi-HT.sIx ds.length 0 lo)):=by
 unfold cutV
 rw[r.length]
 exact(r.drop _).take _
noncomputable def cutL (ds:List D)(lo hi:Option Int):List D:=(ds.drop (HT.sIx ds.length 0 lo)).take (HT.sIx ds.length ds.length hi-HT.sIx ds.length 0 lo)
noncomputable abbrev MO:=Ro->Option (Option Int)
noncomputable def onone:MO:=fun _=>some none
noncomputable def osome (m:ME):MO:=fun ρ=>(m ρ).bind fun| .int i=>some (some i)|_=>none
noncomputable def TOs (K:W.Frag)(m:MO):TO:=fun σ H Q=>∃ F0 H0 F ρ i,Rl K F0 H0 F H σ ρ/\m ρ=some i/\∀ F' H',Ext F H F' H'->Q i H'
noncomputable def POs (X:Cx)(e:Option Expr)(m:MO):Prop:=PO X e (TOs X.K m)
theorem PO.imp {e:Option Expr}{t t':TO}(h:PO X e t)(i:∀ σ H Q,t' σ H Q->t σ H Q):PO X e t':=fun pins s σ H Q I q=>h pins s σ H Q I (i σ H Q q)
theorem pos_none:POs X none onone:=PO.imp po_none fun σ H Q j=>by obtain⟨F0,H0,F,ρ,i,z,e,q⟩:=j;cases e;exact q F H (.refl z.fh)
theorem pos_some (h:PD X a ma):POs X (some a) (osome ma):=PO.imp (po_some h) fun σ H Q j=>by
 obtain⟨F0,H0,F,ρ,i,G,e,q⟩:=j
 unfold osome at e
 cases h1:ma ρ with
 |none=>rw[h1]at e;cases e
 |some d=>
  rw[h1]at e
  refine⟨F0,H0,F,ρ,d,G,h1,fun v F1 H1 z J=>?_⟩
  cases J <;> first| (cases e;done)|skip
  cases e
  exact⟨_,rfl,q F1 H1 z⟩
@[irreducible] noncomputable def mcut (m:ML)(lo hi:MO):ML:=fun ρ=>(m ρ).bind fun ds=>(lo ρ).bind fun l=>(hi ρ).bind fun h=>some (cutL ds l h)
theorem pf_cut {L:ML}{lo hi:Option Expr}{l h:MO}(ha:PB X a L)(hl:POs X lo l)(hh:POs X hi h)(Z:PE X e (tSl (rSlL X.K) (TB X.K L) (TOs X.K l) (TOs X.K h))):PF X e (mcut L l h):=Z.imp fun σ H Q G=>by
 obtain⟨F0,H0,F,ρ,g,O,e,q⟩:=G
 unfold mcut at e
 cases h1:L ρ with
 |none=>rw[h1]at e;cases e
 |some ds=>
  cases h2:l ρ with
  |none=>rw[h1,h2]at e;cases e
  |some i=>
   cases h3:h ρ with
   |none=>rw[h1,h2,h3]at e;cases e
   |some j=>
    rw[h1,h2,h3]at e;cases e
    refine⟨F0,H0,F,ρ,ds,O,h1,fun p xs F1 H1 N s1 Y=>⟨F0,H0,F1,ρ,i,O.go N,h2,fun F2 H2 J=>⟨F0,H0,F2,ρ,j,(O.go N).go J,h3,fun F3 H3 z=>?_⟩⟩⟩
    refine⟨p,xs,rfl,z.hh.seq (J.hh.seq s1),fun w hw=>?_⟩
    have U:=(N.trans J).trans z
    exact q w _ F3 _ (U.trans (Ext.own z.fh hw)) (U.hh.free hw) (z.fh.free hw) upd_same (cut_reps (Y.mono (J.ff.trans z.ff)) i j)
end
end
section
theorem list_add_any (l:Addr)(items:Array Value)(n:Nat)(b:Addr)(j:Array Value)(J:Nat)(dd G:Option Addr)(sl z:Array (Option Value))(N:items.size+j.size<=sizeLine):
  Meets (Builtin.«list.__add__» ⟨[.ref l,.ref b],[]⟩) (fun _ R s=>s.heap.get? l=some { cls:=.type "list",dict:=dd,data:=.seq items n,slots:=sl }/\s.heap.get? b=some { cls:=.type "list",dict:=G,data:=.seq j J,slots:=z }/\R (.ok (.ret (Value.ref s.heap.objs.size))) { s with heap:=s.heap.push { cls:=Value.type "list",data:=Data.seq (items++j) },toks:=s.toks }):=
 .of_wp fun prog w A R s h=>by obtain⟨hp,g,d,tk,os⟩:=s;obtain⟨L,O,h⟩:=h;have f1:=AutoSeq1.idx_int;have f2:=AutoSeq1.sub_tuple_tuple;have Z:=AutoSeq1.sub_list_list;have Y:=AutoSeq1.sub_tuple_list;have U:=AutoSeq1.sub_list_tuple;wp_walk using AutoSeq1.wpAny_loadPart' L,AutoSeq1.wpAny_loadPart' O;exact⟨_,rfl,h⟩
section
variable {X:Cx}{a b c e:Expr}{ma mb:ME}{pos:Pos}
noncomputable def rCatS (K:W.Frag):R2:=fun x y H Q=>∃ l b xs zs,x= .ref l/\y= .ref b/\SqL K H l xs/\SqL K H b zs/\xs.length+zs.length<=sizeLine/\∀ p,H p=none->Q (.ref p) (upd H p (.lst (xs++zs)))
theorem op_catS:OpR X (binaryOp .Add) (rCatS X.K):=by
 intro pins s σ H x y v u Q I rx ry h
 obtain⟨l,b,xs,zs,rfl,rfl,hH,hB,hz,q⟩:=h
 cases rx
 cases ry
 obtain⟨its,r,⟨⟨cl,dd,dt,sl⟩,n,e,Y,hd,U⟩,z⟩:=I.list hH
 obtain⟨j,O,⟨⟨a2,a1,a0,N⟩,n2,Z,L,J,G⟩,z2⟩:=I.list hB
 simp only at Y hd U L J G
 subst Y hd U L J G
 have l1:=r.length
 have l2:=O.length
 refine concat_meets (T:="list") ⟨_,e,rfl⟩ ⟨_,Z,rfl⟩ PySem.noFill_list_add PySem.seq_list_add F.slot_list_add F.entry_list_add (F.args_list_add_2 _ _) (list_add_any l its.toArray n b j.toArray n2 none none sl N (by rw[size_toArray,size_toArray];omega)) ⟨e,Z,?_⟩
 have ea:its.toArray++j.toArray=(its++j).toArray:=by simp
 rw[ea]
 exact⟨.ref _,_,I.lnew (t':=s.toks) (r.append O) (by rw[length_append];omega),rfl,q _ I.fresh⟩
@[irreducible] noncomputable def mcat (x y:ML):ML:=fun ρ=>(x ρ).bind fun ds=>(y ρ).bind fun es=>if ds.length+es.length<=sizeLine then some (ds++es)else none
theorem mcat_some {x y:ML}{ρ:Ro}{j:List D}(h:mcat x y ρ=some j):∃ ds es,x ρ=some ds/\y ρ=some es/\ds.length+es.length<=sizeLine/\j=ds++es:=by
 unfold mcat at h
 cases h1:x ρ with
 |none=>rw[h1]at h;cases h
 |some ds=>
  cases h2:y ρ with
  |none=>rw[h1,h2]at h;cases h
  |some es=>
   rw[h1,h2]at h
   have h:(if ds.length+es.length<=sizeLine then some (ds++es)else none)=some j:=h
   split at h
   .rename_i hz;cases h;exact⟨ds,es,rfl,rfl,hz,rfl⟩
   .cases h
theorem pf_cat {x y:ML}(ha:PB X a x)(Y:PB X b y):PF X (.BinOp a .Add b pos) (mcat x y):=(pe_op op_catS ha Y).imp fun σ H Q z=>by
 obtain⟨F0,H0,F,ρ,g,L,e,q⟩:=z
 obtain⟨ds,es,h1,h2,U,rfl⟩:=mcat_some e
 refine⟨F0,H0,F,ρ,ds,L,h1,fun p xs F1 H1 J s1 O=>⟨F0,H0,F1,ρ,es,L.go J,h2,fun p2 ys F2 H2 j s2 N=>?_⟩⟩
 refine⟨p,p2,xs,ys,rfl,rfl,j.hh.seq s1,s2,by rw[O.length,N.length];exact U,fun w hw=>?_⟩
 have G:=J.trans j
 exact q w _ F2 _ (G.trans (Ext.own j.fh hw)) (G.hh.free hw) (j.fh.free hw) upd_same ((O.mono j.ff).append N)
noncomputable def addD:D->D->Option D
 | .int i,.int j=>some (.int (i+j))
 | .lst ds,.lst es=>if ds.length+es.length<=sizeLine then some (.lst (ds++es))else none
 |_,_=>none
theorem opd_add {K:W.Frag}:OpD K (fun x y H Q=>(rI0 fun i j=>V.int (i+j)) x y H Q\/rCatS K x y H Q) addD:=by
 intro F H x y d e w Q s U O h q
 cases d with
 |int i=>
  cases e with
  |int j=>
   cases h
   exact .inl ⟨_,_,U.i',O.i',q _ F H (.refl s) (.int _)⟩
  |_=>cases h
 |lst G=>
  cases e with
  |lst z=>
   obtain⟨p1,Z,e1,s1,N⟩:=U.l'
   obtain⟨p2,Y,e2,s2,L⟩:=O.l'
   have h:(if G.length+z.length<=sizeLine then some (D.lst (G++z))else none)=some w:=h
   by_cases J:G.length+z.length<=sizeLine
   .rw[if_pos J]at h
    cases h
    refine .inr ⟨_,_,_,_,e1,e2,s.seq s1,s.seq s2,by rw[N.length,L.length];exact J,fun p hp=>?_⟩
    exact q _ _ _ (Ext.laid s hp) (.lst (SqL.of upd_same) ((N.append L).mono ((Same.refl F).put (s.free hp))))
   .rw[if_neg J]at h;cases h
  |_=>cases h
 |_=>cases h
theorem pd_add (ha:PD X a ma)(j:PD X b mb):PD X (.BinOp a .Add b pos) (m2 addD ma mb):=pd_op (OpR.or op_add op_catS) opd_add ha j
theorem pd_sub (ha:PD X a ma)(j:PD X b mb):PD X (.BinOp a .Sub b pos) (m2 subD ma mb):=pd_op op_sub opd_sub ha j
theorem pd_mul (ha:PD X a ma)(j:PD X b mb):PD X (.BinOp a .Mult b pos) (m2 mulD ma mb):=pd_op op_mul opd_mul ha j
theorem pd_fdiv (ha:PD X a ma)(j:PD X b mb):PD X (.BinOp a .FloorDiv b pos) (m2 fdivD ma mb):=pd_op op_fdiv opd_fdiv ha j
theorem pd_mod (ha:PD X a ma)(j:PD X b mb):PD X (.BinOp a .Mod b pos) (m2 modD ma mb):=pd_op op_mod opd_mod ha j
theorem pd_pow (ha:PD X a ma)(j:PD X b mb):PD X (.BinOp a .Pow b pos) (m2 powD ma mb):=pd_op op_pow opd_pow ha j
theorem pd_shr (ha:PD X a ma)(j:PD X b mb):PD X (.BinOp a .RShift b pos) (m2 shrD ma mb):=pd_op op_shr opd_shr ha j
theorem pd_band (ha:PD X a ma)(j:PD X b mb):PD X (.BinOp a .BitAnd b pos) (m2 andD ma mb):=pd_op op_and opd_and ha j
@[irreducible] noncomputable def call1 (f:List D->Option D)(m:ML):ME:=fun ρ=>(m ρ).bind f
noncomputable def CallD (K:W.Frag)(r:List V->Hp->VK->Prop)(f:List D->Option D):Prop:=∀(F H:Hp)(vs:List V)(ds:List D)(g:D)(Q:VK),Same F H->Reps K F vs ds->f ds=some g->(∀ v F' H',Ext F H F' H'->Rep K F' v g->Q v H')->r vs H Q
theorem call_d {r:List V->Hp->VK->Prop}{f:List D->Option D}{m:ML}(L:CallD X.K r f){σ:St}{H:Hp}{Q:VK}(h:TD X.K (call1 f m) σ H Q):tCB r (TAs X.K m) σ H Q:=by
 obtain⟨F0,H0,F,ρ,g,G,e,q⟩:=h
 unfold call1 at e
 cases h1:m ρ with
 |none=>rw[h1]at e;cases e
 |some ds=>
  rw[h1]at e
  exact⟨F0,H0,F,ρ,ds,G,h1,fun vs F1 H1 j J=>L F1 H1 vs ds g Q j.fh J e fun v F' H' z=>q v F' H' (j.trans z)⟩
theorem pd_lenB {e:Expr}{p:Pos}{m:ML}(O:Gl X "len")(hm:X.mg "len"=none)(ha:PB X e m)(N:starEach (e::[]) X.env=(false,eval e X.env)::starEach [] X.env:=by rfl)(U:starEach [e] X.env=(false,eval e X.env)::starEach [] X.env:=by rfl)(z:(backTo pos (starEach [] X.env)).any (·.1)=false:=by rfl):PD X (.Call (.Name "len" p) [e] [] pos) (mlen m):=
 (pe_callB call_len_seq O hm PySem.boot_len (pa_cons ha pa_nil N) (by decide) (by decide) U z).imp fun σ H Q j=>by
  obtain⟨F0,H0,F,ρ,g,J,e,q⟩:=j
  unfold mlen at e
  cases h1:m ρ with
  |none=>rw[h1]at e;cases e
  |some ds=>
   rw[h1]at e;cases e
   refine⟨F0,H0,F,ρ,ds,J,h1,fun p xs F1 H1 G s1 L=>⟨p,xs,rfl,.inl s1,?_⟩⟩
   rw[L.length]
   exact q _ F1 H1 G (.int _)
noncomputable def absF:List D->Option D
 |[.int i]=>some (.int (if i<0 then -i else i))
 |_=>none
theorem calld_abs {K:W.Frag}:CallD K (fun xs H Q=>∃ i,xs=[.int i]/\Q (.int (if i<0 then -i else i)) H) absF:=by
 intro F H vs ds g Q s r h q
 cases r with
 |nil=>cases h
 |cons r j=>
  cases j with
  |cons _ _=>revert h;unfold absF;intro h;split at h <;> simp_all
  |nil=>
   cases r with
   |int i=>cases h;exact⟨_,rfl,q _ F H (.refl s) (.int _)⟩
   |_=>cases h
theorem pd_abs {e:Expr}{p:Pos}{m:ML}(z:Gl X "abs")(hm:X.mg "abs"=none)(ha:PAs X [e] m)(G:starEach [e] X.env=(false,eval e X.env)::starEach [] X.env:=by rfl)(j:(backTo pos (starEach [] X.env)).any (·.1)=false:=by rfl):PD X (.Call (.Name "abs" p) [e] [] pos) (call1 absF m):=
 (pe_callB call_abs z hm PyProof.Rows.boot_abs ha (by decide) (by decide) G j).imp fun _ _ _ h=>call_d calld_abs h
noncomputable def two2 (k:Int->Int->Int):List D->Option D
 |[.int i,.int j]=>some (.int (k i j))
 |_=>none
theorem two2_inv {k:Int->Int->Int}{ds:List D}{g:D}(h:two2 k ds=some g):∃ i j,ds=[.int i,.int j]/\g= .int (k i j):=by
 cases ds with
 |nil=>cases h
 |cons d ds=>
  cases ds with
  |nil=>cases d <;> cases h
  |cons e ds=>
   cases ds with
   |cons f ds=>cases d <;> first| (cases h;done)| (cases e <;> cases h)
   |nil=>
    cases d with
    |int i=>
     cases e with
     |int j=>cases h;exact⟨i,j,rfl,rfl⟩
     |_=>cases h
    |_=>cases h
theorem calld_two {K:W.Frag}{k:Int->Int->Int}:CallD K (fun xs H Q=>∃ i j,xs=[.int i,.int j]/\Q (.int (k i j)) H) (two2 k):=by
 intro F H vs ds g Q s r h q
 obtain⟨i,j,rfl,rfl⟩:=two2_inv h
 cases r with
 |cons r z=>
  cases z with
  |cons G z=>
   cases z
   rw[r.i',G.i']
   exact⟨_,_,rfl,q _ F H (.refl s) (.int _)⟩
noncomputable def max2F:List D->Option D:=two2 fun i j=>if j>i then j else i
noncomputable def min2F:List D->Option D:=two2 fun i j=>if j<i then j else i
theorem pd_max2 {x y:Expr}{p:Pos}{m:ML}(L:X.calm=true)(G:Gl X "max")(hm:X.mg "max"=none)(ha:PAs X [x,y] m)(J:starEach [x,y] X.env=(false,eval x X.env)::starEach [y] X.env:=by rfl)(z:(backTo pos (starEach [y] X.env)).any (·.1)=false:=by rfl):PD X (.Call (.Name "max" p) [x,y] [] pos) (call1 max2F m):=
 (pe_callB (call_max2 L) G hm PyProof.Rows.boot_max ha (by decide) (by decide) J z).imp fun _ _ _ h=>call_d (calld_two (k:=fun i j=>if j>i then j else i)) h
theorem pd_min2 {x y:Expr}{p:Pos}{m:ML}(L:X.calm=true)(G:Gl X "min")(hm:X.mg "min"=none)(ha:PAs X [x,y] m)(J:starEach [x,y] X.env=(false,eval x X.env)::starEach [y] X.env:=by rfl)(z:(backTo pos (starEach [y] X.env)).any (·.1)=false:=by rfl):PD X (.Call (.Name "min" p) [x,y] [] pos) (call1 min2F m):=
 (pe_callB (call_min2 L) G hm PyProof.Rows.boot_min ha (by decide) (by decide) J z).imp fun _ _ _ h=>call_d (calld_two (k:=fun i j=>if j<i then j else i)) h
noncomputable def intF:List D->Option D
 |[.int i]=>some (.int i)
 |[.bl k]=>some (.int (if k then 1 else 0))
 |_=>none
theorem calld_int {K:W.Frag}:CallD K (fun xs H Q=>(∃ i,xs=[.int i]/\Q (.int i) H)\/∃ k,xs=[.bl k]/\Q (.int (if k then 1 else 0)) H) intF:=by
 intro F H vs ds g Q s r h q
 cases r with
 |nil=>cases h
 |cons r j=>
  cases j with
  |cons _ _=>revert h;unfold intF;intro h;split at h <;> simp_all
  |nil=>
   cases r with
   |int i=>cases h;exact .inl ⟨_,rfl,q _ F H (.refl s) (.int _)⟩
   |bl i=>cases h;exact .inr ⟨_,rfl,q _ F H (.refl s) (.int _)⟩
   |_=>cases h
theorem pd_intc {e:Expr}{p:Pos}{m:ML}(G:Gl X "int")(hm:X.mg "int"=none)(ha:PAs X [e] m)(z:bootBuiltins "int"=some (.type "int"))(J:starEach [e] X.env=(false,eval e X.env)::starEach [] X.env:=by rfl)(j:(backTo pos (starEach [] X.env)).any (·.1)=false:=by rfl):PD X (.Call (.Name "int" p) [e] [] pos) (call1 intF m):=
 (pe_callTy call_int1 G hm z ha (by decide) (by decide) J j).imp fun _ _ _ h=>call_d calld_int h
theorem pf_list {e:Expr}{p:Pos}{m:ML}(U:Gl X "list")(hm:X.mg "list"=none)(ha:PB X e m)(O:bootBuiltins "list"=some (.type "list"))(J:starEach (e::[]) X.env=(false,eval e X.env)::starEach [] X.env:=by rfl)(G:(backTo pos (starEach [] X.env)).any (·.1)=false:=by rfl):PF X (.Call (.Name "list" p) [e] [] pos) m:=
 (pe_callTy call_list_of U hm O (pa_cons ha pa_nil J) (by decide) (by decide) J G).imp fun σ H Q j=>by
  obtain⟨F0,H0,F,ρ,ds,L,e,q⟩:=j
  refine⟨F0,H0,F,ρ,ds,L,e,fun p xs F1 H1 z s1 N=>⟨p,xs,rfl,.inl s1,fun w hw=>?_⟩⟩
  exact q w _ F1 _ (z.trans (Ext.own z.fh hw)) (z.hh.free hw) (z.fh.free hw) upd_same N
end
end
section
inductive Out where
 |nx (ρ:Ro)|bk (ρ:Ro)|ct (ρ:Ro)|rt (d:D)|rf (ds:List D)|rp (d:D) (ds:List D)|rg (d:D) (p:Addr) (r:List D)|rgf (ds:List D) (p:Addr) (r:List D)
noncomputable abbrev MS:=Ro->Option Out
noncomputable def okO (K:W.Frag)(F0 H0 Fb:Hp)(Dn:Ends):Out->Prop
 | .nx ρ=>∀ F H σ,Rl K F0 H0 F H σ ρ->Same Fb F->Dn.nx σ H
 | .bk ρ=>∀ F H σ,Rl K F0 H0 F H σ ρ->Same Fb F->Dn.bk σ H
 | .ct ρ=>∀ F H σ,Rl K F0 H0 F H σ ρ->Same Fb F->Dn.ct σ H
 | .rt d=>∀ v F H,Ext F0 H0 F H->Rep K F v d->Dn.rt v H
 | .rf ds=>∀ p xs F H,Ext F0 H0 F H->H0 p=none->F p=none->H p=some (.lst xs)->Reps K F xs ds->Dn.rt (.ref p) H
 | .rp d ds=>∀ t v p xs F H,Ext F0 H0 F H->H0 t=none->H0 p=none->t≠p->F t=none->F p=none->H t=some (.tup [v,.ref p])->H p=some (.lst xs)->Rep K F v d->Reps K F xs ds->Dn.rt (.ref t) H
 | .rg d p r=>∀ v F H xs,Ext F0 H0 F H->Rep K F v d->F p=none->H p=some (.lst xs)->Reps K F xs r->Dn.rt v H
 | .rgf ds p r=>∀ q ys F H xs,Ext F0 H0 F H->H0 q=none->F q=none->q≠p->H q=some (.lst ys)->Reps K F ys ds->F p=none->H p=some (.lst xs)->Reps K F xs r->Dn.rt (.ref q) H
noncomputable def TSd (K:W.Frag)(m:MS):TS:=fun Dn σ H=>∃ F0 H0 F ρ o,Rl K F0 H0 F H σ ρ/\m ρ=some o/\okO K F0 H0 F Dn o
theorem okO.mono {K:W.Frag}{F0 H0 G z:Hp}{J:Ends}(s:Same G z):∀{o:Out},okO K F0 H0 G J o->okO K F0 H0 z J o
 | .nx _,h=>fun F H σ j q=>h F H σ j (s.trans q)
 | .bk _,h=>fun F H σ j q=>h F H σ j (s.trans q)
 | .ct _,h=>fun F H σ j q=>h F H σ j (s.trans q)
 | .rt _,h=>h
 | .rf _,h=>h
 | .rp _ _,h=>h
 | .rg _ _ _,h=>h
 | .rgf _ _ _,h=>h
noncomputable def PSd (X:Cx)(st:Stmt)(m:MS):Prop:=PS X st (TSd X.K m)
noncomputable def PSsd (X:Cx)(st:List Stmt)(m:MS):Prop:=PSs X st (TSd X.K m)
section
variable {X:Cx}{a b c e:Expr}{ma mb:ME}{pos:Pos}{st:Stmt}{rest:List Stmt}{m1 m2':MS}
theorem PS.imp {t t':TS}(h:PS X st t)(i:∀ D σ H,t' D σ H->t D σ H):PS X st t':=fun pins s σ H D I q=>h pins s σ H D I (i D σ H q)
theorem PSs.imp {sts:List Stmt}{t t':TS}(h:PSs X sts t)(i:∀ D σ H,t' D σ H->t D σ H):PSs X sts t':=fun pins s σ H D I q=>h pins s σ H D I (i D σ H q)
noncomputable def mnext:MS:=fun ρ=>some (.nx ρ)
noncomputable def mseq (x y:MS):MS:=fun ρ=>match x ρ with |some (.nx ρ')=>y ρ'|o=>o
theorem pssd_nil:PSsd X [] mnext:=pss_nil.imp fun D σ H j=>by obtain⟨F0,H0,F,ρ,o,z,e,ok⟩:=j;cases e;exact ok F H σ z (Same.refl _)
theorem pssd_cons (h1:PSd X st m1)(h2:PSsd X rest m2'):PSsd X (st::rest) (mseq m1 m2'):=(pss_cons h1 h2).imp fun D σ H z=>by
 obtain⟨F0,H0,F,ρ,o,j,e,ok⟩:=z
 unfold mseq at e
 cases h:m1 ρ with
 |none=>rw[h]at e;cases e
 |some N=>
  rw[h]at e
  cases N with
  |nx ρ1=>exact⟨F0,H0,F,ρ,_,j,h,fun F' H' J G L=>⟨F0,H0,F',ρ1,o,G,e,ok.mono L⟩⟩
  |bk ρ1=>cases e;exact⟨F0,H0,F,ρ,_,j,h,ok⟩
  |ct ρ1=>cases e;exact⟨F0,H0,F,ρ,_,j,h,ok⟩
  |rt d=>cases e;exact⟨F0,H0,F,ρ,_,j,h,ok⟩
  |rf d=>cases e;exact⟨F0,H0,F,ρ,_,j,h,ok⟩
  |rp d ds=>cases e;exact⟨F0,H0,F,ρ,_,j,h,ok⟩
  |rg d p r=>cases e;exact⟨F0,H0,F,ρ,_,j,h,ok⟩
  |rgf d p r=>cases e;exact⟨F0,H0,F,ρ,_,j,h,ok⟩
theorem pssd_one (h1:PSd X st m1):PSsd X [st] m1:=pss_one h1
noncomputable def mif (c:MB)(x y:MS):MS:=fun ρ=>match c ρ with |some true=>x ρ|some false=>y ρ|none=>none
theorem psd_if {ca:MB}{x y:List Stmt}{mx J:MS}(O:PC' X c ca)(N:PSsd X x mx)(L:PSsd X y J):PSd X (.If c x y pos) (mif ca mx J):=(ps_if O N L).imp fun D σ H z=>by
 obtain⟨F0,H0,F,ρ,o,G,e,ok⟩:=z
 unfold mif at e
 split at e
 .rename_i h1
  refine⟨F0,H0,F,ρ,_,G,h1,fun F1 H1 j=>iteT ⟨F0,H0,F1,ρ,o,G.go j,e,ok.mono j.ff⟩⟩
 .rename_i h1
  refine⟨F0,H0,F,ρ,_,G,h1,fun F1 H1 j=>iteF ⟨F0,H0,F1,ρ,o,G.go j,e,ok.mono j.ff⟩⟩
 .cases e
noncomputable def mnever:MS:=fun _=>none
theorem psd_never:PSd X st mnever:=ps_never.imp fun D σ H j=>by obtain⟨F0,H0,F,ρ,o,z,e,ok⟩:=j;cases e
noncomputable def mset (i:Nat)(x:ME):MS:=fun ρ=>(x ρ).map fun d=>.nx (ρ.set i (some (.sh d)))
noncomputable def msetF (i:Nat)(x:ML):MS:=fun ρ=>(x ρ).map fun ds=>.nx (ρ.set i (some (.own ds)))
theorem asg_d {t:TE}{i:Nat}(h:PS X st (tAsg t (gName i)))(L:∀ σ H Q,TD X.K ma σ H Q->t σ H Q):PSd X st (mset i ma):=h.imp fun D σ H j=>by
 obtain⟨F0,H0,F,ρ,o,G,e,ok⟩:=j
 unfold mset at e
 cases h1:ma ρ with
 |none=>rw[h1]at e;cases e
 |some d=>
  rw[h1]at e;cases e
  exact L _ _ _ ⟨F0,H0,F,ρ,d,G,h1,fun v F1 H1 z J=>ok F1 H1 _ ((G.go z).set J) z.ff⟩
theorem asg_f {t:TE}{i:Nat}{mf:ML}(h:PS X st (tAsg t (gName i)))(Y:∀ σ H Q,TF X.K mf σ H Q->t σ H Q):PSd X st (msetF i mf):=h.imp fun D σ H J=>by
 obtain⟨F0,H0,F,ρ,o,G,e,ok⟩:=J
 unfold msetF at e
 cases h1:mf ρ with
 |none=>rw[h1]at e;cases e
 |some ds=>
  rw[h1]at e;cases e
  refine Y _ _ _ ⟨F0,H0,F,ρ,ds,G,h1,fun p xs F1 H1 N hp hF Z U=>ok F1 H1 _ ?_ N.ff⟩
  refine(G.go N).setOwn hF Z U (G.ext.hh.free hp) (fun j es hj L O=>?_) fun j q es L z=>?_
  .obtain⟨q,ys,a1,a2,a3,_⟩:=G.own j es L
   rw[a1]at O;cases O
   rw[hp]at a3;cases a3
  .obtain⟨_,_,_,ys,a3,_⟩:=G.ob j q es L
   rw[z,hp]at a3;cases a3
theorem psd_set {i:Nat}{x:Str}{pos':Pos}(L:X.N.Nodup)(hi:X.N[i]? =some x)(j:Loc X.env.scope x)(J:PD X e ma)(z:swapsWith e (some (.Name x pos')) pos.line X.env=pure false:=by rfl)(G:X.fn x=true\/X.env.scope.names.lookup x=some .local:=by first|exact .inl rfl|exact .inr rfl|assumption):
  PSd X (.Assign [.Name x pos'] e pos) (mset i ma):=asg_d (ps_set L hi j J z G) fun _ _ _ h=>h
theorem psd_setF {i:Nat}{x:Str}{pos':Pos}{mf:ML}(L:X.N.Nodup)(hi:X.N[i]? =some x)(j:Loc X.env.scope x)(J:PF X e mf)(z:swapsWith e (some (.Name x pos')) pos.line X.env=pure false:=by rfl)(G:X.fn x=true\/X.env.scope.names.lookup x=some .local:=by first|exact .inl rfl|exact .inr rfl|assumption):
  PSd X (.Assign [.Name x pos'] e pos) (msetF i mf):=asg_f (ps_set L hi j J z G) fun _ _ _ h=>h
noncomputable def maug (i:Nat)(x:ME):MS:=fun ρ=>match ρ[i]? with |some (some (.sh (.int k)))=>(x ρ).bind (fun d=>match d with | .int j=>some (.nx (ρ.set i (some (.sh (.int (k+j))))))|_=>none)|_=>none
theorem psd_aug {i:Nat}{x:Str}{pos':Pos}(Y:X.N.Nodup)(hi:X.N[i]? =some x)(L:Loc X.env.scope x)(U:PD X e ma)(O:X.fn x=true\/X.env.scope.names.lookup x=some .local:=by first|exact .inl rfl|exact .inr rfl|assumption):
  PSd X (.AugAssign (.Name x pos') .Add e pos) (maug i ma):=(ps_aug Y hi L U ip_add O).imp fun D σ H j=>by
 obtain⟨F0,H0,F,ρ,o,z,e,ok⟩:=j
 unfold maug at e
 split at e
 .rename_i k h1
  obtain⟨v,e1,Z⟩:=z.sh i _ h1
  cases Z
  cases h2:ma ρ with
  |none=>rw[h2]at e;cases e
  |some d=>
   rw[h2]at e
   refine⟨_,e1,F0,H0,F,ρ,d,z,h2,fun y F1 H1 G J=>?_⟩
   cases J <;> first| (cases e;done)|skip
   cases e
   exact⟨_,_,rfl,rfl,ok F1 H1 _ ((z.go G).set (.int _)) G.ff⟩
 .cases e
noncomputable def mexpr (x:ME):MS:=fun ρ=>(x ρ).map fun _=>.nx ρ
theorem psd_expr (L:PD X e ma)(J:swapsWith e none pos.line X.env=pure false:=by rfl):PSd X (.Expr e pos) (mexpr ma):=(ps_expr L J).imp fun D σ H j=>by
 obtain⟨F0,H0,F,ρ,o,G,e,ok⟩:=j
 unfold mexpr at e
 cases h1:ma ρ with
 |none=>rw[h1]at e;cases e
 |some d=>
  rw[h1]at e;cases e
  exact⟨F0,H0,F,ρ,d,G,h1,fun v F1 H1 z N=>ok F1 H1 _ (G.go z) z.ff⟩
noncomputable def mret (x:ME):MS:=fun ρ=>(x ρ).map .rt
noncomputable def mretF (x:ML):MS:=fun ρ=>(x ρ).map .rf
noncomputable def mretO (i:Nat):MS:=fun ρ=>match ρ[i]? with |some (some (.own ds))=>some (.rf ds)|some (some (.sh d))=>some (.rt d)|_=>none
theorem psd_ret (L:PD X e ma):PSd X (.Return (some e) pos) (mret ma):=(ps_ret L).imp fun D σ H j=>by
 obtain⟨F0,H0,F,ρ,o,z,e,ok⟩:=j
 unfold mret at e
 cases h1:ma ρ with
 |none=>rw[h1]at e;cases e
 |some d=>
  rw[h1]at e;cases e
  exact⟨F0,H0,F,ρ,d,z,h1,fun v F1 H1 G J=>ok v F1 H1 (z.ext.trans G) J⟩
theorem psd_retF {mf:ML}(L:PF X e mf):PSd X (.Return (some e) pos) (mretF mf):=(ps_ret L).imp fun D σ H j=>by
 obtain⟨F0,H0,F,ρ,o,z,e,ok⟩:=j
 unfold mretF at e
 cases h1:mf ρ with
 |none=>rw[h1]at e;cases e
 |some ds=>
  rw[h1]at e;cases e
  exact⟨F0,H0,F,ρ,ds,z,h1,fun p xs F1 H1 G hp O N J=>ok p xs F1 H1 (z.ext.trans G) (z.ext.hh.free hp) O N J⟩
theorem psd_retO (i:Nat){x:Str}{pos':Pos}(h:PE X (.Name x pos') (tVar i)):PSd X (.Return (some (.Name x pos')) pos) (mretO i):=(ps_ret h).imp fun D σ H j=>by
 obtain⟨F0,H0,F,ρ,o,z,e,ok⟩:=j
 unfold mretO at e
 split at e
 .rename_i ds h1
  cases e
  obtain⟨p,xs,J,G,e3,N,L⟩:=z.own i _ h1
  exact⟨_,J,ok p xs F H z.ext L G e3 N⟩
 .rename_i d h1
  cases e
  obtain⟨v,J,G⟩:=z.sh i _ h1
  exact⟨_,J,ok v F H z.ext G⟩
 .cases e
noncomputable def mapp (i:Nat)(x:ME):MS:=fun ρ=>match ρ[i]? with |some (some (.own ds))=>(x ρ).bind fun d=>if ds.length<sizeLine then some (.nx (ρ.set i (some (.own (ds++[d])))))else none|_=>none
theorem psd_append {i:Nat}{x:Str}{e:Expr}{G apos cpos:Pos}(hv:PE X (.Name x G) (tVar i))(he:PD X e ma)
  (Z:∀ t,PA X [e] t->PE X (.Call (.Attribute (.Name x G) "append" apos) [e] [] cpos) (tBM X.K "list" rAppend (tVar i) t)) (hA:PAs X [e] (acons ma anil)) (Y:swapsWith (.Call (.Attribute (.Name x G) "append" apos) [e] [] cpos) none pos.line X.env=pure false:=by rfl):
  PSd X (.Expr (.Call (.Attribute (.Name x G) "append" apos) [e] [] cpos) pos) (mapp i ma):=(ps_expr (Z _ hA) Y).imp fun D σ H j=>by
 obtain⟨F0,H0,F,ρ,o,J,e,ok⟩:=j
 unfold mapp at e
 split at e
 .rename_i ds h1
  obtain⟨p,xs,N,e2,e3,L,e5⟩:=J.own i _ h1
  cases h2:ma ρ with
  |none=>rw[h2]at e;cases e
  |some d=>
   rw[h2]at e
   have e:(if ds.length<sizeLine then some (Out.nx (ρ.set i (some (.own (ds++[d])))))else none)=some o:=e
   split at e
   .rename_i hz
    cases e
    refine⟨_,N,.inl ⟨rfl,_,SqL.of e3⟩,F0,H0,F,ρ,[d],J,by unfold acons anil;rw[h2];rfl,fun vs F1 H1 z U=>?_⟩
    cases U with
    |cons r O=>
     cases O
     have hp:H1 p=some (.lst xs):=z.hh _ _ e3
     exact⟨p,xs,_,rfl,rfl,hp,by rw[L.length];exact hz,ok F1 _ σ ((J.go z).write h1 N ((L.mono z.ff).append (.cons r .nil))) z.ff⟩
   .cases e
 .cases e
noncomputable def msetix (i:Nat)(ix v:ME):MS:=fun ρ=>(v ρ).bind fun d=>match ρ[i]? with
 |some (some (.own ds))=>(ix ρ).bind (fun x=>match x with | .int k=>(ixN ds.length k).map fun j=>.nx (ρ.set i (some (.own (ds.set j d))))|_=>none)
 |some (some (.ob p ds))=>(ix ρ).bind (fun x=>match x with | .int k=>(ixN ds.length k).map fun j=>.nx (ρ.set i (some (.ob p (ds.set j d))))|_=>none)
 |_=>none
noncomputable def mfreeze (i:Nat)(m:MS):MS:=fun ρ=>match ρ[i]? with |some (some (.own ds))=>m (ρ.set i (some (.sh (.lst ds))))|_=>m ρ
theorem pssd_freeze (i:Nat){sts:List Stmt}{m:MS}(h:PSsd X sts m):PSsd X sts (mfreeze i m):=h.imp fun D σ H j=>by
 obtain⟨F0,H0,F,ρ,o,G,e,ok⟩:=j
 unfold mfreeze at e
 split at e
 .rename_i ds h1
  obtain⟨F',z,J⟩:=G.freeze h1
  exact⟨F0,H0,F',_,o,z,e,ok.mono J⟩
 .exact⟨F0,H0,F,ρ,o,G,e,ok⟩
inductive Tg where
 |nm (i:Nat)|tp (is:List Nat)|nt (i:Nat) (is:List Nat)
noncomputable def setAll:List Nat->List D->Ro->Option Ro
 |[],[],ρ=>some ρ
 |i::is,d::ds,ρ=>setAll is ds (ρ.set i (some (.sh d)))
 |_,_,_=>none
noncomputable def tgD:Tg->D->Ro->Option Ro
 | .nm i,d,ρ=>some (ρ.set i (some (.sh d)))
 | .tp is,.tup ds,ρ=>setAll is ds ρ
 | .nt i is,.tup [d,.tup ds],ρ=>setAll is ds (ρ.set i (some (.sh d)))
 |_,_,_=>none
noncomputable def TGd (K:W.Frag)(g:Tg):TG:=fun v σ H Q=>∃ F0 H0 F ρ d ρ',Rl K F0 H0 F H σ ρ/\Rep K F v d/\tgD g d ρ=some ρ'/\∀ F' H' σ',Rl K F0 H0 F' H' σ' ρ'->Ext F H F' H'->Q σ' H'
noncomputable def PGd (X:Cx)(tg:Expr)(g:Tg):Prop:=PG X tg (TGd X.K g)
theorem PG.imp {tg:Expr}{t t':TG}(h:PG X tg t)(i:∀ v σ H Q,t' v σ H Q->t v σ H Q):PG X tg t':=fun pins s σ H v u Q I r q=>h pins s σ H v u Q I r (i v σ H Q q)
theorem pgd_name {i:Nat}{x:Str}{pos:Pos}(h:PG X (.Name x pos) (gName i)):PGd X (.Name x pos) (.nm i):=PG.imp h fun v σ H Q j=>by
 obtain⟨F0,H0,F,ρ,d,ρ',z,r,e,q⟩:=j
 cases e;exact q F H _ (z.set r) (.refl z.fh)
noncomputable def gAll:List Nat->TGs
 |[]=>gNil
 |i::is=>gCons (gName i) (gAll is)
theorem gAll_ok {K:W.Frag}{F0 H0 F H:Hp}{Q:St->Hp->Prop}:∀(is:List Nat)(vs:List V)(ds:List D)(σ:St)(ρ ρ':Ro),Rl K F0 H0 F H σ ρ->Reps K F vs ds->setAll is ds ρ=some ρ'->(∀ j,Rl K F0 H0 F H j ρ'->Q j H)->gAll is vs σ H Q
 |[],_,[],σ,ρ,ρ',rl,r,e,q=>by cases r;cases e;exact⟨rfl,q σ rl⟩
 |[],_,_::_,_,_,_,_,_,e,_=>by cases e
 |_::_,_,[],_,_,_,_,_,e,_=>by cases e
 |i::is,_,d::ds,σ,ρ,ρ',rl,r,e,q=>by
  cases r with
  |cons r z=>exact⟨_,_,rfl,gAll_ok is _ ds _ _ ρ' (rl.set r) z e q⟩
theorem setAll_len:∀(is:List Nat)(ds:List D)(ρ ρ':Ro),setAll is ds ρ=some ρ'->ds.length=is.length
 |[],[],_,_,_=>rfl
 |[],_::_,_,_,e=>by cases e
 |_::_,[],_,_,e=>by cases e
 |_::is,_::ds,ρ,ρ',e=>congrArg (·+1) (setAll_len is ds _ ρ' e)
theorem pgd_tup {es:List Expr}{k n:Nat}{is:List Nat}{pos:Pos}(h:PG X (.Tuple es k pos) (gTup X.K n (gAll is)))(hn:is.length=n:=by rfl):PGd X (.Tuple es k pos) (.tp is):=PG.imp h fun v σ H Q j=>by
 obtain⟨F0,H0,F,ρ,d,ρ',J,r,e,q⟩:=j
 cases r with
 |tup s t=>exact⟨_,_,rfl,J.fh.seqT s,by rw[t.length,setAll_len _ _ _ _ e,hn],gAll_ok is _ _ σ ρ ρ' J t e fun z G=>q F H z G (.refl J.fh)⟩
 |_=>cases e
structure ItD (K:W.Frag)(F:Hp)(J:It)(its:List D):Prop where
 go:∀(i:Nat) F1 H1,Same F F1->Same F1 H1->i<its.length->J.go i H1
 yld:∀(i:Nat) F1 H1 x H2 d,Same F F1->Same F1 H1->its[i]? =some d->J.yld i H1 x H2->∃ F2,Ext F1 H1 F2 H2/\Rep K F2 x d
 stop:∀ F1 H1,Same F F1->Same F1 H1->J.stop its.length H1
noncomputable def TId (K:W.Frag)(mi:ML):TI:=fun σ H R=>∃ F0 H0 F ρ its,Rl K F0 H0 F H σ ρ/\mi ρ=some its/\∀ J F' H',Ext F H F' H'->ItD K F' J its->R J H'
noncomputable def PId (X:Cx)(tg iter:Expr)(mi:ML):Prop:=PI X tg iter (TId X.K mi)
theorem PI.imp {tg it:Expr}{t t':TI}(h:PI X tg it t)(i:∀ σ H R,t' σ H R->t σ H R):PI X tg it t':=fun pins s σ H R I q=>h pins s σ H R I (i σ H R q)
theorem itd_list {K:W.Frag}{F:Hp}{p:Addr}{xs:List V}{ds:List D}(s:SqL K F p xs)(r:Reps K F xs ds):ItD K F (Itl K p) ds where
 go:=fun i F1 H1 a b hi=>by
  obtain⟨v,e,_⟩:=r.get (getElem?_eq_getElem hi)
  exact⟨xs,v,b.seq (a.seq s),e⟩
 yld:=fun i F1 H1 x H2 d a b e y=>by
  obtain⟨rfl,y⟩:=y
  obtain⟨v,z,j⟩:=r.get e
  have:=y xs (b.seq (a.seq s))
  rw[z]at this;cases this
  exact⟨F1,.refl b,j.mono a⟩
 stop:=fun F1 H1 a b=>⟨xs,b.seq (a.seq s),by rw[r.length];exact Nat.le_refl _⟩
theorem pid_seq {tg:Expr}(hd:PD X e ma):PId X tg e (aslst ma):=PI.imp (pi_list hd) fun σ H R j=>by
 obtain⟨F0,H0,F,ρ,its,G,e,q⟩:=j
 unfold aslst at e
 split at e
 .rename_i ds h1
  cases e
  refine⟨F0,H0,F,ρ,_,G,h1,fun v F1 H1 z J=>?_⟩
  cases J with
  |lst s t=>exact⟨_,rfl,⟨_,z.fh.seq s⟩,q _ F1 H1 z (itd_list s t)⟩
 .cases e
noncomputable def rangeD (lo:Int)(n:Nat):List D:=(List.range n).map fun(i:Nat)=>D.int (lo+(i:Int))
theorem rangeD_length (lo:Int)(n:Nat):(rangeD lo n).length=n:=by unfold rangeD;simp
theorem itd_range {K:W.Frag}{F:Hp}{lo:Int}{n:Nat}:ItD K F (Itr lo n) (rangeD lo n) where
 go:=fun i F1 H1 a b hi=>by rw[rangeD_length]at hi;exact hi
 yld:=fun i F1 H1 x H2 d a b e y=>by
  obtain⟨rfl,rfl⟩:=y
  unfold rangeD at e
  rw[getElem?_map]at e
  have hi:i<n:=by
   rcases Nat.lt_or_ge i n with h|h
   .exact h
   .rw[getElem?_eq_none (by simpa using h)]at e;cases e
  rw[getElem?_range hi]at e
  cases e
  exact⟨F1,.refl b,.int _⟩
 stop:=fun F1 H1 a b=>by rw[rangeD_length];exact Nat.le_refl n
noncomputable def okR (j:Int):Bool:=decide (-(2^62)<=j)&&decide (j<2^62)
noncomputable def rng1:List D->Option (List D)
 |[.int j]=>if okR j=true then some (rangeD 0 j.toNat)else none
 |_=>none
@[irreducible] noncomputable def mlist (f:List D->Option (List D))(m:ML):ML:=fun ρ=>(m ρ).bind f
theorem mlist_some {f:List D->Option (List D)}{m:ML}{ρ:Ro}{j:List D}(h:mlist f m ρ=some j):∃ ds,m ρ=some ds/\f ds=some j:=by
 unfold mlist at h
 cases h1:m ρ with
 |none=>rw[h1]at h;cases h
 |some ds=>rw[h1]at h;exact⟨ds,rfl,h⟩
theorem pid_range1 {tg a:Expr}{m:ML}{p pos:Pos}(U:Gl X "range")(hm:X.mg "range"=none)(ha:PAs X [a] m)(O:starEach [a] X.env=[(false,eval a X.env)]:=by rfl):PId X tg (.Call (.Name "range" p) [a] [] pos) (mlist rng1 m):=PI.imp (pi_range1 U hm ha O) fun σ H R z=>by
 obtain⟨F0,H0,F,ρ,its,L,e,q⟩:=z
 obtain⟨ds,h1,h2⟩:=mlist_some e
 refine⟨F0,H0,F,ρ,ds,L,h1,fun vs F1 H1 G N=>?_⟩
 unfold rng1 at h2
 split at h2
 .rename_i j
  split at h2
  .rename_i hk
   cases h2
   unfold okR at hk
   simp only[Bool.and_eq_true,decide_eq_true_eq]at hk
   cases N with
   |cons r J=>
    cases J;cases r
    exact⟨j,rfl,hk.1,hk.2,q _ F1 H1 G itd_range⟩
  .cases h2
 .cases h2
noncomputable def zipW3:List D->List D->List D->List D
 |d::ds,e::es,f::fs=>.tup [d,e,f]::zipW3 ds es fs
 |_,_,_=>[]
theorem zipW3_length:∀ ds es fs,(zipW3 ds es fs).length=min ds.length (min es.length fs.length)
 |[],_,_=>by simp[zipW3]
 |_::_,[],_=>by simp[zipW3]
 |_::_,_::_,[]=>by simp[zipW3]
 |_::ds,_::es,_::fs=>by simp only[zipW3,length_cons,zipW3_length ds es fs];omega
theorem zipW3_get:∀ ds es fs (i:Nat) d e f,ds[i]? =some d->es[i]? =some e->fs[i]? =some f->(zipW3 ds es fs)[i]? =some (.tup [d,e,f])
 |[],_,_,_,_,_,_,h,_,_=>by simp at h
 |_::_,[],_,_,_,_,_,_,h,_=>by simp at h
 |_::_,_::_,[],_,_,_,_,_,_,h=>by simp at h
 |_::ds,_::es,_::fs,0,d,e,f,h1,h2,h3=>by simp at h1 h2 h3;subst h1 h2 h3;rfl
 |_::ds,_::es,_::fs,i+1,d,e,f,h1,h2,h3=>by
  have:=zipW3_get ds es fs i d e f (by simpa using h1) (by simpa using h2) (by simpa using h3)
  simpa[zipW3]using this
noncomputable def zip3:List D->Option (List D)
 |[.lst ds,.lst es,.lst fs]=>some (zipW3 ds es fs)
 |_=>none
theorem itd_zip3 {K:W.Frag}{F:Hp}{p q o:Addr}{xs ys zs:List V}{ds es fs:List D}(s:SqL K F p xs)(r:Reps K F xs ds)(s':SqL K F q ys)(N:Reps K F ys es)(j:SqL K F o zs)(z:Reps K F zs fs):ItD K F (Itz3 K p q o) (zipW3 ds es fs) where
 go:=fun i F1 H1 a b hi=>by
  rw[zipW3_length]at hi
  obtain⟨v,e,_⟩:=r.get (getElem?_eq_getElem (show i<ds.length by omega))
  obtain⟨w,e',_⟩:=N.get (getElem?_eq_getElem (show i<es.length by omega))
  obtain⟨u,U,_⟩:=z.get (getElem?_eq_getElem (show i<fs.length by omega))
  exact⟨xs,ys,zs,v,w,u,b.seq (a.seq s),b.seq (a.seq s'),b.seq (a.seq j),e,e',U⟩
 yld:=fun i F1 H1 x H2 d a b e y=>by
  obtain⟨t,u,v,w,rfl,Y,rfl,L,J,G⟩:=y
  have L:=L xs (b.seq (a.seq s))
  have J:=J ys (b.seq (a.seq s'))
  have G:=G zs (b.seq (a.seq j))
  obtain⟨d1,e1,r1⟩:=r.get' L
  obtain⟨d2,e2,r2⟩:=N.get' J
  obtain⟨d3,e3,Z⟩:=z.get' G
  rw[zipW3_get _ _ _ i d1 d2 d3 e1 e2 e3]at e
  cases e
  refine⟨upd F1 t (.tup [u,v,w]),Ext.laid b Y,.tup (SqT.of upd_same) ?_⟩
  have O:Same F (upd F1 t (.tup [u,v,w])):=a.trans ((Same.refl F1).put (b.free Y))
  exact .cons (r1.mono O) (.cons (r2.mono O) (.cons (Z.mono O) .nil))
 stop:=fun F1 H1 a b=>⟨xs,ys,zs,b.seq (a.seq s),b.seq (a.seq s'),b.seq (a.seq j),by rw[r.length,N.length,z.length,zipW3_length];omega⟩
theorem pid_zip3 {es:List Expr}{tk:Nat}{tp:Pos}{a b c:Expr}{m:ML}{p pos:Pos}(hg:Gl X "zip")(hm:X.mg "zip"=none)(ha:PAs X [a,b,c] m)(hs:starEach [a,b,c] X.env=(false,eval a X.env)::starEach [b,c] X.env:=by rfl)(J:∀ pos,((backTo pos (starEach [b,c] X.env)).any fun x=>x.1)=false:=by intro _;rfl):PId X (.Tuple es tk tp) (.Call (.Name "zip" p) [a,b,c] [] pos) (mlist zip3 m):=PI.imp (pi_zip3 hg hm ha hs J) fun σ H R z=>by
 obtain⟨F0,H0,F,ρ,its,U,e,q⟩:=z
 obtain⟨ds,h1,h2⟩:=mlist_some e
 refine⟨F0,H0,F,ρ,ds,U,h1,fun vs F1 H1 G r1=>?_⟩
 unfold zip3 at h2
 split at h2
 .cases h2
  cases r1 with
  |cons r j=>
   cases j with
   |cons Z j=>
    cases j with
    |cons Y j=>
    cases j
    cases r with
    |lst s t=>
     cases Z with
     |lst s2 O=>
      cases Y with
      |lst L N=>exact⟨_,_,_,_,_,_,rfl,G.fh.seq s,G.fh.seq s2,G.fh.seq L,q _ F1 H1 G (itd_zip3 s t s2 O L N)⟩
 .cases h2
noncomputable def enumL:Nat->List D->List D
 |_,[]=>[]
 |i,d::ds=>.tup [.int i,d]::enumL (i+1) ds
theorem enumL_length:∀ i ds,(enumL i ds).length=ds.length
 |_,[]=>rfl
 |i,_::ds=>by simp[enumL,enumL_length (i+1) ds]
theorem enumL_get:∀(k:Nat) ds (i:Nat) d,ds[i]? =some d->(enumL k ds)[i]? =some (.tup [.int ((k+i:Nat):Int),d])
 |_,[],_,_,h=>by simp at h
 |k,_::ds,0,d,h=>by simp at h;subst h;rfl
 |k,_::ds,i+1,d,h=>by
  have:=enumL_get (k+1) ds i d (by simpa using h)
  have e:k+1+i=k+(i+1):=by omega
  rw[e]at this
  simpa[enumL]using this
noncomputable def enum1:List D->Option (List D)
 |[.lst ds]=>some (enumL 0 ds)
 |_=>none
theorem itd_enum {K:W.Frag}{F:Hp}{p:Addr}{xs:List V}{ds:List D}(s:SqL K F p xs)(r:Reps K F xs ds):ItD K F (Ite K p) (enumL 0 ds) where
 go:=fun i F1 H1 a b hi=>by
  rw[enumL_length]at hi
  obtain⟨v,e,_⟩:=r.get (getElem?_eq_getElem hi)
  exact⟨xs,v,b.seq (a.seq s),e⟩
 yld:=fun i F1 H1 x H2 d a b e y=>by
  obtain⟨t,u,rfl,z,rfl,j⟩:=y
  have j:=j xs (b.seq (a.seq s))
  obtain⟨N,L,G⟩:=r.get' j
  rw[enumL_get 0 ds i N L,Nat.zero_add]at e
  cases e
  refine⟨upd F1 t (.tup [.int i,u]),Ext.laid b z,.tup (SqT.of upd_same) ?_⟩
  have J:Same F (upd F1 t (.tup [.int i,u])):=a.trans ((Same.refl F1).put (b.free z))
  exact .cons (.int _) (.cons (G.mono J) .nil)
 stop:=fun F1 H1 a b=>⟨xs,b.seq (a.seq s),by rw[r.length,enumL_length];exact Nat.le_refl _⟩
theorem pid_enum {es:List Expr}{tk:Nat}{tp:Pos}{a:Expr}{m:ML}{p pos:Pos}(O:Gl X "enumerate")(hm:X.mg "enumerate"=none)(ha:PAs X [a] m)(N:starEach [a] X.env=[(false,eval a X.env)]:=by rfl):PId X (.Tuple es tk tp) (.Call (.Name "enumerate" p) [a] [] pos) (mlist enum1 m):=PI.imp (pi_enum O hm ha N) fun σ H R j=>by
 obtain⟨F0,H0,F,ρ,its,J,e,q⟩:=j
 obtain⟨ds,h1,h2⟩:=mlist_some e
 refine⟨F0,H0,F,ρ,ds,J,h1,fun vs F1 H1 z L=>?_⟩
 unfold enum1 at h2
 split at h2
 .cases h2
  cases L with
  |cons r G=>
   cases G
   cases r with
   |lst s t=>exact⟨_,_,rfl,z.fh.seq s,q _ F1 H1 z (itd_enum s t)⟩
 .cases h2
end
end
section
noncomputable def forD (g:Tg)(body:MS):List D->MS
 |[],ρ=>some (.nx ρ)
 |d::ds,ρ=>match tgD g d ρ with
  |some ρ1=>match body ρ1 with
   |some (.nx ρ2)=>forD g body ds ρ2
   |some (.ct ρ2)=>forD g body ds ρ2
   |some (.bk ρ2)=>some (.nx ρ2)
   |o=>o
  |none=>none
noncomputable def mfor (mi:ML)(g:Tg)(body:MS):MS:=fun ρ=>(mi ρ).bind fun its=>forD g body its ρ
theorem drop_get {j:Type}{xs:List j}{i:Nat}{d:j}(h:xs[i]? =some d):xs.drop i=d::xs.drop (i+1):=by
 obtain⟨z,e⟩:=List.getElem?_eq_some_iff.mp h
 rw[drop_eq_getElem_cons z,e]
section
variable {X:Cx}{a b c e:Expr}{ma mb:ME}{pos:Pos}{st:Stmt}{rest:List Stmt}
theorem psd_for {tg iter:Expr}{body:List Stmt}{mi:ML}{g:Tg}{mb:MS}(hp:PassesOwn (model X.prog X.w) X.A X.env X.xe)(hc:X.calm=true)(hi:PId X tg iter mi)(hg:PGd X tg g)(hb:PSsd X body mb)
  (hs:∀ x,foldedSetIterable iter X.env x=pure x:=by intro _;rfl):PSd X (.For tg iter body [] pos) (mfor mi g mb):=(ps_for hp hc hi hg hb hs).imp fun Dn σ H a0=>by
 obtain⟨F0,H0,F,ρ,o,rl,e,ok⟩:=a0
 unfold mfor at e
 cases h1:mi ρ with
 |none=>rw[h1]at e;cases e
 |some its=>
  rw[h1]at e
  have e:forD g mb its ρ=some o:=e
  refine⟨F0,H0,F,ρ,its,rl,h1,fun J F1 H1 x1 I=>?_⟩
  refine⟨fun i m N H'=>∃ F' ρ',Rl X.K F0 H0 F' H' N ρ'/\Same F1 F'/\i<=its.length/\m=its.length-i/\forD g mb (its.drop i) ρ'=some o,⟨_,F1,ρ,rl.go x1,Same.refl _,Nat.zero_le _,rfl,e⟩,?_⟩
  rintro i m N H' ⟨F',ρ',G,Y,a4,rfl,j⟩
  by_cases O:i<its.length
  .right
   have hd:=getElem?_eq_getElem O
   refine⟨I.go i F' H' Y G.fh O,fun U H2=>∃ F2 ρ2,Rl X.K F0 H0 F2 H2 U ρ2/\Same F1 F2/\forD g mb (its.drop (i+1)) ρ2=some o,?_,fun x H2 y=>?_⟩
   .rintro U H2 ⟨F2,ρ2,rl2,sf2,e2⟩
    exact⟨its.length-(i+1),by omega,F2,ρ2,rl2,sf2,O,rfl,e2⟩
   .obtain⟨F2,x2,r2⟩:=I.yld i F' H' x H2 _ Y G.fh hd y
    rw[drop_get hd]at j
    unfold forD at j
    cases h2:tgD g its[i] ρ' with
    |none=>simp only[h2]at j;cases j
    |some ρ1=>
     simp only[h2]at j
     refine⟨F0,H0,F2,ρ',_,ρ1,G.go x2,r2,h2,fun F3 H3 a3 a2 x3=>?_⟩
     have s3:Same F1 F3:=(Y.trans x2.ff).trans x3.ff
     cases h3:mb ρ1 with
     |none=>simp only[h3]at j;cases j
     |some o1=>
      simp only[h3]at j
      refine⟨F0,H0,F3,ρ1,o1,a2,h3,?_⟩
      cases o1 with
      |nx ρ2=>exact fun F4 H4 L z Z=>⟨F4,ρ2,z,s3.trans Z,j⟩
      |ct ρ2=>exact fun F4 H4 L z Z=>⟨F4,ρ2,z,s3.trans Z,j⟩
      |bk ρ2=>
       cases j
       exact fun F4 H4 L z Z=>ok F4 H4 L z ((x1.ff.trans s3).trans Z)
      |rt d=>cases j;exact ok
      |rf d=>cases j;exact ok
      |rp d ds=>cases j;exact ok
      |rg d p r=>cases j;exact ok
      |rgf d p r=>cases j;exact ok
  .left
   have a1:i=its.length:=by omega
   subst a1
   rw[drop_length]at j
   have j:some (Out.nx ρ')=some o:=j
   cases j
   exact⟨I.stop F' H' Y G.fh,ok F' H' N G (x1.ff.trans Y)⟩
end
end
section
noncomputable def blkRo (src:List (Option Nat))(ρ:Ro):Ro:=src.map fun o=>o.bind fun i=>match ρ[i]? with |some (some (.sh d))=>some (.sh d)|_=>none
noncomputable def compD (g:Tg)(c:MB)(elt:ME):List D->Ro->List D->Option (List D)
 |[],_,acc=>some acc
 |d::ds,ρ,acc=>match tgD g d ρ with
  |some ρ1=>match c ρ1 with
   |some true=>match elt ρ1 with
    |some x=>if acc.length<sizeLine then compD g c elt ds ρ1 (acc++[x])else none
    |none=>none
   |some false=>compD g c elt ds ρ1 acc
   |none=>none
  |none=>none
@[irreducible] noncomputable def mcomp (src:List (Option Nat))(mi:ML)(g:Tg)(c:MB)(elt:ME):ML:=fun ρ=>(mi ρ).bind fun its=>compD g c elt its (blkRo src ρ) []
noncomputable def NoOwn (ρ:Ro):Prop:=∀(i:Nat) ds,ρ[i]? ≠some (some (.own ds))/\∀ p,ρ[i]? ≠some (some (.ob p ds))
theorem Rl.blk {K:W.Frag}{F0 H0 F H:Hp}{σ:St}{ρ:Ro}(r:Rl K F0 H0 F H σ ρ)(src:List (Option Nat)):Rl K F H F H (blk0 src σ) (blkRo src ρ)/\NoOwn (blkRo src ρ):=by
 have J:∀(i:Nat) x,(blkRo src ρ)[i]? =some (some x)->∃ d,x=S.sh d:=fun i x e=>by
  unfold blkRo at e
  rw[getElem?_map]at e
  cases h:src[i]? with
  |none=>rw[h]at e;cases e
  |some o=>
   rw[h]at e
   cases o with
   |none=>cases e
   |some k=>
    simp only[Option.map_some,Option.bind_some]at e
    split at e
    .cases e;exact⟨_,rfl⟩
    .cases e
 have G:NoOwn (blkRo src ρ):=fun i ds=>⟨fun e=>(by obtain⟨d,z⟩:=J i _ e;cases z),fun p e=>(by obtain⟨d,z⟩:=J i _ e;cases z)⟩
 refine⟨⟨.refl r.fh,by unfold blk0 blkRo;simp,fun i d e=>?_,fun i ds e=>absurd e (G i ds).1,fun i j p ds es _ e=>absurd e (G i ds).1,fun i p ds e=>absurd e ((G i ds).2 p),fun i j p ds es e=>absurd e ((G i ds).2 p),fun i j p q ds es e=>absurd e ((G i ds).2 p)⟩,G⟩
 unfold blkRo at e
 unfold blk0
 rw[getElem?_map]at e ⊢
 cases h:src[i]? with
 |none=>rw[h]at e;cases e
 |some o=>
  rw[h]at e
  cases o with
  |none=>cases e
  |some k=>
   simp only[Option.map_some,Option.bind_some]at e ⊢
   split at e
   .rename_i d' h'
    cases e
    obtain⟨v,N,L⟩:=r.sh k _ h'
    exact⟨v,by rw[N];rfl,L⟩
   .cases e
theorem Rl.rebase {K:W.Frag}{F1 F H:Hp}{σ:St}{ρ:Ro}{p:Addr}{xs ys:List V}(r:Rl K F1 (upd F1 p (.lst xs)) F H σ ρ)(G:F p=none)(J:F1 p=none):Rl K F1 (upd F1 p (.lst ys)) F (upd H p (.lst ys)) σ ρ:=by
 have ne:∀ q,upd F1 p (.lst xs) q=none->q≠p:=fun q z w=>by rw[w,upd_same]at z;cases z
 refine⟨⟨r.ext.ff,fun b u e=>?_,r.fh.put G,fun b e n=>?_,r.ext.nf⟩,r.len,r.sh,fun i ds e=>?_,r.inj,fun i q ds e=>?_,r.obn,r.ob1⟩
 .by_cases hb:b=p
  .subst hb;rw[upd_same]at e ⊢;exact e
  .rw[upd_ne hb]at e ⊢
   exact r.ext.hh b u (by rw[upd_ne hb];exact e)
 .have hb:b≠p:=fun w=>by rw[w,G]at n;exact n rfl
  rw[upd_ne hb];exact e
 .obtain⟨q,zs,a,b,c,d,z⟩:=r.own i ds e
  have j:=ne q z
  rw[upd_ne j]at z
  exact⟨q,zs,a,b,by rw[upd_ne j];exact c,d,by rw[upd_ne j];exact z⟩
 .obtain⟨a,b,z,zs,c,d⟩:=r.ob i q ds e
  have j:=ne q z
  rw[upd_ne j]at z
  exact⟨a,b,by rw[upd_ne j];exact z,zs,by rw[upd_ne j];exact c,d⟩
theorem Ext.acc {F H F' H':Hp}{p:Addr}{o:HO}(x:Ext F H F' H')(hp:H p=none)(j:F' p=none):Ext F H F' (upd H' p o):=⟨x.ff,x.hh.put hp,x.fh.put j,x.new,x.nf⟩
theorem Ext.stay {F' H' G L:Hp}{p:Addr}{o:HO}(J:Ext F' H' G L)(z:F' p=none)(j:H' p=some o):G p=none:=by
 cases qq:G p with
 |none=>rfl
 |some u=>have:=J.new p z (by rw[qq];simp);rw[this]at j;cases j
theorem Rl.noB {K:W.Frag}{F H:Hp}{σ:St}{ρ:Ro}{p:Addr}(r:Rl K F H F H σ ρ)(j:NoOwn ρ)(hp:H p=none):Rl K F (upd F p (.lst [])) F (upd H p (.lst [])) σ ρ:=
 ⟨⟨Same.refl F,r.fh.put2,r.fh.put (r.fh.free hp),fun b e n=>absurd e n,fun _ _ _ z=>z⟩,r.len,r.sh,fun i ds e=>absurd e (j i ds).1,r.inj,fun i p ds e=>absurd e ((j i ds).2 p),r.obn,r.ob1⟩
theorem compD_cons {g:Tg}{c:MB}{j:ME}{d:D}{ds acc out:List D}{ρ:Ro}(h:compD g c j (d::ds) ρ acc=some out):∃ ρ1,tgD g d ρ=some ρ1/\((c ρ1=some false/\compD g c j ds ρ1 acc=some out)\/∃ x,c ρ1=some true/\j ρ1=some x/\acc.length<sizeLine/\compD g c j ds ρ1 (acc++[x])=some out):=by
 rw[compD]at h
 cases h2:tgD g d ρ with
 |none=>rw[h2]at h;cases h
 |some ρ1=>
  rw[h2]at h
  simp only at h
  refine⟨ρ1,rfl,?_⟩
  cases h3:c ρ1 with
  |none=>rw[h3]at h;cases h
  |some k=>
   rw[h3]at h
   cases k with
   |false=>exact .inl ⟨rfl,h⟩
   |true=>
    simp only at h
    cases h4:j ρ1 with
    |none=>rw[h4]at h;cases h
    |some x=>
     rw[h4]at h
     simp only at h
     by_cases z:acc.length<sizeLine
     .rw[if_pos z]at h;exact .inr ⟨x,rfl,rfl,z,h⟩
     .rw[if_neg z]at h;cases h
theorem comp_loop {K:PySem.W.Frag}{src:List (Option Nat)}{g:Tg}{c:MB}{a3:ME}{its out:List D}{F1 H1:Hp}{σ:St}{a4:Ro}{p:Addr}{J:It}{Q:VK}(f1:Same F1 H1)(hp:H1 p=none)(rb:Rl K F1 (upd F1 p (.lst [])) F1 (upd H1 p (.lst [])) (blk0 src σ) a4)(I:ItD K F1 J its)(e:compD g c a3 its a4 []=some out)
  (q:∀ xs F' H',Ext F1 H1 F' H'->F' p=none->H' p=some (.lst xs)->Reps K F' xs out->Q (.ref p) H'):
  ∃ W:Nat->Nat->St->Hp->Prop,(∃ m,W 0 m (blk0 src σ) (upd H1 p (.lst [])))/\∀ i m L H',W i m L H'->
   (J.stop i H'/\Q (.ref p) H')\/(J.go i H'/\∃ N:St->Hp->Prop,(∀ G H2,N G H2->∃ m',m'<m/\W (i+1) m' G H2)/\∀ x H2,J.yld i H' x H2->TGd K g x L H2 fun z H3=>TC K c z H3 fun b H4=>
    if b=true then TD K a3 z H4 fun y H5=>∃ xs,H5 p=some (.lst xs)/\xs.length<sizeLine/\N z (upd H5 p (.lst (xs++[y])))else N z H4):=by
 have a5:F1 p=none:=f1.free hp
 refine⟨fun i m L H'=>∃ F' ρ' acc xs,Rl K F1 (upd F1 p (.lst xs)) F' H' L ρ'/\Ext F1 H1 F' H'/\H' p=some (.lst xs)/\F' p=none/\Reps K F' xs acc/\i<=its.length/\m=its.length-i/\compD g c a3 (its.drop i) ρ' acc=some out,
  ⟨_,F1,a4,[],[],rb,(Ext.refl f1).acc hp a5,upd_same,a5,.nil,Nat.zero_le _,rfl,e⟩,?_⟩
 clear rb e
 rintro i m L H' ⟨F',ρ',acc,xs,a2,xe,Z,a6,ra,a9,rfl,e'⟩
 by_cases Y:i<its.length
 .right
  have hd:=getElem?_eq_getElem Y
  refine⟨I.go i F' H' xe.ff a2.fh Y,fun G H2=>∃ F2 ρ2 j O,Rl K F1 (upd F1 p (.lst O)) F2 H2 G ρ2/\Ext F1 H1 F2 H2/\H2 p=some (.lst O)/\F2 p=none/\Reps K F2 O j/\compD g c a3 (its.drop (i+1)) ρ2 j=some out,?_,fun x H2 y=>?_⟩
  .rintro G H2 ⟨F2,ρ2,j,O,b1,b2,b3,b4,b5,b6⟩
   exact⟨its.length-(i+1),Nat.sub_lt_sub_left Y (Nat.lt_succ_self i),F2,ρ2,j,O,b1,b2,b3,b4,b5,Y,rfl,b6⟩
  .obtain⟨F2,x2,r2⟩:=I.yld i F' H' x H2 _ xe.ff a2.fh hd y
   rw[drop_get hd]at e'
   obtain⟨ρ1,h2,e3⟩:=compD_cons e'
   clear e' I q y hd
   refine⟨F1,_,F2,ρ',_,ρ1,a2.go x2,r2,h2,fun F3 H3 z U x3=>?_⟩
   have a7:=x2.trans x3
   rcases e3 with⟨h3,e4⟩|⟨d,h3,h4,hz,e4⟩
   .refine⟨F1,_,F3,ρ1,false,U,h3,fun F4 H4 x4=>?_⟩
    have a1:=a7.trans x4
    exact iteF ⟨F4,ρ1,acc,xs,U.go x4,xe.trans a1,a1.hh _ _ Z,a1.stay a6 Z,ra.mono a1.ff,e4⟩
   .refine⟨F1,_,F3,ρ1,true,U,h3,fun F4 H4 x4=>iteT ⟨F1,_,F4,ρ1,d,U.go x4,h4,fun v F5 H5 x5 r5=>?_⟩⟩
    have a0:=(a7.trans x4).trans x5
    have pn:=a0.stay a6 Z
    exact⟨xs,a0.hh _ _ Z,by rw[ra.length];exact hz,F5,ρ1,acc++[d],xs++[v],((U.go x4).go x5).rebase pn a5,(xe.trans a0).acc hp pn,upd_same,pn,(ra.mono a0.ff).append (.cons r5 .nil),e4⟩
 .left
  have a8:i=its.length:=Nat.le_antisymm a9 (Nat.le_of_not_lt Y)
  subst a8
  rw[drop_length]at e'
  have e':some acc=some out:=e'
  cases e'
  exact⟨I.stop F' H' xe.ff a2.fh,q xs F' H' xe a6 Z ra⟩
section
variable {X:Cx}{a b c e:Expr}{ma mb:ME}{pos:Pos}{st:Stmt}{rest:List Stmt}
noncomputable def PTsd (X:Cx)(ifs:List Expr)(c:MB):Prop:=PTs X ifs (TC X.K c)
noncomputable def cyes:MB:=fun _=>some true
theorem ptsd_nil:PTsd X [] cyes:=fun pins s σ H Q I j=>by
 obtain⟨F0,H0,F,ρ,b,z,e,q⟩:=j
 cases e
 exact pts_nil pins s σ H Q I (q F H (.refl z.fh))
theorem ptsd_one {ca:MB}(h:PC' X c ca):PTsd X [c] ca:=pts_one h
theorem comp_tf {K:W.Frag}{src:List (Option Nat)}{G:ML}{g:Tg}{c:MB}{j:ME}{σ:St}{H:Hp}{Q:VK}(h:TF K (mcomp src G g c j) σ H Q):tComp src (TId K G) (TGd K g) (TC K c) (TD K j) σ H Q:=by
 obtain⟨F0,H0,F,ρ,out,O,e,q⟩:=h
 unfold mcomp at e
 cases h1:G ρ with
 |none=>rw[h1]at e;cases e
 |some its=>
  rw[h1]at e
  refine⟨F0,H0,F,ρ,its,O,h1,fun J F1 H1 z I p hp=>?_⟩
  obtain⟨rb,Y⟩:=(O.go z).blk src
  exact comp_loop z.fh hp (rb.noB Y hp) I e fun xs F' H' xe N L U=>q p xs F' H' (z.trans xe) (z.hh.free hp) N L U
theorem pf_comp {sc:Scope}{N:List Str}{src:List (Option Nat)}{tg z iter:Expr}{j:List Expr}{J:ML}{g:Tg}{cc:MB}{G:ME}(B:Blk X sc N src)(Z:X.calm=true)
  (hi:PId X tg iter J) (U:∀ C fp s H,PGd (blkCx X sc C N fp s H) tg g) (L:∀ C fp s H,PTsd (blkCx X sc C N fp s H) j cc) (Y:∀ C fp s H,PD (blkCx X sc C N fp s H) z G)
  (O:∀ x,foldedSetIterable iter X.env x=pure x:=by intro _;rfl):
  PF X (.ListComp z [⟨tg,iter,j,0⟩] sc pos) (mcomp src J g cc G):=(pe_comp (g:=TGd X.K g) (tc:=TC X.K cc) (te:=TD X.K G) B Z hi (fun C fp s H=>U C fp s H) (fun C fp s H=>L C fp s H) (fun C fp s H=>Y C fp s H) O).imp fun _ _ _ h=>comp_tf h
theorem pf_imp {mf:ML}{σ:St}{H:Hp}{Q:VK}(h:TD X.K (mlst mf) σ H Q):TF X.K mf σ H Q:=by
 obtain⟨F0,H0,F,ρ,d,r,e,q⟩:=h
 unfold mlst at e
 cases hm:mf ρ with
 |none=>rw[hm]at e;cases e
 |some ds=>
  rw[hm]at e;cases e
  refine⟨F0,H0,F,ρ,ds,r,hm,fun p xs F' H' x hp j G z=>?_⟩
  exact q _ (upd F' p (.lst xs)) H' (x.freeze j hp G) (.lst (SqL.of upd_same) (z.mono ((Same.refl F').put j)))
theorem psd_setCs {i:Nat}{src:List (Option Nat)}{j:ML}{g:Tg}{cc:MB}{z:ME}(h:PS X st (tAsg (tComp src (TId X.K j) (TGd X.K g) (TC X.K cc) (TD X.K z)) (gName i))):PSd X st (mset i (mlst (mcomp src j g cc z))):=asg_d h fun _ _ _ q=>comp_tf (pf_imp q)
inductive Rt where
 |sh (d:D)|fr (ds:List D)|pr (d:D) (ds:List D)
noncomputable abbrev MF:=List D->Option Rt
noncomputable def okT (K:W.Frag)(F H:Hp)(Q:VK):Rt->Prop
 | .sh d=>∀ v F' H',Ext F H F' H'->Rep K F' v d->Q v H'
 | .fr ds=>∀ p xs F' H',Ext F H F' H'->H p=none->F' p=none->H' p=some (.lst xs)->Reps K F' xs ds->Q (.ref p) H'
 | .pr d ds=>∀ t v p xs F' H',Ext F H F' H'->H t=none->H p=none->t≠p->F' t=none->F' p=none->H' t=some (.tup [v,.ref p])->H' p=some (.lst xs)->Rep K F' v d->Reps K F' xs ds->Q (.ref t) H'
noncomputable def spR (K:W.Frag)(n:Nat)(m:MF):Sp:=fun vs H Q _=>vs.length=n/\∃ F ds r,Same F H/\Reps K F vs ds/\m ds=some r/\okT K F H Q r
noncomputable def startS (n:Nat)(ds:List D):Ro:=ds.map (fun d=>some (.sh d))++List.replicate (n-ds.length) none
noncomputable def runB (n:Nat)(m:MS):MF:=fun ds=>match m (startS n ds)with
 |some (.nx _)=>some (.sh .non)
 |some (.rt d)=>some (.sh d)
 |some (.rf es)=>some (.fr es)
 |some (.rp d es)=>some (.pr d es)
 |_=>none
theorem rl_start {K:W.Frag}{F H:Hp}{N:List Str}{vs:List V}{ds:List D}(s:Same F H)(r:Reps K F vs ds):Rl K F H F H (start N vs) (startS N.length ds):=by
 have get:∀(i:Nat) x,(startS N.length ds)[i]? =some (some x)->∃ d,x=S.sh d/\ds[i]? =some d:=fun i x e=>by
  unfold startS at e
  by_cases hi:i<ds.length
  .rw[getElem?_append_left (by simpa using hi),getElem?_map]at e
   cases q:ds[i]? with
   |none=>rw[q]at e;cases e
   |some d=>rw[q]at e;cases e;exact⟨d,rfl,rfl⟩
  .rw[getElem?_append_right (by simpa using hi),getElem?_replicate]at e
   split at e <;> cases e
 refine⟨.refl s,?_,fun i d e=>?_,fun i ds e=>?_,fun i j p ds es _ e=>?_,fun i p ds e=>?_,fun i j p ds es e=>?_,fun i j p q ds es e=>?_⟩
 .unfold start startS;simp[r.length]
 .obtain⟨d',e1,e2⟩:=get i _ e
  cases e1
  obtain⟨v,e3,G⟩:=r.get e2
  have z:i<vs.length:=(List.getElem?_eq_some_iff.mp e3).1
  refine⟨v,?_,G⟩
  unfold start
  rw[getElem?_append_left (by simpa using z),getElem?_map,e3];rfl
 .obtain⟨d',e1,_⟩:=get i _ e
  cases e1
 .obtain⟨d',e1,_⟩:=get i _ e
  cases e1
 .obtain⟨d',e1,_⟩:=get i _ e
  cases e1
 .obtain⟨d',e1,_⟩:=get i _ e
  cases e1
 .obtain⟨d',e1,_⟩:=get i _ e
  cases e1
theorem Fun.okD {P:Program}{w:World}{K:W.Frag}{mg:Str->Option Value}{base:Heap}{x qual:Str}{st:Stmt}{f:Addr}{fd:FuncData}{N ps:List Str}{k:Nat}{m:MS}(Y:Fun K x qual st f fd)(U:FnScope N ps (defScope st))
  (j:∀(cdv:Value)(A:Around)(outer:List Env)(s:Shared)(H:Hp)(E:XK),Room k (A.deeper (envOfC qual (defScope st) s.heap.objs.size f cdv))->PSsd (cxOf CX0 P w K mg base N qual (defScope st) f cdv A outer s H E).nox (defBody st) m):
  FnOk P w K mg base CX0 (k+1) f fd ps (spR K ps.length (runB N.length m)):=by
 refine Y.ok U (fun vs H Q E h=>h.1) fun cdv A outer s H vs Q E O h=>?_
 obtain⟨Z,F,ds,r,G,J,e,ok⟩:=h
 unfold runB at e
 cases h1:m (startS N.length ds)with
 |none=>rw[h1]at e;cases e
 |some o=>
  rw[h1]at e
  refine⟨_,j cdv A outer s H E O,F,H,F,startS N.length ds,o,rl_start G J,h1,?_⟩
  cases o with
  |nx ρ=>cases e;exact fun F' H' z L _=>ok .non F' H' L.ext .non
  |rt d=>cases e;exact ok
  |rf es=>cases e;exact ok
  |rp d es=>cases e;exact ok
  |rg d p r=>cases e
  |rgf d p r=>cases e
  |bk ρ=>cases e
  |ct ρ=>cases e
@[irreducible] noncomputable def mcall (f:MF)(m:ML):ME:=fun ρ=>(m ρ).bind fun ds=>match f ds with |some (.sh d)=>some d|some (.fr es)=>some (.lst es)|some (.pr d es)=>some (.tup [d,.lst es])|none=>none
@[irreducible] noncomputable def mcallF (f:MF)(m:ML):ML:=fun ρ=>(m ρ).bind fun ds=>match f ds with |some (.fr es)=>some es|_=>none
variable {E:XK}{es:List Expr}{mf:MF}{m:ML}
theorem pd_call {n:Nat}(h:∀ t,PA X es t->PE X e (tCall (spR X.K n mf) [] E t))(hl:es.length=n)(ha:PAs X es m)(hm:∀ ρ ds,m ρ=some ds->ds.length=es.length):PD X e (mcall mf m):=(h _ ha).imp fun σ H Q J=>by
 obtain⟨F0,H0,F,ρ,d,rl,e,q⟩:=J
 unfold mcall at e
 cases h1:m ρ with
 |none=>rw[h1]at e;cases e
 |some ds=>
  rw[h1]at e
  refine⟨F0,H0,F,ρ,ds,rl,h1,fun vs F1 H1 z O=>?_⟩
  dsimp only[Option.bind]at e
  show spR X.K n mf (vs++[]) H1 Q E
  rw[append_nil]
  refine⟨by rw[O.length,hm ρ ds h1,hl],F1,ds,?_⟩
  split at e
  .rename_i d' h2
   cases e
   exact⟨_,z.fh,O,h2,fun v F2 H2 G U=>q v F2 H2 (z.trans G) U⟩
  .rename_i es' h2
   cases e
   exact⟨_,z.fh,O,h2,fun p xs F2 H2 G hp hF hH U=>q _ (upd F2 p (.lst xs)) H2 (z.trans (G.freeze hF hp hH)) (.lst (SqL.of upd_same) (U.mono ((Same.refl F2).put hF)))⟩
  .rename_i d' es' h2
   cases e
   refine⟨_,z.fh,O,h2,fun t v p xs F2 H2 G ht hp L a0 N Y Z rv rs=>?_⟩
   have x3:=G.freeze N hp Z
   have j:upd F2 p (.lst xs) t=none:=by rw[upd_ne L];exact a0
   have s2:Same F2 (upd F2 p (.lst xs)):=(Same.refl F2).put N
   have s3:Same (upd F2 p (.lst xs)) (upd (upd F2 p (.lst xs)) t (.tup [v,.ref p])):=(Same.refl _).put j
   exact q _ (upd (upd F2 p (.lst xs)) t (.tup [v,.ref p])) H2 (z.trans (x3.freeze j ht Y)) (.tup (SqT.of upd_same) (.cons (rv.mono (s2.trans s3)) (.cons (.lst (SqL.of (by rw[upd_ne (Ne.symm L)];exact upd_same)) (rs.mono (s2.trans s3))) .nil)))
  .cases e
theorem pf_call {n:Nat}(h:∀ t,PA X es t->PE X e (tCall (spR X.K n mf) [] E t))(O:es.length=n)(ha:PAs X es m)(hm:∀ ρ ds,m ρ=some ds->ds.length=es.length):PF X e (mcallF mf m):=(h _ ha).imp fun σ H Q j=>by
 obtain⟨F0,H0,F,ρ,d,L,e,q⟩:=j
 unfold mcallF at e
 cases h1:m ρ with
 |none=>rw[h1]at e;cases e
 |some ds=>
  rw[h1]at e
  refine⟨F0,H0,F,ρ,ds,L,h1,fun vs F1 H1 z G=>?_⟩
  dsimp only[Option.bind]at e
  show spR X.K n mf (vs++[]) H1 Q E
  rw[append_nil]
  refine⟨by rw[G.length,hm ρ ds h1,O],F1,ds,?_⟩
  split at e
  .rename_i es' h2
   cases e
   exact⟨_,z.fh,G,h2,fun p xs F2 H2 J hp Y U N=>q p xs F2 H2 (z.trans J) (z.hh.free hp) Y U N⟩
  .cases e
theorem anil_len (ρ:Ro)(ds:List D)(h:anil ρ=some ds):ds.length=0:=by cases h;rfl
theorem acons_len {x:ME}{r:ML}{n:Nat}(j:∀ ρ ds,r ρ=some ds->ds.length=n)(ρ:Ro)(ds:List D)(h:acons x r ρ=some ds):ds.length=n+1:=by
 obtain⟨d,es,_,h2,rfl⟩:=acons_some h
 rw[length_cons,j ρ es h2]
end
end
section
section
variable {X:Cx}{a b c e:Expr}{ma mb:ME}{pos:Pos}
noncomputable def bl2 (g:Bool->Bool->Bool):D->D->Option D
 | .bl i,.bl j=>some (.bl (g i j))
 |_,_=>none
theorem reps_ints {K:W.Frag}{F:Hp}:∀ ns:List Int,Reps K F (ns.map V.int) (ns.map D.int)
 |[]=>.nil
 |n::ns=>.cons (.int n) (reps_ints ns)
theorem sp_Z12 {K:W.Frag}{m:MF}(h:∀ ns:List Int,ns.length<=63->m [.lst (ns.map .int)]=some (.sh (.bl true)))(H:Hp)(a:Addr)(ns:List Int)(j:ns.length<=63)(z:SqL K H a (ns.map V.int))(E:XK):
  spR K 1 m [.ref a] H (fun v _=>v= .bl true) E:=
 ⟨rfl,H,_,_,Same.refl H,.cons (.lst z (reps_ints ns)) .nil,h ns j,fun v F' H' _ r=>by cases r;rfl⟩
end
end
section
noncomputable def blkOk (fsc:Scope)(fN:List Str)(sc:Scope)(N:List Str)(src:List (Option Nat)):Bool:=
 (sc.kind== .function)&&sc.names.all (fun y=>y.2 != .cell)&&sc.names.all (fun y=>y.2 != .local || sc.names.lookup y.1==some .local)
  &&sc.names.all (fun y=>y.2 != .free || (fsc.names.lookup y.1==some .cell || fsc.names.lookup y.1==some .free))&&(src.length==N.length)
  &&(List.range src.length).all fun j=>match src[j]? with
   |some (some i)=>match N[j]? with
    |some x=>fN[i]? ==some x&&sc.names.lookup x==some .free
    |none=>false
   |_=>true
theorem blk_of {X:Cx}{sc:Scope}{N:List Str}{src:List (Option Nat)}(G:Scope)(O:List Str)(h1:X.env.scope=G)(h2:X.N=O)(h:blkOk G O sc N src=true):Blk X sc N src:=by
 unfold blkOk at h
 simp only[Bool.and_eq_true,all_eq_true,beq_iff_eq,Bool.or_eq_true,bne_iff_ne,ne_eq]at h
 obtain⟨⟨⟨⟨⟨a1,a2⟩,a3⟩,Z⟩,Y⟩,U⟩:=h
 refine⟨a1,a2,fun y J L=>?_,fun y J L=>?_,fun j i e=>?_,Y⟩
 .rcases a3 y J with z|z
  .exact absurd L z
  .exact z
 .have k:∀ x,X.env.kindOf x=G.names.lookup x:=fun x=>by rw[<-h1];rfl
  rw[k]
  rcases Z y J with z|z
  .exact absurd L z
  .exact z
 .have hj:j<src.length:=(List.getElem?_eq_some_iff.mp e).1
  have:=U j (List.mem_range.mpr hj)
  rw[e]at this
  simp only at this
  cases hx:N[j]? with
  |none=>rw[hx]at this;cases this
  |some x=>
   rw[hx]at this
   simp only[Bool.and_eq_true,beq_iff_eq]at this
   exact⟨x,rfl,by rw[h2];exact this.1,this.2⟩
end
section
theorem pf_sl {X:Cx}{a:Expr}{j:ML}{lo hi:Option Expr}{l h:MO}{p2 pos:Pos}(ha:PB X a j)(z:POs X lo l)(hh:POs X hi h):PF X (.Subscript a (.Slice lo hi none p2) pos) (mcut j l h):=pf_cut ha z hh (pe_slice sl_list ha z hh)
end
section
noncomputable def zipE (f:D->D->Option Bool):List D->List D->Option Bool
 |d::ds,e::es=>(f d e).bind fun a=>(zipE f ds es).bind fun b=>some (a&&b)
 |_,_=>some true
noncomputable def eqF:Nat->D->D->Option Bool
 |0,_,_=>none
 |n+1,.lst ds,.lst es=>if ds.length=es.length then zipE (eqF n) ds es else some false
 |n+1,.tup ds,.tup es=>(zipE (eqF n) ds es).map fun b=>b&&ds.length==es.length
 |_+1,d,e=>eqS d e
theorem zipE_all {f:D->D->Option Bool}:∀{ds es:List D}{k:Bool},zipE f ds es=some k->∃ g:Nat->Bool,(∀ j d e,ds[j]? =some d->es[j]? =some e->f d e=some (g j))/\k=(List.range (min ds.length es.length)).all g
 |[],es,k,h=>by
  have h:some true=some k:=by simpa[zipE]using h
  cases h
  exact⟨fun _=>true,by simp,by simp⟩
 |_::_,[],k,h=>by
  have h:some true=some k:=by simpa[zipE]using h
  cases h
  exact⟨fun _=>true,by simp,by simp⟩
 |d::ds,e::es,k,h=>by
  unfold zipE at h
  cases h1:f d e with
  |none=>rw[h1]at h;cases h
  |some a=>
   rw[h1]at h
   cases h2:zipE f ds es with
   |none=>rw[h2]at h;cases h
   |some b=>
    rw[h2]at h
    have h:some (a&&b)=some k:=h
    cases h
    obtain⟨g,G,z⟩:=zipE_all h2
    refine⟨fun j=>match j with |0=>a|j+1=>g j,?_,?_⟩
    .intro j d' e' hd he
     cases j with
     |zero=>simp at hd he;subst hd he;exact h1
     |succ j=>exact G j d' e' (by simpa using hd) (by simpa using he)
    .rw[z,length_cons,length_cons,Nat.add_min_add_right,range_succ_eq_map,all_cons,all_map]
     rfl
section
variable {X:Cx}{pins:List (Addr×Obj)}{σ:St}{H:Hp}{s:Shared}
theorem Inv.xat (I:Inv X pins σ H s){a C:Addr}(h:H a=some (.ext (XAt a C))):XAt a C s.heap:=(show ObjOk X.prog X.w H s.heap a (.ext (XAt a C))from I.hok a _ h).1
theorem zipE_same {f:D->D->Option Bool}(j:∀{v:V}{d e:D}{k:Bool},Rep X.K H v d->Rep X.K H v e->f d e=some k->k=true):∀{vs:List V}{ds es:List D}{k:Bool},Reps X.K H vs ds->Reps X.K H vs es->zipE f ds es=some k->k=true
 |_,_,_,_,.nil,.nil,h=>by simp[zipE]at h;exact h
 |_::_,d::ds,e::es,k,.cons r1 s1,.cons r2 s2,h=>by
  unfold zipE at h
  cases h1:f d e with
  |none=>rw[h1]at h;cases h
  |some a=>
   rw[h1]at h
   cases h2:zipE f ds es with
   |none=>rw[h2]at h;cases h
   |some b=>
    rw[h2]at h
    have h:some (a&&b)=some k:=h
    cases h
    rw[j r1 r2 h1,zipE_same j s1 s2 h2];rfl
theorem Rep.eqT (I:Inv X pins σ H s):∀(n:Nat){v:V}{d e:D}{k:Bool},Rep X.K H v d->Rep X.K H v e->eqF n d e=some k->k=true
 |0,_,_,_,_,_,_,h=>by simp[eqF]at h
 |n+1,v,d,e,k,r1,r2,h=>by
  cases r1 with
  |non=>cases r2;simp[eqF,eqS]at h;exact h
  |bl b=>cases r2;simp[eqF,eqS]at h;exact h
  |int b=>cases r2;simp[eqF,eqS]at h;exact h
  |str b=>cases r2;simp[eqF,eqS]at h;exact h
  |lst J G=>
   cases r2 with
   |lst z j=>
    have e:=I.list_inj J z
    subst e
    simp only[eqF]at h
    split at h
    .exact zipE_same (fun a b c=>Rep.eqT I n a b c) G j h
    .rename_i hl;exact absurd (G.length.symm.trans j.length) hl
   |_=>cases h
  |tup J G=>
   cases r2 with
   |tup z j=>
    have e:=I.tuple_inj J z
    subst e
    simp only[eqF]at h
    cases hz:zipE (eqF n) _ _ with
    |none=>rw[hz]at h;cases h
    |some L=>
     rw[hz]at h
     have h:=Option.some.inj h
     rw[<-h,zipE_same (fun a b c=>Rep.eqT I n a b c) G j hz,G.length.symm.trans j.length]
     simp
   |_=>cases h
  |_=>cases h
open PySem.SeqAt in
theorem eqS_at {K:W.Frag}{H:Hp}{A:Around}{s:Shared}{x y:V}{v u:Value}{d e:D}{k:Bool}(L:Rep K H x d)(J:Rep K H y e)(z:RelV x v)(j:RelV y u)(h:eqS d e=some k):EqAt A s v u k/\RcAt A s v u k/\RcNeAt A s v u (!k):=by
 obtain⟨O,G⟩:=eqS_sym d e k h
 rw[eqS_l h L]at z
 rw[eqS_l G J]at j
 clear L J G
 cases d with
 |non=>
  cases z
  cases e with
  |non=>cases j;cases h;exact⟨EqAt.same _,.none_none,.none_none⟩
  |bl b=>cases j;cases h;exact⟨.none_bool _,.none_bool _,.none_bool _⟩
  |int b=>obtain⟨t,rfl⟩:=j;cases h;exact⟨.none_int _ _,.none_int _ _,.none_int _ _⟩
  |str b=>obtain⟨t,rfl⟩:=j;cases h;exact⟨.none_str _ _,.none_str _ _,.none_str _ _⟩
  |_=>cases h
 |bl i=>
  cases z
  cases e with
  |non=>cases j;cases h;exact⟨.bool_none _,.bool_none _,.bool_none _⟩
  |bl b=>cases j;cases h;exact⟨.bool_bool _ _,.bool_bool _ _,.bool_bool _ _⟩
  |str b=>obtain⟨t,rfl⟩:=j;cases h;exact⟨.bool_str _ _ _,.bool_str _ _ _,.bool_str _ _ _⟩
  |_=>cases h
 |int i=>
  obtain⟨N,rfl⟩:=z
  cases e with
  |non=>cases j;cases h;exact⟨.int_none _ _,.int_none _ _,.int_none _ _⟩
  |int b=>obtain⟨t,rfl⟩:=j;cases h;exact⟨.int_int _ _ _ _,.int_int _ _ _ _,.int_int _ _ _ _⟩
  |str b=>obtain⟨t,rfl⟩:=j;cases h;exact⟨.int_str _ _ _ _,.int_str _ _ _ _,.int_str _ _ _ _⟩
  |_=>cases h
 |str i=>
  obtain⟨N,rfl⟩:=z
  cases e with
  |non=>cases j;cases h;exact⟨.str_none _ _,.str_none _ _,.str_none _ _⟩
  |bl b=>cases j;cases h;exact⟨.str_bool _ _ _,.str_bool _ _ _,.str_bool _ _ _⟩
  |int b=>obtain⟨t,rfl⟩:=j;cases h;exact⟨.str_int _ _ _ _,.str_int _ _ _ _,.str_int _ _ _ _⟩
  |str b=>obtain⟨t,rfl⟩:=j;cases h;exact⟨.str_str _ _ _ _,.str_str _ _ _ _,.str_str _ _ _ _⟩
  |_=>cases h
 |_=>cases h
theorem eqF_inv {n:Nat}{d e:D}{k:Bool}(h:eqF (n+1) d e=some k):eqS d e=some k\/(∃ ds es,d= .lst ds/\e= .lst es/\(if ds.length=es.length then zipE (eqF n) ds es else some false)=some k)\/∃ ds es j,d= .tup ds/\e= .tup es/\zipE (eqF n) ds es=some j/\(j&&ds.length==es.length)=k:=by
 cases d with
 |lst ds=>
  cases e with
  |lst es=>exact .inr (.inl ⟨ds,es,rfl,rfl,h⟩)
  |_=>exact .inl h
 |tup ds=>
  cases e with
  |tup es=>
   have h:((zipE (eqF n) ds es).map fun b=>b&&ds.length==es.length)=some k:=h
   cases hz:zipE (eqF n) ds es with
   |none=>rw[hz]at h;cases h
   |some j=>rw[hz]at h;exact .inr (.inr ⟨ds,es,j,rfl,rfl,hz,Option.some.inj h⟩)
  |_=>exact .inl h
 |_=>exact .inl h
theorem items_at {K:W.Frag}{H:Hp}{A:Around}{s:Shared}{n:Nat}{xs ys:List V}{ds es:List D}{its z:List Value}{g:Nat->Bool}(ih:∀{x y:V}{v u:Value}{d e:D}{k:Bool},Rep K H x d->Rep K H y e->RelV x v->RelV y u->eqF n d e=some k->PySem.SeqAt.EqAt A s v u k)(rs:Reps K H xs ds)(J:Reps K H ys es)(vr:Vals xs its)(G:Vals ys z)
  (g1:∀(j:Nat) d e,ds[j]? =some d->es[j]? =some e->eqF n d e=some (g j)) (j:Nat) (h1:j<its.toArray.size) (h2:j<z.toArray.size):PySem.SeqAt.EqAt A s its.toArray[j] z.toArray[j] (g j):=by
 have z1:its.length=ds.length:=by rw[<-vr.length,rs.length]
 have z2:z.length=es.length:=by rw[<-G.length,J.length]
 simp only[size_toArray]at h1 h2
 obtain⟨d',O⟩:∃ d',ds[j]? =some d':=⟨_,getElem?_eq_getElem (z1 ▸ h1)⟩
 obtain⟨e',N⟩:∃ e',es[j]? =some e':=⟨_,getElem?_eq_getElem (z2 ▸ h2)⟩
 obtain⟨v',a0,U⟩:=rs.get O
 obtain⟨u',a1,Y⟩:=J.get N
 obtain⟨p,hp,rp⟩:=vr.get a0
 obtain⟨p2,L,Z⟩:=G.get a1
 have e1:its.toArray[j]=p:=by
  rw[getElem?_eq_getElem h1]at hp
  simpa using hp
 have e2:z.toArray[j]=p2:=by
  rw[getElem?_eq_getElem h2]at L
  simpa using L
 rw[e1,e2]
 exact ih U Y rp Z (g1 j d' e' O N)
open PySem.SeqAt in
theorem eq_at (I:Inv X pins σ H s):∀(n:Nat){A:Around}{x y:V}{v u:Value}{d e:D}{k:Bool},A.units+n<cLine->Rep X.K H x d->Rep X.K H y e->RelV x v->RelV y u->eqF n d e=some k->EqAt A s v u k/\RcAt A s v u k/\RcNeAt A s v u (!k)
 |0,A,x,y,v,u,d,e,k,hu,r1,r2,q1,q2,h=>by simp[eqF]at h
 |n+1,A,x,y,v,u,d,e,k,hu,r1,r2,q1,q2,h=>by
  have J:A.units<cLine:=by omega
  have a0:A.in1.units+n<cLine:=by show A.units+1+n<cLine;omega
  rcases eqF_inv h with h1|⟨ds,es,rfl,rfl,h1⟩|⟨ds,es,kk,rfl,rfl,hz,hk⟩
  .exact eqS_at r1 r2 q1 q2 h1
  .obtain⟨a,xs,rfl,sq,rs⟩:=r1.l'
   obtain⟨b,ys,rfl,N,G⟩:=r2.l'
   cases q1;cases q2
   obtain⟨its,vr,⟨o,m,ho,hc,_,hd⟩,_⟩:=I.list sq
   obtain⟨j,L,⟨o2,m2,O,Y,_,U⟩,_⟩:=I.list N
   have L1:s.heap.IsList a its.toArray:=⟨o,ho,hc,m,hd⟩
   have L2:s.heap.IsList b j.toArray:=⟨o2,O,Y,m2,U⟩
   clear ho hc hd O Y U
   have z1:its.length=ds.length:=by rw[<-vr.length,rs.length]
   have z2:j.length=es.length:=by rw[<-L.length,G.length]
   have z:RcAt A s (.ref a) (.ref b) k/\RcNeAt A s (.ref a) (.ref b) (!k):=by
    by_cases hl:ds.length=es.length
    .rw[if_pos hl]at h1
     obtain⟨g,g1,g2⟩:=zipE_all h1
     have he:=items_at (fun a b c d e=>(eq_at I n a0 a b c d e).1) rs G vr L g1
     have hz:its.toArray.size=j.toArray.size:=by simp only[size_toArray];rw[z1,z2,hl]
     have hk:k=(List.range its.toArray.size).all g:=by
      rw[g2];simp only[size_toArray];rw[z1,hl,Nat.min_self]
     rw[hk]
     exact⟨.lists L1 L2 hz J he,.lists L1 L2 hz J he⟩
    .rw[if_neg hl]at h1
     cases h1
     have hz:(its.toArray.size != j.toArray.size)=true:=by simp only[size_toArray];rw[z1,z2];exact bne_iff_ne.mpr hl
     exact⟨.lists_lengths L1 L2 hz J,.lists_lengths L1 L2 hz J⟩
   refine⟨?_,z⟩
   by_cases Z:a=b
   .subst Z
    rw[Rep.eqT I (n+1) (.lst sq rs) (.lst N G) h]
    exact EqAt.same _
   .exact .of_refs Z z.1
  .obtain⟨a,xs,rfl,sq,rs⟩:=r1.t'
   obtain⟨b,ys,rfl,N,G⟩:=r2.t'
   cases q1;cases q2
   obtain⟨its,vr,⟨o,ho,hc,m,hd⟩,_⟩:=I.tuple sq
   obtain⟨j,L,⟨o2,O,Y,m2,U⟩,_⟩:=I.tuple N
   have L1:s.heap.IsTuple a its.toArray:=⟨o,ho,hc,m,hd⟩
   have L2:s.heap.IsTuple b j.toArray:=⟨o2,O,Y,m2,U⟩
   clear ho hc hd O Y U
   have z1:its.length=ds.length:=by rw[<-vr.length,rs.length]
   have z2:j.length=es.length:=by rw[<-L.length,G.length]
   have z:RcAt A s (.ref a) (.ref b) k/\RcNeAt A s (.ref a) (.ref b) (!k):=by
    obtain⟨g,g1,g2⟩:=zipE_all hz
    have he:=items_at (fun a b c d e=>(eq_at I n a0 a b c d e).1) rs G vr L g1
    have hk:k=((List.range (min its.toArray.size j.toArray.size)).all g&&its.toArray.size==j.toArray.size):=by
     rw[<-hk,g2];simp only[size_toArray];rw[z1,z2]
    rw[hk]
    exact⟨.tuples L1 L2 J he,.tuples L1 L2 J he⟩
   refine⟨?_,z⟩
   by_cases Z:a=b
   .subst Z
    rw[Rep.eqT I (n+1) (.tup sq rs) (.tup N G) h]
    exact EqAt.same _
   .exact .of_refs Z z.1
end
end
section
section
variable {X:Cx}{a b c e:Expr}{ma mb:ME}{la lb:ML}{pos:Pos}
noncomputable def rEqF (K:W.Frag)(neg:Bool):R2:=fun x y H Q=>∃ d e k,Rep K H x d/\Rep K H y e/\eqF 8 d e=some k/\Q (.bl (if neg then !k else k)) H
theorem op_eqF (J:X.A.units+64<cLine):OpR X (compareOp .Eq) (rEqF X.K false):=by
 intro pins s σ H x y v u Q I rx j h
 obtain⟨d,e,k,G,z,h,q⟩:=h
 exact(eq_at I 8 (by omega) G z rx j h).2.1 X.prog X.w _ _ ⟨.bl k,H,I,rfl,q⟩
theorem op_neF (J:X.A.units+64<cLine):OpR X (compareOp .NotEq) (rEqF X.K true):=by
 intro pins s σ H x y v u Q I rx j h
 obtain⟨d,e,k,G,z,h,q⟩:=h
 exact(eq_at I 8 (by omega) G z rx j h).2.2 X.prog X.w _ _ ⟨.bl (!k),H,I,rfl,q⟩
noncomputable def eqFD (neg:Bool)(d e:D):Option D:=(eqF 8 d e).map fun k=>.bl (if neg then !k else k)
@[irreducible] noncomputable def meqB (neg:Bool)(x y:ML):ME:=fun ρ=>(x ρ).bind fun ds=>(y ρ).bind fun es=>eqFD neg (.lst ds) (.lst es)
theorem eqB_d {j:Bool}{σ:St}{H:Hp}{Q:VK}(h:TD X.K (meqB j la lb) σ H Q):tOp (rEqF X.K j) (TB X.K la) (TB X.K lb) σ H Q:=by
 obtain⟨F0,H0,F,ρ,g,J,e,q⟩:=h
 unfold meqB at e
 cases h1:la ρ with
 |none=>rw[h1]at e;cases e
 |some ds=>
  cases h2:lb ρ with
  |none=>rw[h1,h2]at e;cases e
  |some es=>
   rw[h1,h2]at e
   have e:eqFD j (.lst ds) (.lst es)=some g:=e
   refine⟨F0,H0,F,ρ,ds,J,h1,fun p xs F1 H1 G s1 O=>⟨F0,H0,F1,ρ,es,J.go G,h2,fun p2 L F2 H2 z s2 N=>?_⟩⟩
   unfold eqFD at e
   cases hk:eqF 8 (.lst ds) (.lst es)with
   |none=>rw[hk]at e;cases e
   |some k=>
    rw[hk]at e;cases e
    exact⟨_,_,k,.lst (z.hh.seq s1) (O.mono (z.ff.trans z.fh)),.lst s2 (N.mono z.fh),hk,q _ F2 H2 (G.trans z) (.bl _)⟩
theorem pd_eqB {z:CmpOp}{j:Bool}(G:OpR X (compareOp z) (rEqF X.K j))(ha:PB X a la)(J:PB X b lb)(hm:behindInMarks z b=false):PD X (.Compare a [z] [b] pos) (meqB j la lb):=(pe_cmpR G ha J hm).imp fun _ _ _ h=>eqB_d h
theorem pc_eqB {G:CmpOp}{j:Bool}(L:OpR X (compareOp G) (rEqF X.K j))(ha:PB X a la)(N:PB X b lb)(hm:behindInMarks G b=false):PC' X (.Compare a [G] [b] pos) (mtest (meqB j la lb)):=(pt_cmpR L ha N hm).imp fun σ H Q z=>by
 obtain⟨F0,H0,F,ρ,g,J,e,q⟩:=z
 unfold mtest at e
 split at e
 .rename_i k hk
  cases e
  refine eqB_d ⟨F0,H0,F,ρ,.bl g,J,hk,fun v F' H' x r=>?_⟩
  cases r
  exact⟨_,rfl,q F' H' x⟩
 .cases e
end
end
section
theorem filterMap_get (its:List Value):∀ z:List Nat,(∀ j∈z,j<its.length)->z.filterMap (its.toArray[·]?)=z.map fun j=>its.getD j Value.none
 |[],_=>rfl
 |j::z,h=>by
  have J:=h j (by simp)
  have e:its.toArray[j]? =some (its.getD j Value.none):=by simp[getD_eq_getElem?_getD,J]
  rw[filterMap_cons,e,map_cons,filterMap_get its z fun k G=>h k (by simp[G])]
theorem slicePick_rev (its:List Value):slicePick its.toArray none none (some (-1))=its.reverse.toArray:=by
 have G:sliceBounds none none (some (-1)) its.toArray.size=((its.length:Int)-1,-1,-1):=by
  simp[sliceBounds]
 have z:sliceRange ((its.length:Int)-1) (-1) (-1)=(List.range its.length).map fun(k:Nat)=>((its.length:Int)-1 + -1*(k:Int)).toNat:=by
  unfold sliceRange
  have:(if (-1:Int)>0 then (if (its.length:Int)-1 < -1 then (-1-((its.length:Int)-1) + -1-1) / -1 else 0)else (if (its.length:Int)-1 > -1 then ((its.length:Int)-1 - -1 - -1-1) / (- -1)else 0))=(its.length:Int):=by
   rw[if_neg (by decide)]
   split
   .rw[show (- -1:Int)=1 by decide,Int.ediv_one];omega
   .omega
  simp only[this,Int.toNat_natCast]
 unfold slicePick
 rw[G]
 show ((sliceRange ((its.length:Int)-1) (-1) (-1)).filterMap (its.toArray[·]?)).toArray=_
 rw[z,filterMap_get]
 .congr 1
  apply ext_getElem
  .simp
  .intro i h1 h2
   simp only[length_map,length_range]at h1
   simp only[getElem_map,getElem_range,getElem_reverse]
   have e:((its.length:Int)-1 + -1*(i:Int)).toNat=its.length-1-i:=by omega
   rw[e]
   simp[getD_eq_getElem?_getD,show its.length-1-i<its.length by omega]
 .intro j hj
  simp only[mem_map,mem_range]at hj
  obtain⟨k,J,rfl⟩:=hj
  omega
section
variable {X:Cx}{a b c e k:Expr}{te:TE}{ma mb:ME}{la lb:ML}{pos p2:Pos}{st:Stmt}
noncomputable def tRev (K:W.Frag)(te:TE)(tk:TO):TE:=fun σ H Q=>te σ H fun x H1=>tk σ H1 fun o H2=>o=some (-1)/\∃ a xs,x= .ref a/\SqL K H2 a xs/\∀ p,H2 p=none->Q (.ref p) (upd H2 p (.lst xs.reverse))
theorem pe_rev {J:Option Expr}{tk:TO}(he:PE X e te)(hk:PO X J tk)(G:∀ v i:Value,subscripted (.Slice none none J p2) false v i=operate [v,i] (getItem v i)):PE X (.Subscript e (.Slice none none J p2) pos) (tRev X.K te tk):=by
 intro pins s σ H Q I h
 refine Subscript_ (thn (he pins s σ H _ I h) fun v s1 j=>?_)
 obtain⟨x,H1,I1,Y,Z⟩:=j
 refine wpAny_Slice ?_
 rw[evalPart_none]
 refine wpAny_pure (wpAny_pure (thn (hk pins s1 σ H1 _ I1 Z) fun N z j=>?_))
 obtain⟨o,H3,I3,pk,eo,a,xs,ex,hx,q⟩:=j
 subst eo ex
 cases Y
 have L:Inv X pins σ H3 { z with heap:=z.heap.push { cls:=.type "slice",data:=.fields #[.none,.none,N] } }:=I3.kept (t':=z.toks) fun b ob q=>Heap.get?_push_of_some _ q
 obtain⟨its,r,O,hz⟩:=L.list hx
 have U:=r.length
 show wpAny (model X.prog X.w) X.A (subscriptTail e (.Slice none none J p2) (.ref a) (.ref z.heap.objs.size)) (EP X pins σ Q) X.xe { z with heap:=z.heap.push { cls:=.type "slice",data:=.fields #[.none,.none,N] } }
 refine tail_any (ops:=[.ref a,.ref z.heap.objs.size]) O.isList.typeIs slot_list_getitem.lookup ?_ (G _ _)
 refine wpAny_getItem_list_slice O.isList (Heap.IsSliceOf.new ..) .none .none pk (by simp) ?_ (by rw[size_toArray] <;> omega)
 rw[slicePick_rev]
 refine⟨.ref _,_,L.laid (t':=z.toks) (o:=.lst xs.reverse) (fun b ob q=>Heap.get?_push_of_some _ q) (Nat.le_refl _) ?_,rfl,q _ (L.hok.fresh (Nat.le_refl _))⟩
 refine⟨by rw[length_reverse];exact hz,_,0,?_,Heap.get?_push_size _ rfl⟩
 exact Vals.reverse r
@[irreducible] noncomputable def mrev (m:ML)(k:MO):ML:=fun ρ=>(m ρ).bind fun ds=>match k ρ with |some (some (-1))=>some ds.reverse|_=>none
theorem pf_rev {J:Option Expr}{mk:MO}(ha:PB X a la)(Y:POs X J mk)(z:∀ v i:Value,subscripted (.Slice none none J p2) false v i=operate [v,i] (getItem v i):=by intro _ _;with_unfolding_all rfl):PF X (.Subscript a (.Slice none none J p2) pos) (mrev la mk):=(pe_rev ha Y z).imp fun σ H Q G=>by
 obtain⟨F0,H0,F,ρ,g,O,e,q⟩:=G
 unfold mrev at e
 cases h1:la ρ with
 |none=>rw[h1]at e;cases e
 |some ds=>
  rw[h1]at e
  dsimp only[Option.bind]at e
  split at e
  .rename_i h2
   cases e
   refine⟨F0,H0,F,ρ,ds,O,h1,fun p xs F1 H1 N s1 U=>⟨F0,H0,F1,ρ,_,O.go N,h2,fun F2 H2 j=>⟨rfl,p,xs,rfl,j.hh.seq s1,fun w hw=>?_⟩⟩⟩
   have L:=N.trans j
   exact q w _ F2 _ (L.trans (Ext.own j.fh hw)) (L.hh.free hw) (j.fh.free hw) upd_same (U.mono j.ff).reverse
  .cases e
@[irreducible] noncomputable def msetix2 (i:Nat)(ix iy v:ME):MS:=fun ρ=>(v ρ).bind fun d=>match d with
 | .tup [d1,d2]=>match ρ[i]? with
  |some (some (.own ds))=>(ix ρ).bind fun x=>match x with
   | .int k=>(ixN ds.length k).bind fun j=>(iy (ρ.set i (some (.own (ds.set j d1))))).bind fun y=>match y with
    | .int k2=>(ixN ds.length k2).map fun j2=>.nx (ρ.set i (some (.own ((ds.set j d1).set j2 d2))))
    |_=>none
   |_=>none
  |_=>none
 |_=>none
theorem psd_setix2 {i:Nat}{mx my:ME}(hE:PS X st (tAsg (TD X.K mb) (gTup X.K 2 (gCons (gSub (tVar i) (TD X.K mx) rSetL) (gCons (gSub (tVar i) (TD X.K my) rSetL) gNil))))):PSd X st (msetix2 i mx my mb):=hE.imp fun D σ H Y=>by
 obtain⟨F0,H0,F,ρ,o,rl,e,ok⟩:=Y
 unfold msetix2 at e
 cases h1:mb ρ with
 |none=>rw[h1]at e;cases e
 |some d=>
  rw[h1]at e
  refine⟨F0,H0,F,ρ,d,rl,h1,fun y F1 H1 N r1=>?_⟩
  dsimp only[Option.bind]at e
  split at e
  .rename_i d1 d2
   cases r1 with
   |tup sq O=>
    rename_i ta a4
    cases O with
    |@cons v1 _ vs1 _ rv1 O=>
     cases O with
     |@cons v2 _ vs2 _ rv2 O=>
      cases O
      refine⟨ta,_,rfl,N.fh.seqT sq,rfl,?_⟩
      split at e
      .rename_i ds h2
       obtain⟨p,xs,e1,e2,e3,e4,e5⟩:=(rl.go N).own i _ h2
       cases h3:mx ρ with
       |none=>rw[h3]at e;cases e
       |some k'=>
        rw[h3]at e
        refine⟨_,_,rfl,_,e1,F0,H0,F1,ρ,k',rl.go N,h3,fun z F2 H2 J r2=>?_⟩
        cases r2 <;> first| (cases e;done)|skip
        rename_i k
        dsimp only[Option.bind]at e
        cases h4:ixN ds.length k with
        |none=>rw[h4]at e;cases e
        |some j=>
         rw[h4]at e
         dsimp only[Option.bind]at e
         have G:=((rl.go N).go J).write h2 e1 (Reps.set (rv1.mono J.ff) j (e4.mono J.ff))
         refine⟨p,xs,k,j,rfl,rfl,J.hh _ _ e3,by rw[e4.length];exact h4,?_⟩
         have hi:i<ρ.length:=by
          rcases Nat.lt_or_ge i ρ.length with q|q
          .exact q
          .rw[getElem?_eq_none q]at h2;cases h2
         have Z:(ρ.set i (some (S.own (ds.set j d1))))[i]? =some (some (.own (ds.set j d1))):=by rw[getElem?_set_self hi]
         obtain⟨p',a2,a1,a6,a3,a0,a5⟩:=G.own i _ Z
         cases h5:my (ρ.set i (some (S.own (ds.set j d1))))with
         |none=>rw[h5]at e;cases e
         |some y'=>
          rw[h5]at e
          refine⟨_,_,rfl,_,a1,F0,H0,F2,_,y',G,h5,fun z2 F3 H3 L r3=>?_⟩
          cases r3 <;> first| (cases e;done)|skip
          rename_i k2
          have e:(ixN ds.length k2).map (fun j2=>Out.nx (ρ.set i (some (.own ((ds.set j d1).set j2 d2)))))=some o:=e
          cases h6:ixN ds.length k2 with
          |none=>rw[h6]at e;cases e
          |some j2=>
           rw[h6]at e;cases e
           have U:=(G.go L).write Z a1 (Reps.set (rv2.mono (J.ff.trans L.ff)) j2 (a0.mono L.ff))
           rw[set_set]at U
           exact⟨p',a2,k2,j2,rfl,rfl,L.hh _ _ a3,by rw[a0.length,length_set];exact h6,rfl,ok F3 _ σ U ((N.ff.trans J.ff).trans L.ff)⟩
      .cases e
  .cases e
end
end
section
section
variable {X:Cx}{a b c e:Expr}{ma mb:ME}{la lb:ML}{pos:Pos}{st:Stmt}
end
end
section
section
variable {K:W.Frag}{F0 H0 F H:Hp}{σ:St}{ρ:Ro}
end
end
section
section
variable {X:Cx}{a b c e:Expr}{ma mb mz:ME}{la lb:ML}{pos:Pos}
@[irreducible] noncomputable def mchain (f g:D->D->Option D)(x y z:ME):ME:=fun ρ=>match x ρ,y ρ with
 |some d,some e=>(match f d e with |some (.bl true)=>(match z ρ with |some h=>g e h|none=>none)|some (.bl false)=>some (.bl false)|_=>none)
 |_,_=>none
theorem chain_d {r U:R2}{f g:D->D->Option D}(hf:OpD X.K r f)(hg:OpD X.K U g){σ:St}{H:Hp}{Q:VK}(h:TD X.K (mchain f g ma mb mz) σ H Q):tChain r U (TD X.K ma) (TD X.K mb) (TD X.K mz) σ H Q:=by
 obtain⟨F0,H0,F,ρ,w,N,e,q⟩:=h
 unfold mchain at e
 cases h1:ma ρ with
 |none=>rw[h1]at e;cases e
 |some d=>
  cases h2:mb ρ with
  |none=>rw[h1,h2]at e;cases e
  |some J=>
   rw[h1,h2]at e
   refine⟨F0,H0,F,ρ,d,N,h1,fun x F1 H1 G r1=>⟨F0,H0,F1,ρ,J,N.go G,h2,fun y F2 H2 j O=>?_⟩⟩
   cases h3:f d J with
   |none=>simp only[h3]at e;cases e
   |some k=>
    refine hf F2 H2 x y d J k _ j.fh (r1.mono j.ff) O h3 fun v Z H3 z r3=>?_
    simp only[h3]at e
    cases r3 with
    |bl k=>
     cases k with
     |false=>
      cases e
      exact⟨false,rfl,by rw[if_neg (by simp)];exact q _ Z H3 ((G.trans j).trans z) (.bl _)⟩
     |true=>
      refine⟨true,rfl,?_⟩
      rw[if_pos rfl]
      cases h4:mz ρ with
      |none=>simp only[h4]at e;cases e
      |some Y=>
       simp only[h4]at e
       refine⟨F0,H0,Z,ρ,Y,((N.go G).go j).go z,h4,fun w' F4 H4 L r4=>?_⟩
       exact hg F4 H4 y w' J Y w _ L.fh (O.mono (z.ff.trans L.ff)) r4 e fun v' F5 H5 x5=>q v' F5 H5 ((((G.trans j).trans z).trans L).trans x5)
    |_=>cases e
theorem pc_chain {G j:CmpOp}{r L:R2}{f g:D->D->Option D}(O:OpR X (compareOp G) r)(Y:OpD X.K r f)(J:OpR X (compareOp j) L)(U:OpD X.K L g)(ha:PD X a ma)(hb:PD X b mb)(Z:PD X c mz)
  (hm:lastMarks [G,j] [b,c]=false:=by with_unfolding_all rfl):PC' X (.Compare a [G,j] [b,c] pos) (mtest (mchain f g ma mb mz)):=(pt_chain O J ha hb Z hm).imp fun σ H Q z=>by
 obtain⟨F0,H0,F,ρ,w,N,e,q⟩:=z
 unfold mtest at e
 split at e
 .rename_i k hk
  cases e
  refine chain_d Y U ⟨F0,H0,F,ρ,.bl w,N,hk,fun v F' H' x r=>?_⟩
  cases r
  exact⟨_,rfl,q F' H' x⟩
 .cases e
noncomputable def intsD:List D->Option (List Int)
 |[]=>some []
 | .int i::r=>match intsD r with |some ns=>some (i::ns)|none=>none
 |_=>none
theorem intsD_reps {K:W.Frag}{F:Hp}:∀{vs:List V}{ds:List D}{ns:List Int},Reps K F vs ds->intsD ds=some ns->vs=ns.map V.int
 |_,_,_,.nil,h=>by cases h;rfl
 |_,_,_,.cons (d:=d) (ds:=ds) r t,h=>by
  cases r with
  |int i=>
   unfold intsD at h
   cases h1:intsD ds with
   |none=>simp only[h1]at h;cases h
   |some ns=>simp only[h1]at h;cases h;rw[intsD_reps t h1];rfl
  |_=>cases h
theorem intsD_map:∀ ns:List Int,intsD (ns.map D.int)=some ns
 |[]=>rfl
 |n::ns=>by show (match intsD (ns.map D.int)with |some ns=>some (n::ns)|none=>none)=_;rw[intsD_map ns]
noncomputable def tabVs:List (Str×Str)->List DictEntry->Prop
 |[],[]=>True
 | (k,v)::r,e::es=>(∃ t,e.key= .str k t)/\(∃ t,e.val= .str v t)/\tabVs r es
 |_,_=>False
structure KTab (w:World)(K:W.Frag)(a:Addr)(tab:List (Str×Str)):Prop where
 ns:(a==sysModules)=false
 nd:(tab.map (·.1)).Nodup
 obj:∃ es ep,K.lookup a=some ⟨.type "dict",none,.dict es ep,#[]⟩/\tabVs tab es.toList/\∀ e∈es.toList,∀ k t,e.key= .str k t->e.hash=hashStr w k
end
end
section
section
variable {prog:Program}{w:World}{A:Around}{E:Value->Shared->Prop}{s:Shared}
structure ApT (z TO i1 i2 l:Addr):Prop where
 lz:l≠z
 lTO:l≠TO
 l1:l≠i1
 l2:l≠i2
end
end
section
section
variable {prog:Program}{w:World}{A:Around}{E:Value->Shared->Prop}{s:Shared}
end
section
variable {X:Cx}
end
end
section
section
variable {X:Cx}{a b c e:Expr}{ma mb:ME}{la lb:ML}{pos:Pos}
end
section
variable {K:W.Frag}{F0 H0 F H H':Hp}{σ:St}{ρ:Ro}
end
section
variable {X:Cx}{a b c e3:Expr}{ma mb:ME}{la lb:ML}{pos:Pos}{E:XK}{es:List Expr}{mf:MF}{m:ML}{rb:List Stmt}{mx:MS}{cc:MB}{y:D}
end
end
section
noncomputable abbrev MEm:=Ro->Option (D×Ro)
noncomputable abbrev MLm:=Ro->Option (List D×Ro)
section
variable {X:Cx}{a b c e:Expr}{ma mb:ME}{na nb:MEm}{pos:Pos}{es:List Expr}
variable {st:Stmt}
end
noncomputable abbrev MG:=Addr->List D->List D->Option (Rt×List D)
end
section
section
variable {K:W.Frag}{F0 H0 F H F' H':Hp}{σ:St}{ρ:Ro}
end
open Classical in
section
variable {X:Cx}{e:Expr}{pos:Pos}{es:List Expr}{E:XK}{mf:MG}{m:MLm}
end
end
section
section
variable {X:Cx}{a b c e:Expr}{ma mb:ME}{pos:Pos}
end
end
section
section
open PySem.SeqAt
open PySem.AutoSeq1 (wpAny_loadPart')
open PySem.MeetsSeq PySem.MeetsSeq2 PySem.MeetsSeq3
end
section
variable {X:Cx}{pins:List (Addr×Obj)}{σ:St}{H:Hp}{s:Shared}
end
end
section
section
variable {X:Cx}{pins:List (Addr×Obj)}{σ:St}
end
end
section
section
variable {X:Cx}{pins:List (Addr×Obj)}{σ:St}
end
end
section
section
variable {prog:Program}{w:World}{A:Around}{E:Value->Shared->Prop}{s:Shared}
end
section
variable {X:Cx}
end
end
section
section
variable {X:Cx}{a b:Expr}{pos:Pos}
end
end
section
section
variable {X:Cx}{e:Expr}{pos:Pos}{es:List Expr}{E:XK}{mf:MG}{st:Stmt}{na:MEm}
end
section
variable {X:Cx}{a b:Expr}{pos:Pos}
end
end
section
section
variable {X:Cx}{pins:List (Addr×Obj)}{σ:St}
end
end
section
section
variable {X:Cx}{pins:List (Addr×Obj)}{σ:St}
end
end
section
section
variable {X:Cx}{pins:List (Addr×Obj)}{σ:St}
end
section
variable {X:Cx}
end
end
section
section
variable {X:Cx}{pins:List (Addr×Obj)}{σ:St}
end
end
end L2
namespace L2
open List
open PySem PySem.Spec PyProof.Rows PySem.Builtin PySem.Builtin.Str
section
section
variable {X:Cx}{a b c e o:Expr}{ma mb mo:ME}{pos:Pos}
end
end
section
section
variable {X:Cx}{a b c e o:Expr}{ma mb mo:ME}{pos:Pos}
end
end
end L2
namespace L2
open List
open PySem PySem.Spec PyProof.Rows
section
section
variable {X:Cx}{a b c e o:Expr}{ma mb mo:ME}{pos:Pos}{st:Stmt}
end
end
section
section
variable {prog:Program}{w:World}{A:Around}{E:Value->Shared->Prop}{s:Shared}{l:Addr}{xs:Array (Int×Tok)}
end
section
variable {X:Cx}{a b c e o:Expr}{ma mb mo:ME}{pos:Pos}{st:Stmt}
end
section
variable {X:Cx}{a b c e:Expr}{na nb:MEm}{pos:Pos}{st:Stmt}{es:List Expr}{E:XK}{mf:MF}{m:MLm}
noncomputable abbrev MBm:=Ro->Option (Bool×Ro)
end
end
section
section
variable {X:Cx}{a b c e:Expr}{na nb:MEm}{pos:Pos}{st:Stmt}{es:List Expr}{m:MLm}
end
section
variable {X:Cx}{pos:Pos}
end
end
section
section
variable {X:Cx}{e:Expr}{na:MEm}{pos:Pos}{st:Stmt}{es:List Expr}{m:ML}{mf:MG}{E:XK}
open Classical in
end
end
section
section
variable {X:Cx}
end
end
section
section
variable {X:Cx}{e:Expr}{pos:Pos}
@[irreducible] noncomputable def many (m:ML):ME:=fun ρ=>match m ρ with |some ds=>(match intsD ds with |some ns=>some (.bl (ns.any fun i=>i != 0))|none=>none)|none=>none
end
end
section
section
variable {X:Cx}{e:Expr}{ma:ME}{pos:Pos}
end
end
section
section
variable {X:Cx}{e:Expr}{ma:ME}{pos:Pos}
end
end
section
section
variable {prog:Program}{w:World}{A:Around}{E:Value->Shared->Prop}{s:Shared}
end
section
variable {X:Cx}
end
end
section
section
variable {X:Cx}{a:Expr}{na:MEm}{pos:Pos}{ca:MBm}
end
end
section
section
variable {X:Cx}{a b:Expr}{m:ML}{pos:Pos}
end
end
end L2
namespace L2
open List
open PySem PySem.Spec PyProof.Rows PySem.W PySem.Builtin PySem.Builtin.ObjectAttr PySem.Builtin.Getset_descriptor
section
structure XCls (K:W.Frag)(C:Addr):Prop where
 ga:findIn K (.ref C) "__getattribute__"=some (some (.builtin "BaseException.__getattribute__"))
 nog:findIn K (.ref C) "__getattr__"=some none
 cl:findIn K (.ref C) "__class__"=some (some (.builtin "object.__class__"))
 ob:mroIn K C (.type "object")=some true
 be:mroIn K C (.type "BaseException")=some true
section
variable {prog:Program}{w:World}{A:Around}{E:Value->Shared->Prop}{K:W.Frag}{x C:Addr}{ox:Obj}{h:Heap}{g:Array GenState}{d:Drawn}{t:Nat}{os:OsState}
theorem xc_get {tp:Value}{R:Result->Shared->Prop}(X:K.In h)(LT:∀ M:Model,Looks M h (typeOf (.ref x)) (.ref C))(hm:mroIn K C (.type "object")=some true)
  (j:R (.ok (.ret (.ref C))) ⟨h,g,d,t,os⟩):codeAny (model prog w) A (.call (.builtin "getset_descriptor.__get__") ⟨[.builtin "object.__class__",.ref x,tp],[]⟩) R ⟨h,g,d,t,os⟩:=by
 have G:=LT (model prog w)
 have z:=looks_mroIn (M:=model prog w) X hm
 refine codeAny_call_builtin F.slot_gs_get.plain F.entry_gs_get (F.slot_gs_get.check _ _ _ _ _ _ _ _ F.typeOf_object_class (F.args_gs_get _ _ tp) ?_)
 unfold Builtin.«getset_descriptor.__get__» descrGet
 rw[dga_obj]
 refine wpAny_bind (wpAny_pure ?_)
 unfold descrGetter;unfold descrCheckInstance;unfold descrNameAndClass isInstance
 simp only[KF.owner_class]
 repeat lk
 refine And.intro (Code.quiet_builtin _ (by decide +kernel)) (codeAny_builtin F.entry_object_class ?_)
 unfold Builtin.«object.__class__»;unfold shownTypeOf
 repeat lk
 exact j
theorem xc_entry {tk:Tok}{Q:PySem.Fin->Shared->Prop}(Z:XCls K C)(X:K.In h)(LT:∀ M:Model,Looks M h (typeOf (.ref x)) (.ref C))(j:Q (.done (.ret (.ref C))) ⟨h,g,d,t,os⟩):
  wpAny (model prog w) A (Builtin.«object.__getattribute__» ⟨[.ref x,.str "__class__" tk],[]⟩) Q E ⟨h,g,d,t,os⟩:=by
 have L:=LT (model prog w)
 have J:=looks_findIn (M:=model prog w) X Z.cl
 have L2:Looks (model prog w) h (typeOf (.builtin "object.__class__")) (.type "getset_descriptor"):=Looks.of_pure F.typeOf_object_class
 have G:Looks (model prog w) h (typeLookup (.type "getset_descriptor") "__get__") (some (.builtin "getset_descriptor.__get__")):=Looks.of_pure F.slot_gs_get.lookup
 have z:Looks (model prog w) h (typeLookup (.type "getset_descriptor") "__set__") (some (.builtin "getset_descriptor.__set__")):=Looks.of_pure F.slot_gs_set.lookup
 repeat (first|with_reducible refine wpAny_call (xc_get X LT Z.ob ?_)|lk)
 exact j
theorem xc_call {tk:Tok}{R:Result->Shared->Prop}(Z:XCls K C)(X:K.In h)(LT:∀ M:Model,Looks M h (typeOf (.ref x)) (.ref C))(j:R (.ok (.ret (.ref C))) ⟨h,g,d,t,os⟩):
  codeAny (model prog w) A (.call (.builtin "BaseException.__getattribute__") ⟨[.ref x,.str "__class__" tk],[]⟩) R ⟨h,g,d,t,os⟩:=by
 have k1:builtinKind "BaseException.__getattribute__"=some .slot:=by decide +kernel
 have k2:splitId "BaseException.__getattribute__"=some ("BaseException","__getattribute__"):=by decide +kernel
 have k3:=F.args_bexc_ga (.ref x) (.str "__class__" tk)
 have G:=LT (model prog w)
 have z:=looks_mroIn (M:=model prog w) X Z.be
 refine codeAny_call_builtin (by decide +kernel) F.entry_bexc_ga ?_
 simp only[checkBuiltinCall,k1,k2]
 refine wpAny_bind ?_
 unfold isInstance
 refine wpAny_bind (G.at (z.at ?_))
 rw[if_neg (by decide)]
 exact wpAny_of_eq (a:=()) k3 (xc_entry Z X LT j)
theorem xc_class {Q:Option Value->Shared->Prop}(Z:XCls K C)(X:K.In h)(LT:∀ M:Model,Looks M h (typeOf (.ref x)) (.ref C))(j:Q (some (.ref C)) ⟨h,g,d,t+1,os⟩):
  wpAny (model prog w) A (getAttr? (.ref x) "__class__") Q E ⟨h,g,d,t,os⟩:=by
 have L:=LT (model prog w)
 have J:=looks_findIn (M:=model prog w) X Z.ga
 have L2:=looks_findIn (M:=model prog w) X Z.nog
 unfold getAttr? getAttrBy? getAttrBy
 refine wpAny_bind (wpAny_mkText (wpAny_bind (wpAny_attempt (wpAny_holding (wpAny_bind (L.at (wpAny_bind (J.at ?_))))))))
 dsimp only
 rw[if_neg (by intro z;rw[Bool.and_eq_true]at z;exact absurd z.2 (by decide))]
 unfold getAttrByItsOwn hookBefore
 rw[if_pos (by rfl)]
 refine wpAny_bind (L2.at (wpAny_bind (wpAny_attempt (wpAny_holding ?_))))
 unfold callGetattribute
 rw[if_neg (by decide)]
 unfold boundAndCalled
 have G:bindSpecial (.builtin "BaseException.__getattribute__") (.ref x)=pure (.builtin "BaseException.__getattribute__",[.ref x]):=F.attr_ValueError.ga.bind _
 refine wpAny_bind (wpAny_of_eq G (wpAny_call (xc_call Z X LT ?_)))
 exact handed_on rfl (wpAny_pure j)
theorem XAt.looks {a C:Addr}(p:XAt a C h)(M:Model):Looks M h (typeOf (.ref a)) (.ref C):=by
 obtain⟨o,vs,h1,h2,_⟩:=p
 exact h2 ▸ (Looks.ld h1).andThen .now
theorem kitx_exc {a C:Addr}(Z:XCls K C):KitX K (.ref a) (.ref C) (XAt a C) where
 ty:=fun M h _ p=>p.looks M
 it:=fun M h X _=>by
  have q:=Z.ob
  unfold mroIn at q
  cases hc:clsIn K C with
  |none=>rw[hc]at q;cases q
  |some cd=>
   unfold clsIn at hc
   split at hc
   .rename_i c' d' cd' sl' ho
    intro U N O s1 J G
    unfold isType loadHead
    exact wpAny_bind (wpAny_loadPart (J _ _ (X C _ ho)) (wpAny_pure G))
   .cases hc
 ne:=fun h tp dd its n sl X j=>by
  refine Bool.eq_false_iff.mpr fun z=>?_
  have e:C=tp:=Value.ref.inj (beq_iff_eq.mp z)
  subst e
  have q:=Z.ob
  unfold mroIn at q
  cases hc:clsIn K C with
  |none=>rw[hc]at q;cases q
  |some cd=>
   unfold clsIn at hc
   split at hc
   .rename_i c' d' cd' sl' ho
    cases (X _ _ ho).symm.trans j
   .cases hc
 ca:=fun{prog w A E Q s} X p L=>by
  obtain⟨hh,g,d,t,os⟩:=s
  exact xc_class Z X p.looks L
end
end
end L2
namespace L2
open List
open PySem PySem.Spec PyProof.Rows
section
structure Flown (P:Program)(w:World)(outer:List Env)(H:Hp)(s:Shared)(H':Hp)(B h':Heap):Prop where
 un:Un (frs outer) [] H H' s.heap h'
 ok:HOk P w H' h'
 st:B.StaysIn h'
 trk:∀ b o,H' b=some o->∃ ob,B.get? b=some ob
 old:∀ b o,s.heap.get? b=some o->b∉frs outer->∃ ob,B.get? b=some ob
noncomputable def CXx (P:Program)(w:World):CXT:=fun outer H s E ev s'=>∃(e C:Addr)(a0:Value)(H':Hp)(B:Heap),ev= .ref e/\s'.os=s.os/\AllBare s'.gens/\Flown P w outer H s H' B s'.heap/\
 Heap.FlyingW B outer e (.ref C) a0 s'.heap/\E (.ref C) none H'
section
variable {P:Program}{w:World}{outer:List Env}{H H':Hp}{s:Shared}{B h1 h2 base:Heap}
theorem Flown.on (f:Flown P w outer H s H' B h1)(fr:h1.FunFrames base outer)(st:B.StaysIn h2)(Z:h1.UpToSlots h2):Flown P w outer H s H' B h2:=by
 have same:∀ b o,h1.get? b=some o->(∃ ob,B.get? b=some ob)->h2.get? b=some o:=fun b o e N=>by
  obtain⟨ob,O⟩:=N
  have:=f.st b ob O
  rw[e]at this;cases this
  exact st b o O
 have j:∀ b o,b∈frs outer->h1.get? b=some o->∃ sl,h2.get? b=some { o with slots:=sl }:=fun b o G e=>by
  obtain⟨_,o',Y,hd⟩:=fr.mem G
  rw[e]at Y;cases Y
  exact Z b o e hd
 refine⟨⟨fun b o e n G L=>same b o (f.un.keep b o e n G L) (f.old b o e G),fun b o e n G L=>?_,f.un.free,fun b o e L=>?_,f.un.tups,f.un.frzs,f.un.tbls⟩,fun b u e=>?_,st,f.trk,f.old⟩
 .obtain⟨sl,e1⟩:=f.un.slot b o e n G L
  obtain⟨J,U⟩:=j b _ G e1
  exact⟨J,U⟩
 .by_cases G:b∈frs outer
  .obtain⟨o1,e1⟩:=f.un.there b o e L
   obtain⟨J,U⟩:=j b _ G e1
   exact⟨_,U⟩
  .obtain⟨ob,O⟩:=f.old b o e G
   exact⟨ob,st b ob O⟩
 .refine(f.ok b u e).stay (fun c v hc q=>same c v q ?_) (fun _ q=>q) fun _ _ q=>q
  rcases hc with z|z
  .rw[z];exact f.trk b u e
  .exact f.trk c _ z
end
structure Top (X:Cx):Prop where
 stk:X.stack=X.env::X.outer
 frm:X.env.frame=some X.env.locals
 ex:X.ex=[]
section
variable {X:Cx}{pins:List (Addr×Obj)}{σ:St}{H H':Hp}{s:Shared}{B h1:Heap}
theorem Flown.inv {s':Shared}(I:Inv X pins σ H s)(f:Flown X.prog X.w X.stack H s H' B s'.heap)(os:s'.os=s.os)(bare:AllBare s'.gens):Inv X pins σ H' s':=
 I.call' (ch:=[]) os f.un f.ok bare fun b z=>absurd z (by simp)
theorem Flown.out {s':Shared}(T:Top X)(I:Inv X pins σ H s)(f:Flown X.prog X.w X.stack H s H' B s'.heap)(os:s'.os=s.os)(bare:AllBare s'.gens):Flown X.prog X.w X.outer X.H₀ X.s₀ H' B s'.heap:=by
 have L:=f.inv I os bare
 refine⟨by have:=L.base;rw[T.ex]at this;exact this,f.ok,f.st,f.trk,fun b o e G=>?_⟩
 obtain⟨j,J⟩:=I.base.there b o e (by rw[T.ex];simp)
 refine f.old b j J fun z=>?_
 rcases List.mem_cons.mp (I.stkSub b z)with z|z
 .exact absurd (Nat.lt_of_lt_of_le (Heap.lt_size e) I.ok.above) (by rw[z];exact Nat.lt_irrefl _)
 .exact G z
end
theorem ObjOk.there {P:Program}{w:World}{H:Hp}{h:Heap}{a:Addr}{o:HO}(x:ObjOk P w H h a o):∃ ob,h.get? a=some ob:=by
 cases o with
 |lst xs=>obtain⟨_,_,_,_,e⟩:=x;exact⟨_,e⟩
 |tup xs=>obtain⟨_,_,_,⟨_,e,_⟩⟩:=x;exact⟨_,e⟩
 |dK kvs=>obtain⟨_,_,_,_,o,_,_,e,_⟩:=x;exact⟨_,e⟩
 |dT kvs=>obtain⟨_,_,_,_,o,_,_,e,_⟩:=x;exact⟨_,e⟩
 |set S n=>obtain⟨o,_,_,_,e,_⟩:=x;exact⟨_,e⟩
 |ins C dx fs=>obtain⟨_,_,_,e,_⟩:=x;exact⟨_,e⟩
 |own y=>exact x
 |xd fs=>obtain⟨_,⟨_,_,_,e,_⟩,_⟩:=x;exact⟨_,e⟩
 |rng lo hi=>obtain⟨_,_,_,e⟩:=x;exact⟨_,e⟩
 |frz ob u=>exact⟨_,x.1⟩
 |tbl ps=>exact⟨_,show h.get? a=some _ from x⟩
 |met f y=>exact⟨_,show h.get? a=some _ from x⟩
 |ext φ=>exact x.2.1
noncomputable abbrev bmV:List Value:=[.type "ValueError",.type "Exception",.type "BaseException",.type "object"]
theorem xobj {K:W.Frag}{h:Heap}{C:Addr}{z:List Value}{j:String}(X:K.In h)(q:W.excIn K C z j=true):
  ∃ bm N nm qn bs hdct sn sub ab col dd k0 k1 k2 k3 k5 O,h.get? C=some (excClassObj nm qn C N bs bm hdct sn sub ab col dd k0 k1 k2 k3 k5 j)/\h.Ns N O/\O "__init__"=none/\OwnTail h z bm:=by
 unfold W.excIn at q
 split at q
 .rename_i d1 cd sl ho
  split at q
  .rename_i C1 bm k0 k1 k2 k3 n1 k5 hm hs
   simp only[beq_iff_eq,Bool.not_eq_true',Bool.and_eq_true]at q
   obtain⟨⟨⟨⟨⟨Z,Y⟩,L⟩,U⟩,G⟩,J⟩:=q
   subst Z Y
   obtain⟨a1,a2,a3,a4,a5,a6,a7,a8,a9,aa,a0⟩:=cd
   dsimp only at hm L G J
   subst hm L
   obtain⟨l⟩:=sl
   have hl:l=[k0,k1,k2,k3,some (.builtin n1),k5]:=hs
   subst hl
   exact⟨bm,_,_,_,_,_,_,_,_,_,_,k0,k1,k2,k3,k5,_,X _ _ ho,.of_isNs (W.isNs_of_in X G),W.nsMap_none_of_in X G J,W.tail_of_in X U⟩
  .cases q
 .cases q
noncomputable def XC (K:W.Frag)(c:Str)(C:Addr):Prop:=W.nsIn K mainGlobals c=some (some (.ref C))/\xName K C=some c
noncomputable def RXp (X:Cx)(pins:List (Addr×Obj))(W:Str->St->Hp->Prop)(ev:Value)(s3:Shared):Prop:=
 ∃(e C:Addr)(a0:Value)(σ':St)(H1:Hp)(s1:Shared)(H':Hp)(B:Heap)(c:Str),ev= .ref e/\Inv X pins σ' H1 s1/\s3.os=s1.os/\AllBare s3.gens/\Flown X.prog X.w X.stack H1 s1 H' B s3.heap/\
  Heap.FlyingW B X.stack e (.ref C) a0 s3.heap/\XC X.K c C/\W c σ' H'
noncomputable def RX (X:Cx)(pins:List (Addr×Obj))(W:Str->St->Hp->Prop)(ev:Value)(s':Shared):Prop:=
 wpAny (model X.prog X.w) X.A (noteFrame ev X.env) (fun _ s2=>wpAny (model X.prog X.w) X.A (setFlight ev none) (fun _ s3=>RXp X pins W ev s3) noE s2) noE s'
section
variable {X:Cx}{pins:List (Addr×Obj)}{σ:St}{H:Hp}{s:Shared}{W:Str->St->Hp->Prop}
theorem rx_call {E:XK}{N:Value}{s':Shared}(T:Top X)(I:Inv X pins σ H s)(h:CXx X.prog X.w X.stack H s E N s')(Y:∀ v o H',E v o H'->∃ c C,v= .ref C/\XC X.K c C/\W c σ H'):RX X pins W N s':=by
 obtain⟨e,C,a0,H',B,rfl,os,bare,f,L,q⟩:=h
 obtain⟨c,C',z,O,w⟩:=Y _ _ _ q
 cases z
 have fr:X.A.frames=some (X.env::X.outer):=by rw[<-T.stk];exact I.ok.frames
 have J:=L
 rw[T.stk]at L
 refine wpAny_looks_onW fr T.frm L fun h1 hh U=>?_
 have Z:=f.on J.2.2.1 hh.1 U
 refine wpAny_landsW hh fun h2 j G=>?_
 rw[<-T.stk]at j hh
 exact⟨e,C,a0,σ,H,s,H',B,c,rfl,I,os,bare,Z.on hh.2.2.1 j.1 G,j,O,w⟩
theorem rx_made {e C:Addr}{c:Str}{us:List Value}{h1:Heap}(T:Top X)(I:Inv X pins σ H s)(hm:Heap.MadeExcOf s.heap h1 e (.ref C) us)(O:XC X.K c C)(q:W c σ H):RX X pins W (.ref e) { s with heap:=h1 }:=by
 have fr:X.A.frames=some (X.env::X.outer):=by rw[<-T.stk];exact I.ok.frames
 have J:∀ env∈X.stack,∀ a,env.frame=some a->a∈frs X.stack:=fun env G a ha=>List.mem_filterMap.mpr ⟨env,G,ha⟩
 have ff:=PySem.W.funFrames_hide I.stack J
 have j:(PySem.W.hideAll s.heap (frs X.stack)).StaysIn s.heap:=fun b o z=>PySem.W.of_hideAll _ z
 have f0:Flown X.prog X.w X.stack H s H (PySem.W.hideAll s.heap (frs X.stack)) s.heap:=
  ⟨Un.refl,I.hok,j,fun b o z=>(by
   obtain⟨ob,eb⟩:=(I.hok b o z).there
   exact⟨ob,PySem.W.hideAll_get _ eb fun y=>by rw[I.stkFree b y]at z;cases z⟩),fun b o z hb=>⟨o,PySem.W.hideAll_get _ z hb⟩⟩
 obtain⟨t,G,Z,ht⟩:=hm.there
 have L:s.heap.FunFrames (PySem.W.hideAll s.heap (frs X.stack)) (X.env::X.outer):=by rw[<-T.stk];exact ff
 have N:(PySem.W.hideAll s.heap (frs X.stack)).get? e=none:=by
  cases z:(PySem.W.hideAll s.heap (frs X.stack)).get? e with
  |none=>rfl
  |some o=>have:=j e o z;rw[hm.new]at this;cases this
 have key:wpAny (model X.prog X.w) X.A (noteFrame (.ref e) X.env) (fun _ s2=>wpAny (model X.prog X.w) X.A (setFlight (.ref e) none) (fun _ U=>RXp X pins W (.ref e) U) noE s2) noE { s with heap:=h1 }:=by
  unfold noteFrame
  simp only[T.frm]
  refine wpAny_bind (wpAny_field (s:={ s with heap:=h1 }) (x:=Value.none) G rfl (by rfl) ?_)
  rw[if_neg (by decide)]
  refine wpAny_newEntryW (s:={ s with heap:=h1 }) (a0:=.ref t) fr (L.of_keeps fun b o z _=>⟨o,hm.keeps b o z,rfl⟩) T.frm G (fun b o z=>hm.keeps b o (j b o z)) N rfl (by simp) (by rfl) fun h2 hL=>?_
  obtain⟨k1,k2,k3,Y⟩:=hL
  rw[<-T.stk]at k2
  exact⟨e,C,.ref t,σ,H,s,H,_,c,rfl,I,rfl,I.bare,f0.on I.stack k1 ((Heap.UpToSlots.of_keeps hm.keeps).trans Y),⟨k1,N,k2,k3⟩,O,q⟩
 exact key
theorem rx_leaves {E:XK}{G:Value}{s':Shared}(T:Top X)(h:RX X pins (fun c _ H'=>∀ C,XC X.K c C->E (.ref C) none H') G s'):
  wpAny (model X.prog X.w) X.A (leaving X.env G) (fun _ j=>CXx X.prog X.w X.outer X.H₀ X.s₀ E G j) (fun Y j=>CXx X.prog X.w X.outer X.H₀ X.s₀ E Y j) s':=by
 unfold leaving
 refine wpAny_bind (wpAny_mono h (fun _ s2 h2=>wpAny_mono h2 (fun _ Z O=>?_) fun _ _ z=>z.elim) fun _ _ z=>z.elim)
 obtain⟨e,C,a0,J,H1,s1,H',B,c,rfl,I,os,bare,f,U,L,q⟩:=O
 obtain⟨l1,l2,l3,N⟩:=U
 rw[T.stk]at l3
 exact⟨e,C,a0,H',B,rfl,by rw[os];exact I.os,bare,f.out T I os bare,⟨l1,l2,l3.2.2,N⟩,q C L⟩
end
noncomputable abbrev Cx.bear (X:Cx)(pins:List (Addr×Obj))(E:Value->Shared->Prop):Cx:={ X with pn:=X.pn++pins,xe:=E }
section
variable {X:Cx}{pins pins':List (Addr×Obj)}{σ:St}{H:Hp}{s:Shared}{E:Value->Shared->Prop}
theorem Cx.Ok.bear (ok:X.Ok):(X.bear pins E).Ok:=⟨ok.mod,ok.kind,ok.glob,ok.blt,ok.above,ok.inj,ok.has,ok.cab,ok.hd,ok.frames,ok.stk,ok.exf,ok.bs,ok.bsz,ok.noex,ok.exfs,ok.funs,ok.frf⟩
theorem Cx.Ok.unbear (ok:(X.bear pins E).Ok):X.Ok:=⟨ok.mod,ok.kind,ok.glob,ok.blt,ok.above,ok.inj,ok.has,ok.cab,ok.hd,ok.frames,ok.stk,ok.exf,ok.bs,ok.bsz,ok.noex,ok.exfs,ok.funs,ok.frf⟩
theorem Inv.bear (I:Inv X (pins++pins') σ H s):Inv (X.bear pins E) pins' σ H s:=⟨I.ok.bear,I.os,I.bare,I.base,I.loc,I.cell,I.free,I.freeC,fun p hp=>I.pin p (by rw[<-append_assoc];exact hp),I.hok,I.len⟩
theorem Inv.unbear (I:Inv (X.bear pins E) pins' σ H s):Inv X (pins++pins') σ H s:=⟨I.ok.unbear,I.os,I.bare,I.base,I.loc,I.cell,I.free,I.freeC,fun p hp=>I.pin p (by rw[<-append_assoc]at hp;exact hp),I.hok,I.len⟩
theorem Inv.fewer (I:Inv X (pins++pins') σ H s):Inv X pins σ H s:=⟨I.ok,I.os,I.bare,I.base,I.loc,I.cell,I.free,I.freeC,fun p hp=>I.pin p (by rw[<-append_assoc];exact mem_append_left _ hp),I.hok,I.len⟩
theorem SP.unbear {D:Ends}{f:Flow}{s':Shared}(h:SP (X.bear pins E) pins' D f s'):SP X (pins++pins') D f s':=by
 cases f with
 |next=>obtain⟨j,H',I,q⟩:=h;exact⟨j,H',I.unbear,q⟩
 |brk=>obtain⟨j,H',I,q⟩:=h;exact⟨j,H',I.unbear,q⟩
 |cont=>obtain⟨j,H',I,q⟩:=h;exact⟨j,H',I.unbear,q⟩
 |ret u=>obtain⟨v,j,H',I,r,q⟩:=h;exact⟨v,j,H',I.unbear,r,q⟩
variable (nx:X.xe=noE)
include nx
theorem PT.bear {e:Expr}{t:TT}(h:PT X e t):PT (X.bear pins E) e t:=fun pins' s σ H Q I hw=>
 wpAny_mono (h _ s σ H Q I.unbear hw) (fun _ _ ⟨H',j,q⟩=>⟨H',j.bear,q⟩) fun _ _ z=>by rw[nx]at z;exact z.elim
theorem PA.bear {es:List Expr}{t:TA}(h:PA X es t):PA (X.bear pins E) es t:=fun pos pins' s σ H Q I hw=>
 wpAny_mono (h pos _ s σ H Q I.unbear hw) (fun _ _ ⟨v,H',j,r,q⟩=>⟨v,H',j.bear,r,q⟩) fun _ _ z=>by rw[nx]at z;exact z.elim
end
end
section
noncomputable abbrev MXe:=Ro->Option Str
noncomputable abbrev MXs:=Ro->Option (Str×Ro)
noncomputable abbrev WX:=Str->St->Hp->Prop
noncomputable def TXe (K:PySem.W.Frag)(x:MXe)(W:WX):St->Hp->Prop:=fun σ H=>∃ F0 H0 F ρ c,Rl K F0 H0 F H σ ρ/\x ρ=some c/\∀ F' H',Ext F H F' H'->W c σ H'
noncomputable def TXs (K:PySem.W.Frag)(x:MXs)(W:WX):St->Hp->Prop:=fun σ H=>∃ F0 H0 F ρ c ρ',Rl K F0 H0 F H σ ρ/\x ρ=some (c,ρ')/\∀ F' H' σ',Rl K F0 H0 F' H' σ' ρ'->Same F F'->W c σ' H'
noncomputable abbrev Cx.rx (X:Cx)(pins:List (Addr×Obj))(W:WX):Cx:=X.bear pins (RX X pins W)
noncomputable def PEX (X:Cx)(e:Expr)(x:MXe):Prop:=∀ pins W,PE (X.rx pins W) e fun σ H _=>TXe X.K x W σ H
noncomputable def PSX (X:Cx)(st:Stmt)(x:MXs):Prop:=∀ pins W,PS (X.rx pins W) st fun _ σ H=>TXs X.K x W σ H
noncomputable def PSsX (X:Cx)(st:List Stmt)(x:MXs):Prop:=∀ pins W,PSs (X.rx pins W) st fun _ σ H=>TXs X.K x W σ H
noncomputable def xE (x:MXe):MXs:=fun ρ=>(x ρ).map fun c=>(c,ρ)
theorem xE_e {K:PySem.W.Frag}{x:MXe}{W:WX}{σ:St}{H:Hp}(h:TXs K (xE x) W σ H):TXe K x W σ H:=by
 obtain⟨F0,H0,F,ρ,c,ρ',z,e,w⟩:=h
 unfold xE at e
 cases h1:x ρ with
 |none=>rw[h1]at e;cases e
 |some G=>
  rw[h1]at e;cases e
  exact⟨F0,H0,F,ρ,c,z,h1,fun F' H' j=>w F' H' σ (z.go j) j.ff⟩
section
variable {X:Cx}{st:Stmt}{rest:List Stmt}{e c:Expr}{pos:Pos}
noncomputable def xnone:MXs:=fun _=>none
theorem pssx_none:PSsX X rest xnone:=fun _ _ _ _ _ _ _ _ j=>by obtain⟨_,_,_,_,_,_,_,z,_⟩:=j;cases z
theorem pssx_head {x:MXs}(h:PSX X st x):PSsX X (st::rest) x:=fun pins W=>(pss_cons (h pins W) (pssx_none pins W)).imp fun _ _ _ q=>q
theorem pssx_one {x:MXs}(h:PSX X st x):PSsX X [st] x:=fun pins W=>pss_one (h pins W)
noncomputable def xif (c:MB)(x y:MXs):MXs:=fun ρ=>match c ρ with |some true=>x ρ|some false=>y ρ|none=>none
theorem psx_if {ca:MB}{a b:List Stmt}{U O:MXs}(nx:X.xe=noE)(Y:PC' X c ca)(ha:PSsX X a U)(Z:PSsX X b O):PSX X (.If c a b pos) (xif ca U O):=fun pins W=>
 (ps_if (PT.bear nx Y) (ha pins W) (Z pins W)).imp fun D σ H J=>by
  obtain⟨F0,H0,F,ρ,c,ρ',L,e,w⟩:=J
  unfold xif at e
  split at e
  .rename_i h1
   exact⟨F0,H0,F,ρ,_,L,h1,fun F1 H1 G=>iteT ⟨F0,H0,F1,ρ,c,ρ',L.go G,e,fun F' H' j z N=>w F' H' j z (G.ff.trans N)⟩⟩
  .rename_i h1
   exact⟨F0,H0,F,ρ,_,L,h1,fun F1 H1 G=>iteF ⟨F0,H0,F1,ρ,c,ρ',L.go G,e,fun F' H' j z N=>w F' H' j z (G.ff.trans N)⟩⟩
  .cases e
theorem psx_expr {x:MXe}(h:PEX X e x)(j:swapsWith e none pos.line X.env=pure false:=by rfl):PSX X (.Expr e pos) (xE x):=fun pins W=>(ps_expr (h pins W) j).imp fun _ _ _ q=>xE_e q
noncomputable abbrev MFX:=List D->Option Str
noncomputable def spX (K:W.Frag)(n:Nat)(x:MFX):Sp:=fun vs H _ E=>vs.length=n/\∃ F ds c,Same F H/\Reps K F vs ds/\x ds=some c/\∀ C F' H',XC K c C->Ext F H F' H'->E (.ref C) none H'
@[irreducible] noncomputable def xcall (x:MFX)(m:ML):MXe:=fun ρ=>(m ρ).bind x
theorem pex_call {k n:Nat}{f:Addr}{fd:FuncData}{ps:List Str}{N:MFX}{m:ML}{x:Str}{p:Pos}{es:List Expr}(nx:X.xe=noE)(T:Top X)(F:FnOk X.prog X.w X.K X.mg X.base (CXx X.prog X.w) k f fd ps (spX X.K n N))(hr:Room k X.A)(hg:Gl X x)(hm:X.mg x=some (.ref f))
  (hk:PySem.W.keepIn X.K (.ref f)=true) (hb:Binds X.K fd ps []) (hl:(e::es).length=n) (ha:PAs X (e::es) m) (a0:∀ ρ ds,m ρ=some ds->ds.length=(e::es).length)
  (a2:(x==("__debug__":Str))=false:=by decide) (he:starEach (e::es) X.env=(false,eval e X.env)::starEach es X.env:=by rfl) (Z:(backTo pos (starEach es X.env)).any (·.1)=false:=by rfl):
  PEX X (.Call (.Name x p) (e::es) [] pos) (xcall N m):=by
 intro pins W pins' s σ H Q I h
 obtain⟨F0,H0,F1,ρ,c,rl,j,w⟩:=h
 unfold xcall at j
 cases h1:m ρ with
 |none=>rw[h1]at j;cases j
 |some ds=>
  rw[h1]at j
  have j:N ds=some c:=j
  have a3:PA (X.rx pins W) (e::es) (TAs X.K m):=PA.bear nx ha
  refine wpAny_Call_Name_kw (ld_glob I hg hm ?_ a2)
  refine PySem.W.callWith_K (h₀:=X.base) I.ok.mod.kin hk (thn (a3 pos pins' s σ H (fun vs H1=>vs.length=n/\∃ F2,Ext F1 H F2 H1/\Reps X.K F2 vs ds) I ⟨F0,H0,F1,ρ,ds,rl,h1,fun vs F2 H2 O U=>⟨by rw[U.length,a0 ρ ds h1,hl],F2,O,U⟩⟩) fun us s1 ⟨vs,H1,Y,r,hn,F2,O,U⟩=>⟨Y.kIn,?_⟩) he Z
  have G:spX X.K n N vs H1 (fun _ _=>False) (fun v _ H'=>∃ c C,v= .ref C/\XC X.K c C/\W c σ H'):=⟨hn,F2,ds,c,O.fh,U,j,fun C F' H' xc x3=>⟨c,C,rfl,xc,w F' H' (O.trans x3)⟩⟩
  have a1:us.length=ps.length:=by rw[<-r.length];exact F.len _ _ _ _ G
  have L:=hb s1 us Y.kIn (by rw[append_nil];exact a1)
  rw[append_nil]at L
  refine wpAny_call (codeAny_mono (F.run X.A X.stack s1 H1 ⟨us,[]⟩ us vs _ _ hr Y.env0 L r G) fun r' s' J=>?_)
  cases r' with
  |error ev=>exact rx_call (E:=fun v _ H'=>∃ c C,v= .ref C/\XC X.K c C/\W c σ H') T Y.unbear.fewer J fun v o H' z=>z
  |ok fl=>
   cases fl with
   |ret u=>obtain⟨_,_,_,_,_,_,_,z⟩:=J;exact z.elim
   |next=>exact False.elim J
   |brk=>exact False.elim J
   |cont=>exact False.elim J
noncomputable def xraise (c:Str)(m:ML):MXs:=fun ρ=>(m ρ).map fun _=>(c,ρ)
theorem psx_raise {C:Addr}{x:Str}{es:List Expr}{m:ML}{n:Nat}{np cpos:Pos}(nx:X.xe=noE)(T:Top X)(hc:X.calm=true)(hg:Gl X x)(hm:X.mg x=some (.ref C))(xc:XC X.K x C)(q:PySem.W.excIn X.K C bmV "ValueError.__new__"=true)
  (ha:PAs X (e::es) m) (hl:∀ ρ ds,m ρ=some ds->ds.length=n) (hn:n<=sizeLine) (U:(x==("__debug__":Str))=false:=by decide)
  (he:starEach (e::es) X.env=(false,eval e X.env)::starEach es X.env:=by rfl) (G:(backTo cpos (starEach es X.env)).any (·.1)=false:=by rfl):
  PSX X (.Raise (some (.Call (.Name x np) (e::es) [] cpos)) none pos) (xraise x m):=by
 intro pins W pins' s σ H D I h
 obtain⟨F0,H0,F1,ρ,c,ρ',rl,j,w⟩:=h
 unfold xraise at j
 cases h1:m ρ with
 |none=>rw[h1]at j;cases j
 |some ds=>
  rw[h1]at j;cases j
  obtain⟨bm,N,nm,qn,bs,hdct,sn,sub,ab,col,dd,k0,k1,k2,k3,k5,mN,hC,hN,J,TL⟩:=xobj I.mod.kin q
  have Y:PA (X.rx pins W) (e::es) (TAs X.K m):=PA.bear nx ha
  have h2:=Y cpos pins' s σ H (fun vs H1=>vs.length=n/\W x σ H1) I ⟨F0,H0,F1,ρ,ds,rl,h1,fun vs F2 H2 Z r2=>⟨by rw[r2.length];exact hl ρ ds h1,w F2 H2 σ (rl.go Z) Z.ff⟩⟩
  refine wpAny_Raise_call_subT (C:=C) (N:=N) (bm:=bm) (nm:=nm) (q:=qn) (bs:=bs) (sub:=sub) (sn:=sn) (hdct:=hdct) (col:=col) (ab:=ab) (dd:=dd) (k0:=k0) (k1:=k1) (k2:=k2) (k3:=k3) (k5:=k5) PySem.F.excBase_ValueError (TL.hasType PySem.F.excBase_ValueError.hasBase) (I.ok.hd hc) ?_ J (ld_glob I hg hm ⟨rfl,?_⟩ U)
  .rw[he]
   show (false || (backTo cpos (starEach es X.env)).any (·.1))=false
   rw[G];rfl
  .rw[he]at h2 ⊢
   refine Calls.evalArgs_plain (wpAny_mono h2 (fun us s2 ⟨vs,H1,z,r1,O,q1⟩=>⟨rfl,by rw[<-r1.length,O];exact hn,z.bk _ _ hC,hN.keeps z.bk,TL.keeps z.bk,fun h3 a L=>?_⟩) fun _ _ y=>y)
   exact rx_made T z.unbear.fewer L xc q1
noncomputable def runX (n:Nat)(x:MXs):MFX:=fun ds=>(x (startS n ds)).map (·.1)
theorem Fun.okX {P:Program}{w:World}{K:PySem.W.Frag}{mg:Str->Option Value}{base:Heap}{x qual:Str}{st:Stmt}{f:Addr}{fd:FuncData}{N ps:List Str}{k:Nat}{m:MXs}(Fn:Fun K x qual st f fd)(Sc:FnScope N ps (defScope st))
  (j:∀(cdv:Value)(A:Around)(outer:List Env)(s:Shared)(H:Hp)(E:XK),Room k (A.deeper (envOfC qual (defScope st) s.heap.objs.size f cdv))->PSsX (cxOf (CXx P w) P w K mg base N qual (defScope st) f cdv A outer s H E).nox (defBody st) m):
  FnOk P w K mg base (CXx P w) (k+1) f fd ps (spX K ps.length (runX N.length m)):=by
 obtain⟨oc,od,kV,doc,pm,an,cdv,ct,osl,rfl,lk,G⟩:=Fn.ex
 refine fn_of lk G Sc (fun vs H Q E h=>h.1) fun A outer s H vs Q E hr h=>?_
 obtain⟨hl,F,ds,c,U,Y,e,O⟩:=h
 unfold runX at e
 cases h1:m (startS N.length ds)with
 |none=>rw[h1]at e;cases e
 |some o=>
  obtain⟨c',ρ'⟩:=o
  rw[h1]at e;cases e
  have hb:=j cdv A outer s H E hr
  let W:WX:=fun c _ H'=>∀ C,XC K c C->E (.ref C) none H'
  refine⟨fun _ σ H=>TXs K m W σ H,fun pins s1 σ H1 D I q=>?_,F,H,F,startS N.length ds,c',ρ',rl_start U Y,h1,fun F' H' J Z _ C L=>O C F' H' L Z.ext⟩
  have I1:Inv (cxOf (CXx P w) P w K mg base N qual (defScope st) f cdv A outer s H E).nox (pins++[]) σ H1 s1:=by rw[append_nil];exact I.wish _
  refine wpAny_mono (hb pins W [] s1 σ H1 D I1.bear q) (fun fl s' z=>?_) fun ev s' z=>?_
  .have:=z.unbear
   rw[append_nil]at this
   exact this.unwish
  .exact rx_leaves (X:=(cxOf (CXx P w) P w K mg base N qual (defScope st) f cdv A outer s H E).nox) ⟨rfl,rfl,rfl⟩ z
end
end
section
section
variable {X:Cx}{pins:List (Addr×Obj)}{E:Value->Shared->Prop}(nx:X.xe=noE)
include nx
end
section
variable {X:Cx}{e c:Expr}{pos:Pos}{st:Stmt}{rest:List Stmt}
end
end
section
noncomputable abbrev Cx.inX (X:Cx)(a:Addr):Cx:={ X with A:=X.A.mark (some (.ref a)),calm:=false }
section
variable {X:Cx}{pins:List (Addr×Obj)}{σ:St}{H:Hp}{s:Shared}{a C:Addr}
theorem Cx.Ok.inX (ok:X.Ok):(X.inX a).Ok:=⟨ok.mod,ok.kind,ok.glob,ok.blt,ok.above,ok.inj,ok.has,ok.cab,(fun z=>by cases z),ok.frames,ok.stk,ok.exf,ok.bs,ok.bsz,ok.noex,ok.exfs,ok.funs,ok.frf⟩
theorem Inv.inX (I:Inv X pins σ H s):Inv (X.inX a) pins σ H s:=⟨I.ok.inX,I.os,I.bare,I.base,I.loc,I.cell,I.free,I.freeC,I.pin,I.hok,I.len⟩
theorem Inv.outX (ok:X.Ok)(I:Inv (X.inX a) pins σ H s):Inv X pins σ H s:=⟨ok,I.os,I.bare,I.base,I.loc,I.cell,I.free,I.freeC,I.pin,I.hok,I.len⟩
theorem Inv.gone {i:Nat}{n:Str}{h':Heap}{t':Nat}{v:Option Value}{m:Str->Option Value}(I:Inv X pins σ H s)(hN:X.N.Nodup)(hi:X.N[i]? =some n)(hm:s.heap.Ns X.env.locals m)(hn:h'.Ns X.env.locals (fun x=>if x=n then v else m x))(G:Heap.SameBut X.env.locals s.heap h'):
  Inv X pins (σ.set i none) H { s with heap:=h',toks:=t' }:=by
 have old:∀ b o,X.s₀.heap.get? b=some o->b≠X.env.locals:=fun b o e=>Nat.ne_of_lt (Nat.lt_of_lt_of_le (Heap.lt_size e) I.ok.above)
 refine⟨I.ok,I.os,I.bare,⟨fun b o e n hb O=>(G.2 b (old b o e)).trans (I.base.keep b o e n hb O),fun b o e n hb O=>?_,I.base.free,fun b o e O=>?_,I.base.tups,I.base.frzs,I.base.tbls⟩,⟨_,hn,fun j y u L J e3=>?_⟩,fun y c e=>?_,I.free,I.freeC,fun p hp=>?_,fun b ob e=>?_,by rw[length_set];exact I.len⟩
 .obtain⟨sl,L⟩:=I.base.slot b o e n hb O
  exact⟨sl,(G.2 b (old b o e)).trans L⟩
 .obtain⟨o1,L⟩:=I.base.there b o e O
  exact⟨o1,(G.2 b (old b o e)).trans L⟩
 .have hj:j≠i:=fun z=>by
   subst z
   have hl:j<σ.length:=by
    rcases Nat.lt_or_ge j σ.length with z|z
    .exact z
    .rw[getElem?_eq_none (by simpa using z)]at J;cases J
   rw[getElem?_set_self hl]at J;cases J
  rw[getElem?_set_ne (Ne.symm hj)]at J
  obtain⟨m0,a0,a1⟩:=I.loc
  have Z:∀ z,m0 z=m z:=fun z=>by
   obtain⟨oo,es,ep,ho,hd,_,hf⟩:=a0
   obtain⟨a3,a4,a5,U,Y,_,a2⟩:=hm
   rw[ho]at U;cases U
   rw[hd]at Y;cases Y
   rw[<-hf,<-a2]
  obtain⟨w,r,l⟩:=a1 j y u L J e3
  refine⟨w,r,?_⟩
  have hy:y≠n:=fun z=>hj (nodup_ix hN L (z ▸ hi))
  rcases l with⟨k,q⟩|⟨k,c,e,z⟩
  .exact .inl ⟨k,by show (if y=n then v else m y)=some w;rw[if_neg hy,<-Z];exact q⟩
  .exact .inr ⟨k,c,e,z.sameBut G (I.cne y c e)⟩
 .obtain⟨w,z⟩:=I.cell y c e
  exact⟨w,z.sameBut G (I.cne y c e)⟩
 .obtain⟨e,n,ne,nf,d⟩:=I.pin p hp
  exact⟨(G.2 p.1 ne).trans e,n,ne,nf,d⟩
 .refine(I.hok b ob e).stay (fun c u hc q=>(G.2 c ?_).trans q) (fun _ q=>q) fun _ _ q=>q
  rintro rfl
  rcases hc with z|z
  .rw[<-z,I.free]at e;cases e
  .rw[I.free]at z;cases z
theorem Inv.track {o:HO}(I:Inv X pins σ H s)(N:X.s₀.heap.get? a=none)(L:a≠X.env.locals)(J:∀ x c,X.env.cells.lookup x=some c->c≠a)(hp:∀ p∈X.pn++pins,p.1≠a)(hn:H a=none)(new:ObjOk X.prog X.w (upd H a o) s.heap a o):
  Inv X pins σ (upd H a o) s:=by
 have nb:∀ b o,X.s₀.heap.get? b=some o->b≠a:=fun b o e z=>by rw[z,N]at e;cases e
 refine⟨I.ok,I.os,I.bare,⟨I.base.keep,I.base.slot,fun b o e n G=>?_,I.base.there,fun b xs e=>?_,fun b o u e=>?_,fun b ps e=>?_⟩,I.loc,I.cell,?_,fun x c e=>?_,fun p j=>?_,fun b u e=>?_,I.len⟩
 .rw[upd_ne (nb b o e)];exact I.base.free b o e n G
 .have:=I.base.tups b xs e
  rw[upd_ne (ne_of_none this hn)];exact this
 .have:=I.base.frzs b o u e
  rw[upd_ne (ne_of_none this hn)];exact this
 .obtain⟨more,this⟩:=I.base.tbls b ps e
  exact⟨more,by rw[upd_ne (ne_of_none this hn)];exact this⟩
 .rw[upd_ne (Ne.symm L)];exact I.free
 .rw[upd_ne (J x c e)];exact I.freeC x c e
 .obtain⟨e,n,r⟩:=I.pin p j
  exact⟨e,by rw[upd_ne (hp p j)];exact n,r⟩
 .by_cases hb:b=a
  .subst hb;rw[upd_same]at e;cases e;exact new
  .rw[upd_ne hb]at e
   exact(I.hok b u e).stay (fun c v _ q=>q) (fun c q=>by rw[upd_ne (ne_of_none q hn)];exact q) fun c xs q=>by rw[upd_ne (ne_of_none q hn)];exact q
end
theorem Rl.drop {K:W.Frag}{F0 H0 F H:Hp}{σ:St}{ρ:Ro}(r:Rl K F0 H0 F H σ ρ)(i:Nat):Rl K F0 H0 F H (σ.set i none) (ρ.set i none):=by
 have get:∀(j:Nat) x,(ρ.set i none)[j]? =some (some x)->i≠j/\ρ[j]? =some (some x):=fun j x e=>by
  by_cases G:i=j
  .subst G
   have N:i<ρ.length:=by
    rcases Nat.lt_or_ge i ρ.length with z|z
    .exact z
    .rw[getElem?_eq_none (by simpa using z)]at e;cases e
   rw[getElem?_set_self N]at e;cases e
  .rw[getElem?_set_ne G]at e;exact⟨G,e⟩
 have U:∀(j:Nat) x,(σ.set i none)[j]? =some (some x)->σ[j]? =some (some x):=fun j x e=>by
  by_cases G:i=j
  .subst G
   have N:i<σ.length:=by
    rcases Nat.lt_or_ge i σ.length with z|z
    .exact z
    .rw[getElem?_eq_none (by simpa using z)]at e;cases e
   rw[getElem?_set_self N]at e;cases e
  .rw[getElem?_set_ne G]at e;exact e
 refine⟨r.ext,by simp[r.len],fun j d e=>?_,fun j ds e=>?_,fun j k p ds es O L J e3 Y=>r.inj j k p ds es O (get j _ L).2 (get k _ J).2 (U j _ e3) (U k _ Y),fun j p ds e=>?_,fun j k p ds es L J e3=>r.obn j k p ds es (get j _ L).2 (get k _ J).2 (U k _ e3),fun j k p q ds es L J=>r.ob1 j k p q ds es (get j _ L).2 (get k _ J).2⟩
 .obtain⟨n,e⟩:=get j _ e
  rw[getElem?_set_ne n];exact r.sh j d e
 .obtain⟨n,e⟩:=get j _ e
  rw[getElem?_set_ne n];exact r.own j ds e
 .obtain⟨n,e⟩:=get j _ e
  rw[getElem?_set_ne n];exact r.ob j p ds e
@[irreducible] noncomputable def mtry (names:List Str)(mb:MS)(xb:MXs)(i:Nat)(ms:MS):MS:=fun ρ=>match mb ρ with
 |some o=>some o
 |none=>match xb ρ with
  |some (c,ρ1)=>if c∈names then (match ms (ρ1.set i (some (.sh (.exc c))))with |some (.nx ρ2)=>some (.nx (ρ2.set i none))|_=>none)else none
  |none=>none
section
variable {X:Cx}{pos np hpos:Pos}
theorem psd_try {body J:List Stmt}{b0:Stmt}{mb ms:MS}{xb:MXs}{names:List Str}{x n:Str}{Wa:Addr}{i:Nat}(nx:X.xe=noE)(T:Top X)(hg:Gl X x)(hm:X.mg x=some (.ref Wa))
  (aj:∀ c∈names,∀ C,XC X.K c C->PySem.W.exmOne X.K (.ref C) (.ref Wa)=some true) (hN:X.N.Nodup) (hi:X.N[i]? =some n) (hl:X.env.scope.names.lookup n=some .local)
  (hb:PSsd X body mb) (hx:PSsX X body xb) (hs:∀ a,PSsd (X.inX a) (b0::J) ms) (ah:(x==("__debug__":Str))=false:=by decide):
  PSd X (.Try body [.ExceptHandler (some (.Name x np)) (some n) (b0::J) hpos] [] [] pos) (mtry names mb xb i ms):=by
 intro pins s σ H D I ⟨F0,H0,F,ρ,o,rl,e,ok⟩
 unfold mtry at e
 refine wpAny_Try_except ?_
 cases h1:mb ρ with
 |some o1=>
  rw[h1]at e;cases e
  refine wpAny_mono (hb pins s σ H D I ⟨F0,H0,F,ρ,o,rl,h1,ok⟩) (fun f s1 h=>?_) fun _ _ z=>by rw[nx]at z;exact z.elim
  cases f with
  |next=>
   obtain⟨G,H1,I1,q⟩:=h
   exact pss_nil pins s1 G H1 D I1 q
  |brk=>exact h
  |cont=>exact h
  |ret u=>exact h
 |none=>
  rw[h1]at e
  cases h2:xb ρ with
  |none=>rw[h2]at e;cases e
  |some cr=>
   obtain⟨c,ρ1⟩:=cr
   rw[h2]at e
   dsimp only at e
   split at e
   .rename_i hc
    cases h3:ms (ρ1.set i (some (.sh (.exc c))))with
    |none=>rw[h3]at e;cases e
    |some o3=>
     rw[h3]at e
     cases o3 with
     |nx ρ2=>
      cases e
      let W:WX:=fun c' Z H'=>c'=c/\∃ F',Rl X.K F0 H0 F' H' Z ρ1/\Same F F'
      have I0:Inv X (pins++[]) σ H s:=by rw[append_nil];exact I
      refine wpAny_mono (hx pins W [] s σ H { nx:=fun _ _=>False,rt:=fun _ _=>False } I0.bear ⟨F0,H0,F,ρ,c,ρ1,rl,h2,fun F' H' Z ac sf=>⟨rfl,F',ac,sf⟩⟩) (fun f s1 h=>?_) fun ev s1 h=>?_
      .cases f with
       |next=>obtain⟨_,_,_,z⟩:=h;exact z.elim
       |brk=>obtain⟨_,_,_,z⟩:=h;exact z.elim
       |cont=>obtain⟨_,_,_,z⟩:=h;exact z.elim
       |ret u=>obtain⟨_,_,_,_,_,z⟩:=h;exact z.elim
      refine wpAny_mono h (fun _ s2 h2=>wpAny_mono h2 (fun _ s3 h3=>?_) fun _ _ z=>z.elim) fun _ _ z=>z.elim
      obtain⟨a,C,a0,G,H1,sa,H',B,c',rfl,U,os,bare,f,fl,xc,rfl,F1,a1,a8⟩:=h3
      have I3:Inv X pins G H' s3:=f.inv U os bare
      have LT:∀ M:Model,PySem.W.Looks M s3.heap (typeOf (.ref a)) (.ref C):=fun M=>by
       obtain⟨ob,e1,e2⟩:=fl.there
       exact e2 ▸ (PySem.W.Looks.ld e1).andThen .now
      refine wpAny_handleBy_cons (codeAny_handlers_test (ld_glob (X:=X.inX a) I3.inX hg hm ((PySem.W.exm_one I3.kIn (LT _) (aj _ hc C xc)).here ?_) ah)) (by intro z;cases z)
      refine codeAny_handlers_suite_as ?_
      refine lands_againW fl fun h4 O a5=>?_
      have f4:=f.on fl.2.2.1 O.1 a5
      have I4:Inv X pins G H' { s3 with heap:=h4 }:=f4.inv U os bare
      obtain⟨oe,vs,he,ag,a2,_⟩:=O.first
      have ad:a∉frs X.stack:=fun z=>by
       obtain⟨_,o',e',ai⟩:=O.2.2.1.mem z
       rw[he]at e';cases e'
       exact ai vs a2
      have j:sa.heap.get? a=none:=by
       cases z:sa.heap.get? a with
       |none=>rfl
       |some o'=>
        obtain⟨ob,eb⟩:=f4.old a o' z ad
        have:=O.2.1
        rw[eb]at this;cases this
      have Ha:H' a=none:=by
       cases z:H' a with
       |none=>rfl
       |some o'=>
        obtain⟨ob,eb⟩:=f4.trk a o' z
        have:=O.2.1
        rw[eb]at this;cases this
      have y0:X.s₀.heap.get? a=none:=by
       cases z:X.s₀.heap.get? a with
       |none=>rfl
       |some o'=>
        obtain⟨o2,e2⟩:=U.base.there a o' z (by rw[T.ex];simp)
        rw[j]at e2;cases e2
      have yL:a≠X.env.locals:=fun z=>by
       obtain⟨m,⟨o',_,_,L,_⟩,_⟩:=U.loc
       rw[<-z,j]at L;cases L
      have yC:∀ y c,X.env.cells.lookup y=some c->c≠a:=fun y c e z=>by
       obtain⟨v,o',L,_⟩:=U.cell y c e
       rw[z,j]at L;cases L
      have yP:∀ p∈X.pn++pins,p.1≠a:=fun p hp z=>by
       have:=(U.pin p hp).1
       rw[z,j]at this;cases this
      have xat:XAt a C h4:=⟨oe,vs,he,ag,a2⟩
      have I5:Inv X pins G (upd H' a (.ext (XAt a C))) { s3 with heap:=h4 }:=I4.track y0 yL yC yP Ha ⟨xat,⟨oe,he⟩,fun g1 g2 z k=>by
       obtain⟨o',a4,z1,z2,z3⟩:=z
       exact⟨o',a4,k o' z1,z2,z3⟩⟩
      have x5:Ext F1 H' (upd F1 a (.ext (XAt a C))) (upd H' a (.ext (XAt a C))):=Ext.laid a1.fh Ha
      have aa:=(a1.go x5).set (i:=i) (v:=.ref a) (d:=.exc c') (.exc xc upd_same)
      refine store_ok (X:=X.inX a) I5.inX hN hi (.inl hl) (v:=.ref a) rfl (fun s5 I6=>?_) (.inr hl)
      let D2:Ends:={ nx:=fun Y H2=>∃ F2,Rl X.K F0 H0 F2 H2 Y ρ2/\Same F F2,rt:=fun _ _=>False }
      refine wpAny_mono (hs a pins s5 _ _ D2 I6 ⟨F0,H0,_,_,_,aa,h3,fun F2 H2 Y ab a7=>⟨F2,ab,(a8.trans x5.ff).trans a7⟩⟩) (fun ak s6 h6=>?_) fun _ _ z=>by rw[show (X.inX a).xe=X.xe from rfl,nx]at z;exact z.elim
      cases ak with
      |next=>
       obtain⟨a3,H6,I7,F6,a9,a6⟩:=h6
       have I8:Inv X pins a3 H6 s6:=I7.outX I.ok
       obtain⟨m,hn,al⟩:=id I8.loc
       refine wpAny_nameGoes_keeps hl hn (by rw[I.ok.kind];rfl) fun h7 v af ae=>?_
       exact⟨_,H6,I8.gone hN hi hn af ae,ok F6 H6 _ (a9.drop i) a6⟩
      |brk=>obtain⟨_,_,_,z⟩:=h6;exact z.elim
      |cont=>obtain⟨_,_,_,z⟩:=h6;exact z.elim
      |ret u=>obtain⟨_,_,_,_,_,z⟩:=h6;exact z.elim
     |_=>cases e
   .cases e
end
end
section
structure RoomN (k:Nat)(A:Around):Prop where
 dp:A.depth+3*k+5<recursionLimit
 un:A.units+16*k+200<cLine
theorem RoomN.mono {j k:Nat}{A:Around}(r:RoomN k A)(h:j<=k):RoomN j A:=⟨by have:=r.dp;omega,by have:=r.un;omega⟩
theorem RoomN.deeper {k:Nat}{A:Around}(r:RoomN (k+1) A)(env:Env):RoomN k (A.deeper env):=
 ⟨by have:=r.dp;show A.depth+1+3*k+5<_;omega,by have:=r.un;show A.units+3+16*k+200<_;omega⟩
theorem Room.mark {k:Nat}{A:Around}(r:Room k A)(v:Option Value):RoomN k (A.mark v):=⟨r.dp,r.un⟩
structure FnOkN (P:Program)(w:World)(K:W.Frag)(mg:Str->Option Value)(base:Heap)(CX:CXT)(k:Nat)(f:Addr)(fd:FuncData)(ps:List Str)(sp:Sp):Prop where
 len:∀ vs H Q E,sp vs H Q E->vs.length=ps.length
 run:∀(A:Around)(outer:List Env)(s:Shared)(H:Hp)(args:Args)(us:List Value)(vs:List V)(Q:VK)(E:XK),RoomN k A->Env0 P w K mg base A outer s H->BindsTo s fd args (ps.zip us)->Vals vs us->sp vs H Q E->
  codeAny (model P w) A (.call (.ref f) args) (CR CX outer P w H s Q E) s
theorem FnOkN.mono {P:Program}{w:World}{K:W.Frag}{mg:Str->Option Value}{base:Heap}{CX:CXT}{j k:Nat}{f:Addr}{fd:FuncData}{ps:List Str}{sp:Sp}(F:FnOkN P w K mg base CX j f fd ps sp)(h:j<=k):FnOkN P w K mg base CX k f fd ps sp:=
 ⟨F.len,fun A outer s H args us vs Q E z=>F.run A outer s H args us vs Q E (z.mono h)⟩
noncomputable abbrev cxOfN (CX:CXT)(P:Program)(w:World)(K:W.Frag)(mg:Str->Option Value)(base:Heap)(N:List Str)(qual:Str)(scope:Scope)(f:Addr)(cd:Value)(A:Around)(outer:List Env)(s:Shared)(H:Hp)(E:XK):Cx:=
 { cxOf CX P w K mg base N qual scope f cd A outer s H E with calm:=false }
theorem inv_startN {CX:CXT}{P:Program}{w:World}{K:W.Frag}{mg:Str->Option Value}{base:Heap}{N ps:List Str}{qual:Str}{scope:Scope}{f:Addr}{cd:Value}{A:Around}{outer:List Env}{s s1:Shared}{H:Hp}{E:XK}{us:List Value}{vs:List V}
  (S:FnScope N ps scope) (j:Env0 P w K mg base A outer s H) (G:vs.length=ps.length) (r:Vals vs us)
  (x:InCallC s s.heap.objs.size (bindL (envOfC qual scope s.heap.objs.size f cd).kindOf (ps.zip us) fun _=>none) (cellsFrom (s.heap.objs.size+1) scope.names []) (bindC (envOfC qual scope s.heap.objs.size f cd).kindOf (ps.zip us) fun _=>none) s1):
  Inv (cxOfN CX P w K mg base N qual scope f cd A outer s H E) [] (start N vs) H s1:=by
 have J:Env0 P w K mg base { A with handled:=none } outer s H:=⟨j.frames,j.mod,j.bs,j.bsz,j.funs,j.frf,j.hok,j.bare⟩
 have I:=inv_start (CX:=CX) (E:=E) (A:={ A with handled:=none }) (qual:=qual) (f:=f) (cd:=cd) S rfl J G r x
 exact⟨⟨I.ok.mod,I.ok.kind,I.ok.glob,I.ok.blt,I.ok.above,I.ok.inj,I.ok.has,I.ok.cab,(fun z=>by cases z),Around.frames_deeper j.frames,I.ok.stk,I.ok.exf,I.ok.bs,I.ok.bsz,I.ok.noex,I.ok.exfs,I.ok.funs,I.ok.frf⟩,I.os,I.bare,I.base,I.loc,I.cell,I.free,I.freeC,I.pin,I.hok,I.len⟩
theorem fn_ofN {CX:CXT}{P:Program}{w:World}{K:W.Frag}{mg:Str->Option Value}{base:Heap}{k:Nat}{f:Addr}{name qual:Str}{params:Arguments}{body:List Stmt}{scope:Scope}{dV kV doc pm cdv ct oc:Value}{an od:Option Addr}
  {osl:Array (Option Value)} {N ps:List Str} {sp:Sp} (lk:K.lookup f=some ⟨oc,od,.func (W.fnOf name qual params body scope dV kV doc pm an cdv ct),osl⟩) (a1:W.codeIn K cdv qual=true) (S:FnScope N ps scope)
  (len:∀ vs H Q E,sp vs H Q E->vs.length=ps.length)
  (G:∀(A:Around)(outer:List Env)(s:Shared)(H:Hp)(vs:List V)(Q:VK)(E:XK),RoomN k (A.deeper (envOfC qual scope s.heap.objs.size f cdv))->sp vs H Q E->
   ∃ t,PSs (cxOfN CX P w K mg base N qual scope f cdv A outer s H E) body t/\t { nx:=fun _ H'=>Q .non H',rt:=Q } (start N vs) H):
  FnOkN P w K mg base CX (k+1) f (W.fnOf name qual params body scope dV kV doc pm an cdv ct) ps sp:=by
 refine⟨len,fun A outer s H args us vs Q E hr Y hb r O=>?_⟩
 have hl:=len _ _ _ _ O
 have KX:K.In s.heap:=Y.mod.kin.keeps fun b o e=>(Y.bs b o e).1
 have a0:s.heap.NoLimit:=Y.mod.nolimit.keeps fun b o e=>(Y.bs b o e).1
 have z:∀ y∈ps.zip us,scope.names.lookup y.1=some .local\/(scope.names.lookup y.1=some .cell/\((cellsFrom (s.heap.objs.size+1) scope.names []).lookup y.1).isSome=true):=fun⟨n,v⟩ hy=>by
  rcases S.par n (of_mem_zip hy).1 with q|q
  .exact .inl q
  .exact .inr ⟨q,W.cellsFrom_some _ _ _ (.inl q)⟩
 refine codeAny_call_function (by have:=hr.dp;omega) (KX _ _ lk) rfl S.co S.gen rfl (W.codeRec_of KX a1) (hb _ _ _ _ ?_)
 refine wpAny_newFunctionEnv_cells S.kind z fun env he s1 x=>?_
 subst he
 refine⟨a0.keeps x.toInCall.keep,codeAny_func ?_⟩
 obtain⟨t,ht,hq⟩:=G A outer s H vs Q E (hr.deeper _) O
 have I:Inv (cxOfN CX P w K mg base N qual scope f cdv A outer s H E) [] (start N vs) H s1:=inv_startN S Y hl r x
 refine wpAny_mono (ht [] s1 (start N vs) H _ I hq) (fun fl s' L=>?_) fun e s' L=>L
 have U:∀{j:St}{H':Hp}{v:V}{u:Value},Inv (cxOfN CX P w K mg base N qual scope f cdv A outer s H E) [] j H' s'->RelV v u->Q v H'->CE outer P w H s Q u s':=
  fun{j H' v u} J Z q=>⟨v,H',J.os,J.bare,J.base,J.hok,Z,q⟩
 cases fl with
 |ret u=>
  obtain⟨v,j,H',J,Z,q⟩:=L
  exact U J Z q
 |next=>
  obtain⟨j,H',J,q⟩:=L
  exact U (v:=V.non) (u:=Value.none) J rfl q
 |brk=>
  obtain⟨_,_,_,q⟩:=L
  exact False.elim q
 |cont=>
  obtain⟨_,_,_,q⟩:=L
  exact False.elim q
theorem Fun.okN {P:Program}{w:World}{K:W.Frag}{mg:Str->Option Value}{base:Heap}{x qual:Str}{st:Stmt}{f:Addr}{fd:FuncData}{N ps:List Str}{k:Nat}{m:MS}(Fn:Fun K x qual st f fd)(Z:FnScope N ps (defScope st))
  (j:∀(cdv:Value)(A:Around)(outer:List Env)(s:Shared)(H:Hp)(E:XK),RoomN k (A.deeper (envOfC qual (defScope st) s.heap.objs.size f cdv))->PSsd (cxOfN CX0 P w K mg base N qual (defScope st) f cdv A outer s H E).nox (defBody st) m):
  FnOkN P w K mg base CX0 (k+1) f fd ps (spR K ps.length (runB N.length m)):=by
 obtain⟨oc,od,kV,doc,pm,an,cdv,ct,osl,rfl,U,z⟩:=Fn.ex
 refine fn_ofN U z Z (fun vs H Q E h=>h.1) fun A outer s H vs Q E Y h=>?_
 obtain⟨hl,F,ds,r,J,L,e,ok⟩:=h
 unfold runB at e
 cases h1:m (startS N.length ds)with
 |none=>rw[h1]at e;cases e
 |some o=>
  rw[h1]at e
  refine⟨_,(j cdv A outer s H E Y).nox,F,H,F,startS N.length ds,o,rl_start J L,h1,?_⟩
  cases o with
  |nx ρ=>cases e;exact fun F' H' G O _=>ok .non F' H' O.ext .non
  |rt d=>cases e;exact ok
  |rf es=>cases e;exact ok
  |rp d es=>cases e;exact ok
  |rg d p r=>cases e
  |rgf d p r=>cases e
  |bk ρ=>cases e
  |ct ρ=>cases e
section
variable {X:Cx}{CX:CXT}{k:Nat}{f:Addr}{fd:FuncData}{ps:List Str}{sp:Sp}{dvs:List V}{ds:List Value}{E:XK}{x:Str}{p pos:Pos}{e:Expr}{es:List Expr}{t:TA}
theorem pe_callN (F:FnOkN X.prog X.w X.K X.mg X.base CX k f fd ps sp)(O:RoomN k X.A)(Z:Gl X x)(hm:X.mg x=some (.ref f))(Y:W.keepIn X.K (.ref f)=true)(hb:Binds X.K fd ps ds)(hd:Vals dvs ds)(N:Passes CX X E)
  (ha:PA X (e::es) t) (J:(x==("__debug__":Str))=false:=by decide) (he:starEach (e::es) X.env=(false,eval e X.env)::starEach es X.env:=by rfl) (G:(backTo pos (starEach es X.env)).any (·.1)=false:=by rfl):
  PE X (.Call (.Name x p) (e::es) [] pos) (tCall sp dvs E t):=by
 intro pins s σ H Q I h
 refine wpAny_Call_Name_kw (ld_glob I Z hm ?_ J)
 refine W.callWith_K (h₀:=X.base) I.ok.mod.kin Y (thn (ha pos pins s σ H _ I h) fun us s1 ⟨vs,H1,z,r,q⟩=>⟨z.kIn,?_⟩) he G
 have L:Vals (vs++dvs) (us++ds):=r.append hd
 have U:(us++ds).length=ps.length:=by rw[<-L.length];exact F.len _ _ _ _ q
 refine wpAny_call (codeAny_mono (F.run X.A X.stack s1 H1 ⟨us,[]⟩ (us++ds) (vs++dvs) Q E O z.env0 (hb s1 us z.kIn U) L q) fun r s' j=>?_)
 cases r with
 |error e=>exact N pins σ H1 s1 e s' z j
 |ok fl=>
  cases fl with
  |ret u=>exact z.after j
  |next=>exact False.elim j
  |brk=>exact False.elim j
  |cont=>exact False.elim j
end
@[irreducible] noncomputable def misX (tab:List (Str×Bool))(m:ME):ME:=fun ρ=>match m ρ with |some (.exc c)=>(tab.lookup c).map .bl|_=>none
section
variable {X:Cx}{a:Expr}{ma:ME}{pos:Pos}
noncomputable def rIsX (K:W.Frag)(cv:Value)(tab:List (Str×Bool))(y:V):List V->Hp->VK->Prop:=fun vs H Q=>∃ b c k,vs=[.ref b,y]/\(∃ C,XC K c C/\H b=some (.ext (XAt b C)))/\tab.lookup c=some k/\Q (.bl k) H
theorem call_isX {cv:Value}{y:V}{tab:List (Str×Bool)}(G:∀ u,RelV y u->u=cv)(N:∀ c k,tab.lookup c=some k->∀ C,XC X.K c C->XCls X.K C/\W.kitOne X.K (.ref C) cv=some k):CallR X (.builtin "isinstance") (rIsX X.K cv tab y):=by
 intro pins s σ H xs us Q I r h
 obtain⟨b,c,k,rfl,⟨C,j,O⟩,e,q⟩:=h
 obtain⟨u,w,rfl,rx,J⟩:=vals2 r
 cases rx
 cases G w J
 obtain⟨z,L⟩:=N c k e C j
 exact W.kia_one (kitx_exc z) I.kIn (I.xat O) L (fun z=>nomatch z) fun tk=>⟨.bl k,H,I.tok _,rfl,q⟩
theorem isX_imp {cv:Value}{y:V}{tab:List (Str×Bool)}{ty:TE}(L:∀ σ H Q,Q y H->ty σ H Q){σ:St}{H:Hp}{Q:VK}(h:TD X.K (misX tab ma) σ H Q):tCB (rIsX X.K cv tab y) (tCons (TD X.K ma) (tCons ty tNil)) σ H Q:=by
 obtain⟨F0,H0,F,ρ,g,G,e,q⟩:=h
 unfold misX at e
 split at e
 .rename_i c h1
  cases h2:tab.lookup c with
  |none=>rw[h2]at e;cases e
  |some k=>
   rw[h2]at e;cases e
   refine⟨F0,H0,F,ρ,_,G,h1,fun v F1 H1 j J=>?_⟩
   cases J with
   |exc z N=>exact L _ _ _ ⟨_,c,k,rfl,⟨_,z,j.fh _ _ N⟩,h2,q _ F1 H1 j (.bl _)⟩
 .cases e
theorem pd_isX {c:Str}{j:Addr}{p p2:Pos}{tab:List (Str×Bool)}(Y:Gl X "isinstance")(hm:X.mg "isinstance"=none)(N:Gl X c)(L:X.mg c=some (.ref j))(ha:PD X a ma)
  (U:∀ c k,tab.lookup c=some k->∀ C,XC X.K c C->XCls X.K C/\W.kitOne X.K (.ref C) (.ref j)=some k) (hd:(c==("__debug__":Str))=false:=by decide)
  (O:starEach (a::[.Name c p2]) X.env=(false,eval a X.env)::starEach [.Name c p2] X.env:=by rfl) (G:starEach [.Name c p2] X.env=(false,eval (.Name c p2) X.env)::starEach [] X.env:=by rfl)
  (J:(backTo pos (starEach [.Name c p2] X.env)).any (·.1)=false:=by rfl):PD X (.Call (.Name "isinstance" p) [a,.Name c p2] [] pos) (misX tab ma):=
 (pe_callB (call_isX (y:=.ref j) (cv:=.ref j) (fun u z=>z) U) Y hm PyProof.Rows.boot_isinstance (pa_cons ha (pa_cons (pe_glob (v:=.ref j) N L rfl hd) pa_nil G) O) (by decide) (by decide) O J).imp fun σ H Q h=>isX_imp (fun _ _ _ z=>z) h
theorem pd_isXB {c:Str}{T:String}{p p2:Pos}{tab:List (Str×Bool)}(Y:Gl X "isinstance")(hm:X.mg "isinstance"=none)(L:Gl X c)(J:X.mg c=none)(O:bootBuiltins c=some (.type T))(ha:PD X a ma)
  (U:∀ c k,tab.lookup c=some k->∀ C,XC X.K c C->XCls X.K C/\W.kitOne X.K (.ref C) (.type T)=some k) (hn:c≠"__name__":=by decide) (hd:(c==("__debug__":Str))=false:=by decide)
  (N:starEach (a::[.Name c p2]) X.env=(false,eval a X.env)::starEach [.Name c p2] X.env:=by rfl) (j:starEach [.Name c p2] X.env=(false,eval (.Name c p2) X.env)::starEach [] X.env:=by rfl)
  (G:(backTo pos (starEach [.Name c p2] X.env)).any (·.1)=false:=by rfl):PD X (.Call (.Name "isinstance" p) [a,.Name c p2] [] pos) (misX tab ma):=
 (pe_callB (call_isX (y:=.ty T) (cv:=.type T) (fun u z=>z) U) Y hm PyProof.Rows.boot_isinstance (pa_cons ha (pa_cons (pe_bltn (v:=.ty T) L J O rfl hn hd) pa_nil j) N) (by decide) (by decide) N G).imp fun σ H Q h=>isX_imp (fun _ _ _ z=>z) h
end
noncomputable def xclsB (K:W.Frag)(C:Addr):Bool:=
 (W.findIn K (.ref C) "__getattribute__"==some (some (.builtin "BaseException.__getattribute__")))&&(W.findIn K (.ref C) "__getattr__"==some none)&&(W.findIn K (.ref C) "__class__"==some (some (.builtin "object.__class__")))&&
  (W.mroIn K C (.type "object")==some true)&&(W.mroIn K C (.type "BaseException")==some true)
theorem xcls_of {K:W.Frag}{C:Addr}(h:xclsB K C=true):XCls K C:=by
 unfold xclsB at h
 simp only[Bool.and_eq_true,beq_iff_eq]at h
 exact⟨h.1.1.1.1,h.1.1.1.2,h.1.1.2,h.1.2,h.2⟩
theorem XC.eq {K:W.Frag}{c:Str}{C x:Addr}(h:XC K c C)(e:W.nsIn K mainGlobals c=some (some (.ref x))):C=x:=by
 have:=h.1.symm.trans e
 cases this;rfl
theorem lookup_all {P:Str->Bool->Prop}:∀{tab:List (Str×Bool)},(∀ p∈tab,P p.1 p.2)->∀ c k,tab.lookup c=some k->P c k:=fun h c k e=>h (c,k) (PySem.mem_of_lookup e)
end
section
section
variable {X:Cx}{a:Expr}{ma:ME}{pos:Pos}
open PySem.SeqAt in
end
end
section
section
variable {X:Cx}{pos:Pos}
end
end
section
section
variable {X:Cx}{v:Expr}{mv:ME}{pos:Pos}
end
theorem us1 {P:List Value->Prop}(h:∀ a,P [a]):∀ us:List Value,us.length=1->P us
 |[a],_=>h a
theorem us2 {P:List Value->Prop}(h:∀ a b,P [a,b]):∀ us:List Value,us.length=2->P us
 |[a,b],_=>h a b
theorem us3 {P:List Value->Prop}(h:∀ a b c,P [a,b,c]):∀ us:List Value,us.length=3->P us
 |[a,b,c],_=>h a b c
theorem us4 {P:List Value->Prop}(h:∀ a b c d,P [a,b,c,d]):∀ us:List Value,us.length=4->P us
 |[a,b,c,d],_=>h a b c d
end
section
noncomputable def insI (a:Int):List Int->List Int
 |[]=>[a]
 |b::r=>if a<=b then a::b::r else b::insI a r
noncomputable def isort:List Int->List Int
 |[]=>[]
 |a::r=>insI a (isort r)
theorem insI_perm (a:Int):∀ r,(insI a r).Perm (a::r)
 |[]=>.refl _
 |b::r=>by
  unfold insI
  split
  .exact .refl _
  .exact((insI_perm a r).cons b).trans (.swap a b r)
theorem isort_perm:∀ ns,(isort ns).Perm ns
 |[]=>.refl _
 |a::r=>(insI_perm a _).trans ((isort_perm r).cons a)
theorem insI_sorted (a:Int):∀ r,r.Pairwise (·<=·)->(insI a r).Pairwise (·<=·)
 |[],_=>pairwise_singleton ..
 |b::r,h=>by
  have h':=List.pairwise_cons.mp h
  unfold insI
  split
  .rename_i hab
   refine List.pairwise_cons.mpr ⟨fun x j=>?_,h⟩
   rcases List.mem_cons.mp j with e|j
   .rw[e];exact hab
   .exact Int.le_trans hab (h'.1 x j)
  .rename_i hab
   refine List.pairwise_cons.mpr ⟨fun x j=>?_,insI_sorted a r h'.2⟩
   rcases List.mem_cons.mp ((insI_perm a r).mem_iff.mp j)with e|j
   .rw[e];omega
   .exact h'.1 x j
theorem isort_sorted:∀ ns,(isort ns).Pairwise (·<=·)
 |[]=>.nil
 |a::r=>insI_sorted a _ (isort_sorted r)
theorem sorted_uniq:∀{a b:List Int},a.Perm b->a.Pairwise (·<=·)->b.Pairwise (·<=·)->a=b
 |[],b,p,_,_=>(List.Perm.nil_eq p)
 |x::a,[],p,_,_=>absurd p.length_eq (by simp)
 |x::a,y::b,p,ha,hb=>by
  have h1:=List.pairwise_cons.mp ha
  have h2:=List.pairwise_cons.mp hb
  have e:x=y:=by
   have m1:x∈y::b:=p.mem_iff.mp mem_cons_self
   have m2:y∈x::a:=p.mem_iff.mpr mem_cons_self
   rcases List.mem_cons.mp m1 with e|m1
   .exact e
   .rcases List.mem_cons.mp m2 with e|m2
    .exact e.symm
    .have:=h2.1 x m1
     have:=h1.1 y m2
     omega
  subst e
  rw[sorted_uniq ((perm_cons x).mp p) h1.2 h2.2]
theorem isort_length (ns:List Int):(isort ns).length=ns.length:=(isort_perm ns).length_eq
theorem ints_vals:∀{ns:List Int}{its:List Value},Vals (ns.map V.int) its->IntsAre its ns
 |[],_,.nil=>.nil
 |n::ns,_,.cons r t=>by
  obtain⟨k,rfl⟩:=r
  exact .cons n k (ints_vals t)
theorem vals_intsA:∀{ns:List Int}{its:List Value},IntsAre its ns->Vals (ns.map V.int) its
 |[],_,.nil=>.nil
 |n::ns,_,.cons _ k t=>.cons ⟨k,rfl⟩ (vals_intsA t)
section
variable {X:Cx}{e:Expr}{pos:Pos}
end
end
section
section
variable {X:Cx}{pins:List (Addr×Obj)}{σ:St}
end
end
section
inductive RPs (K:W.Frag)(F H:Hp):List Addr->List (List D)->Prop
 |nil:RPs K F H [] []
 |cons {q:Addr} {xs:List V} {ds:List D} {qs:List Addr} {dss:List (List D)}:H q=some (.lst xs)->Reps K F xs ds->RPs K F H qs dss->RPs K F H (q::qs) (ds::dss)
section
variable {K:W.Frag}{F H F' H':Hp}
end
structure Pots (K:W.Frag)(H F' H':Hp)(p:Addr)(qs:List Addr)(dss:List (List D)):Prop where
 hp:H p=none
 fp:F' p=none
 at':H' p=some (.lst (qs.map V.ref))
 new:∀ q∈qs,H q=none/\F' q=none
 nd:(p::qs).Nodup
 rep:RPs K F' H' qs dss
section
variable {X:Cx}{a b c e:Expr}{pos:Pos}
end
end
section
section
variable {K:W.Frag}{F0 H0 H0' F H:Hp}{σ:St}{ρ:Ro}
end
section
variable {X:Cx}{a b c e:Expr}{pos:Pos}{st:Stmt}
variable {E:XK}{es:List Expr}{m:ML}
end
end
section
section
variable {K:W.Frag}{F0 H0 F H:Hp}{σ:St}{ρ:Ro}
end
end
section
section
variable {X:Cx}{a b:Expr}{ma mb:ME}{pos:Pos}
end
section
variable {X:Cx}{a b:Expr}
open PySem.SeqAt in
end
end
section
section
variable {X:Cx}{a b c e o:Expr}{ma mb mo:ME}{pos:Pos}{st:Stmt}
end
open Classical in
section
variable {X:Cx}{pos:Pos}
end
end
section
section
variable {X:Cx}{st:Stmt}
end
end
section
inductive Fl where
 |v (d:D)|l (ds:List D)
inductive Cell where
 |ins (c:Str) (ns:List Str) (fs:List Fl)
 |row (fs:List Fl)
 |tb (P:Addr) (mw:Str) (pos:Pos) (q:Str)
noncomputable def CodeAt (c:Addr)(q:Str):Heap->Prop:=fun h=>h.CodeRec (.ref c) q
structure CodeT (K:W.Frag)(cdv:Value)(P:Addr):Prop where
 hd:∃ c,cdv= .ref c/\∀ h:Heap,K.In h->W.CodeHd h c P
 ne:mainGlobals≠P
noncomputable def TabF (K:W.Frag)(mw:Str)(P:Addr):Prop:=∃ f oc od fd sl,W.nsIn K mainGlobals mw=some (some (.ref f))/\K.lookup f=some ⟨oc,od,.func fd,sl⟩/\CodeT K fd.code P
noncomputable abbrev Bx:=List (Addr×Cell)
inductive FlR (K:W.Frag)(F B:Hp):List Addr->List V->List Fl->Prop
 |nil:FlR K F B [] [] []
 |v {fp:List Addr} {x:V} {d:D} {xs:List V} {fs:List Fl}:Rep K F x d->FlR K F B fp xs fs->FlR K F B fp (x::xs) (.v d::fs)
 |l {fp:List Addr} {q:Addr} {ys:List V} {ds:List D} {xs:List V} {fs:List Fl}:B q=some (.lst ys)->Reps K F ys ds->FlR K F B fp xs fs->FlR K F B (q::fp) (.ref q::xs) (.l ds::fs)
inductive CellR (K:W.Frag)(F B:Hp):List Addr->Addr->Cell->Prop
 |ins {fp:List Addr} {p dx C:Addr} {c:Str} {ns:List Str} {xs:List V} {fs:List Fl}:W.nsIn K mainGlobals c=some (some (.ref C))->ns.length=xs.length->B p=some (.ins C dx (ns.zip xs))->B dx=some (.own p)->FlR K F B fp xs fs->
   CellR K F B (p::dx::fp) p (.ins c ns fs)
 |row {fp:List Addr} {p:Addr} {xs:List V} {fs:List Fl}:B p=some (.lst xs)->FlR K F B fp xs fs->CellR K F B (p::fp) p (.row fs)
 |tb {P:Addr} {mw:Str} {pos:Pos} {q:Str} {ps:Array Value}:TabF K mw P->B P=some (.tbl ps)->TriplesOk ps.toList->(codeAmong pos ps.toList=none\/∃ c,codeAmong pos ps.toList=some (.ref c)/\F c=some (.ext (CodeAt c q)))->CellR K F B [P] P (.tb P mw pos q)
inductive BxR (K:W.Frag)(F B:Hp):List Addr->Bx->Prop
 |nil:BxR K F B [] []
 |cons {fp fq:List Addr} {p:Addr} {c:Cell} {β:Bx}:CellR K F B fp p c->BxR K F B fq β->BxR K F B (fp++fq) ((p,c)::β)
section
variable {K:W.Frag}{F F' B B':Hp}
end
structure BxOk (K:W.Frag)(F0 H0 F B:Hp)(fp:List Addr)(β:Bx):Prop where
 out:∀ a,B a≠none->H0 a=none/\F0 a=none
 bx:BxR K F B fp β
 nd:fp.Nodup
 plain:∀ a o u,B a≠some (.frz o u)
section
variable {X:Cx}{a b c e:Expr}{pos:Pos}{st:Stmt}{rest:List Stmt}
end
section
variable {K:W.Frag}{F0 H0 F H B:Hp}{σ:St}{ρ:Ro}{β:Bx}{fp:List Addr}
end
section
variable {X:Cx}{a b c e:Expr}{pos:Pos}
end
end
section
noncomputable abbrev MFW:=List D->Bx->Option (Rt×Bx)
section
variable {K:W.Frag}{F0 H0 F H B:Hp}{σ:St}{ρ:Ro}{β:Bx}{fp:List Addr}
end
section
variable {X:Cx}{a b c e o:Expr}{pos:Pos}{st:Stmt}{rest:List Stmt}{E:XK}{es:List Expr}{mf:MFW}{m:ML}
end
end
section
section
variable {X:Cx}{a b c e o:Expr}{pos apos:Pos}{E:XK}{es:List Expr}{m:ML}{mo:ME}
end
section
variable {K:W.Frag}{F0 H0 F H B:Hp}{σ:St}{ρ:Ro}{β:Bx}{fp:List Addr}
end
end
section
section
variable {K:W.Frag}{F0 H0 F H B:Hp}{σ:St}{ρ:Ro}{β:Bx}{fp:List Addr}
end
section
variable {X:Cx}{value o:Expr}{pos pos':Pos}{f:Str}
end
end
section
section
variable {X:Cx}{value e o:Expr}{pos pos' apos cpos:Pos}{f:Str}{st:Stmt}{rest:List Stmt}
end
end
section
open Classical in
section
variable {X:Cx}{e:Expr}{es:List Expr}{st:Stmt}{rest:List Stmt}{E:XK}{mf:MFW}{m:ML}
end
end
section
section
variable {X:Cx}{a b c e o:Expr}{pos:Pos}{st:Stmt}{rest:List Stmt}{E:XK}{es:List Expr}{mf:MFW}
end
end
section
section
variable {X:Cx}{e o:Expr}{E:XK}
end
end
section
section
variable {X:Cx}{e:Expr}{pos:Pos}
end
end
section
section
variable {K:W.Frag}{F0 H0 F H B:Hp}{σ:St}{ρ:Ro}{β:Bx}{fp:List Addr}
end
noncomputable abbrev MGW:=Addr->List D->List D->Bx->Option (D×List D×Bx)
section
variable {X:Cx}{e:Expr}{pos:Pos}{st:Stmt}{es:List Expr}{E:XK}{mf:MGW}{m:ML}
end
end
section
end
section
section
variable {P:Program}{w:World}{K:W.Frag}{mg:Str->Option Value}{base h:Heap}{nm ql cn:Str}{st:Stmt}{ps:List Str}{sp:Sp}{n:Nat}{C:Addr}
end
section
variable {X:Cx}{n k:Nat}{nm cn:Str}{ps:List Str}{sp:Sp}{e o:Expr}{es:List Expr}{ta:TE}{t:TA}{p pos apos:Pos}{C:Addr}{pl:Sem Bool}
end
section
variable {a b c d e f:ME}(ρ:Ro)(ds:List D)
end
end
section
section
variable {X:Cx}{a b c e:Expr}{pos:Pos}{st:Stmt}
end
end
section
section
variable {X:Cx}{st:Stmt}{sts:List Stmt}
end
end
section
section
variable {X:Cx}{a b c e k:Expr}{te:TE}{ma mb:ME}{la lb:ML}{pos p2:Pos}{st:Stmt}
end
end
section
section
variable {X:Cx}{P:Addr}{pos:Pos}{q:Str}{params:Arguments}{body:Expr}{sc:Scope}
end
end
section
section
variable {X:Cx}{pins:List (Addr×Obj)}{σ:St}{H:Hp}{s:Shared}
end
end
section
section
variable {X:Cx}{pins:List (Addr×Obj)}{σ:St}
end
end
section
open Classical in
section
variable {X:Cx}
end
section
variable {P:Program}{w:World}{K:W.Frag}{mg:Str->Option Value}{base:Heap}{nm:Str}{st:Stmt}{ps:List Str}{sp:Sp}{n:Nat}
end
end
section
end
section
section
variable {K:W.Frag}{F0 H0 F H B:Hp}{σ:St}{ρ:Ro}{β:Bx}{fp:List Addr}
end
section
variable {X:Cx}{a b c e:Expr}{pos:Pos}{st:Stmt}{rest:List Stmt}{E:XK}{es:List Expr}{mf:MFW}{m:ML}
end
end
section
section
variable {X:Cx}{pins:List (Addr×Obj)}{σ:St}
end
section
variable {X:Cx}
end
end
section
section
variable {X:Cx}{pins:List (Addr×Obj)}{σ:St}
end
section
variable {X:Cx}{pos:Pos}
end
end
section
section
variable {X:Cx}{e:Expr}{pos:Pos}{es:List Expr}{m:ML}{mf:MF}{E:XK}
end
section
variable {X:Cx}{pos:Pos}
end
end
section
noncomputable abbrev Up (xs:Array Nat):Prop:=xs.toList.Pairwise (·<·)
theorem Up.lt {xs:Array Nat}(h:Up xs){i j:Nat}(z:i<j)(G:j<xs.size):xs[i]'(by omega)<xs[j]:=by
 have:=List.pairwise_iff_getElem.mp h i j (by simpa using (by omega:i<xs.size)) (by simpa using G) z
 simpa using this
noncomputable def IsBelow (xs:Array Nat)(j b:Nat):Prop:=b<=xs.size/\(∀ i (h:i<xs.size),i<b->xs[i]<j)/\∀ i (h:i<xs.size),b<=i->j<=xs[i]
theorem below_go {xs:Array Nat}(G:Up xs)(j:Nat):∀(fuel lo hi:Nat),lo<=hi->hi<=xs.size->hi-lo<=fuel->(∀ i (h:i<xs.size),i<lo->xs[i]<j)->(∀ i (h:i<xs.size),hi<=i->j<=xs[i])->IsBelow xs j (SetTable.below.go xs j fuel lo hi)
 |0,lo,hi,h1,h2,h3,ha,hb=>by
  have:lo=hi:=by omega
  subst this
  exact⟨h2,ha,hb⟩
 |fuel+1,lo,hi,h1,h2,h3,ha,hb=>by
  unfold SetTable.below.go
  by_cases q:lo<hi
  .rw[if_pos q]
   dsimp only
   have hm:(lo+hi) / 2<xs.size:=by omega
   have e:xs.getD ((lo+hi) / 2) j=xs[(lo+hi) / 2]:=by simp[Array.getD,hm]
   rw[e]
   by_cases z:xs[(lo+hi) / 2]<j
   .rw[if_pos z]
    refine below_go G j fuel _ hi (by omega) h2 (by omega) (fun i h J=>?_) hb
    rcases Nat.lt_or_ge i ((lo+hi) / 2)with y|y
    .exact Nat.lt_trans (G.lt y hm) z
    .have:i=(lo+hi) / 2:=by omega
     subst this;exact z
   .rw[if_neg z]
    refine below_go G j fuel lo _ (by omega) (by omega) (by omega) ha fun i h J=>?_
    rcases Nat.lt_or_ge ((lo+hi) / 2) i with y|y
    .exact Nat.le_trans (by omega) (Nat.le_of_lt (G.lt y h))
    .have:i=(lo+hi) / 2:=by omega
     subst this;omega
  .rw[if_neg q]
   have:lo=hi:=by omega
   subst this
   exact⟨h2,ha,hb⟩
theorem below_is {xs:Array Nat}(G:Up xs)(j:Nat):IsBelow xs j (SetTable.below xs j):=below_go G j xs.size 0 xs.size (Nat.zero_le _) (Nat.le_refl _) (by omega) (fun i h z=>by omega) fun i h z=>by omega
theorem IsBelow.uniq {xs:Array Nat}{j b c:Nat}(h:IsBelow xs j b)(k:IsBelow xs j c):b=c:=by
 rcases Nat.lt_trichotomy b c with z|z|z
 .have h1:=h.2.2 b (by have:=k.1;omega) (Nat.le_refl _)
  have h2:=k.2.1 b (by have:=k.1;omega) z
  omega
 .exact z
 .have h1:=k.2.2 c (by have:=h.1;omega) (Nat.le_refl _)
  have h2:=h.2.1 c (by have:=h.1;omega) z
  omega
theorem below_zero {xs:Array Nat}(j:Up xs):SetTable.below xs 0=0:=(below_is j 0).uniq ⟨Nat.zero_le _,fun i h z=>by omega,fun i h z=>Nat.zero_le _⟩
theorem below_next {xs:Array Nat}(j:Up xs){i:Nat}(hi:i<xs.size):SetTable.below xs (xs[i]+1)=i+1:=(below_is j _).uniq ⟨by omega,fun k h z=>by
 rcases Nat.lt_or_ge k i with y|y
 .have:=j.lt y hi;omega
 .have:k=i:=by omega
  subst this;omega,fun k h z=>by
 have:=j.lt (show i<k by omega) h
 omega⟩
theorem insert_up {xs:Array Nat}(G:Up xs){j:Nat}(hn:xs[SetTable.below xs j]? ≠some j):Up (SetTable.insertAt xs (SetTable.below xs j) j):=by
 have Z:=below_is G j
 generalize SetTable.below xs j=b at*
 unfold Up
 rw[SetTable.toList_insertAt,pairwise_append]
 obtain⟨h1,h2,U⟩:=Z
 refine⟨List.Pairwise.sublist (take_sublist _ _) G,List.pairwise_cons.mpr ⟨fun x O=>?_,List.Pairwise.sublist (drop_sublist _ _) G⟩,fun x O y L=>?_⟩
 .obtain⟨i,hi,rfl⟩:=getElem_of_mem O
  rw[length_drop,Array.length_toList]at hi
  rw[getElem_drop,Array.getElem_toList]
  have:=U (b+i) (by omega) (by omega)
  rcases Nat.lt_or_ge j (xs[b+i]'(by omega))with z|z
  .exact z
  .exfalso
   have e:xs[b+i]'(by omega)=j:=by omega
   have J:b<xs.size:=by omega
   rcases Nat.eq_zero_or_pos i with rfl|Y
   .exact hn (by rw[Array.getElem?_eq_getElem J];exact congrArg some e)
   .have h4:=U b J (Nat.le_refl _)
    have h5:=G.lt (show b<b+i by omega) (by omega)
    omega
 .obtain⟨i,hi,rfl⟩:=getElem_of_mem O
  rw[length_take,Array.length_toList]at hi
  rw[getElem_take,Array.getElem_toList]
  have N:=h2 i (by omega) (by omega)
  rcases List.mem_cons.mp L with rfl|L
  .exact N
  .obtain⟨k,hk,rfl⟩:=getElem_of_mem L
   rw[length_drop,Array.length_toList]at hk
   rw[getElem_drop,Array.getElem_toList]
   exact G.lt (by omega) (by omega)
noncomputable def GT (led:Bool)(t:SetTable):Prop:=t.led=led/\(t.plain=true->Up t.place)
theorem slot_free {t:SetTable}{j:Nat}(h:t.slot j= .empty\/t.slot j= .dummy):t.place[SetTable.below t.place j]? ≠some j:=by
 unfold SetTable.slot at h
 dsimp only at h
 intro z
 rw[z]at h
 simp at h
theorem probe_free {t:SetTable}{f:Nat->Int}{h:Int}:∀(fuel:Nat)(p:SetTable.Probe),(∀ d,p.dummy=some d->t.place[SetTable.below t.place d]? ≠some d)->∀ j d,SetTable.probe.go t f h fuel p=some (.empty j d)->t.place[SetTable.below t.place (d.getD j)]? ≠some (d.getD j)
 |0,p,_,j,d,e=>by cases e
 |fuel+1,p,hd,j,d,e=>by
  unfold SetTable.probe.go at e
  have G:∀ q:SetTable.Probe,(t.advance q).dummy=q.dummy:=fun q=>by
   unfold SetTable.advance
   split <;> rfl
  split at e
  .rename_i hs
   cases e
   cases hq:p.dummy with
   |none=>exact slot_free (.inl hs)
   |some d=>exact hd d hq
  .rename_i hs
   refine probe_free fuel _ (fun d' z=>?_) j d e
   rw[G]at z
   cases z
   exact slot_free (.inr hs)
  .split at e
   .cases e
   .exact probe_free fuel _ (fun d' z=>hd d' (by rw[G]at z;exact z)) j d e
theorem layNew_good {led:Bool}{t:SetTable}(g:GT led t)(es:Array (Int×Value))(h:Int)(x:Value):GT led (layNew t es h x).2.1:=by
 have st:∀(t:SetTable) n,t.led=led->GT led (t.standIn n):=fun t n J=>⟨J,fun z=>by cases z⟩
 unfold layNew
 split
 .rename_i slot wd hf
  dsimp only
  unfold SetTable.orStandIn
  have J:(t.put slot).1.led=led:=g.1
  split
  .refine⟨J,fun hp=>?_⟩
   have L:Up t.place:=g.2 hp
   refine insert_up L ?_
   unfold SetTable.freeSlot at hf
   split at hf
   .rename_i j d hpr
    cases hf
    exact probe_free _ _ (fun d' G=>by unfold SetTable.probeStart at G;cases G) j d hpr
   .cases hf
  .exact st _ _ J
 .exact st _ _ g.1
theorem relayAll_good {led:Bool}{t:SetTable}(g:GT led t)(es:Array (Int×Value))(G:Nat):GT led (relayAll t es G).2.1:=by
 have st:∀ n,GT led (t.standIn n):=fun n=>⟨g.1,fun z=>by cases z⟩
 unfold relayAll
 split
 .rename_i t' order hr
  dsimp only
  split
  .unfold SetTable.relaid SetTable.laid at hr
   cases hc:SetTable.layClean (SetTable.sizeAbove G-1) (es.map (·.1))with
   |none=>rw[hc]at hr;cases hr
   |some owner=>
    rw[hc]at hr
    cases hr
    refine⟨g.1,fun _=>?_⟩
    unfold Up
    dsimp only
    have key:∀(n:Nat)(f:Nat->Option Nat),(((List.range n).filterMap fun j=>(f j).map (j,·)).map (·.1)).Pairwise (·<·):=fun n f=>by
     rw[map_filterMap]
     refine List.Pairwise.filterMap (R:=(·<·)) _ (fun a b N x L y J=>?_) pairwise_lt_range
     cases hfa:f a with
     |none=>rw[hfa]at L;cases L
     |some u=>
      cases hfb:f b with
      |none=>rw[hfb]at J;cases J
      |some v=>
       rw[hfa]at L;rw[hfb]at J
       cases L;cases J
       exact N
    exact key _ _
  .exact st _
 .exact st _
theorem erase_perm {j:Type}(l:List j)(i:Nat)(h:i<l.length):(l[i]::l.eraseIdx i).Perm l:=by
 rw[eraseIdx_eq_take_drop_succ]
 have e:l=l.take i++l[i]::l.drop (i+1):=by rw[getElem_cons_drop,take_append_drop]
 exact(List.perm_middle.symm).trans (by rw[<-e])
theorem pick_go {z:Type}(next:Nat->Nat):∀(fuel k:Nat)(left:List z)(out:Array z),left.length=fuel->(pickOrder.go next fuel k left out).toList.Perm (out.toList++left)
 |0,k,left,out,h=>by
  rw[List.length_eq_zero_iff.mp h,append_nil];exact .refl _
 |fuel+1,k,left,out,h=>by
  unfold pickOrder.go
  have j:next k % left.length<left.length:=Nat.mod_lt _ (by omega)
  rw[getElem?_eq_getElem j]
  dsimp only
  refine(pick_go next fuel (k+1) _ _ (by rw[length_eraseIdx_of_lt j];omega)).trans ?_
  rw[Array.toList_push,append_assoc]
  exact List.Perm.append_left _ (erase_perm left _ j)
theorem pick_perm {j:Type}(next:Nat->Nat)(xs:Array j):(pickOrder next xs).toList.Perm xs.toList:=by
 unfold pickOrder
 exact(pick_go next xs.size 0 xs.toList #[] (by simp)).trans (by simp)
end
section
section
variable {prog:Program}{w:World}{A:Around}{E:Value->Shared->Prop}{s:Shared}
noncomputable abbrev KI (prog:Program)(w:World):=intKind prog w
structure SG (prog:Program)(w:World)(h:Heap)(a:Addr)(S:Int->Bool)(n:Nat)(led:Bool)(o:Obj)(fs:Array (Int×Value))(ep:Nat)(u:SetTable):Prop where
 at_:h.get? a=some o
 ex:o.ExactSet
 dat:o.data= .set fs ep u
 el:ElemsOf (KI prog w) fs.toList
 mem:∀ k,S k=true↔∃ e∈fs.toList,(KI prog w).is k e.2=true
 small:fs.size<scanBound
 fit:u.fits fs.size=true
 many:fs.size=n
 good:GT led u
noncomputable def SetG (prog:Program)(w:World)(h:Heap)(a:Addr)(S:Int->Bool)(n:Nat)(led:Bool):Prop:=∃ o fs ep u,SG prog w h a S n led o fs ep u
theorem SetG.congr {h:Heap}{a:Addr}{S j:Int->Bool}{n n':Nat}{led:Bool}(g:SetG prog w h a S n led)(e:∀ k,S k=j k)(z:n=n'):SetG prog w h a j n' led:=by
 have:S=j:=funext e
 subst this;subst z;exact g
theorem SetG.stay {h h':Heap}{a:Addr}{S:Int->Bool}{n:Nat}{led:Bool}(g:SetG prog w h a S n led)(k:∀ o,h.get? a=some o->h'.get? a=some o):SetG prog w h' a S n led:=by
 obtain⟨o,fs,ep,u,g⟩:=g
 exact⟨o,fs,ep,u,k o g.at_,g.ex,g.dat,g.el,g.mem,g.small,g.fit,g.many,g.good⟩
theorem sg_put {h:Heap}{a:Addr}{o:Obj}{fs j:Array (Int×Value)}{ep:Nat}{u v:SetTable}{z:Int->Bool}{led:Bool}(G:h.get? a=some o)(hex:o.ExactSet)(hd:o.data= .set fs ep u)(el:ElemsOf (KI prog w) j.toList)(mem:∀ k,z k=true↔∃ e∈j.toList,(KI prog w).is k e.2=true)(small:j.size<scanBound)(fit:v.fits j.size=true)(J:GT led v):
  SG prog w (h.update a (Obj.putSet j v)) a z j.size led { o with data:=.set j (ep+1) v } j (ep+1) v:=
 ⟨(SetOf_store (knd:=KI prog w) G hex hd el mem small fit).1,hex,rfl,el,mem,small,fit,rfl,J⟩
theorem tailG {g:Bool->Sem Unit}(z:∀(b:Bool)(s1:Shared)(R:Unit->Shared->Prop),R () s1->wpAny (model prog w) A (g b) R E s1)
  {a:Addr} {o:Obj} {fs j:Array (Int×Value)} {ep:Nat} {u v:SetTable} {O:Int->Bool} {led:Bool} (Z:s.heap.get? a=some o) (hex:o.ExactSet) (hd:o.data= .set fs ep u) (el:ElemsOf (KI prog w) j.toList) (mem:∀ k,O k=true↔∃ e∈j.toList,(KI prog w).is k e.2=true) (small:j.size<scanBound) (fit:v.fits j.size=true) (gt:GT led v)
  {wd:Bool} {R:Option Bool->Shared->Prop} (G:∀ h',Heap.SameBut a s.heap h'->SetG prog w h' a O j.size led->R (some true) { s with heap:=h' }):
  wpAny (model prog w) A (do
   storeSet a j v
   if (!wd&&v.tooFull)=true then do
     g (relayAll v j (SetTable.grown j.size)).2.2
     storeSet a (relayAll v j (SetTable.grown j.size)).1 (relayAll v j (SetTable.grown j.size)).2.1
     pure (some true)
    else pure (some true)) R E s:=by
 have b1:=Heap.SameBut.update s.heap a (Obj.putSet j v)
 have J:=sg_put (prog:=prog) (w:=w) Z hex hd el mem small fit gt
 refine wpAny_bind (wpAny_storeSet_of Z hd ?_ (fits_of_scanBound small))
 split
 .have pp:=relayAll_perm v j (SetTable.grown j.size)
  have L:=relayAll_fits v j (SetTable.grown j.size)
  have pg:=relayAll_good gt j (SetTable.grown j.size)
  revert pp L pg
  generalize relayAll v j (SetTable.grown j.size)=rr
  obtain⟨ks,x,a0⟩:=rr
  intro pp L pg
  have U:ks.size=j.size:=by
   have:=pp.length_eq
   simpa using this
  refine wpAny_bind (z _ _ _ ?_)
  have m2:∀ k,O k=true↔∃ e∈ks.toList,(KI prog w).is k e.2=true:=fun k=>(mem k).trans ⟨fun⟨e,N,q⟩=>⟨e,pp.mem_iff.mpr N,q⟩,fun⟨e,N,q⟩=>⟨e,pp.mem_iff.mp N,q⟩⟩
  have Y:ks.size<scanBound:=U ▸ small
  refine wpAny_bind (wpAny_storeSet_of J.at_ rfl ?_ (fits_of_scanBound Y))
  have g2:=sg_put (prog:=prog) (w:=w) J.at_ J.ex rfl (el.perm pp) m2 Y L pg
  rw[U]at g2
  exact wpAny_pure (G _ (b1.trans (Heap.SameBut.update _ a _)) ⟨_,_,_,_,g2⟩)
 .exact wpAny_pure (G _ b1 ⟨_,_,_,_,J⟩)
theorem addG {a:Addr}{S:Int->Bool}{n:Nat}{led:Bool}{k:Int}{x:Value}{Q:Bool->Shared->Prop}(hk:(KI prog w).is k x=true)(hx:x.scannable=true)(hS:SetG prog w s.heap a S n led)(a1:n+1<scanBound)
  (a0:∀ h',Heap.SameBut a s.heap h'->SetG prog w h' a (fun j=>S j || decide (j=k)) (if S k then n else n+1) led->Q (!S k) { s with heap:=h' }):
  wpAny (model prog w) A (setAddHashed a x ((KI prog w).hash k)) Q E s:=by
 obtain⟨o,fs,ep,u,G⟩:=hS
 have hn:=G.many
 unfold setAddHashed setAddHashedIn
 refine wpAny_holding (wpAny_bind (wpAny_setState_of G.at_ G.dat G.fit ?_))
 dsimp only
 rw[byScan_of hx G.small G.el]
 simp only[↓reduceIte]
 unfold setAddByScan
 refine wpAny_bind ?_
 refine wpAny_bind (wpAny_rule ?_)
 refine wpAny_bind (wpAny_setScan_of hk G.at_ G.dat G.fit G.el ?_)
 cases hr:List.findIdx? (fun e=>(KI prog w).is k e.2) fs.toList with
 |some j=>
  dsimp only
  obtain⟨hj,hp,_⟩:=List.findIdx?_eq_some_iff_getElem.mp hr
  have J:S k=true:=(G.mem k).mpr ⟨_,getElem_mem hj,hp⟩
  have:=a0 s.heap (Heap.SameBut.refl a s.heap) (SetG.congr ⟨o,fs,ep,u,G⟩ (fun i=>by
   by_cases z:i=k
   .subst z;rw[J];simp
   .simp[z]) (by rw[if_pos J]))
  rw[J]at this
  exact wpAny_pure (wpAny_pure this)
 |none=>
  dsimp only
  have J:S k=false:=by
   cases z:S k with
   |false=>rfl
   |true=>
    obtain⟨e,he,hp⟩:=(G.mem k).mp z
    have:=List.findIdx?_eq_none_iff.mp hr e he
    rw[hp]at this;cases this
  have Z:∀(b:Bool){s1:Shared}{R:Unit->Shared->Prop},R () s1->wpAny (model prog w) A (match b with |true=>rule "set.scan.the-table-gave-way"|false=>pure ()) R E s1:=fun b s1 R N=>by
   cases b
   .exact wpAny_pure N
   .exact wpAny_rule N
  have O:=layNew_perm u fs ((KI prog w).hash k) x
  have Y:=layNew_fits u fs ((KI prog w).hash k) x
  have U:=layNew_good G.good fs ((KI prog w).hash k) x
  revert O Y U
  generalize layNew u fs ((KI prog w).hash k) x=ll
  obtain⟨gs,v,wd,a2⟩:=ll
  intro O Y U
  dsimp only at O Y U ⊢
  rw[Array.toList_push]at O
  have el:ElemsOf (KI prog w) gs.toList:=(G.el.push hk hx).perm O
  have mm:=fun j=>mem_push_iff hk G.mem O j
  have zz:gs.size=n+1:=by
   have:=O.length_eq
   simp only[Array.length_toList,length_append,length_cons,length_nil]at this
   omega
  have sm:gs.size<scanBound:=by omega
  refine wpAny_bind (Z _ ?_)
  have L:∀ h',Heap.SameBut a s.heap h'->SetG prog w h' a (fun j=>S j || decide (j=k)) gs.size led->Q true { s with heap:=h' }:=fun h' b g=>by
   have:=a0 h' b
   rw[J]at this
   exact this (g.congr (fun _=>rfl) zz)
  split
  .refine wpAny_bind ?_
   rw[hashByValue_scannable 8 hx]
   refine wpAny_pure ?_
   refine tailG (fun b s1 R N=>by cases b;exact wpAny_pure N;exact wpAny_rule N) G.at_ G.ex G.dat el mm sm ?_ ?_ fun h' b g=>wpAny_pure (L h' b g)
   .split
    .exact Y
    .exact SetTable.fits_plain_off Y
   .split
    .exact U
    .exact⟨U.1,fun z=>by cases z⟩
  .refine wpAny_bind (wpAny_pure ?_)
   simp only[↓reduceIte]
   exact tailG (fun b s1 R N=>by cases b;exact wpAny_pure N;exact wpAny_rule N) G.at_ G.ex G.dat el mm sm Y U fun h' b g=>wpAny_pure (L h' b g)
end
end
section
section
variable {prog:Program}{w:World}{A:Around}{E:Value->Shared->Prop}{s:Shared}
noncomputable def inL (val:Nat->Int)(i:Nat):Int->Bool:=fun j=>(firstMet val i).any (·==j)
section
variable {R:Result->Shared->Prop}{I:Addr}{fp wr:List Addr}{Gn:Array GenState->Array GenState->Prop}{n:Nat}{P:Nat->Value->Prop}{St:Nat->Shared->Prop}
theorem loopG (W:WalksS prog w A.in1 I fp wr Gn n P St)(a:Addr)(N:a∉fp)(G:Nat->Int)(hv:∀ i v,P i v->∃ t,v= .int (G i) t)(small:n+1<scanBound)(led:Bool):
  ∀(r i:Nat)(s:Shared),n-i=r->i<=n->St i s->SetG prog w s.heap a (inL G i) (firstMet G i).length led->
   (∀ s',Moved (a::wr) Gn s s'->SetG prog w s'.heap a (inL G n) (firstMet G n).length led->R (.ok (.ret .none)) s')->
   codeAny (model prog w) A (.builtin "set.update.loop" ⟨[.ref a,.ref I],[]⟩) R s:=by
 have J:a∉wr:=fun z=>N (W.sub _ z)
 have Z:∀ b∈wr,b∈a::wr:=fun b z=>mem_cons_of_mem _ z
 intro r
 induction r with
 |zero=>
  intro i s hr hi st g L
  obtain rfl:i=n:=by omega
  refine codeAny_builtin F.entry_set_update_loop ?_
  rw[Around.under_plainId F.plain_set_update_loop _]
  show wpAny _ A.in1 (pyNext (.ref I) >>= _) _ _ s
  refine wpAny_bind (W.done s _ _ st fun s1 mv=>?_)
  exact wpAny_pure (L s1 (mv.mono Z) (g.stay fun o e=>mv.heap a o J e))
 |succ r ih=>
  intro i s hr hi st g L
  have lt:i<n:=by omega
  refine codeAny_builtin F.entry_set_update_loop ?_
  rw[Around.under_plainId F.plain_set_update_loop _]
  show wpAny _ A.in1 (pyNext (.ref I) >>= _) _ _ s
  refine wpAny_bind (W.item i s _ _ lt st fun v s1 pv O mv=>?_)
  obtain⟨t,rfl⟩:=hv i v pv
  have g1:=g.stay fun o e=>mv.heap a o J e
  show wpAny _ A.in1 (holding [Value.int (G i) t] (setAdd a (.int (G i) t)) >>= _) _ _ s1
  refine wpAny_bind (wpAny_holding ?_)
  unfold setAdd
  refine wpAny_holding ?_
  refine wpAny_bind ((intKind prog w).pyHash (k:=G i) (intKind_is _ _ _ _) ?_)
  refine addG (s:={ s1 with toks:=s1.toks+1 }) (intKind_is _ _ _ _) rfl g1 (by have:=firstMet_length_le G i;omega) fun h2 sb g2=>?_
  have g3:SetG prog w h2 a (inL G (i+1)) (firstMet G (i+1)).length led:=g2.congr (fun j=>by unfold inL;rw[firstMet_succ,step_any]) (by rw[firstMet_succ,step_length];rfl)
  refine wpAny_pure ⟨plainId_quiet F.plain_set_update_loop _,ih (i+1) _ (by omega) lt (W.frame _ s1 _ _ O (Nat.le_succ _) fun b Y o e=>?_) g3 fun s2 U g4=>?_⟩
  .rw[sb.2 b (fun z:b=a=>N (by rw[<-z];exact Y))];exact e
  .refine L s2 (Moved.trans W.gtrans ((mv.mono Z).then_heap (Nat.le_succ _) fun b o Y e=>?_) U) g4
   rw[sb.2 b (fun z:b=a=>Y (by rw[z];exact mem_cons_self))];exact e
end
noncomputable def ledOf (w:World):Bool:=!(w.params.followText "set-order")
noncomputable def setObj0 (w:World):Obj:={ cls:=.type "set",dict:=none,data:=.set #[] 0 (.fresh 0 0 (ledOf w)) }
theorem code_newG (a:Value){Q:Value->Shared->Prop}(h:Q (.ref s.heap.objs.size) { s with heap:=s.heap.push (setObj0 w) }):
  codeAny (model prog w) A (.call (.builtin "set.__new__") ⟨[.type "set",a],[]⟩) (wants Q E) s:=by
 refine codeAny_of_tree ?_
 show wpAny _ A.in1 (do checkBuiltinCall "set.__new__" ⟨[.type "set",a],[]⟩;again (.builtin "set.__new__" ⟨[.type "set",a],[]⟩)) _ _ s
 refine wpAny_bind (wpAny_of_eq (PySem.F.newCall_set_1 a) (wpAny_pure ⟨plainId_quiet PySem.F.plain_set_new _,codeAny_builtin PySem.F.entry_set_new ?_⟩))
 rw[Around.under_plainId PySem.F.plain_set_new _]
 unfold Builtin.«set.__new__» Builtin.Frozenset.newClass
 have j:=PySem.sub_set_self
 obtain⟨hp,g,d,tk,os⟩:=s
 dsimp only
 wp_walk
 refine wpAny_askSetting (wpAny_pure ?_)
 dsimp only
 simp only[newObj]
 refine wpAny_bind (wpAny_alloc (wpAny_pure ?_))
 exact wpAny_pure h
theorem setObj0_G {h:Heap}{a:Addr}(j:h.get? a=some (setObj0 w)):SetG prog w h a (fun _=>false) 0 (ledOf w):=
 ⟨setObj0 w,#[],0,.fresh 0 0 (ledOf w),j,⟨rfl,rfl,rfl⟩,rfl,fun e z=>by simp at z,fun k=>by simp,by decide,by rfl,rfl,rfl,fun _=>List.Pairwise.nil⟩
set_option maxHeartbeats 3200000 in
theorem callSetG {l:Addr}{items:Array Value}{ns:List Int}{Q:Value->Shared->Prop}(hh:A.handled=none)(hl:s.heap.IsList l items)(hi:IntsAre items.toList ns)(small:items.size+1<scanBound)
  (a6:∀(h':Heap)(tk:Nat),SetG prog w h' s.heap.objs.size (inL (fun i=>ns.getD i 0) items.size) (firstMet (fun i=>ns.getD i 0) items.size).length (ledOf w)->
   (∀ b o,b<s.heap.objs.size->s.heap.get? b=some o->h'.get? b=some o)->Q (.ref s.heap.objs.size) { s with heap:=h',toks:=tk }):
  wpAny (model prog w) A (call (.type "set") [.ref l]) Q E s:=by
 obtain⟨c,tl,ab⟩:=PySem.F.called_set.mro
 have a1:=PySem.F.called_set.made
 have a8:=PySem.F.called_set.sub
 refine wpAny_call (codeAny_of_tree ?_)
 show wpAny _ _ (callAny (.type "set") _) _ _ _
 refine wpAny_pure ⟨Code.quiet_builtin _ (by decide +kernel),codeAny_builtin PySem.F.entry_type_call ?_⟩
 rw[Around.under_plain (weight_type_call_type "set" [.ref l] []) rfl]
 have h1:=PySem.F.called_set.notType
 have h2:=PySem.F.called_set.canCreate
 have ae:=PySem.F.typeCall_set_1 (.ref l)
 repeat (any_goals (first|assumption|wp_step))
 refine codeAny_mono (code_newG (.ref l) (E:=E) (Q:=fun obj s1=>obj= .ref s.heap.objs.size/\s1={ s with heap:=s.heap.push (setObj0 w) }) ⟨rfl,rfl⟩) fun r s1 hr=>?_
 cases r with
 |error e=>exact hr
 |ok fl=>
  cases fl with
  |ret obj=>
   obtain⟨rfl,rfl⟩:=hr
   have hS:(s.heap.push (setObj0 w)).get? s.heap.objs.size=some (setObj0 w):=Heap.get?_push_size _ rfl
   have hT:Shared.TypeIs { s with heap:=s.heap.push (setObj0 w) } (.ref s.heap.objs.size) "set":=⟨_,hS,rfl⟩
   have ad:=PySem.F.called_set.init.lookup
   have af:=PySem.F.called_set.init.bind (.ref s.heap.objs.size)
   repeat (any_goals (first|assumption|wp_step))
   refine codeAny_mono (codeAny_call_builtin (R:=wants (fun r s2=>r= .none/\∃ h' tk,s2={ s with heap:=h',toks:=tk }/\SetG prog w h' s.heap.objs.size (inL (fun i=>ns.getD i 0) items.size) (firstMet (fun i=>ns.getD i 0) items.size).length (ledOf w)/\
     (∀ b o,b<s.heap.objs.size->s.heap.get? b=some o->h'.get? b=some o)) E) PySem.F.called_set.init.plain PySem.F.entry_set_init (PySem.check_set_init_1 hT ?_)) fun r2 s2 J=>?_
   .obtain⟨ol,hol,hcl,nl,hdl⟩:=hl
    obtain⟨a7,G,a0,j⟩:=ol
    simp only at hcl hdl
    subst hcl;subst hdl
    have L:(s.heap.push (setObj0 w)).get? l=some { cls:=.type "list",dict:=G,data:=.seq items nl,slots:=j }:=Heap.get?_push_of_some _ hol
    have a9:=PySem.F.sub_list_set
    have aa:=PySem.F.sub_list_frozenset
    have ac:(Value.type "list"==Value.type "dict")=false:=by decide
    have U:(s.heap.push (setObj0 w)).IsList l items:=⟨_,L,rfl,nl,rfl⟩
    unfold Builtin.«set.__init__» noKeywords Builtin.Frozenset.updateFrom
    generalize a4:pyIter=PI
    wp_walk
    subst a4
    refine wpAny_pyIter_list U ?_
    refine wpAny_bind (wpAny_runValue ?_)
    have O:l<s.heap.objs.size:=Heap.lt_size hol
    have a2:A.in1.in1.in1.handled=none:=by simp[hh]
    have z:(s.heap.push (setObj0 w)).objs.size=s.heap.objs.size+1:=by rw[Heap.size_push]
    have N:l≠(s.heap.push (setObj0 w)).objs.size:=by rw[z];exact Nat.ne_of_lt (Nat.lt_succ_of_lt O)
    have a3:s.heap.objs.size∉[(s.heap.push (setObj0 w)).objs.size,l]:=by
     simp only[mem_cons,not_mem_nil,or_false,not_or]
     exact⟨by rw[z];exact Nat.ne_of_lt (Nat.lt_succ_self _),Nat.ne_of_gt O⟩
    refine loopG ((Walks.list a2 _ l N items).toS) s.heap.objs.size a3 (fun i=>ns.getD i 0) (fun i v hv=>IntsAre.int_at hi i v (by rw[Array.getElem?_toList];exact hv)) small (ledOf w) (items.size-0) 0 _ (by omega) (Nat.zero_le _) ⟨⟨_,Heap.get?_push_size _ rfl,rfl,rfl⟩,(U.push _)⟩ ?g0 ?gR
    case g0=>exact(setObj0_G (Heap.get?_push_of_some _ hS)).congr (fun _=>rfl) rfl
    case gR=>
     intro s' mv g
     obtain⟨h',g',d',Y,Z⟩:=s'
     have eg:g'=s.gens:=mv.gens
     have ed:d'=s.drawn:=mv.drawn
     have eo:Z=s.os:=mv.os
     subst eg;subst ed;subst eo
     show wpAny _ _ _ _ _ _
     refine wpAny_pure ?_
     show wpAny _ _ (ret Value.none) _ _ _
     refine wpAny_pure ⟨rfl,h',Y,rfl,g,fun b o hb e=>?_⟩
     exact mv.heap b o (by simp only[mem_cons,not_mem_nil,or_false,not_or];exact⟨Nat.ne_of_lt hb,by rw[Heap.size_push];exact Nat.ne_of_lt (Nat.lt_succ_of_lt hb)⟩) (Heap.get?_push_of_some _ (Heap.get?_push_of_some _ e))
   .cases r2 with
    |error e=>exact J
    |ok a5=>
     cases a5 with
     |ret r=>
      obtain⟨rfl,h',tk,rfl,g,kk⟩:=J
      repeat (any_goals (first|assumption|wp_step))
      exact a6 _ _ g kk
     |_=>exact J.elim
  |_=>exact hr.elim
end
end
section
theorem slot_si_next:Slot "set_iterator" "__next__" "set_iterator.__next__":=
 .of (owner:="set_iterator") (n:="__next__") (by rw[typeLookup_type,builtinLookup_eq_fast];kernel_rfl) (by decide +kernel) (by decide +kernel) (by decide +kernel)
  (by first|exact .inl (by decide +kernel)|exact .inr (by decide +kernel)) (by rw[isSubtype_type];kernel_rfl)
theorem entry_si_next:entryFor table "set_iterator.__next__"=some Builtin.«set_iterator.__next__»:=entryFor_of_tree (by kernel_rfl)
theorem args_si_next (a:Value):argsOk "set_iterator.__next__" ⟨[a],[]⟩:=by unfold argsOk;kernel_rfl
theorem entry_set_iter:entryFor table "set.__iter__"=some Builtin.«frozenset.__iter__»:=entryFor_alias (id':="frozenset.__iter__") (by kernel_rfl) rfl (by decide +kernel) (by kernel_rfl)
section
variable {prog:Program}{w:World}{A:Around}{E:Value->Shared->Prop}{s:Shared}
noncomputable def IsSI (h:Heap)(it:Addr)(first:Value)(i:Nat)(a:Addr)(n ep:Nat):Prop:=∃ o,h.get? it=some o/\o.cls= .type "set_iterator"/\o.data= .fields #[first,.int i 0,.ref a,.int n 0,.int ep 0]
theorem IsSI.typeIs {it:Addr}{first:Value}{i:Nat}{a:Addr}{n ep:Nat}(x:IsSI s.heap it first i a n ep):s.TypeIs (.ref it) "set_iterator":=let ⟨o,j,z,_⟩:=x;⟨o,j,z⟩
theorem next_int {it a:Addr}{slot:Int}{N i n ep nx:Nat}{x:Value}{S:Int->Bool}{led:Bool}{o:Obj}{fs:Array (Int×Value)}{u:SetTable}{Q:Option Value->Shared->Prop}(j:IsSI s.heap it (.int slot N) i a n ep)(G:SG prog w s.heap a S n led o fs ep u)
  (hn:∀(A:Around)(Q:Option (Value×Nat)->Shared->Prop)(E:Value->Shared->Prop),Q (some (x,nx)) s->wpAny (model prog w) A (setNext a slot.toNat i ep) Q E s)
  (U:∀ h',IsSI h' it (.int nx 0) (i+1) a n ep->Heap.SameBut it s.heap h'->Q (some x) { s with heap:=h' }):
  wpAny (model prog w) A (pyNext (.ref it)) Q E s:=by
 obtain⟨Y,z,O,hd⟩:=id j
 unfold pyNext
 refine wpAny_bind (wpAny_attempt (wpAny_callSpecial?_slot (name:=Str.ofString "__next__") j.typeIs slot_si_next
  (wpAny_call_entry slot_si_next j.typeIs entry_si_next ?_ (args_si_next _))))
 show wpAny _ _ (fieldsOf (.ref it) >>= _) _ _ s
 refine wpAny_bind (wpAny_fieldsOf z hd ?_)
 show wpAny _ _ (setEntries a >>= _) _ _ s
 refine wpAny_bind (wpAny_setEntries_of G.at_ G.dat G.fit ?_)
 rw[if_neg (by rw[G.many];simp)]
 dsimp only
 refine wpAny_bind ?_
 show wpAny _ _ (setNext a slot.toNat (i:Int).toNat (ep:Int).toNat) _ _ s
 rw[Int.toNat_natCast,Int.toNat_natCast]
 refine hn _ _ _ ?_
 dsimp only
 refine wpAny_bind (wpAny_setField z hd (by simp) ?_)
 have L:=Heap.get?_update_self (Obj.mapFields (·.setIfInBounds 0 (rawInt nx))) z (Obj.isFreed_of_fields (Obj.data_mapFields hd _))
 have J:=Obj.data_mapFields hd (·.setIfInBounds 0 (rawInt nx))
 refine wpAny_bind (wpAny_setField L J (by simp) (wpAny_pure ⟨x,rfl,wpAny_pure (U _ ?_ ((Heap.SameBut.update ..).trans (Heap.SameBut.update ..)))⟩))
 refine⟨_,Heap.get?_update_self _ L (Obj.isFreed_of_fields (Obj.data_mapFields J _)),(Obj.cls_mapFields ..).trans ((Obj.cls_mapFields ..).trans O),?_⟩
 rw[Obj.data_mapFields J]
 simp[rawInt]
theorem next_intE {it a:Addr}{slot:Int}{J i n ep:Nat}{S:Int->Bool}{led:Bool}{o:Obj}{fs:Array (Int×Value)}{u:SetTable}{Q:Option Value->Shared->Prop}(hh:A.handled=none)(j:IsSI s.heap it (.int slot J) i a n ep)(G:SG prog w s.heap a S n led o fs ep u)
  (hn:∀(A:Around)(Q:Option (Value×Nat)->Shared->Prop)(E:Value->Shared->Prop),Q none s->wpAny (model prog w) A (setNext a slot.toNat i ep) Q E s)
  (L:∀ h',Heap.ExtBut it s.heap h'->Q none { s with heap:=h' }):
  wpAny (model prog w) A (pyNext (.ref it)) Q E s:=by
 obtain⟨N,z,O,hd⟩:=id j
 unfold pyNext
 refine wpAny_bind (wpAny_attempt (wpAny_callSpecial?_slot (name:=Str.ofString "__next__") j.typeIs slot_si_next
  (wpAny_call_entry slot_si_next j.typeIs entry_si_next ?_ (args_si_next _))))
 show wpAny _ _ (fieldsOf (.ref it) >>= _) _ _ s
 refine wpAny_bind (wpAny_fieldsOf z hd ?_)
 show wpAny _ _ (setEntries a >>= _) _ _ s
 refine wpAny_bind (wpAny_setEntries_of G.at_ G.dat G.fit ?_)
 rw[if_neg (by rw[G.many];simp)]
 dsimp only
 refine wpAny_bind ?_
 show wpAny _ _ (setNext a slot.toNat (i:Int).toNat (ep:Int).toNat) _ _ s
 rw[Int.toNat_natCast,Int.toNat_natCast]
 refine hn _ _ _ ?_
 dsimp only
 refine wpAny_bind (wpAny_setField z hd (by simp) ?_)
 show wpAny _ _ (newExc (.type "StopIteration") [] >>= _) _ _ _
 refine wpAny_bind ?_
 simp only[newExc,newTuple]
 refine wpAny_bind (wpAny_newObj_type ?_ (by size_fits))
 refine wpAny_bind (m:=firstArgMember _ _) (wpAny_of_eq (a:=Value.none) (by first|rfl| (simp only[firstArgMember];rfl)) ?_)
 refine wpAny_newObj_type ?_ (by size_fits)
 simp only[raiseNew]
 refine wpAny_bind (wpAny_handled ?_)
 first|rw[show A.in1.handled=none from hh]|rw[hh]
 refine wpAny_bind (wpAny_pure (wpAny_throw ?_))
 refine wpAny_bind (wpAny_isInstance (T:="StopIteration") (b:=true) ⟨_,Heap.get?_push_size _ rfl,rfl⟩ isSubtype_stop ?_)
 exact wpAny_pure (L _ (((Heap.SameBut.update ..).extBut.push _).push _))
theorem byText_ev {Q:Bool->Shared->Prop}(h:Q (w.params.followText "set-order") s):wpAny (model prog w) A setsByText Q E s:=by
 unfold setsByText
 exact wpAny_bind (wpAny_askSetting (wpAny_pure h))
variable {a:Addr}{S:Int->Bool}{n ep:Nat}{led:Bool}{o:Obj}{fs:Array (Int×Value)}{u:SetTable}
theorem setNext_text (G:SG prog w s.heap a S n led o fs ep u)(j:w.params.followText "set-order"=true)(slot i:Nat){Q:Option (Value×Nat)->Shared->Prop}(h:Q (((pickOrder (w.params.setOrder a ep) fs)[i]?).map fun e=>(e.2,slot)) s):wpAny (model prog w) A (setNext a slot i ep) Q E s:=by
 unfold setNext
 refine wpAny_bind (wpAny_setState_of G.at_ G.dat G.fit ?_)
 dsimp only
 refine wpAny_bind (byText_ev ?_)
 rw[j]
 simp only[if_true,bne_self_eq_false,Bool.false_eq_true,if_false]
 refine wpAny_bind ?_
 unfold setWalk
 refine wpAny_bind (wpAny_setState_of G.at_ G.dat G.fit ?_)
 dsimp only
 refine wpAny_bind (byText_ev ?_)
 rw[j]
 simp only[if_true]
 exact wpAny_bind (wpAny_askSetting (wpAny_pure (wpAny_pure h)))
theorem setNext_places (G:SG prog w s.heap a S n led o fs ep u)(z:w.params.followText "set-order"=false)(J:led=true)(hp:(!u.plain&&decide (fs.size>1))=false)(slot i:Nat){Q:Option (Value×Nat)->Shared->Prop}
  (h:Q (match fs[SetTable.below u.place slot]?,u.place[SetTable.below u.place slot]? with |some (_,x),some j=>some (x,j+1)|_,_=>none) s):wpAny (model prog w) A (setNext a slot i ep) Q E s:=by
 unfold setNext
 refine wpAny_bind (wpAny_setState_of G.at_ G.dat G.fit ?_)
 dsimp only
 refine wpAny_bind (byText_ev ?_)
 rw[z]
 simp only[Bool.false_eq_true,if_false]
 show wpAny _ _ (if (!u.plain&&decide (fs.size>1))=true then _ else _) _ _ s
 rw[hp]
 simp only[Bool.false_eq_true,if_false]
 show wpAny _ _ ((if (!u.led&& !fs.isEmpty)=true then unsupported "set:maker-not-led" else pure ()) >>= _) _ _ s
 rw[G.good.1,J]
 simp only[Bool.not_true,Bool.false_and,Bool.false_eq_true,if_false]
 exact wpAny_bind (wpAny_pure (wpAny_pure h))
end
end
section
section
variable {prog:Program}{w:World}{A:Around}{E:Value->Shared->Prop}{s:Shared}
theorem choose_any {src:Source}{n:Nat}(hn:n≠0){Q:Nat->Shared->Prop}(h:∀ v,v<n->Q v { s with drawn:=s.drawn.bump src }):wpAny (model prog w) A (choose src n) Q E s:=fun z p j=>by
 unfold choose
 exact⟨hn,h _ (Nat.mod_lt _ (Nat.pos_of_ne_zero hn))⟩
theorem drawOrder_any {z:Type}:∀(n:Nat)(xs:List z){s:Shared}{Q:List z->Shared->Prop},xs.length=n->(∀ ys d,ys.Perm xs->Q ys { s with drawn:=d })->wpAny (model prog w) A (drawOrder n xs) Q E s
 |0,xs,s,Q,h,q=>by
  rw[List.length_eq_zero_iff.mp h]at q ⊢
  exact wpAny_pure (q [] s.drawn (.refl _))
 |n+1,[],s,Q,h,q=>by cases h
 |n+1,x::xs,s,Q,h,q=>by
  show wpAny _ _ (choose .order (x::xs).length >>= _) _ _ s
  refine wpAny_bind (choose_any (by simp) fun v j=>?_)
  rw[getElem?_eq_getElem j]
  dsimp only
  refine wpAny_bind (drawOrder_any n _ (by rw[length_eraseIdx_of_lt j];omega) fun ys d hp=>?_)
  exact wpAny_pure (q _ d ((hp.cons _).trans (erase_perm (x::xs) v j)))
variable {a:Addr}{S:Int->Bool}{n ep:Nat}{led:Bool}{o:Obj}{fs:Array (Int×Value)}{u:SetTable}
theorem iter_set (G:SG prog w s.heap a S n led o fs ep u){Q:Value->Shared->Prop}
  (h1:(w.params.followText "set-order"=true\/(!u.plain&&decide (fs.size>1))=false)->Q (.ref s.heap.objs.size) { s with heap:=s.heap.push { cls:=.type "set_iterator",data:=.fields #[.int 0 0,.int 0 0,.ref a,.int n 0,.int ep 0] } })
  (h2:∀(ys:List Nat) d,ys.Perm (List.range n)->Q (.ref (s.heap.objs.size+1)) { s with heap:=(s.heap.push (seqObj "tuple" (ys.map fun(i:Nat)=>Value.int i 0).toArray 0)).push { cls:=.type "set_iterator",data:=.fields #[.ref s.heap.objs.size,.int 0 0,.ref a,.int n 0,.int ep 0] },drawn:=d }):
  wpAny (model prog w) A (pyIter (.ref a)) Q E s:=by
 have J:s.TypeIs (.ref a) "set":=⟨o,G.at_,G.ex.1⟩
 refine wpAny_pyIter_slot J PySem.F.slot_set_iter (wpAny_call_entry PySem.F.slot_set_iter J entry_set_iter ?_ (PySem.F.args_set_iter_1 _))
 show wpAny _ _ (Builtin.Frozenset.sizeOf a >>= _) _ _ s
 unfold Builtin.Frozenset.sizeOf
 refine wpAny_bind (wpAny_bind (wpAny_setEntries_of G.at_ G.dat G.fit (wpAny_pure ?_)))
 show wpAny _ _ (setDrawn a >>= _) _ _ s
 unfold setDrawn
 refine wpAny_bind (wpAny_bind (wpAny_setState_of G.at_ G.dat G.fit ?_))
 dsimp only
 refine wpAny_bind (byText_ev (wpAny_pure ?_))
 have j:∀(s1:Shared)(first:Value),s1.heap.get? a=some o->(Q (.ref s1.heap.objs.size) { s1 with heap:=s1.heap.push { cls:=.type "set_iterator",data:=.fields #[first,.int 0 0,.ref a,.int n 0,.int ep 0] } })->
   wpAny (model prog w) A.in1 (do
    let e ← setEpoch a
    let r ← newFields "set_iterator" [first,rawInt 0,.ref a,rawInt fs.size,rawInt e]
    ret r) (fun z s'=>∃ v,z=Fin.done (Flow.ret v)/\∃ L r,s'.TypeIs v L/\typeLookup (Value.type L) (Str.ofString "__next__")=pure (some r)/\Q v s') E s1:=fun s1 first ha q=>by
  refine wpAny_bind (wpAny_setEpoch_of ha G.dat G.fit ?_)
  rw[G.many]
  exact wpAny_bind (wpAny_newObj_type (wpAny_pure ⟨_,rfl,"set_iterator",_,⟨_,Heap.get?_push_size _ rfl,rfl⟩,slot_si_next.lookup,q⟩))
 show wpAny _ _ (if (!w.params.followText "set-order"&&(!u.plain&&decide (fs.size>1)))=true then _ else _) _ _ s
 cases hb:(!w.params.followText "set-order"&&(!u.plain&&decide (fs.size>1)))with
 |true=>
  simp only[if_true]
  refine wpAny_bind (drawOrder_any _ _ (by simp) fun ys d hp=>?_)
  refine wpAny_bind (wpAny_newTuple ?_ (by have:=hp.length_eq;have:=fits_of_scanBound G.small;simp at*;omega))
  refine j _ _ (Heap.get?_push_of_some _ G.at_) ?_
  have:=h2 ys d (by rw[<-G.many];exact hp)
  have e:(s.heap.push (seqObj "tuple" (ys.map fun(i:Nat)=>Value.int i 0).toArray 0)).objs.size=s.heap.objs.size+1:=by rw[Heap.size_push]
  rw[<-e]at this
  exact this
 |false=>
  simp only[Bool.false_eq_true,if_false]
  refine j s (rawInt 0) G.at_ (h1 ?_)
  cases ht:w.params.followText "set-order" with
  |true=>exact .inl rfl
  |false=>rw[ht]at hb;exact .inr hb
end
end
section
section
variable {prog:Program}{w:World}{A:Around}{E:Value->Shared->Prop}{s:Shared}
variable {it a pt:Addr}{i n ep:Nat}{S:Int->Bool}{led:Bool}{o:Obj}{fs:Array (Int×Value)}{u:SetTable}{items:Array Value}
theorem next_drawn {y t:Nat}{e:Int×Value}{Q:Option Value->Shared->Prop}(j:IsSI s.heap it (.ref pt) i a n ep)(G:SG prog w s.heap a S n led o fs ep u)(hp:s.heap.IsTuple pt items)(N:items[i]? =some (.int (y:Int) t))(O:fs[y]? =some e)
  (Y:∀ h',IsSI h' it (.ref pt) (i+1) a n ep->Heap.SameBut it s.heap h'->Q (some e.2) { s with heap:=h' }):
  wpAny (model prog w) A (pyNext (.ref it)) Q E s:=by
 obtain⟨oi,J,U,hd⟩:=id j
 obtain⟨Z,z,_,nt,L⟩:=hp
 unfold pyNext
 refine wpAny_bind (wpAny_attempt (wpAny_callSpecial?_slot (name:=Str.ofString "__next__") j.typeIs slot_si_next
  (wpAny_call_entry slot_si_next j.typeIs entry_si_next ?_ (args_si_next _))))
 show wpAny _ _ (fieldsOf (.ref it) >>= _) _ _ s
 refine wpAny_bind (wpAny_fieldsOf J hd ?_)
 show wpAny _ _ (setEntries a >>= _) _ _ s
 refine wpAny_bind (wpAny_setEntries_of G.at_ G.dat G.fit ?_)
 rw[if_neg (by rw[G.many];simp)]
 show wpAny _ _ (seqItems? (.ref pt) >>= _) _ _ s
 refine wpAny_bind (wpAny_seqItems z L ?_)
 simp only[Int.toNat_natCast,N]
 refine wpAny_bind ?_
 unfold setNextDrawn
 refine wpAny_bind (wpAny_setState_of G.at_ G.dat G.fit ?_)
 simp only[bne_self_eq_false,Bool.false_eq_true,if_false,O]
 refine wpAny_pure ?_
 refine wpAny_bind (wpAny_setField J hd (by simp) (wpAny_pure ⟨e.2,rfl,wpAny_pure (Y _ ?_ (Heap.SameBut.update ..))⟩))
 exact⟨_,Heap.get?_update_self _ J (Obj.isFreed_of_fields (Obj.data_mapFields hd _)),(Obj.cls_mapFields ..).trans U,by
  rw[Obj.data_mapFields hd];simp[rawInt]⟩
theorem next_drawnE {Q:Option Value->Shared->Prop}(hh:A.handled=none)(j:IsSI s.heap it (.ref pt) i a n ep)(G:SG prog w s.heap a S n led o fs ep u)(hp:s.heap.IsTuple pt items)(N:items[i]? =none)
  (O:∀ h',Heap.ExtBut it s.heap h'->Q none { s with heap:=h' }):
  wpAny (model prog w) A (pyNext (.ref it)) Q E s:=by
 obtain⟨oi,J,hc,hd⟩:=id j
 obtain⟨Z,z,_,nt,L⟩:=hp
 unfold pyNext
 refine wpAny_bind (wpAny_attempt (wpAny_callSpecial?_slot (name:=Str.ofString "__next__") j.typeIs slot_si_next
  (wpAny_call_entry slot_si_next j.typeIs entry_si_next ?_ (args_si_next _))))
 show wpAny _ _ (fieldsOf (.ref it) >>= _) _ _ s
 refine wpAny_bind (wpAny_fieldsOf J hd ?_)
 show wpAny _ _ (setEntries a >>= _) _ _ s
 refine wpAny_bind (wpAny_setEntries_of G.at_ G.dat G.fit ?_)
 rw[if_neg (by rw[G.many];simp)]
 show wpAny _ _ (seqItems? (.ref pt) >>= _) _ _ s
 refine wpAny_bind (wpAny_seqItems z L ?_)
 simp only[Int.toNat_natCast,N]
 have U:=Heap.get?_update_self (Obj.mapFields (·.setIfInBounds 0 (rawInt 0))) J (Obj.isFreed_of_fields (Obj.data_mapFields hd _))
 have Y:=Obj.data_mapFields hd (·.setIfInBounds 0 (rawInt 0))
 refine wpAny_bind (wpAny_setField J hd (by simp) ?_)
 refine wpAny_bind (wpAny_setField U Y (by simp) ?_)
 show wpAny _ _ (newExc (.type "StopIteration") [] >>= _) _ _ _
 refine wpAny_bind ?_
 simp only[newExc,newTuple]
 refine wpAny_bind (wpAny_newObj_type ?_ (by size_fits))
 refine wpAny_bind (m:=firstArgMember _ _) (wpAny_of_eq (a:=Value.none) (by first|rfl| (simp only[firstArgMember];rfl)) ?_)
 refine wpAny_newObj_type ?_ (by size_fits)
 simp only[raiseNew]
 refine wpAny_bind (wpAny_handled ?_)
 first|rw[show A.in1.handled=none from hh]|rw[hh]
 refine wpAny_bind (wpAny_pure (wpAny_throw ?_))
 refine wpAny_bind (wpAny_isInstance (T:="StopIteration") (b:=true) ⟨_,Heap.get?_push_size _ rfl,rfl⟩ isSubtype_stop ?_)
 exact wpAny_pure (O _ ((((Heap.SameBut.update ..).trans (Heap.SameBut.update ..)).extBut.push _).push _))
end
end
section
section
variable {prog:Program}{w:World}{A:Around}{E:Value->Shared->Prop}{s:Shared}
noncomputable def MD (w:World)(h:Heap)(a:Addr)(ws:List Value)(i n ep:Nat)(led:Bool)(fs:Array (Int×Value))(u:SetTable)(first:Value):Prop:=
 (w.params.followText "set-order"=true/\(∃(k:Int),∃ t:Nat,first= .int k t)/\ws=(pickOrder (w.params.setOrder a ep) fs).toList.map (·.2))\/
 (w.params.followText "set-order"=false/\led=true/\(!u.plain&&decide (fs.size>1))=false/\Up u.place/\u.place.size=fs.size/\(∃ k:Nat,∃ t:Nat,first= .int (k:Int) t/\SetTable.below u.place k=i)/\ws=fs.toList.map (·.2))\/
 (∃ pt,∃ ys:List Nat,first= .ref pt/\h.IsTuple pt (ys.map fun(y:Nat)=>Value.int y 0).toArray/\(∀ y∈ys,y<fs.size)/\ws=ys.map fun y=>(fs.getD y default).2)
noncomputable def StS (prog:Program)(w:World)(it a:Addr)(ws:List Value)(i:Nat)(s:Shared):Prop:=∃ S n led o fs ep u first,SG prog w s.heap a S n led o fs ep u/\IsSI s.heap it first i a n ep/\ws.length=n/\MD w s.heap a ws i n ep led fs u first
variable {it a:Addr}{ws:List Value}{i:Nat}
theorem SG.to {h h':Heap}{S:Int->Bool}{n ep:Nat}{led:Bool}{o:Obj}{fs:Array (Int×Value)}{u:SetTable}(G:SG prog w h a S n led o fs ep u)(k:h'.get? a=some o):SG prog w h' a S n led o fs ep u:=⟨k,G.ex,G.dat,G.el,G.mem,G.small,G.fit,G.many,G.good⟩
theorem SG.ne {h:Heap}{S:Int->Bool}{n ep m j:Nat}{led:Bool}{o:Obj}{fs:Array (Int×Value)}{u:SetTable}{first:Value}(G:SG prog w h a S n led o fs ep u)(x:IsSI h it first j a m ep):a≠it:=fun z=>by
 obtain⟨N,L,J,_⟩:=x
 have:=G.at_
 rw[z,L]at this
 cases this
 rw[G.ex.1]at J
 exact absurd J (by decide)
theorem StS.frame {h':Heap}{tk:Nat}(x:StS prog w it a ws i s)(k:∀ b o,s.heap.get? b=some o->o.cls≠ .type "list"->h'.get? b=some o):StS prog w it a ws i { s with heap:=h',toks:=tk }:=by
 obtain⟨S,n,led,o,fs,ep,u,first,G,⟨U,Y,N,hd⟩,Z,j⟩:=x
 refine⟨S,n,led,o,fs,ep,u,first,G.to (k _ _ G.at_ (by rw[G.ex.1];decide)),⟨U,k _ _ Y (by rw[N];decide),N,hd⟩,Z,?_⟩
 rcases j with j|j|⟨pt,ys,e,⟨O,J,z,nt,L⟩,r⟩
 .exact .inl j
 .exact .inr (.inl j)
 .exact .inr (.inr ⟨pt,ys,e,⟨O,k _ _ J (by rw[z];decide),z,nt,L⟩,r⟩)
theorem StS.item {Q:Option Value->Shared->Prop}(x:StS prog w it a ws i s)(hi:i<ws.length)(hQ:∀ h',StS prog w it a ws (i+1) { s with heap:=h' }->Heap.SameBut it s.heap h'->Q (some ws[i]) { s with heap:=h' }):wpAny (model prog w) A (pyNext (.ref it)) Q E s:=by
 obtain⟨S,n,led,o,fs,ep,u,first,G,J,hl,md⟩:=x
 have U:=G.ne J
 rcases md with⟨Z,⟨k,t,rfl⟩,j⟩|⟨Z,N,hp,hu,a1,⟨k,t,rfl,hb⟩,j⟩|⟨pt,ys,rfl,O,Y,j⟩
 .have hlen:i<(pickOrder (w.params.setOrder a ep) fs).toList.length:=by rw[j,length_map]at hi;exact hi
  refine next_int (x:=ws[i]) (nx:=k.toNat) J G (fun A Q E q=>setNext_text G Z _ _ ?_) fun h' y sb=>hQ h' ⟨S,n,led,o,fs,ep,u,_,G.to ((sb.2 a U).trans G.at_),y,hl,.inl ⟨Z,⟨_,_,rfl⟩,j⟩⟩ sb
  have e:(pickOrder (w.params.setOrder a ep) fs)[i]? =some ((pickOrder (w.params.setOrder a ep) fs).toList[i]'hlen):=by rw[<-Array.getElem?_toList];exact getElem?_eq_getElem hlen
  rw[e]
  have:ws[i]=((pickOrder (w.params.setOrder a ep) fs).toList[i]'hlen).2:=by simp[j]
  rw[this]at q
  exact q
 .have hlen:i<fs.size:=by rw[j,length_map,Array.length_toList]at hi;exact hi
  have a0:i<u.place.size:=by omega
  refine next_int (x:=ws[i]) (nx:=u.place[i]+1) J G (fun A Q E q=>setNext_places G Z N hp _ _ ?_) fun h' y sb=>hQ h' ⟨S,n,led,o,fs,ep,u,_,G.to ((sb.2 a U).trans G.at_),y,hl,.inr (.inl ⟨Z,N,hp,hu,a1,⟨u.place[i]+1,_,rfl,below_next hu a0⟩,j⟩)⟩ sb
  rw[Int.toNat_natCast,hb,Array.getElem?_eq_getElem hlen,Array.getElem?_eq_getElem a0]
  have:ws[i]=fs[i].2:=by simp[j]
  rw[this]at q
  exact q
 .have hlen:i<ys.length:=by rw[j,length_map]at hi;exact hi
  have hy:=Y ys[i] (getElem_mem hlen)
  have a2:pt≠it:=fun z=>by
   obtain⟨ot,L,a3,_⟩:=O
   obtain⟨oi,ho,hc,_⟩:=J
   rw[z,ho]at L;cases L
   rw[a3]at hc
   exact absurd hc (by decide)
  have hw:ws[i]=fs[ys[i]].2:=by simp[j,hy]
  rw[hw]at hQ
  refine next_drawn (y:=ys[i]) (t:=0) (e:=fs[ys[i]]) J G O (by simp[hlen]) (Array.getElem?_eq_getElem hy) fun h' y sb=>hQ h' ⟨S,n,led,o,fs,ep,u,_,G.to ((sb.2 a U).trans G.at_),y,hl,.inr (.inr ⟨pt,ys,rfl,?_,Y,j⟩)⟩ sb
  obtain⟨ot,L,r⟩:=O
  exact⟨ot,(sb.2 pt a2).trans L,r⟩
theorem StS.done {Q:Option Value->Shared->Prop}(hh:A.handled=none)(x:StS prog w it a ws ws.length s)(O:∀ h',Heap.ExtBut it s.heap h'->Q none { s with heap:=h' }):wpAny (model prog w) A (pyNext (.ref it)) Q E s:=by
 obtain⟨S,n,led,o,fs,ep,u,first,G,z,hl,U⟩:=x
 rcases U with⟨N,⟨k,t,rfl⟩,j⟩|⟨N,J,hp,hu,Z,⟨k,t,rfl,hb⟩,j⟩|⟨pt,ys,rfl,L,Y,j⟩
 .refine next_intE hh z G (fun A Q E q=>setNext_text G N _ _ ?_) O
  rw[Array.getElem?_eq_none (by rw[j,length_map,Array.length_toList];exact Nat.le_refl _)]
  exact q
 .refine next_intE hh z G (fun A Q E q=>setNext_places G N J hp _ _ ?_) O
  rw[Int.toNat_natCast,hb,Array.getElem?_eq_none (by rw[j,length_map,Array.length_toList];exact Nat.le_refl _)]
  exact q
 .exact next_drawnE hh z G L (by simp[j]) O
end
end
section
section
variable {prog:Program}{w:World}{A:Around}{E:Value->Shared->Prop}{s:Shared}{it a:Addr}{ws:List Value}
noncomputable def lstO (acc:Array Value)(c:Nat):Obj:={ cls:=.type "list",dict:=none,data:=.seq acc c,slots:=#[] }
theorem extS {R:Result->Shared->Prop}(hh:A.handled=none)(hz:ws.length<=sizeLine)(L:Addr)(res:Value):
  ∀(r i:Nat)(s:Shared)(acc:Array Value)(c:Nat),ws.length-i=r->i<=ws.length->StS prog w it a ws i s->s.heap.get? L=some (lstO acc c)->acc.toList=ws.take i->L≠it->
   (∀ h' c',(∀ b o,b≠L->b≠it->s.heap.get? b=some o->h'.get? b=some o)->h'.get? L=some (lstO ws.toArray c')->R (.ok (.ret res)) { s with heap:=h' })->
   codeAny (model prog w) A (.builtin "list.extend.loop" ⟨[.ref L,.ref it,res],[]⟩) R s:=by
 intro r
 induction r with
 |zero=>
  intro i s acc c hr hi st Z j G N
  obtain rfl:i=ws.length:=by omega
  refine codeAny_builtin PySem.F.entry_extend_loop ?_
  rw[Around.under_plainId PySem.F.plain_extend_loop _]
  show wpAny _ A.in1 (pyNext (.ref it) >>= _) _ _ s
  refine wpAny_bind (st.done (by simpa using hh) fun h' eb=>?_)
  rw[take_length]at j
  have e:acc=ws.toArray:=by rw[<-j]
  subst e
  exact wpAny_pure (N h' c (fun b o _ z q=>eb b o z q) (eb L _ G Z))
 |succ r ih=>
  intro i s acc c hr hi st Z j G N
  have lt:i<ws.length:=by omega
  have O:acc.size=i:=by rw[<-Array.length_toList,j,length_take];omega
  refine codeAny_builtin PySem.F.entry_extend_loop ?_
  rw[Around.under_plainId PySem.F.plain_extend_loop _]
  show wpAny _ A.in1 (pyNext (.ref it) >>= _) _ _ s
  refine wpAny_bind (st.item lt fun h1 Y sb=>?_)
  have J:h1.get? L=some (lstO acc c):=(sb.2 L G).trans Z
  show wpAny _ A.in1 (updateSeq L (·.push ws[i]) >>= _) _ _ _
  refine wpAny_bind ?_
  refine wpAny_updateSeq J rfl (wpAny_pure ⟨plainId_quiet PySem.F.plain_extend_loop _,ih (i+1) _ (acc.push ws[i]) _ (by omega) lt (Y.frame (tk:=s.toks) fun b o e hc=>?_) (Heap.get?_update_self _ J rfl) ?_ G fun h2 c2 k2 g2=>?_⟩) (by rw[O];omega) (by show (acc.push ws[i]).size<=sizeLine+1;rw[Array.size_push,O];omega)
  .refine(Heap.get?_update_other _ _ (fun z:L=b=>?_)).trans e
   subst z
   have e:h1.get? L=some o:=e
   rw[J]at e;cases e
   exact hc rfl
  .rw[Array.toList_push,j,take_append_getElem lt]
  .refine N h2 c2 (fun b o hb U e=>k2 b o hb U ?_) g2
   exact(Heap.get?_update_other _ _ (Ne.symm hb)).trans ((sb.2 b U).trans e)
end
end
section
section
variable {prog:Program}{w:World}{A:Around}{E:Value->Shared->Prop}{s:Shared}{a:Addr}
theorem hint_set {Q:Bool->Shared->Prop}(G:s.TypeIs (.ref a) "set")(h:Q false s):wpAny (model prog w) A (Builtin.List.listLengthHint (.ref a)) Q E s:=by
 unfold Builtin.List.listLengthHint
 refine wpAny_bind (wpAny_specialOf G PySem.F.slot_set_len.lookup ?_)
 generalize j:("set.__len__":String)=id0
 wp_delta
 rw[show splitId id0=some ("set","__len__")from by subst j;decide +kernel]
 subst j
 refine wpAny_bind (wpAny_isInstance (T:="set") (b:=true) G (by rw[isSubtype_type];kernel_rfl) ?_)
 refine wpAny_ite_split (fun z=>absurd z (by decide)) (fun _=>?_)
 refine wpAny_ite_split (fun _=>?_) (fun z=>absurd (by decide +kernel) z)
 refine wpAny_bind (wpAny_typeOf G ?_)
 exact wpAny_pure h
variable {S:Int->Bool}{n ep:Nat}{led:Bool}{o:Obj}{fs:Array (Int×Value)}{u:SetTable}
theorem up_small {xs:Array Nat}(h:xs.size<=1):Up xs:=by
 obtain⟨l⟩:=xs
 match l with
 |[]=>exact List.Pairwise.nil
 |[x]=>exact pairwise_singleton ..
 |x::y::r=>simp at h
theorem walk_perm {ys:List Nat}(h:ys.Perm (List.range fs.size)):(ys.map fun y=>(fs.getD y default).2).Perm (fs.toList.map (·.2)):=by
 refine(h.map _).trans ?_
 have:(List.range fs.size).map (fun y=>(fs.getD y default).2)=fs.toList.map (·.2):=by
  apply ext_getElem
  .simp
  .intro i h1 h2
   have:i<fs.size:=by simpa using h1
   simp[this]
 rw[this]
theorem collect_rest {s2:Shared}{it L:Addr}{ws:List Value}{R:Result->Shared->Prop}(hh:A.handled=none)(hz:ws.length<=sizeLine)(hT:s2.TypeIs (.ref a) "set")(st:StS prog w it a ws 0 s2)(Y:s2.heap.get? L=some (lstO #[] 0))(O:L≠it)
  {P:PySem.Fin->Shared->Prop} {E':Value->Shared->Prop} (hP:∀ j s',(j.quiet=true/\codeAny (model prog w) A j R s')->P (.again j) s')
  (Z:∀ h' j,(∀ b o,b≠L->b≠it->s2.heap.get? b=some o->h'.get? b=some o)->h'.get? L=some (lstO ws.toArray j)->R (.ok (.ret (.ref L))) { s2 with heap:=h' }):
  wpAny (model prog w) A.in1 (do
   let G ← holding [.ref it] (Builtin.List.listLengthHint (.ref a))
   if (G || ["set","frozenset","dict","dict_keys","dict_values","dict_items"].any (Value.type "set"== .type ·))=true then do
    rule "list.extend.makes-room"
    Builtin.List.listTouch (.ref L)
    again (.builtin "list.extend.loop" ⟨[.ref L,.ref it,.ref L],[]⟩)
   else again (.builtin "list.extend.loop" ⟨[.ref L,.ref it,.ref L],[]⟩)) P E' s2:=by
 refine wpAny_bind (wpAny_holding (hint_set hT ?_))
 rw[if_pos (by decide)]
 refine wpAny_bind (wpAny_rule ?_)
 refine wpAny_bind ?_
 show wpAny _ A.in1 (updateSeq L (·.push .none) >>= fun _=>updateSeq L (·.pop)) _ _ _
 refine wpAny_bind (wpAny_updateSeq Y rfl ?_)
 have g2:=Heap.get?_update_self (Obj.mapSeq (·.push Value.none)) Y rfl
 refine wpAny_updateSeq g2 rfl ?_
 have g3:=Heap.get?_update_self (Obj.mapSeq (·.pop)) g2 rfl
 have J:∀ b o,b≠L->s2.heap.get? b=some o->((s2.heap.update L (Obj.mapSeq (·.push Value.none))).update L (Obj.mapSeq (·.pop))).get? b=some o:=fun b o N e=>(Heap.get?_update_other _ _ (Ne.symm N)).trans ((Heap.get?_update_other _ _ (Ne.symm N)).trans e)
 refine wpAny_pure (hP _ _ ⟨plainId_quiet PySem.F.plain_extend_loop _,extS hh hz L _ ws.length 0 _ _ _ rfl (Nat.zero_le _) (st.frame (tk:=s2.toks) fun b o e hc=>J b o (fun z=>?_) e) g3 rfl O fun h' j k g=>Z h' j (fun b o N U e=>k b o N U (J b o N e)) g⟩)
 subst z
 rw[Y]at e;cases e
 exact hc rfl
end
end
section
section
variable {prog:Program}{w:World}{A:Around}{E:Value->Shared->Prop}{s:Shared}{a:Addr}
variable {S:Int->Bool}{n ep:Nat}{led:Bool}{o:Obj}{fs:Array (Int×Value)}{u:SetTable}
theorem collectSet (hh:A.handled=none)(G:SG prog w s.heap a S n led o fs ep u)(a1:led=ledOf w){Q:List Value->Shared->Prop}
  (a3:∀ ws h' d,ws.Perm (fs.toList.map (·.2))->(∀ b o,b<s.heap.objs.size->s.heap.get? b=some o->h'.get? b=some o)->s.heap.objs.size<h'.objs.size->Q ws { s with heap:=h',drawn:=d }):
  wpAny (model prog w) A (collect (.ref a)) Q E s:=by
 have a5:a<s.heap.objs.size:=Heap.lt_size G.at_
 have a2:fs.size<=sizeLine:=fits_of_scanBound G.small
 unfold collect
 refine wpAny_bind (wpAny_runValue (codeAny_builtin PySem.F.entry_proto_collect ?_))
 rw[Around.under_plainId PySem.F.plain_proto_collect _]
 show wpAny _ A.in1 (newList [] >>= fun l=>again (.builtin "list.__iadd__" ⟨[l,.ref a],[]⟩)) _ _ s
 refine wpAny_bind (wpAny_newObj_type ?_)
 refine wpAny_pure ⟨plainId_quiet PySem.F.plain_list_iadd _,codeAny_builtin PySem.F.entry_list_iadd ?_⟩
 rw[Around.under_plainId PySem.F.plain_list_iadd _]
 have U:SG prog w (s.heap.push (lstO #[] 0)) a S n led o fs ep u:=G.to (Heap.get?_push_of_some _ G.at_)
 have hL:(s.heap.push (lstO #[] 0)).get? s.heap.objs.size=some (lstO #[] 0):=Heap.get?_push_size _ rfl
 have z:(s.heap.push (lstO #[] 0)).objs.size=s.heap.objs.size+1:=by rw[Heap.size_push]
 show wpAny _ A.in1 (Builtin.List.listExtendWith (.ref s.heap.objs.size) (.ref a) (.ref s.heap.objs.size)) _ _ { s with heap:=s.heap.push (lstO #[] 0) }
 unfold Builtin.List.listExtendWith
 have a9:Shared.TypeIs { s with heap:=s.heap.push (lstO #[] 0) } (.ref a) "set":=⟨o,U.at_,G.ex.1⟩
 refine wpAny_bind (wpAny_typeOf a9 ?_)
 have h1:Builtin.List.listSameRef (.ref s.heap.objs.size) (.ref a)=false:=by simp[Builtin.List.listSameRef,Nat.ne_of_gt a5]
 rw[if_neg (by rw[h1];decide)]
 refine wpAny_bind (iter_set U (fun O=>?_) fun ys d hp=>?_)
 .obtain⟨ws,hp,md⟩:∃ ws:List Value,ws.Perm (fs.toList.map (·.2))/\MD w ((s.heap.push (lstO #[] 0)).push { cls:=.type "set_iterator",data:=.fields #[.int 0 0,.int 0 0,.ref a,.int n 0,.int ep 0] }) a ws 0 n ep led fs u (.int 0 0):=by
   cases ht:w.params.followText "set-order" with
   |true=>exact⟨_,(pick_perm _ _).map _,.inl ⟨ht,⟨_,_,rfl⟩,rfl⟩⟩
   |false=>
    have hp:(!u.plain&&decide (fs.size>1))=false:=by
     rcases O with O|O
     .rw[ht]at O;cases O
     .exact O
    have a4:u.place.size=fs.size:=by
     have:=G.fit
     simp only[SetTable.fits,Bool.and_eq_true,beq_iff_eq]at this
     exact this.1
    have hu:Up u.place:=by
     cases hpl:u.plain with
     |true=>exact G.good.2 hpl
     |false=>
      rw[hpl]at hp
      simp only[Bool.not_false,Bool.true_and,decide_eq_false_iff_not]at hp
      exact up_small (by omega)
    exact⟨_,.refl _,.inr (.inl ⟨ht,by rw[a1];unfold ledOf;rw[ht];rfl,hp,hu,a4,⟨0,0,rfl,below_zero hu⟩,rfl⟩)⟩
  have j:ws.length=n:=by rw[hp.length_eq,length_map,Array.length_toList,G.many]
  have J:s.heap.objs.size≠(s.heap.push (lstO #[] 0)).objs.size:=by rw[z];exact Nat.ne_of_lt (Nat.lt_succ_self _)
  have gs:((s.heap.push (lstO #[] 0)).push { cls:=.type "set_iterator",data:=.fields #[.int 0 0,.int 0 0,.ref a,.int n 0,.int ep 0] }).get? (s.heap.push (lstO #[] 0)).objs.size=some { cls:=.type "set_iterator",data:=.fields #[.int 0 0,.int 0 0,.ref a,.int n 0,.int ep 0] }:=Heap.get?_push_size _ rfl
  have ga:=Heap.get?_push_of_some { cls:=.type "set_iterator",data:=.fields #[.int 0 0,.int 0 0,.ref a,.int n 0,.int ep 0] } U.at_
  have gl:=Heap.get?_push_of_some { cls:=.type "set_iterator",data:=.fields #[.int 0 0,.int 0 0,.ref a,.int n 0,.int ep 0] } hL
  refine collect_rest (s2:={ s with heap:=(s.heap.push (lstO #[] 0)).push { cls:=.type "set_iterator",data:=.fields #[.int 0 0,.int 0 0,.ref a,.int n 0,.int ep 0] } }) (a:=a) (it:=(s.heap.push (lstO #[] 0)).objs.size) (L:=s.heap.objs.size) (ws:=ws) hh (by rw[j,<-G.many];exact a2) ⟨o,ga,G.ex.1⟩ ⟨S,n,led,o,fs,ep,u,.int 0 0,U.to ga,⟨_,gs,rfl,rfl⟩,j,md⟩ gl J (fun c' s' h=>h) fun h' c' k g=>?_
  show wpAny _ A (load s.heap.objs.size >>= _) _ _ _
  refine wpAny_bind (wpAny_load g ?_)
  refine wpAny_pure (a3 ws h' s.drawn hp (fun b o hb e=>k b o (Nat.ne_of_lt hb) (by rw[z];exact Nat.ne_of_lt (Nat.lt_succ_of_lt hb)) (Heap.get?_push_of_some _ (Heap.get?_push_of_some _ e))) (Heap.lt_size g))
 .have hpf:ys.Perm (List.range fs.size):=by rw[G.many];exact hp
  have Y:=walk_perm (fs:=fs) hpf
  have j:(ys.map fun y=>(fs.getD y default).2).length=n:=by rw[Y.length_eq,length_map,Array.length_toList,G.many]
  have J:s.heap.objs.size≠(s.heap.push (lstO #[] 0)).objs.size+1:=by rw[z];exact Nat.ne_of_lt (Nat.lt_succ_of_lt (Nat.lt_succ_self _))
  have a8:((s.heap.push (lstO #[] 0)).push (seqObj "tuple" (ys.map fun(i:Nat)=>Value.int i 0).toArray 0)).objs.size=(s.heap.push (lstO #[] 0)).objs.size+1:=by rw[Heap.size_push]
  generalize a0:seqObj "tuple" (ys.map fun(i:Nat)=>Value.int i 0).toArray 0=tp at*
  generalize N:({ cls:=.type "set_iterator",data:=.fields #[.ref (s.heap.push (lstO #[] 0)).objs.size,.int 0 0,.ref a,.int n 0,.int ep 0] }:Obj)=io
  have a7:io.cls= .type "set_iterator":=by rw[<-N]
  have a6:io.data= .fields #[.ref (s.heap.push (lstO #[] 0)).objs.size,.int 0 0,.ref a,.int n 0,.int ep 0]:=by rw[<-N]
  have Z:tp.cls= .type "tuple"/\tp.data= .seq (ys.map fun(i:Nat)=>Value.int i 0).toArray 0:=by rw[<-a0];exact⟨rfl,rfl⟩
  have gt:((s.heap.push (lstO #[] 0)).push tp).get? (s.heap.push (lstO #[] 0)).objs.size=some tp:=Heap.get?_push_size _ (by rw[<-a0];rfl)
  have gs:(((s.heap.push (lstO #[] 0)).push tp).push io).get? ((s.heap.push (lstO #[] 0)).objs.size+1)=some io:=by
   rw[<-a8];exact Heap.get?_push_size _ (by rw[<-N];rfl)
  have ga:(((s.heap.push (lstO #[] 0)).push tp).push io).get? a=some o:=Heap.get?_push_of_some _ (Heap.get?_push_of_some _ U.at_)
  have gl:(((s.heap.push (lstO #[] 0)).push tp).push io).get? s.heap.objs.size=some (lstO #[] 0):=Heap.get?_push_of_some _ (Heap.get?_push_of_some _ hL)
  have st:StS prog w ((s.heap.push (lstO #[] 0)).objs.size+1) a (ys.map fun y=>(fs.getD y default).2) 0 { s with heap:=((s.heap.push (lstO #[] 0)).push tp).push io,drawn:=d }:=
   ⟨S,n,led,o,fs,ep,u,.ref (s.heap.push (lstO #[] 0)).objs.size,U.to ga,⟨io,gs,a7,a6⟩,j,.inr (.inr ⟨_,ys,rfl,⟨tp,Heap.get?_push_of_some _ gt,Z.1,0,Z.2⟩,fun y hy=>List.mem_range.mp (hpf.mem_iff.mp hy),rfl⟩)⟩
  refine collect_rest (s2:={ s with heap:=((s.heap.push (lstO #[] 0)).push tp).push io,drawn:=d }) (a:=a) (it:=(s.heap.push (lstO #[] 0)).objs.size+1) (L:=s.heap.objs.size) hh (by rw[j,<-G.many];exact a2) ⟨o,ga,G.ex.1⟩ st gl J (fun c' s' h=>h) fun h' c' k g=>?_
  show wpAny _ A (load s.heap.objs.size >>= _) _ _ _
  refine wpAny_bind (wpAny_load g ?_)
  refine wpAny_pure (a3 _ h' d Y (fun b o hb e=>k b o (Nat.ne_of_lt hb) (by rw[z];exact Nat.ne_of_lt (Nat.lt_succ_of_lt (Nat.lt_succ_of_lt hb))) (Heap.get?_push_of_some _ (Heap.get?_push_of_some _ (Heap.get?_push_of_some _ e)))) (Heap.lt_size g))
end
end
section
theorem perm_of_sub:∀{l m:List Int},l.Nodup->(∀ x∈l,x∈m)->l.length=m.length->l.Perm m
 |[],m,_,_,h=>by rw[List.length_eq_zero_iff.mp h.symm]
 |x::l,m,hd,hs,hl=>by
  have G:=hs x (by simp)
  have hn:=List.nodup_cons.mp hd
  refine(List.Perm.cons x (perm_of_sub hn.2 (fun y j=>?_) ?_)).trans (perm_cons_erase G).symm
  .exact(mem_erase_of_ne (fun z:y=x=>hn.1 (by rw[<-z];exact j))).mpr (hs y (by simp[j]))
  .rw[length_erase_of_mem G]
   simp only[length_cons]at hl
   omega
theorem firstMet_nodup (j:Nat->Int):∀ i,(firstMet j i).Nodup
 |0=>by rw[firstMet_zero];exact nodup_nil
 |i+1=>by
  rw[firstMet_succ]
  unfold step_dedup
  split
  .exact firstMet_nodup j i
  .rename_i h
   refine List.nodup_append.mpr ⟨firstMet_nodup j i,by simp,fun a ha b G=>?_⟩
   rw[mem_singleton]at G
   intro z
   subst G
   exact h (List.any_eq_true.mpr ⟨a,ha,by simp[z]⟩)
section
variable {prog:Program}{w:World}{A:Around}{E:Value->Shared->Prop}{s:Shared}{a:Addr}
variable {S:Int->Bool}{n ep:Nat}{led:Bool}{o:Obj}{fs:Array (Int×Value)}{u:SetTable}
theorem ints_of:∀{l:List (Int×Value)},ElemsOf (KI prog w) l->∃ ks:List Int,IntsAre (l.map (·.2)) ks/\∀ k,k∈ks↔∃ e∈l,(KI prog w).is k e.2=true
 |[],_=>⟨[],.nil,fun k=>by simp⟩
 |e::l,h=>by
  obtain⟨ks,h1,h2⟩:=ints_of h.tail
  obtain⟨⟨k,G,_⟩,_⟩:=h.head
  obtain⟨t,J⟩:=Value.isInt_shape G
  refine⟨k::ks,?_,fun j=>?_⟩
  .rw[map_cons,J];exact .cons k t h1
  .rw[mem_cons,h2]
   constructor
   .rintro(rfl|⟨f,z,q⟩)
    .exact⟨e,by simp,G⟩
    .exact⟨f,by simp[z],q⟩
   .rintro⟨f,z,q⟩
    rcases List.mem_cons.mp z with rfl|z
    .exact .inl ((KI prog w).inj _ _ _ q G)
    .exact .inr ⟨f,z,q⟩
theorem ints_perm:∀{vs ws:List Value},ws.Perm vs->∀{ns:List Int},IntsAre vs ns->∃ j,IntsAre ws j/\j.Perm ns:=by
 intro vs ws p
 induction p with
 |nil=>exact fun h=>⟨_,h,.refl _⟩
 |cons x _ J=>
  intro ns h
  cases h with
  |cons n t h=>obtain⟨j,a,b⟩:=J h;exact⟨n::j,.cons n t a,b.cons n⟩
 |swap x y l=>
  intro ns h
  cases h with
  |cons n t h=>
   cases h with
   |cons m L h=>exact⟨_,.cons _ _ (.cons _ _ h),.swap _ _ _⟩
 |trans _ _ G z=>
  intro ns h
  obtain⟨j,a,b⟩:=z h
  obtain⟨ks,c,d⟩:=G a
  exact⟨ks,c,d.trans b⟩
end
end
section
noncomputable def ddI (ns:List Int):List Int:=firstMet (fun i=>ns.getD i 0) ns.length
noncomputable def SetH (P:Program)(w:World)(a:Addr)(ns:List Int):HO:=.ext fun h=>SetG P w h a (inL (fun i=>ns.getD i 0) ns.length) (ddI ns).length (ledOf w)
section
variable {X:Cx}{e:Expr}{pos:Pos}
end
end
section
namespace TS
noncomputable abbrev SM:=StateT SortSt Sem
noncomputable def ky (κ:PyProof.Rows.KeyKind)(x:Keyed):κ.α:=(κ.keyOf x.1).getD κ.dflt
noncomputable def CL (M:Model)(A:Around)(E:Value->Shared->Prop)(s:Shared)(a₀:Array Keyed)(κ:PyProof.Rows.KeyKind)(kd:SortKind):Prop:=
 ∀ x y:Keyed,x∈a₀.toList->y∈a₀.toList->∀(st:SortSt)(Q:Option Bool->SortSt->Prop),kindOf st=kd->Q (some (κ.blt (ky κ x) (ky κ y))) st->wpS M A E s (lt' x y) Q st
section
variable {M:Model}{A:Around}{E:Value->Shared->Prop}{s:Shared}{a₀:Array Keyed}{κ:PyProof.Rows.KeyKind}{kd:SortKind}{st:SortSt}
theorem KK_ky {xs:Array Keyed}{i:Nat}{x:Keyed}(h:xs[i]? =some x):KK κ xs i=ky κ x:=by
 unfold KK ky;rw[h]
theorem wp_elem {arr:Array Keyed}{i:Nat}(h:i<arr.size){Q:Keyed->SortSt->Prop}(q:Q arr[i] st):wpS M A E s (elem' arr i) Q st:=by
 rw[elem'_eq,Array.getElem?_eq_getElem h]
 exact wpS_pure q
theorem wp_ltA (c:CL M A E s a₀ κ kd)(hp:∀ x,x∈(arrOf st).toList->x∈a₀.toList)(G:kindOf st=kd){i j:Nat}(hi:i<(arrOf st).size)(z:j<(arrOf st).size){Q:Option Bool->SortSt->Prop}(q:Q (some (κ.blt (KK κ (arrOf st) i) (KK κ (arrOf st) j))) st):wpS M A E s (ltAt' i j) Q st:=by
 rw[ltAt'_eq]
 refine wpS_bind (wpS_get ?_)
 refine wpS_bind (wp_elem hi ?_)
 refine wpS_bind (wp_elem z ?_)
 refine c _ _ (hp _ (by simp)) (hp _ (by simp)) _ _ G ?_
 rw[<-KK_ky (Array.getElem?_eq_getElem hi),<-KK_ky (Array.getElem?_eq_getElem z)]
 exact q
theorem wp_range {σ β:Type}{st:σ}(a n:Nat)(b:β)(f:Nat->β->StateT σ Sem (ForInStep β))(I:Nat->β->σ->Prop)(Q:β->σ->Prop)
  (J:I (n-a) b st)
  (z:∀(x r:Nat)(b:β)(st:σ),a<=x->x<n->x+r+1=n->I (r+1) b st->wpS M A E s (f x b) (fun q st'=>match q with | .done b'=>Q b' st'| .yield b'=>I r b' st') st)
  (G:∀ b st,I 0 b st->Q b st):wpS M A E s (forIn [a:n] b f) Q st:=by
 rw[Std.Legacy.Range.forIn_eq_forIn_range']
 have j:([a:n]:Std.Legacy.Range).size=n-a:=by simp[Std.Legacy.Range.size]
 rw[j]
 refine wpS_forIn_list _ (fun l b st=>∃ x r,l=List.range' x r/\a<=x/\(r=0\/x+r=n)/\I r b st) _ ?_ ?_ _ _ _ ⟨a,n-a,rfl,Nat.le_refl _,by omega,J⟩
 .rintro x rest b st ⟨x',r,hl,ha,hr,hI⟩
  cases r with
  |zero=>cases hl
  |succ r=>
   rw[List.range'_succ]at hl
   injection hl with N L
   subst N L
   refine wpS_mono (z x r b st ha (by omega) (by omega) hI) fun q st' h=>?_
   cases q with
   |done b'=>exact h
   |yield b'=>exact⟨x+1,r,rfl,by omega,by omega,h⟩
 .rintro b st ⟨x,r,hl,_,_,hI⟩
  cases r with
  |zero=>exact G b st hI
  |succ r=>rw[List.range'_succ]at hl;cases hl
structure SB (a₀:Array Keyed)(kd:SortKind)(st:SortSt):Prop where
 perm:(arrOf st).Perm a₀
 kind:kindOf st=kd
 failed:failedOf st=none
theorem SB.size (h:SB a₀ kd st):(arrOf st).size=a₀.size:=h.perm.size_eq
theorem SB.mem (h:SB a₀ kd st):∀ x,x∈(arrOf st).toList->x∈a₀.toList:=fun x j=>(Array.perm_iff_toList_perm.mp h.perm).mem_iff.mp j
theorem SB.set (h:SB a₀ kd st){xs:Array Keyed}(p:xs.Perm (arrOf st)):SB a₀ kd (setArr st xs):=⟨p.trans h.perm,h.kind,h.failed⟩
theorem SB.lt (h:SB a₀ kd st)(c:CL M A E s a₀ κ kd){i j:Nat}(hi:i<a₀.size)(z:j<a₀.size){Q:Option Bool->SortSt->Prop}(q:Q (some (κ.blt (KK κ (arrOf st) i) (KK κ (arrOf st) j))) st):wpS M A E s (ltAt' i j) Q st:=
 wp_ltA c h.mem h.kind (h.size ▸ hi) (h.size ▸ z) q
noncomputable def Spl (B:Nat->Bool)(n k:Nat):Prop:=k<=n/\(∀ i,i<k->B i=true)/\∀ i,k<=i->i<n->B i=false
noncomputable def bisM (bey:Nat->SM (Option Bool))(n lo hi:Nat):SM (Option Nat):=do
 let s ← forIn [:n] ((none,lo,hi):Option (Option Nat)×Nat×Nat) fun _ s=>
  if s.2.1 ≥ s.2.2 then pure (.done (none,s.2.1,s.2.2))
  else do
   let r ← bey (s.2.1+(s.2.2-s.2.1) / 2)
   match r with
   |some more=>if more=true then pure (.yield (none,s.2.1+(s.2.2-s.2.1) / 2+1,s.2.2))else pure (.yield (none,s.2.1,s.2.1+(s.2.2-s.2.1) / 2))
   |_=>pure (.done (some none,s.2.1,s.2.2))
 match s.1 with
 |some r=>pure r
 |none=>pure (some s.2.2)
noncomputable def galM (bey:Nat->SM (Option Bool))(n hint:Nat):SM (Option Nat):=do
 let r ← bey hint
 match r with
 |some right=>
  if right=true then do
   let s ← forIn [:n] ((none,0,1):Option (Option Nat)×Nat×Nat) fun _ s=>
    if s.2.2 ≥ n-hint then pure (.done (none,s.2.1,s.2.2))
    else do
     let r ← bey (hint+s.2.2)
     match r with
     |some more=>if (!more)=true then pure (.done (none,s.2.1,s.2.2))else pure (.yield (none,s.2.2,2*s.2.2+1))
     |_=>pure (.done (some none,s.2.1,s.2.2))
   match s.1 with
   |some r=>pure r
   |none=>bisM bey n (hint+s.2.1+1) (hint+min s.2.2 (n-hint))
  else do
   let s ← forIn [:n] ((none,0,1):Option (Option Nat)×Nat×Nat) fun _ s=>
    if s.2.2 ≥ hint+1 then pure (.done (none,s.2.1,s.2.2))
    else do
     let r ← bey (hint-s.2.2)
     match r with
     |some found=>if found=true then pure (.done (none,s.2.1,s.2.2))else pure (.yield (none,s.2.2,2*s.2.2+1))
     |_=>pure (.done (some none,s.2.1,s.2.2))
   match s.1 with
   |some r=>pure r
   |none=>bisM bey n (hint+1-min s.2.2 (hint+1)) (hint-s.2.1)
 |_=>pure none
variable {B:Nat->Bool}{n:Nat}{bey:Nat->SM (Option Bool)}
theorem wp_bis (G:∀ i,i<n->∀ Q:Option Bool->SortSt->Prop,Q (some (B i)) st->wpS M A E s (bey i) Q st)(mono:∀ i j,i<=j->j<n->B j=true->B i=true){lo hi:Nat}(h1:lo<=hi)(h2:hi<=n)(z:∀ i,i<lo->B i=true)(hh:∀ i,hi<=i->i<n->B i=false){Q:Option Nat->SortSt->Prop}(q:∀ k,Spl B n k->Q (some k) st):wpS M A E s (bisM bey n lo hi) Q st:=by
 unfold bisM
 refine wpS_bind (wp_range 0 n _ _ (fun r b st'=>st'=st/\b.1=none/\b.2.1<=b.2.2/\b.2.2<=n/\b.2.2-b.2.1<=r/\(∀ i,i<b.2.1->B i=true)/\∀ i,b.2.2<=i->i<n->B i=false) _ ⟨rfl,rfl,h1,h2,by dsimp only;omega,z,hh⟩ ?_ ?_)
 .rintro x r ⟨b0,lo,hi⟩ st' _ _ _ ⟨rfl,hb,h1,h2,h3,z,hh⟩
  simp only at hb h1 h2 h3 z hh ⊢
  subst hb
  split
  .exact wpS_pure (wpS_pure (q hi ⟨h2,fun i hi=>z i (by omega),hh⟩))
  .rename_i hlt
   have hm:lo+(hi-lo) / 2<hi:=by omega
   refine wpS_bind (G _ (by omega) _ ?_)
   simp only
   cases hv:B (lo+(hi-lo) / 2)with
   |true=>exact wpS_pure ⟨rfl,rfl,by dsimp only;omega,h2,by dsimp only;omega,fun i hi=>mono i _ (by dsimp only at hi;omega) (by omega) hv,hh⟩
   |false=>exact wpS_pure ⟨rfl,rfl,by dsimp only;omega,by dsimp only;omega,by dsimp only;omega,z,fun i hi hn=>by
     cases h:B i with
     |false=>rfl
     |true=>rw[mono _ i hi hn h]at hv;cases hv⟩
 .rintro⟨b0,lo,hi⟩ st' ⟨rfl,hb,h1,h2,h3,z,hh⟩
  simp only at hb h1 h2 h3 z hh ⊢
  subst hb
  exact wpS_pure (q hi ⟨h2,fun i hi=>z i (by omega),hh⟩)
theorem wp_gal (O:∀ i,i<n->∀ Q:Option Bool->SortSt->Prop,Q (some (B i)) st->wpS M A E s (bey i) Q st)(mono:∀ i j,i<=j->j<n->B j=true->B i=true){hint:Nat}(hn:hint<n){Q:Option Nat->SortSt->Prop}(q:∀ k,Spl B n k->Q (some k) st):wpS M A E s (galM bey n hint) Q st:=by
 unfold galM
 have U:∀ i j,i<=j->j<n->B i=false->B j=false:=fun i j Y Z h=>by
  cases h':B j with
  |false=>rfl
  |true=>rw[mono i j Y Z h']at h;cases h
 refine wpS_bind (O _ hn _ ?_)
 cases hv:B hint with
 |true=>
  simp only[if_true]
  have N:∀ z G,z<G->B (hint+z)=true->hint+z<n->(G ≥ n-hint\/B (hint+G)=false)->wpS M A E s (bisM bey n (hint+z+1) (hint+min G (n-hint))) Q st:=fun lo of h1 h2 L J=>
   wp_bis O mono (by omega) (by omega) (fun i hi=>mono i _ (by omega) L h2) (fun i hi hn=>by
    rcases J with J|J
    .omega
    .exact U (hint+of) i (by omega) hn J) q
  refine wpS_bind (wp_range 0 n _ _ (fun r b st'=>st'=st/\b.1=none/\b.2.1<b.2.2/\B (hint+b.2.1)=true/\hint+b.2.1<n/\n<b.2.2+r+1) _ ⟨rfl,rfl,by simp,by simpa using hv,by simpa using hn,by dsimp only;omega⟩ ?_ ?_)
  .rintro x r ⟨b0,lo,of⟩ st' _ _ _ ⟨rfl,hb,h1,h2,L,J⟩
   simp only at hb h1 h2 L J ⊢
   subst hb
   split
   .rename_i hge
    exact wpS_pure (N lo of h1 h2 L (.inl hge))
   .rename_i hge
    refine wpS_bind (O _ (by omega) _ ?_)
    simp only
    cases hw:B (hint+of)with
    |false=>exact wpS_pure (N lo of h1 h2 L (.inr hw))
    |true=>exact wpS_pure ⟨rfl,rfl,by dsimp only;omega,hw,by dsimp only;omega,by dsimp only;omega⟩
  .rintro⟨b0,lo,of⟩ st' ⟨rfl,hb,h1,h2,L,J⟩
   simp only at hb h1 h2 L J ⊢
   subst hb
   exact N lo of h1 h2 L (.inl (by omega))
 |false=>
  simp only[Bool.false_eq_true,if_false]
  have N:∀ z G,z<G->z<=hint->B (hint-z)=false->(G ≥ hint+1\/B (hint-G)=true)->wpS M A E s (bisM bey n (hint+1-min G (hint+1)) (hint-z)) Q st:=fun lo of h1 h2 L J=>
   wp_bis O mono (by omega) (by omega) (fun i hi=>by
    rcases J with J|J
    .omega
    .exact mono i (hint-of) (by omega) (by omega) J) (fun i hi hn=>U _ i hi hn L) q
  refine wpS_bind (wp_range 0 n _ _ (fun r b st'=>st'=st/\b.1=none/\b.2.1<b.2.2/\b.2.1<=hint/\B (hint-b.2.1)=false/\n<b.2.2+r+1) _ ⟨rfl,rfl,by simp,by simp,by simpa using hv,by dsimp only;omega⟩ ?_ ?_)
  .rintro x r ⟨b0,lo,of⟩ st' _ _ _ ⟨rfl,hb,h1,h2,L,J⟩
   simp only at hb h1 h2 L J ⊢
   subst hb
   split
   .rename_i hge
    exact wpS_pure (N lo of h1 h2 L (.inl hge))
   .rename_i hge
    refine wpS_bind (O _ (by omega) _ ?_)
    simp only
    cases hw:B (hint-of)with
    |true=>exact wpS_pure (N lo of h1 h2 L (.inr hw))
    |false=>exact wpS_pure ⟨rfl,rfl,by dsimp only;omega,by dsimp only;omega,hw,by dsimp only;omega⟩
  .rintro⟨b0,lo,of⟩ st' ⟨rfl,hb,h1,h2,L,J⟩
   simp only at hb h1 h2 L J ⊢
   subst hb
   exact N lo of h1 h2 L (.inl (by omega))
end
end TS
end
section
namespace TS
section
variable {prog:Program}{w:World}{A:Around}{E:Value->Shared->Prop}{s:Shared}{a₀:Array Keyed}{κ:PyProof.Rows.KeyKind}{kd:SortKind}{st:SortSt}
noncomputable def Seg (κ:PyProof.Rows.KeyKind)(xs:Array Keyed)(lo hi:Nat):Prop:=∀ i j,lo<=i->i<=j->j<hi->κ.kle (KK κ xs i) (KK κ xs j)
noncomputable def NInc (κ:PyProof.Rows.KeyKind)(xs:Array Keyed)(lo hi:Nat):Prop:=∀ i j,lo<=i->i<=j->j<hi->κ.kle (KK κ xs j) (KK κ xs i)
structure Ch (a₀:Array Keyed)(κ:PyProof.Rows.KeyKind)(kd:SortKind)(lo:Nat)(st st':SortSt):Prop where
 sb:SB a₀ kd st'
 pend:pendingOf st'=pendingOf st
 pre:∀ k,k<lo->KK κ (arrOf st') k=KK κ (arrOf st) k
theorem Ch.refl {lo:Nat}(h:SB a₀ kd st):Ch a₀ κ kd lo st st:=⟨h,rfl,fun _ _=>rfl⟩
theorem Ch.trans {lo:Nat}{st' j:SortSt}(h:Ch a₀ κ kd lo st st')(g:Ch a₀ κ kd lo st' j):Ch a₀ κ kd lo st j:=⟨g.sb,g.pend.trans h.pend,fun k z=>(g.pre k z).trans (h.pre k z)⟩
theorem Seg.congr {xs ys:Array Keyed}{lo hi:Nat}(h:Seg κ xs lo hi)(e:∀ k,lo<=k->k<hi->KK κ ys k=KK κ xs k):Seg κ ys lo hi:=fun i j h1 h2 z=>by rw[e i h1 (by omega),e j (by omega) z];exact h i j h1 h2 z
theorem Seg.snoc {xs:Array Keyed}{lo hi:Nat}(h:Seg κ xs lo hi)(G:lo<hi)(e:κ.kle (KK κ xs (hi-1)) (KK κ xs hi)):Seg κ xs lo (hi+1):=fun i j h1 h2 J=>by
 rcases Nat.lt_or_ge j hi with z|z
 .exact h i j h1 h2 z
 .have:j=hi:=by omega
  subst this
  rcases Nat.lt_or_ge i j with hi|hi
  .exact KeyOrd.kle_trans (h i (j-1) h1 (by omega) (by omega)) e
  .have:i=j:=by omega
   subst this;exact KeyOrd.kle_refl _
theorem NInc.snoc {xs:Array Keyed}{lo hi:Nat}(h:NInc κ xs lo hi)(G:lo<hi)(e:κ.kle (KK κ xs hi) (KK κ xs (hi-1))):NInc κ xs lo (hi+1):=fun i j h1 h2 J=>by
 rcases Nat.lt_or_ge j hi with z|z
 .exact h i j h1 h2 z
 .have:j=hi:=by omega
  subst this
  rcases Nat.lt_or_ge i j with hi|hi
  .exact KeyOrd.kle_trans e (h i (j-1) h1 (by omega) (by omega))
  .have:i=j:=by omega
   subst this;exact KeyOrd.kle_refl _
theorem wp_rev {i j:Nat}{Q:Unit->SortSt->Prop}(q:Q () (setArr st (mirror (arrOf st) i j ((j-i) / 2)))):wpS (model prog w) A E s (reverseSlice' i j) Q st:=by
 rw[reverseSlice'_eq];exact wpS_modify q
theorem Ch.revEq {lo i j:Nat}(h:SB a₀ kd st)(z:j<=a₀.size)(e:∀ k,i<=k->k<j->KK κ (arrOf st) k=KK κ (arrOf st) (j-1)):Ch a₀ κ kd lo st (setArr st (mirror (arrOf st) i j ((j-i) / 2))):=
 ⟨h.set (mirror_perm ..),rfl,fun k G=>KK_mirror_equal (h.size ▸ z) e k⟩
noncomputable def ascM (lo a nrem:Nat):SM (Option (Option Nat)×Nat):=
 forIn [a:nrem] ((none,a):Option (Option Nat)×Nat) fun _ s=>do
  let r ← ltAt' (lo+s.2) (lo+s.2-1)
  match r with
  |some smaller=>if smaller=true then pure (.done (none,s.2))else pure (.yield (none,s.2+1))
  |_=>pure (.done (some none,s.2))
noncomputable def tailP (lo n nrem:Nat):SM (Option Nat):=do
 reverseSlice' lo (lo+n)
 let s ← ascM lo n nrem
 match s.1 with
 |some r=>pure r
 |none=>pure (some s.2)
noncomputable def descL (lo n nrem:Nat):SM (Option (Option Nat)×Nat×Nat):=
 forIn [n:nrem] ((none,n,0):Option (Option Nat)×Nat×Nat) fun _ s=>do
  let r ← ltAt' (lo+s.2.1) (lo+s.2.1-1)
  match r with
  |some smaller=>
   if smaller=true then
    if s.2.2>0 then do
     reverseSlice' (lo+s.2.1-(s.2.2+1)) (lo+s.2.1)
     pure (.yield (none,s.2.1+1,0))
    else pure (.yield (none,s.2.1+1,0))
   else do
    let r ← ltAt' (lo+s.2.1-1) (lo+s.2.1)
    match r with
    |some larger=>if larger=true then pure (.done (none,s.2.1,s.2.2))else pure (.yield (none,s.2.1+1,s.2.2+1))
    |_=>pure (.done (some none,s.2.1,s.2.2))
  |_=>pure (.done (some none,s.2.1,s.2.2))
noncomputable def descP (lo n nrem:Nat):SM (Option Nat):=do
 liftM (rule "list.sort.descending-run")
 let s ← descL lo (n+1) nrem
 match s.1 with
 |some r=>pure r
 |none=>
  if s.2.2>0 then do
   reverseSlice' (lo+s.2.1-(s.2.2+1)) (lo+s.2.1)
   tailP lo s.2.1 nrem
  else tailP lo s.2.1 nrem
theorem countRun_eq (lo nrem:Nat):countRun' lo nrem=(do
  let s ← ascM lo 1 nrem
  match s.1 with
  |some r=>pure r
  |none=>
   if (s.2==nrem)=true then pure (some s.2)
   else
    if s.2>1 then do
     let r ← ltAt' lo (lo+s.2-1)
     match r with
     |some j=>if j=true then pure (some s.2)else do
       reverseSlice' lo (lo+s.2)
       descP lo s.2 nrem
     |_=>pure none
    else descP lo s.2 nrem):=by
 unfold countRun'
 refine congr (congrArg Bind.bind ?_) (funext fun s=>?_)
 .rfl
 .obtain⟨s1,s2⟩:=s
  cases s1 with
  |some r=>rfl
  |none=>
   show ite _ _ _=ite _ _ _
   refine congrArg (ite _ _) ?_
   show ite _ _ _=ite _ _ _
   refine congr (congrArg (ite _) ?_) ?_
   .refine congr (congrArg Bind.bind ?_) (funext fun s=>?_)
    .rfl
    .cases s with
     |none=>rfl
     |some b=>
      show ite _ _ _=ite _ _ _
      refine congrArg (ite _ _) ?_
      refine congr (congrArg Bind.bind ?_) (funext fun s=>?_)
      .rfl
      .unfold descP
       refine congr (congrArg Bind.bind ?_) (funext fun s=>?_)
       .rfl
       .refine congr (congrArg Bind.bind ?_) (funext fun s=>?_)
        .rfl
        .obtain⟨s1,s2,s3⟩:=s
         cases s1 with
         |some r=>rfl
         |none=>
          show ite _ _ _=ite _ _ _
          refine congr (congrArg (ite _) ?_) ?_
          .refine congr (congrArg Bind.bind ?_) (funext fun s=>?_)
           .rfl
           .refine congr (congrArg Bind.bind ?_) (funext fun s=>?_)
            .rfl
            .refine congr (congrArg Bind.bind ?_) (funext fun s=>?_)
             .rfl
             .obtain⟨s1,s2⟩:=s
              cases s1 <;> rfl
          .refine congr (congrArg Bind.bind ?_) (funext fun s=>?_)
           .rfl
           .refine congr (congrArg Bind.bind ?_) (funext fun s=>?_)
            .rfl
            .obtain⟨s1,s2⟩:=s
             cases s1 <;> rfl
   .unfold descP
    refine congr (congrArg Bind.bind ?_) (funext fun s=>?_)
    .rfl
    .refine congr (congrArg Bind.bind ?_) (funext fun s=>?_)
     .rfl
     .obtain⟨s1,s2,s3⟩:=s
      cases s1 with
      |some r=>rfl
      |none=>
       show ite _ _ _=ite _ _ _
       refine congr (congrArg (ite _) ?_) ?_
       .refine congr (congrArg Bind.bind ?_) (funext fun s=>?_)
        .rfl
        .refine congr (congrArg Bind.bind ?_) (funext fun s=>?_)
         .rfl
         .refine congr (congrArg Bind.bind ?_) (funext fun s=>?_)
          .rfl
          .obtain⟨s1,s2⟩:=s
           cases s1 <;> rfl
       .refine congr (congrArg Bind.bind ?_) (funext fun s=>?_)
        .rfl
        .refine congr (congrArg Bind.bind ?_) (funext fun s=>?_)
         .rfl
         .obtain⟨s1,s2⟩:=s
          cases s1 <;> rfl
theorem wp_asc {lo a nrem:Nat}(c:CL (model prog w) A E s a₀ κ kd)(h:SB a₀ kd st)(h1:1<=a)(h2:a<=nrem)(z:lo+nrem<=a₀.size)(j:Seg κ (arrOf st) lo (lo+a)){Q:Option (Option Nat)×Nat->SortSt->Prop}
  (q:∀ n,a<=n->n<=nrem->Seg κ (arrOf st) lo (lo+n)->(n=nrem\/κ.klt (KK κ (arrOf st) (lo+n)) (KK κ (arrOf st) (lo+n-1)))->Q (none,n) st):wpS (model prog w) A E s (ascM lo a nrem) Q st:=by
 unfold ascM
 refine wp_range a nrem _ _ (fun r b st'=>st'=st/\b.1=none/\a<=b.2/\b.2+r=nrem/\Seg κ (arrOf st) lo (lo+b.2)) _ ⟨rfl,rfl,Nat.le_refl _,by dsimp only;omega,j⟩ ?_ ?_
 .rintro x r ⟨b0,n⟩ st' _ _ _ ⟨rfl,hb,e1,e2,j⟩
  simp only at hb e1 e2 j ⊢
  subst hb
  refine wpS_bind (h.lt c (by omega) (by omega) ?_)
  simp only
  cases hv:κ.blt (KK κ (arrOf st') (lo+n)) (KK κ (arrOf st') (lo+n-1))with
  |true=>exact wpS_pure (q n e1 (by omega) j (.inr hv))
  |false=>exact wpS_pure ⟨rfl,rfl,by dsimp only;omega,by dsimp only;omega,j.snoc (by omega) hv⟩
 .rintro⟨b0,n⟩ st' ⟨rfl,hb,e1,e2,j⟩
  simp only at hb e1 e2 j ⊢
  subst hb
  exact q n e1 (by omega) j (.inl (by omega))
theorem NInc.rev {xs:Array Keyed}{lo n:Nat}(h:NInc κ xs lo (lo+n))(z:lo+n<=xs.size):Seg κ (mirror xs lo (lo+n) ((lo+n-lo) / 2)) lo (lo+n):=fun i j h1 h2 G=>by
 rw[KK_mirror z,KK_mirror z,if_pos ⟨h1,by omega⟩,if_pos ⟨by omega,G⟩]
 exact h _ _ (by omega) (by omega) (by omega)
theorem wp_tailP {lo n nrem:Nat}(c:CL (model prog w) A E s a₀ κ kd)(h:SB a₀ kd st)(h1:1<=n)(h2:n<=nrem)(J:lo+nrem<=a₀.size)(G:NInc κ (arrOf st) lo (lo+n)){Q:Option Nat->SortSt->Prop}
  (q:∀ m st',Ch a₀ κ kd lo st st'->1<=m->m<=nrem->Seg κ (arrOf st') lo (lo+m)->Q (some m) st'):wpS (model prog w) A E s (tailP lo n nrem) Q st:=by
 unfold tailP
 refine wpS_bind (wp_rev ?_)
 have j:lo+n<=(arrOf st).size:=by rw[h.size];omega
 have h':=h.set (mirror_perm (arrOf st) lo (lo+n) ((lo+n-lo) / 2))
 refine wpS_bind (wp_asc c h' h1 h2 J (G.rev j) fun m m1 m2 z _=>?_)
 exact wpS_pure (q m _ ⟨h',rfl,fun k L=>by
  show KK κ (mirror (arrOf st) lo (lo+n) ((lo+n-lo) / 2)) k=_
  rw[KK_mirror j,if_neg (by omega)]⟩ (by omega) m2 z)
theorem NInc.congr {xs ys:Array Keyed}{lo hi:Nat}(h:NInc κ xs lo hi)(e:∀ k,k<hi->KK κ ys k=KK κ xs k):NInc κ ys lo hi:=fun i j h1 h2 z=>by rw[e i (by omega),e j z];exact h i j h1 h2 z
theorem wp_descP {lo n nrem:Nat}(c:CL (model prog w) A E s a₀ κ kd)(h:SB a₀ kd st)(h2:n+1<=nrem)(h3:lo+nrem<=a₀.size)(z:NInc κ (arrOf st) lo (lo+(n+1))){Q:Option Nat->SortSt->Prop}
  (q:∀ m st',Ch a₀ κ kd lo st st'->1<=m->m<=nrem->Seg κ (arrOf st') lo (lo+m)->Q (some m) st'):wpS (model prog w) A E s (descP lo n nrem) Q st:=by
 unfold descP
 refine wpS_bind (wpS_lift (wpAny_rule ⟨rfl,?_⟩))
 have L:∀ m e st',Ch a₀ κ kd lo st st'->m<=nrem->e+1<=m->NInc κ (arrOf st') lo (lo+m)->(∀ k,lo+m-(e+1)<=k->k<lo+m->KK κ (arrOf st') k=KK κ (arrOf st') (lo+m-1))->wpS (model prog w) A E s (if e>0 then do { reverseSlice' (lo+m-(e+1)) (lo+m);tailP lo m nrem }else tailP lo m nrem) Q st':=by
  intro m e st' ch m1 m2 z eq
  split
  .refine wpS_bind (wp_rev ?_)
   have J:=Ch.revEq (κ:=κ) (lo:=lo+nrem) ch.sb (i:=lo+m-(e+1)) (j:=lo+m) (by omega) eq
   refine wp_tailP c J.sb (by omega) m1 h3 (z.congr fun k N=>J.pre k (by omega)) fun Y G Z b1 b2 U=>q Y G (ch.trans (Ch.trans ⟨J.sb,J.pend,fun k N=>J.pre k (by omega)⟩ Z)) b1 b2 U
  .exact wp_tailP c ch.sb (by omega) m1 h3 z fun Y G Z b1 b2 U=>q Y G (ch.trans Z) b1 b2 U
 unfold descL
 refine wpS_bind (wp_range (n+1) nrem _ _ (fun r b st'=>b.1=none/\Ch a₀ κ kd lo st st'/\b.2.1+r=nrem/\b.2.2+1<=b.2.1/\NInc κ (arrOf st') lo (lo+b.2.1)/\(∀ k,lo+b.2.1-(b.2.2+1)<=k->k<lo+b.2.1->KK κ (arrOf st') k=KK κ (arrOf st') (lo+b.2.1-1))) _ ⟨rfl,.refl h,by dsimp only;omega,by dsimp only;omega,z,fun k k1 k2=>by
   dsimp only at k1 k2 ⊢
   rw[show k=lo+(n+1)-1 by omega]⟩ ?_ ?_)
 .rintro x r ⟨b0,m,e⟩ st' _ _ _ ⟨hb,ch,e1,e2,z,eq⟩
  simp only at hb e1 e2 z eq ⊢
  subst hb
  refine wpS_bind (ch.sb.lt c (by omega) (by omega) ?_)
  simp only
  cases hv:κ.blt (KK κ (arrOf st') (lo+m)) (KK κ (arrOf st') (lo+m-1))with
  |true=>
   simp only[if_true]
   have O:=z.snoc (by omega) (KeyOrd.kle_of_klt hv)
   split
   .refine wpS_bind (wp_rev (wpS_pure ?_))
    have J:=Ch.revEq (κ:=κ) (lo:=lo+nrem) ch.sb (i:=lo+m-(e+1)) (j:=lo+m) (by omega) eq
    exact⟨rfl,ch.trans ⟨J.sb,J.pend,fun k N=>J.pre k (by omega)⟩,by dsimp only;omega,by dsimp only;omega,O.congr fun k N=>J.pre k (by omega),fun k k1 k2=>by
     dsimp only at k1 k2 ⊢
     rw[show k=lo+(m+1)-1 by omega]⟩
   .exact wpS_pure ⟨rfl,ch,by dsimp only;omega,by dsimp only;omega,O,fun k k1 k2=>by
     dsimp only at k1 k2 ⊢
     rw[show k=lo+(m+1)-1 by omega]⟩
  |false=>
   simp only[Bool.false_eq_true,if_false]
   refine wpS_bind (ch.sb.lt c (by omega) (by omega) ?_)
   simp only
   cases hw:κ.blt (KK κ (arrOf st') (lo+m-1)) (KK κ (arrOf st') (lo+m))with
   |true=>exact wpS_pure (L m e st' ch (by omega) e2 z eq)
   |false=>
    have he:KK κ (arrOf st') (lo+m)=KK κ (arrOf st') (lo+m-1):=KeyOrd.kle_antisymm hw hv
    refine wpS_pure ⟨rfl,ch,by dsimp only;omega,by dsimp only;omega,z.snoc (by omega) hw,fun k k1 k2=>?_⟩
    dsimp only at k1 k2 ⊢
    rw[show lo+(m+1)-1=lo+m by omega]
    rcases Nat.lt_or_ge k (lo+m)with N|N
    .rw[eq k (by omega) N,he]
    .rw[show k=lo+m by omega]
 .rintro⟨b0,m,e⟩ st' ⟨hb,ch,e1,e2,z,eq⟩
  simp only at hb e1 e2 z eq ⊢
  subst hb
  exact L m e st' ch (by omega) e2 z eq
theorem wp_countRun {lo nrem:Nat}(c:CL (model prog w) A E s a₀ κ kd)(h:SB a₀ kd st)(h1:1<=nrem)(N:lo+nrem<=a₀.size){Q:Option Nat->SortSt->Prop}
  (q:∀ m st',Ch a₀ κ kd lo st st'->1<=m->m<=nrem->Seg κ (arrOf st') lo (lo+m)->Q (some m) st'):wpS (model prog w) A E s (countRun' lo nrem) Q st:=by
 rw[countRun_eq]
 have s1:Seg κ (arrOf st) lo (lo+1):=fun i j a b d=>by
  rw[show i=j by omega];exact KeyOrd.kle_refl _
 refine wpS_bind (wp_asc c h (Nat.le_refl _) h1 N s1 fun n U O G hd=>?_)
 simp only
 split
 .exact wpS_pure (q n st (.refl h) U O G)
 .rename_i z
  have z:n≠nrem:=by simpa using z
  have hd:κ.klt (KK κ (arrOf st) (lo+n)) (KK κ (arrOf st) (lo+n-1)):=hd.resolve_left z
  split
  .rename_i hgt
   refine wpS_bind (h.lt c (by omega) (by omega) ?_)
   simp only
   cases hv:κ.blt (KK κ (arrOf st) lo) (KK κ (arrOf st) (lo+n-1))with
   |true=>exact wpS_pure (q n st (.refl h) U O G)
   |false=>
    simp only[Bool.false_eq_true,if_false]
    have eq:∀ k,lo<=k->k<lo+n->KK κ (arrOf st) k=KK κ (arrOf st) (lo+n-1):=fun k k1 k2=>KeyOrd.kle_antisymm (G k _ k1 (by omega) (by omega)) (KeyOrd.kle_trans hv (G lo k (Nat.le_refl _) k1 k2))
    refine wpS_bind (wp_rev ?_)
    have J:=Ch.revEq (κ:=κ) (lo:=lo+nrem) h (i:=lo) (j:=lo+n) (by omega) eq
    have L:NInc κ (arrOf st) lo (lo+n):=fun i j a b d=>by rw[eq i a (by omega),eq j (by omega) d];exact KeyOrd.kle_refl _
    refine wp_descP c J.sb (by omega) N ((L.snoc (by omega) (KeyOrd.kle_of_klt hd)).congr fun k Y=>J.pre k (by omega)) fun m st' Z b1 b2 G=>q m st' (Ch.trans ⟨J.sb,J.pend,fun k Y=>J.pre k (by omega)⟩ Z) b1 b2 G
  .have:n=1:=by omega
   subst this
   have L:NInc κ (arrOf st) lo (lo+1):=fun i j a b d=>by rw[show i=j by omega];exact KeyOrd.kle_refl _
   exact wp_descP c h (by omega) N (L.snoc (by omega) (KeyOrd.kle_of_klt hd)) q
end
end TS
end
section
namespace TS
section
variable {prog:Program}{w:World}{A:Around}{E:Value->Shared->Prop}{s:Shared}{a₀:Array Keyed}{κ:PyProof.Rows.KeyKind}{kd:SortKind}{st:SortSt}
theorem wp_bin {lo n ok:Nat}(c:CL (model prog w) A E s a₀ κ kd)(h:SB a₀ kd st)(h1:1<=ok)(h2:ok<=n)(h3:lo+n<=a₀.size)(G:Seg κ (arrOf st) lo (lo+ok)){Q:Bool->SortSt->Prop}
  (q:∀ st',Ch a₀ κ kd lo st st'->Seg κ (arrOf st') lo (lo+n)->Q true st'):wpS (model prog w) A E s (binarySort' lo n ok) Q st:=by
 rw[binarySort'_eq]
 refine wpS_bind (wp_range (max ok 1) n _ _ (fun r b st'=>b.1=none/\Ch a₀ κ kd lo st st'/\Seg κ (arrOf st') lo (lo+(n-r))) _ ⟨rfl,.refl h,by rw[show n-(n-max ok 1)=ok by omega];exact G⟩ ?_ ?_)
 .rintro k r ⟨b0,b1⟩ st' k1 k2 k3 ⟨hb,ch,G⟩
  simp only at hb G ⊢
  subst hb
  rw[show n-(r+1)=k by omega]at G
  have O:∀ l,l<=k->(∀ i,i<l->κ.kle (KK κ (arrOf st') (lo+i)) (KK κ (arrOf st') (lo+k)))->(∀ i,l<=i->i<k->κ.kle (KK κ (arrOf st') (lo+k)) (KK κ (arrOf st') (lo+i)))->wpS (model prog w) A E s (do { moveDown' (lo+k) (lo+l);pure (ForInStep.yield ((none,()):Option Bool×Unit)) }) (fun q st'=>match q with | .done b'=>wpS (model prog w) A E s (match b'.1 with |some r=>pure r|none=>pure true) Q st'| .yield b'=>b'.1=none/\Ch a₀ κ kd lo st st'/\Seg κ (arrOf st') lo (lo+(n-r))) st':=by
   intro l hl a1 J
   rw[moveDown'_eq]
   refine wpS_bind (wpS_modify (wpS_pure ?_))
   have Z:lo+k<(arrOf st').size:=by rw[ch.sb.size];omega
   have U:=KK_bubble (κ:=κ) (xs:=arrOf st') (src:=lo+k) (d:=lo+k-(lo+l)) Z (by omega)
   refine⟨rfl,ch.trans ⟨ch.sb.set (bubble_perm ..),rfl,fun i hi=>?_⟩,?_⟩
   .show KK κ (bubble (arrOf st') (lo+k) (lo+k-(lo+l))) i=_
    rw[U,if_neg (by omega),if_neg (by omega)]
   .show Seg κ (bubble (arrOf st') (lo+k) (lo+k-(lo+l))) lo (lo+(n-r))
    rw[show n-r=k+1 by omega]
    have e:lo+k-(lo+k-(lo+l))=lo+l:=by omega
    rw[e]at U
    intro i j i1 i2 i3
    rw[U i,U j]
    by_cases hi:i=lo+l
    .subst hi
     rw[if_pos rfl]
     by_cases L:j=lo+l
     .rw[if_pos L];exact KeyOrd.kle_refl _
     .rw[if_neg L,if_pos ⟨by omega,by omega⟩]
      have:=J (j-1-lo) (by omega) (by omega)
      rwa [show lo+(j-1-lo)=j-1 by omega]at this
    .rw[if_neg hi]
     by_cases N:lo+l<i/\i<=lo+k
     .rw[if_pos N,if_neg (by omega),if_pos ⟨by omega,by omega⟩]
      exact G _ _ (by omega) (by omega) (by omega)
     .rw[if_neg N]
      by_cases L:j=lo+l
      .rw[if_pos L]
       have:=a1 (i-lo) (by omega)
       rwa [show lo+(i-lo)=i by omega]at this
      .rw[if_neg L]
       split
       .exact G _ _ (by omega) (by omega) (by omega)
       .exact G _ _ (by omega) (by omega) (by omega)
  refine wpS_bind (wp_range 0 k _ _ (fun Y b z=>z=st'/\b.1=none/\b.2.1<=b.2.2/\b.2.2<=k/\b.2.2-b.2.1<=Y/\(∀ i,i<b.2.1->κ.kle (KK κ (arrOf st') (lo+i)) (KK κ (arrOf st') (lo+k)))/\(∀ i,b.2.2<=i->i<k->κ.kle (KK κ (arrOf st') (lo+k)) (KK κ (arrOf st') (lo+i)))) _ ⟨rfl,rfl,by dsimp only;omega,by dsimp only;omega,by dsimp only;omega,fun i hi=>absurd hi (Nat.not_lt_zero _),fun i a b=>absurd b (by dsimp only at a;omega)⟩ ?_ ?_)
  .rintro x Y ⟨b0,lo',hi'⟩ z _ _ _ ⟨rfl,hb,e1,e2,e3,a1,J⟩
   simp only at hb e1 e2 e3 a1 J ⊢
   subst hb
   split
   .exact wpS_pure (O lo' (by omega) a1 fun i i1 i2=>J i (by omega) i2)
   .refine wpS_bind (ch.sb.lt c (by omega) (by omega) ?_)
    simp only
    cases hv:κ.blt (KK κ (arrOf z) (lo+k)) (KK κ (arrOf z) (lo+(lo'+hi') / 2))with
    |true=>exact wpS_pure ⟨rfl,rfl,by dsimp only;omega,by dsimp only;omega,by dsimp only;omega,a1,fun i i1 i2=>KeyOrd.kle_trans (KeyOrd.kle_of_klt hv) (G _ _ (by omega) (by dsimp only at i1;omega) (by omega))⟩
    |false=>exact wpS_pure ⟨rfl,rfl,by dsimp only;omega,by dsimp only;omega,by dsimp only;omega,fun i i1=>KeyOrd.kle_trans (G _ _ (by omega) (by dsimp only at i1;omega) (by omega)) hv,J⟩
  .rintro⟨b0,lo',hi'⟩ z ⟨rfl,hb,e1,e2,e3,a1,J⟩
   simp only at hb e1 e2 e3 a1 J ⊢
   subst hb
   exact O lo' (by omega) a1 fun i i1 i2=>J i (by omega) i2
 .rintro⟨b0,b1⟩ st' ⟨hb,ch,G⟩
  simp only at hb G ⊢
  subst hb
  exact wpS_pure (q st' ch G)
end
end TS
end
section
namespace TS
section
variable {prog:Program}{w:World}{A:Around}{E:Value->Shared->Prop}{s:Shared}{a₀:Array Keyed}{κ:PyProof.Rows.KeyKind}{kd:SortKind}{st:SortSt}
noncomputable def bey (left:Bool)(key:Keyed)(arr:Array Keyed)(base i:Nat):SM (Option Bool):=do
 let x ← elem' arr (base+i)
 if left=true then lt' x key else do
  let r ← lt' key x
  pure (Option.map (fun x=>!x) r)
noncomputable abbrev GalT:=Bool->Keyed->Array Keyed->Nat->Nat->Nat->SM (Option Nat)
noncomputable def GalSpec (g:GalT):Prop:=∀ left key arr base n hint,g left key arr base n hint=galM (bey left key arr base) n hint
theorem wp_galF {g:GalT}(N:GalSpec g)(c:CL (model prog w) A E s a₀ κ kd)(J:kindOf st=kd){key:Keyed}{arr:Array Keyed}{base n hint:Nat}(mk:key∈a₀.toList)(ma:∀ x,x∈arr.toList->x∈a₀.toList)(U:base+n<=arr.size)(G:Seg κ arr base (base+n))(hh:hint<n){Q:Option Nat->SortSt->Prop}
  (q:∀ k,k<=n->(∀ i,i<k->κ.kle (KK κ arr (base+i)) (ky κ key))->(∀ i,k<=i->i<n->κ.klt (ky κ key) (KK κ arr (base+i)))->Q (some k) st):wpS (model prog w) A E s (g false key arr base n hint) Q st:=by
 rw[N]
 refine wp_gal (B:=fun i=>!κ.blt (ky κ key) (KK κ arr (base+i))) (fun i hi Q q=>?_) (fun i j L O h=>?_) hh fun k ⟨k1,k2,k3⟩=>q k k1 (fun i hi=>by have:=k2 i hi;simpa[KeyOrd.kle]using this) fun i i1 i2=>by have:=k3 i i1 i2;simpa[KeyOrd.klt]using this
 .unfold bey
  have z:base+i<arr.size:=by omega
  refine wpS_bind (wp_elem z ?_)
  simp only[Bool.false_eq_true,if_false]
  refine wpS_bind (c _ _ mk (ma _ (by simp)) _ _ J ?_)
  rw[<-KK_ky (Array.getElem?_eq_getElem z)]
  exact wpS_pure q
 .simp only[Bool.not_eq_true']at h ⊢
  exact KeyOrd.kle_trans (G _ _ (by omega) (by omega) (by omega)) h
theorem wp_galT {g:GalT}(N:GalSpec g)(c:CL (model prog w) A E s a₀ κ kd)(J:kindOf st=kd){key:Keyed}{arr:Array Keyed}{base n hint:Nat}(mk:key∈a₀.toList)(ma:∀ x,x∈arr.toList->x∈a₀.toList)(U:base+n<=arr.size)(G:Seg κ arr base (base+n))(hh:hint<n){Q:Option Nat->SortSt->Prop}
  (q:∀ k,k<=n->(∀ i,i<k->κ.klt (KK κ arr (base+i)) (ky κ key))->(∀ i,k<=i->i<n->κ.kle (ky κ key) (KK κ arr (base+i)))->Q (some k) st):wpS (model prog w) A E s (g true key arr base n hint) Q st:=by
 rw[N]
 refine wp_gal (B:=fun i=>κ.blt (KK κ arr (base+i)) (ky κ key)) (fun i hi Q q=>?_) (fun i j L O h=>?_) hh fun k ⟨k1,k2,k3⟩=>q k k1 (fun i hi=>k2 i hi) fun i i1 i2=>k3 i i1 i2
 .unfold bey
  have z:base+i<arr.size:=by omega
  refine wpS_bind (wp_elem z ?_)
  simp only[if_true]
  refine c _ _ (ma _ (by simp)) mk _ _ J ?_
  rw[<-KK_ky (Array.getElem?_eq_getElem z)]
  exact q
 .exact KeyOrd.klt_of_kle_of_klt (G _ _ (by omega) (by omega) (by omega)) h
structure MS (R:Keyed->Keyed->Prop)(tot out la lb:List Keyed):Prop where
 perm:(out++la++lb).Perm tot
 so:out.Pairwise R
 oa:∀ x,x∈out->∀ y,y∈la->R x y
 ob:∀ x,x∈out->∀ y,y∈lb->R x y
variable {R:Keyed->Keyed->Prop}{tot out la lb u:List Keyed}
theorem MS.chA (h:MS R tot out (u++la) lb)(sa:(u++la).Pairwise R)(z:∀ x,x∈u->∀ y,y∈lb->R x y):MS R tot (out++u) la lb:=by
 have J:=List.pairwise_append.mp sa
 refine⟨?_,?_,?_,?_⟩
 .have:=h.perm;simpa using this
 .exact List.pairwise_append.mpr ⟨h.so,J.1,fun x z y G=>h.oa x z y (List.mem_append_left _ G)⟩
 .intro x z y G
  rcases List.mem_append.mp z with z|z
  .exact h.oa x z y (List.mem_append_right _ G)
  .exact J.2.2 x z y G
 .intro x j y G
  rcases List.mem_append.mp j with j|j
  .exact h.ob x j y G
  .exact z x j y G
theorem MS.chB (h:MS R tot out la (u++lb))(sb:(u++lb).Pairwise R)(z:∀ x,x∈u->∀ y,y∈la->R x y):MS R tot (out++u) la lb:=by
 have J:=List.pairwise_append.mp sb
 refine⟨?_,?_,?_,?_⟩
 .refine List.Perm.trans ?_ h.perm
  rw[List.append_assoc,List.append_assoc,List.append_assoc]
  refine List.Perm.append_left _ ?_
  rw[<-List.append_assoc,<-List.append_assoc]
  exact List.Perm.append_right _ List.perm_append_comm
 .exact List.pairwise_append.mpr ⟨h.so,J.1,fun x z y G=>h.ob x z y (List.mem_append_left _ G)⟩
 .intro x j y G
  rcases List.mem_append.mp j with j|j
  .exact h.oa x j y G
  .exact z x j y G
 .intro x z y G
  rcases List.mem_append.mp z with z|z
  .exact h.ob x z y (List.mem_append_right _ G)
  .exact J.2.2 x z y G
noncomputable def GoodM (R:Keyed->Keyed->Prop)(tot m:List Keyed):Prop:=m.Perm tot/\m.Pairwise R
theorem MS.finA (h:MS R tot out la [])(sa:la.Pairwise R):GoodM R tot (out++la):=⟨by simpa using h.perm,List.pairwise_append.mpr ⟨h.so,sa,h.oa⟩⟩
theorem MS.finB (h:MS R tot out [] lb)(sb:lb.Pairwise R):GoodM R tot (out++lb):=⟨by simpa using h.perm,List.pairwise_append.mpr ⟨h.so,sb,h.ob⟩⟩
theorem MS.finBA (h:MS R tot out la lb)(sa:la.Pairwise R)(sb:lb.Pairwise R)(G:∀ y,y∈lb->∀ x,x∈la->R y x):GoodM R tot (out++lb++la):=
 ⟨List.Perm.trans (by rw[List.append_assoc,List.append_assoc];exact List.Perm.append_left _ List.perm_append_comm) h.perm,List.pairwise_append.mpr ⟨List.pairwise_append.mpr ⟨h.so,sb,h.ob⟩,sa,fun x j y z=>by
  rcases List.mem_append.mp j with h'|h'
  .exact h.oa x h' y z
  .exact G x h' y z⟩⟩
noncomputable def Rk (κ:PyProof.Rows.KeyKind)(x y:Keyed):Prop:=κ.kle (ky κ x) (ky κ y)
theorem seg_pair {a:Array Keyed}(h:Seg κ a 0 a.size):a.toList.Pairwise (Rk κ):=by
 rw[List.pairwise_iff_getElem]
 intro i j hi z G
 have:=h i j (Nat.zero_le _) (by omega) (by simpa using z)
 rwa [KK_ky (Array.getElem?_eq_getElem (by simpa using hi)),KK_ky (Array.getElem?_eq_getElem (by simpa using z))]at this
theorem pair_seg {a:Array Keyed}(h:a.toList.Pairwise (Rk κ)):Seg κ a 0 a.size:=by
 rw[List.pairwise_iff_getElem]at h
 intro i j _ G z
 rcases Nat.lt_or_ge i j with h'|h'
 .have:=h i j (by simp;omega) (by simpa using z) h'
  rw[KK_ky (Array.getElem?_eq_getElem (by omega)),KK_ky (Array.getElem?_eq_getElem z)]
  exact this
 .rw[show i=j by omega];exact KeyOrd.kle_refl _
theorem drop_at {a:Array Keyed}{i:Nat}(h:i<a.size):a.toList.drop i=[a[i]]++a.toList.drop (i+1):=by
 rw[List.drop_eq_getElem_cons (by simpa using h)];simp
theorem drop_take {l:List Keyed}(i k:Nat):l.drop i=(l.drop i).take k++l.drop (i+k):=by
 rw[<-List.drop_drop,List.take_append_drop]
theorem ex_all {a:Array Keyed}(i:Nat):(a.extract i).toList=a.toList.drop i:=by
 simp[List.take_of_length_le]
theorem ex_some {a:Array Keyed}(i k:Nat):(a.extract i (i+k)).toList=(a.toList.drop i).take k:=by
 simp[Array.toList_extract,List.extract,List.take_drop]
theorem mem_chunk {a:Array Keyed}{i k:Nat}{x:Keyed}(h:x∈(a.toList.drop i).take k):∃ j,j<k/\i+j<a.size/\KK κ a (i+j)=ky κ x:=by
 obtain⟨j,z,e⟩:=List.getElem_of_mem h
 simp only[List.length_take,List.length_drop,Array.length_toList]at z
 refine⟨j,by omega,by omega,?_⟩
 rw[KK_ky (Array.getElem?_eq_getElem (by omega)),<-e]
 simp
theorem mem_dropA {a:Array Keyed}{i:Nat}{x:Keyed}(h:x∈a.toList.drop i):∃ j,i<=j/\j<a.size/\KK κ a j=ky κ x:=by
 obtain⟨j,z,e⟩:=List.getElem_of_mem h
 simp only[List.length_drop,Array.length_toList]at z
 refine⟨i+j,by omega,by omega,?_⟩
 rw[KK_ky (Array.getElem?_eq_getElem (by omega)),<-e]
 simp
end
end TS
end
section
namespace TS
section
variable {prog:Program}{w:World}{A:Around}{E:Value->Shared->Prop}{s:Shared}{a₀:Array Keyed}{κ:PyProof.Rows.KeyKind}{kd:SortKind}{st:SortSt}
noncomputable def wr (arr:Array Keyed)(sa:Nat)(m:Array Keyed):Array Keyed:=List.foldl (fun a x=>match x with | (p,j)=>a.setIfInBounds (sa+j) p) arr m.toList.zipIdx
noncomputable def mergeFin (sa:Nat)(m:Array Keyed):SM Bool:=do
 modify fun s=>setArr s (wr (arrOf s) sa m)
 let s ← get
 pure (failedOf s).isNone
noncomputable abbrev MrgT:=Array Keyed->Array Keyed->SM (Array Keyed)
noncomputable def mergeAtG (g:GalT)(mlo mhi:MrgT)(i:Nat):SM Bool:=do
 let s ← get
 match (pendingOf s)[i]?,(pendingOf s)[i+1]? with
 |some (sa,na,power),some (sb,nb,_)=>do
  set (setPending s (((pendingOf s).setIfInBounds i (sa,na+nb,power)).eraseIdxIfInBounds (i+1)))
  let x ← elem' (arrOf s) sb
  let r ← g false x (arrOf s) sa na 0
  match r with
  |some k=>
   if (na-k==0)=true then pure true
   else do
    let y ← elem' (arrOf s) (sa+k+(na-k)-1)
    let r ← g true y (arrOf s) sb nb (nb-1)
    match r with
    |some nb=>
     if (nb==0)=true then pure true
     else
      if na-k<=nb then do
       let m ← mlo ((arrOf s).extract (sa+k) sb) ((arrOf s).extract sb (sb+nb))
       mergeFin (sa+k) m
      else do
       let m ← mhi ((arrOf s).extract (sa+k) sb) ((arrOf s).extract sb (sb+nb))
       mergeFin (sa+k) m
    |_=>pure false
  |_=>pure false
 |_,_=>liftM (unsupported "internal:list.sort.pending")
structure St (st st':SortSt):Prop where
 arr:arrOf st'=arrOf st
 kind:kindOf st'=kindOf st
 pend:pendingOf st'=pendingOf st
 failed:failedOf st'=failedOf st
theorem St.refl (st:SortSt):St st st:=⟨rfl,rfl,rfl,rfl⟩
noncomputable def MrgSpec (mlo:MrgT):Prop:=∀(prog:Program)(w:World)(A:Around)(E:Value->Shared->Prop)(s:Shared)(a₀:Array Keyed)(κ:PyProof.Rows.KeyKind)(kd:SortKind)(c:CL (model prog w) A E s a₀ κ kd)(st:SortSt)(hk:kindOf st=kd)(a b:Array Keyed),(∀ x,x∈a.toList->x∈a₀.toList)->(∀ x,x∈b.toList->x∈a₀.toList)->Seg κ a 0 a.size->Seg κ b 0 b.size->0<a.size->0<b.size->κ.klt (KK κ b 0) (KK κ a 0)->κ.klt (KK κ b (b.size-1)) (KK κ a (a.size-1))->
 ∀ Q:Array Keyed->SortSt->Prop,(∀ m st',St st st'->GoodM (Rk κ) (a.toList++b.toList) m.toList->Q m st')->wpS (model prog w) A E s (mlo a b) Q st
theorem ms0 {R:Keyed->Keyed->Prop}{la lb:List Keyed}:MS R (la++lb) [] la lb:=⟨.refl _,.nil,fun x h=>absurd h (by simp),fun x h=>absurd h (by simp)⟩
theorem wp_ite {M:Model}{σ j:Type}{p:Prop}[Decidable p]{x y:StateT σ Sem j}{Q:j->σ->Prop}{st:σ}(h1:p->wpS M A E s x Q st)(h2:¬p->wpS M A E s y Q st):wpS M A E s (if p then x else y) Q st:=by
 split
 .exact h1 ‹_›
 .exact h2 ‹_›
noncomputable def Rr (κ:PyProof.Rows.KeyKind)(x y:Keyed):Prop:=Rk κ y x
theorem goodRev {tot m:List Keyed}(h:GoodM (Rr κ) tot m.reverse):GoodM (Rk κ) tot m:=⟨(List.reverse_perm m).symm.trans h.1,List.pairwise_reverse.mp h.2⟩
theorem MS.finAB {R:Keyed->Keyed->Prop}{tot out la lb:List Keyed}(h:MS R tot out la lb)(sa:la.Pairwise R)(sb:lb.Pairwise R)(j:∀ x,x∈la->∀ y,y∈lb->R x y):GoodM R tot (out++la++lb):=by
 have h':=MS.chA (u:=la) (la:=[]) (by simpa using h) (by simpa using sa) j
 exact h'.finB sb
theorem take_at {a:Array Keyed}{i:Nat}(h:i<a.size):(a.toList.take (i+1)).reverse=[a[i]]++(a.toList.take i).reverse:=by
 rw[List.take_succ_eq_append_getElem (by simpa using h)];simp
theorem take_ch {l:List Keyed}{i k:Nat}(h:i<=k):(l.take k).reverse=((l.drop i).take (k-i)).reverse++(l.take i).reverse:=by
 rw[<-List.reverse_append]
 congr 1
 rw[<-List.take_add];congr 1;omega
theorem ex_mid {a:Array Keyed}(i k:Nat):((a.extract i k).reverse).toList=((a.toList.drop i).take (k-i)).reverse:=by
 simp[Array.toList_extract,List.extract]
theorem mem_takeA {a:Array Keyed}{i:Nat}{x:Keyed}(h:x∈(a.toList.take i).reverse):∃ j,j<i/\j<a.size/\KK κ a j=ky κ x:=by
 obtain⟨j,z,e⟩:=List.getElem_of_mem (List.mem_reverse.mp h)
 simp only[List.length_take,Array.length_toList]at z
 refine⟨j,by omega,by omega,?_⟩
 rw[KK_ky (Array.getElem?_eq_getElem (by omega)),<-e]
 simp
theorem and3 {P Q R:Prop}(p:P)(q:P->Q)(r:P->R):P/\Q/\R:=⟨p,q p,r p⟩
theorem parts:∃(g:GalT)(aa ab:MrgT),(∀ i,mergeAt' i=mergeAtG g aa ab i)/\GalSpec g/\MrgSpec aa/\MrgSpec ab:=by
 refine⟨?g,?lo,?hi,fun i=>?d,and3 ?a ?b ?c⟩
 case d=>
  unfold mergeAtG
  refine congr (congrArg Bind.bind ?_) (funext fun s=>?_)
  .rfl
  .show _=match (pendingOf s)[i]?,(pendingOf s)[i+1]? with |some (sa,na,ad),some (sb,nb,_)=>_|_,_=>_
   generalize af:(pendingOf s)[i]? =p1
   generalize ae:(pendingOf s)[i+1]? =p2
   rcases p1 with _|⟨sa,na,pw⟩
   .rcases p2 with _|⟨sb,nb,_⟩ <;> rfl
   .rcases p2 with _|⟨sb,nb,_⟩
    .rfl
    .refine congr (congrArg Bind.bind ?_) (funext fun _=>?_)
     .rfl
     .refine congr (congrArg Bind.bind ?_) (funext fun x=>?_)
      .rfl
      .refine congr (congrArg Bind.bind ?_) (funext fun r=>?_)
       .exact rfl
       .cases r with
        |none=>rfl
        |some k=>
         show ite _ _ _=ite _ _ _
         refine congrArg (ite _ _) ?_
         refine congr (congrArg Bind.bind ?_) (funext fun y=>?_)
         .rfl
         .refine congr (congrArg Bind.bind ?_) (funext fun r=>?_)
          .exact rfl
          .cases r with
           |none=>rfl
           |some m=>
            show ite _ _ _=ite _ _ _
            refine congrArg (ite _ _) ?_
            show ite _ _ _=ite _ _ _
            refine congr (congrArg (ite _) ?_) ?_
            .refine congr (congrArg Bind.bind ?_) (funext fun y=>?_)
             .exact rfl
             .rfl
            .refine congr (congrArg Bind.bind ?_) (funext fun y=>?_)
             .exact rfl
             .rfl
 case a=>
  intro left key arr base n hint
  unfold galM
  refine congr (congrArg Bind.bind ?_) (funext fun r=>?_)
  .rfl
  .cases r with
   |none=>rfl
   |some right=>
    show ite _ _ _=ite _ _ _
    refine congr (congrArg (ite _) ?_) ?_
    .refine congr (congrArg Bind.bind ?_) (funext fun r=>?_)
     .rfl
     .obtain⟨r1,r2,r3⟩:=r
      cases r1 with
      |some r=>rfl
      |none=>
       unfold bisM
       refine congr (congrArg Bind.bind ?_) (funext fun r=>?_)
       .rfl
       .obtain⟨r1,r2,r3⟩:=r
        cases r1 <;> rfl
    .refine congr (congrArg Bind.bind ?_) (funext fun r=>?_)
     .rfl
     .obtain⟨r1,r2,r3⟩:=r
      cases r1 with
      |some r=>rfl
      |none=>
       unfold bisM
       refine congr (congrArg Bind.bind ?_) (funext fun r=>?_)
       .rfl
       .obtain⟨r1,r2,r3⟩:=r
        cases r1 <;> rfl
 case b=>
  intro hg prog w A E s a₀ κ kd c st hk a b ha hb sa sb a1 b1 h0 h9 Q q
  have pa:=seg_pair sa
  have pb:=seg_pair sb
  have a4:∀ i,(a.toList.drop i).Pairwise (Rk κ):=fun i=>pa.sublist (List.drop_sublist i _)
  have a3:∀ i,(b.toList.drop i).Pairwise (Rk κ):=fun i=>pb.sublist (List.drop_sublist i _)
  have a5:∀ out G z,MS (Rk κ) (a.toList++b.toList) out.toList (a.toList.drop G) (b.toList.drop z)->z=b.size->GoodM (Rk κ) (a.toList++b.toList) (out++a.extract G++b.extract z).toList:=fun out G z j e=>by
   rw[e,show b.toList.drop b.size=[]by simp]at j
   rw[Array.toList_append,Array.toList_append,ex_all,ex_all,e,show b.toList.drop b.size=[]by simp,List.append_nil]
   exact j.finA (a4 _)
  have a6:∀ out G z,MS (Rk κ) (a.toList++b.toList) out.toList (a.toList.drop G) (b.toList.drop z)->G=a.size->GoodM (Rk κ) (a.toList++b.toList) (out++a.extract G++b.extract z).toList:=fun out G z j e=>by
   rw[e,show a.toList.drop a.size=[]by simp]at j
   rw[Array.toList_append,Array.toList_append,ex_all,ex_all,e,show a.toList.drop a.size=[]by simp,List.append_nil]
   exact j.finB (a3 _)
  have lst:∀ out G z,MS (Rk κ) (a.toList++b.toList) out.toList (a.toList.drop G) (b.toList.drop z)->G+1=a.size->GoodM (Rk κ) (a.toList++b.toList) (out++b.extract z++a.extract G).toList:=fun out G z j e=>by
   rw[Array.toList_append,Array.toList_append,ex_all,ex_all]
   refine j.finBA (a4 _) (a3 _) fun y hy x hx=>?_
   obtain⟨i,i1,i2,e1⟩:=mem_dropA (κ:=κ) hy
   obtain⟨k,k1,k2,Z⟩:=mem_dropA (κ:=κ) hx
   show κ.kle _ _
   rw[<-e1,<-Z,show k=a.size-1 by omega]
   exact KeyOrd.kle_trans (sb _ _ (Nat.zero_le _) (by omega) (by omega)) (KeyOrd.kle_of_klt h9)
  have a0:∀(out:Array Keyed) G z (h:z<b.size),MS (Rk κ) (a.toList++b.toList) out.toList (a.toList.drop G) (b.toList.drop z)->(∀ i,G<=i->i<a.size->κ.klt (ky κ b[z]) (KK κ a i))->MS (Rk κ) (a.toList++b.toList) (out.push b[z]).toList (a.toList.drop G) (b.toList.drop (z+1)):=fun out G z h j f=>by
   rw[drop_at h]at j
   rw[Array.toList_push]
   refine j.chB (by rw[<-drop_at h];exact a3 _) fun x hx y hy=>?_
   rw[List.mem_singleton.mp hx]
   obtain⟨k,k1,k2,Z⟩:=mem_dropA (κ:=κ) hy
   show κ.kle _ _
   rw[<-Z];exact KeyOrd.kle_of_klt (f k k1 k2)
  have N:∀(out:Array Keyed) G z (h:G<a.size),MS (Rk κ) (a.toList++b.toList) out.toList (a.toList.drop G) (b.toList.drop z)->(∀ i,z<=i->i<b.size->κ.kle (ky κ a[G]) (KK κ b i))->MS (Rk κ) (a.toList++b.toList) (out.push a[G]).toList (a.toList.drop (G+1)) (b.toList.drop z):=fun out G z h j f=>by
   rw[drop_at h]at j
   rw[Array.toList_push]
   refine j.chA (by rw[<-drop_at h];exact a4 _) fun x hx y hy=>?_
   rw[List.mem_singleton.mp hx]
   obtain⟨k,k1,k2,Z⟩:=mem_dropA (κ:=κ) hy
   show κ.kle _ _
   rw[<-Z];exact f k k1 k2
  have chA:∀(out:Array Keyed) G z k (h:z<b.size),MS (Rk κ) (a.toList++b.toList) out.toList (a.toList.drop G) (b.toList.drop z)->(∀ i,i<k->κ.kle (KK κ a (G+i)) (ky κ b[z]))->MS (Rk κ) (a.toList++b.toList) (out++a.extract G (G+k)).toList (a.toList.drop (G+k)) (b.toList.drop z):=fun out G z k h j f=>by
   rw[drop_take (l:=a.toList) G k]at j
   rw[Array.toList_append,ex_some]
   refine j.chA (by rw[<-drop_take];exact a4 _) fun x hx y hy=>?_
   obtain⟨i,i1,i2,e1⟩:=mem_chunk (κ:=κ) hx
   obtain⟨m,m1,m2,Z⟩:=mem_dropA (κ:=κ) hy
   show κ.kle _ _
   rw[<-e1,<-Z]
   refine KeyOrd.kle_trans (f i i1) ?_
   rw[<-KK_ky (Array.getElem?_eq_getElem h)]
   exact sb _ _ (Nat.zero_le _) m1 m2
  have chB:∀(out:Array Keyed) G z k (h:G<a.size),MS (Rk κ) (a.toList++b.toList) out.toList (a.toList.drop G) (b.toList.drop z)->(∀ i,i<k->κ.klt (KK κ b (z+i)) (ky κ a[G]))->MS (Rk κ) (a.toList++b.toList) (out++b.extract z (z+k)).toList (a.toList.drop G) (b.toList.drop (z+k)):=fun out G z k h j f=>by
   rw[drop_take (l:=b.toList) z k]at j
   rw[Array.toList_append,ex_some]
   refine j.chB (by rw[<-drop_take];exact a3 _) fun x hx y hy=>?_
   obtain⟨i,i1,i2,e1⟩:=mem_chunk (κ:=κ) hx
   obtain⟨m,m1,m2,Z⟩:=mem_dropA (κ:=κ) hy
   show κ.kle _ _
   rw[<-e1,<-Z]
   refine KeyOrd.kle_trans (KeyOrd.kle_of_klt (f i i1)) ?_
   rw[<-KK_ky (Array.getElem?_eq_getElem h)]
   exact sa _ _ (Nat.zero_le _) m1 m2
  have j0:MS (Rk κ) (a.toList++b.toList) (#[b[0]]:Array Keyed).toList (a.toList.drop 0) (b.toList.drop 1):=by
   have:=a0 #[] 0 0 b1 (by simpa using ms0) fun i _ h=>by
    rw[<-KK_ky (Array.getElem?_eq_getElem b1)]
    exact KeyOrd.klt_of_klt_of_kle h0 (sa _ _ (Nat.zero_le _) (Nat.zero_le _) h)
   simpa using this
  refine wpS_bind (wpS_lift (wpAny_rule ⟨rfl,?_⟩))
  refine wpS_bind (wp_elem b1 ?_)
  refine wp_ite (fun e=>wpS_pure (q _ _ (.refl _) (a5 _ _ _ j0 (by simpa using e)))) fun e1=>?_
  refine wp_ite (fun e=>wpS_pure (q _ _ (.refl _) (lst _ _ _ j0 (by simpa using e)))) fun Z=>?_
  have e1:1≠b.size:=by simpa using e1
  have Z:0+1≠a.size:=by simpa using Z
  refine wpS_bind (wpS_get ?_)
  refine wpS_bind (wp_range 0 (a.size+b.size) _ _ (fun r t st'=>t.1=none/\St st st'/\MS (Rk κ) (a.toList++b.toList) t.2.1.toList (a.toList.drop t.2.2.1) (b.toList.drop t.2.2.2.1)/\t.2.2.1+1<a.size/\t.2.2.2.1<b.size/\a.size+b.size<=t.2.2.1+t.2.2.2.1+r) _ ⟨rfl,.refl _,j0,by dsimp only;omega,by dsimp only;omega,by dsimp only;omega⟩ ?_ ?_)
  .rintro _ r ⟨o,out0,ia0,ib0,mg⟩ st1 _ _ _ ⟨J,ss1,j1,l1,l2,l3⟩
   simp only at J j1 l1 l2 l3
   subst J
   refine wpS_bind (wpS_mono (Q:=fun t st'=>St st st'/\((∃ m,t.1=some m/\GoodM (Rk κ) (a.toList++b.toList) m.toList)\/(t.1=none/\MS (Rk κ) (a.toList++b.toList) t.2.1.toList (a.toList.drop t.2.2.1) (b.toList.drop t.2.2.2.1)/\t.2.2.1+1<a.size/\t.2.2.2.1<b.size/\ia0+ib0+1<=t.2.2.1+t.2.2.2.1))) (wp_range 0 (a.size+b.size) _ _ (fun r t st'=>t.1=none/\St st st'/\MS (Rk κ) (a.toList++b.toList) t.2.1.toList (a.toList.drop t.2.2.1) (b.toList.drop t.2.2.2.1)/\t.2.2.1+1<a.size/\t.2.2.2.1<b.size/\ia0+ib0+(a.size+b.size)<=t.2.2.1+t.2.2.2.1+r/\ia0+ib0<=t.2.2.1+t.2.2.2.1) _ ⟨rfl,ss1,j1,l1,l2,by dsimp only;omega,by dsimp only;omega⟩ ?_ ?_) ?_)
   .rintro _ r ⟨o,out,G,z,ac,bc⟩ st2 _ _ _ ⟨J,ss,j,l1,l2,l3,l4⟩
    simp only at J j l1 l2 l3 l4
    subst J
    have a8:G<a.size:=by omega
    refine wpS_bind (wp_elem l2 ?_)
    refine wpS_bind (wp_elem a8 ?_)
    refine wpS_bind (c _ _ (hb _ (by simp)) (ha _ (by simp)) _ _ (ss.kind.trans hk) ?_)
    cases hv:κ.blt (ky κ b[z]) (ky κ a[G])with
    |true=>
     refine wpS_bind (wp_elem l2 ?_)
     have j':=a0 out G z l2 j fun i i1 i2=>KeyOrd.klt_of_klt_of_kle hv (by
      rw[<-KK_ky (Array.getElem?_eq_getElem a8)]
      exact sa _ _ (Nat.zero_le _) i1 i2)
     refine wp_ite (fun e=>wpS_pure ⟨ss,.inl ⟨_,rfl,a5 _ _ _ j' (by simpa using e)⟩⟩) fun e=>?_
     have e:z+1≠b.size:=by simpa using e
     refine wp_ite (fun _=>wpS_pure ⟨ss,.inr ⟨rfl,j',l1,by dsimp only;omega,by dsimp only;omega⟩⟩) fun _=>wpS_pure ⟨rfl,ss,j',l1,by dsimp only;omega,by dsimp only;omega,by dsimp only;omega⟩
    |false=>
     refine wpS_bind (wp_elem a8 ?_)
     have j':=N out G z a8 j fun i i1 i2=>KeyOrd.kle_trans hv (by
      rw[<-KK_ky (Array.getElem?_eq_getElem l2)]
      exact sb _ _ (Nat.zero_le _) i1 i2)
     refine wp_ite (fun e=>wpS_pure ⟨ss,.inl ⟨_,rfl,lst _ _ _ j' (by simpa using e)⟩⟩) fun e=>?_
     have e:G+1+1≠a.size:=by simpa using e
     refine wp_ite (fun _=>wpS_pure ⟨ss,.inr ⟨rfl,j',by dsimp only;omega,l2,by dsimp only;omega⟩⟩) fun _=>wpS_pure ⟨rfl,ss,j',by dsimp only;omega,l2,by dsimp only;omega,by dsimp only;omega⟩
   .rintro⟨o,out,G,z,ac,bc⟩ st2 ⟨J,ss,j,l1,l2,l3,l4⟩
    exact⟨ss,.inr ⟨J,j,l1,l2,by dsimp only at l3 ⊢;omega⟩⟩
   .rintro⟨o,out1,ia1,ib1,ac,bc⟩ st2 ⟨ss2,hh⟩
    rcases hh with⟨m,J,gm⟩|⟨J,j2,l5,l6,l7⟩
    .simp only at J;subst J
     exact wpS_pure (wpS_pure (q _ _ ss2 gm))
    .simp only at J j2 l5 l6 l7;subst J
     refine wpS_bind (wpS_lift (wpAny_rule ⟨rfl,?_⟩))
     refine wpS_bind (wpS_mono (Q:=fun t st'=>St st st'/\((∃ m,t.1=some m/\GoodM (Rk κ) (a.toList++b.toList) m.toList)\/(t.1=none/\MS (Rk κ) (a.toList++b.toList) t.2.1.toList (a.toList.drop t.2.2.1) (b.toList.drop t.2.2.2.1)/\t.2.2.1+1<a.size/\t.2.2.2.1<b.size/\ia0+ib0+1<=t.2.2.1+t.2.2.2.1))) (wp_range 0 (a.size+b.size) _ _ (fun r t st'=>t.1=none/\St st st'/\MS (Rk κ) (a.toList++b.toList) t.2.1.toList (a.toList.drop t.2.2.1) (b.toList.drop t.2.2.2.1)/\t.2.2.1+1<a.size/\t.2.2.2.1<b.size/\ia0+ib0+1<=t.2.2.1+t.2.2.2.1) _ ⟨rfl,ss2,j2,l5,l6,l7⟩ ?_ ?_) ?_)
     .rintro _ r ⟨o,out,G,z,mg,ac,bc⟩ st3 _ _ _ ⟨J,ss,j,l1,l2,l4⟩
      simp only at J j l1 l2 l4
      subst J
      refine wp_ite (fun _=>?_) (fun _=>?_)
      all_goals
       refine wpS_bind (wpS_modify ?_)
       refine wpS_bind (wp_elem l2 ?_)
       refine wpS_bind (wp_galF (base:=G) (n:=a.size-G) (hint:=0) hg c (by exact ss.kind.trans hk) (hb _ (Array.getElem_mem_toList l2)) ha (by omega) (fun i j i1 i2 i3=>sa i j (Nat.zero_le _) i2 (by omega)) (by omega) fun k k1 k2 k3=>?_)
       have jA:=chA _ _ _ k l2 j k2
       refine wp_ite (fun hp=>?_) (fun hn=>?_)
       .refine wp_ite (fun e=>wpS_pure ⟨⟨ss.arr,ss.kind,ss.pend,ss.failed⟩,.inl ⟨_,rfl,lst _ _ _ jA (by simpa using e)⟩⟩) fun e1=>?_
        refine wp_ite (fun e=>wpS_pure ⟨⟨ss.arr,ss.kind,ss.pend,ss.failed⟩,.inl ⟨_,rfl,a6 _ _ _ jA (by simpa using e)⟩⟩) fun Z=>?_
        have e1:G+k+1≠a.size:=by simpa using e1
        have Z:G+k≠a.size:=by simpa using Z
        have L:G+k<a.size:=by omega
        have jx:=jA
        have fx:=fun i (i1:G+k<=i) (i2:i<a.size)=>by
         have:=k3 (i-G) (by omega) (by omega)
         rwa [show G+(i-G)=i by omega]at this
        refine wpS_bind (wp_elem l2 ?_)
        have jy:=a0 _ _ _ l2 jx fx
        refine wp_ite (fun e=>wpS_pure ⟨⟨ss.arr,ss.kind,ss.pend,ss.failed⟩,.inl ⟨_,rfl,a5 _ _ _ jy (by simpa using e)⟩⟩) fun e=>?_
        have e:z+1≠b.size:=by simpa using e
        refine wpS_bind (wp_elem L ?_)
        refine wpS_bind (wp_galT (base:=z+1) (n:=b.size-(z+1)) (hint:=0) hg c (by exact ss.kind.trans hk) (ha _ (Array.getElem_mem_toList L)) hb (by omega) (fun i j i1 i2 i3=>sb i j (Nat.zero_le _) i2 (by omega)) (by omega) fun k' m1 m2 m3=>?_)
        have jB:=chB _ _ _ k' L jy m2
        refine wp_ite (fun hp=>?_) (fun hn=>?_)
        .refine wp_ite (fun e=>wpS_pure ⟨⟨ss.arr,ss.kind,ss.pend,ss.failed⟩,.inl ⟨_,rfl,a5 _ _ _ jB (by simpa using e)⟩⟩) fun e=>?_
         have e:z+1+k'≠b.size:=by simpa using e
         have jz:=jB
         have fz:=fun i (i1:z+1+k'<=i) (i2:i<b.size)=>by
          have:=m3 (i-(z+1)) (by omega) (by omega)
          rwa [show z+1+(i-(z+1))=i by omega]at this
         refine wpS_bind (wp_elem L ?_)
         have U:=N _ _ _ L jz fz
         refine wp_ite (fun e=>wpS_pure ⟨⟨ss.arr,ss.kind,ss.pend,ss.failed⟩,.inl ⟨_,rfl,lst _ _ _ U (by simpa using e)⟩⟩) fun e=>?_
         have e:¬ (_:Nat)=a.size:=fun h=>e (beq_iff_eq.mpr h)
         try dsimp only at e
         refine wp_ite (fun _=>wpS_pure ⟨⟨ss.arr,ss.kind,ss.pend,ss.failed⟩,.inr ⟨rfl,U,by dsimp only;omega,by dsimp only;omega,by dsimp only;omega⟩⟩) fun _=>wpS_pure ⟨rfl,⟨ss.arr,ss.kind,ss.pend,ss.failed⟩,U,by dsimp only;omega,by dsimp only;omega,by dsimp only;omega⟩
        .have jz:=jy
         have fz:=fun i (i1:z+1<=i) (i2:i<b.size)=>by
          have:=m3 (i-(z+1)) (by omega) (by omega)
          rwa [show z+1+(i-(z+1))=i by omega]at this
         refine wpS_bind (wp_elem L ?_)
         have U:=N _ _ _ L jz fz
         refine wp_ite (fun e=>wpS_pure ⟨⟨ss.arr,ss.kind,ss.pend,ss.failed⟩,.inl ⟨_,rfl,lst _ _ _ U (by simpa using e)⟩⟩) fun e=>?_
         have e:¬ (_:Nat)=a.size:=fun h=>e (beq_iff_eq.mpr h)
         try dsimp only at e
         refine wp_ite (fun _=>wpS_pure ⟨⟨ss.arr,ss.kind,ss.pend,ss.failed⟩,.inr ⟨rfl,U,by dsimp only;omega,by dsimp only;omega,by dsimp only;omega⟩⟩) fun _=>wpS_pure ⟨rfl,⟨ss.arr,ss.kind,ss.pend,ss.failed⟩,U,by dsimp only;omega,by dsimp only;omega,by dsimp only;omega⟩
       .have L:G<a.size:=by omega
        have jx:=j
        have fx:=fun i (i1:G<=i) (i2:i<a.size)=>by
         have:=k3 (i-G) (by omega) (by omega)
         rwa [show G+(i-G)=i by omega]at this
        refine wpS_bind (wp_elem l2 ?_)
        have jy:=a0 _ _ _ l2 jx fx
        refine wp_ite (fun e=>wpS_pure ⟨⟨ss.arr,ss.kind,ss.pend,ss.failed⟩,.inl ⟨_,rfl,a5 _ _ _ jy (by simpa using e)⟩⟩) fun e=>?_
        have e:z+1≠b.size:=by simpa using e
        refine wpS_bind (wp_elem L ?_)
        refine wpS_bind (wp_galT (base:=z+1) (n:=b.size-(z+1)) (hint:=0) hg c (by exact ss.kind.trans hk) (ha _ (Array.getElem_mem_toList L)) hb (by omega) (fun i j i1 i2 i3=>sb i j (Nat.zero_le _) i2 (by omega)) (by omega) fun k' m1 m2 m3=>?_)
        have jB:=chB _ _ _ k' L jy m2
        refine wp_ite (fun hp=>?_) (fun hn=>?_)
        .refine wp_ite (fun e=>wpS_pure ⟨⟨ss.arr,ss.kind,ss.pend,ss.failed⟩,.inl ⟨_,rfl,a5 _ _ _ jB (by simpa using e)⟩⟩) fun e=>?_
         have e:z+1+k'≠b.size:=by simpa using e
         have jz:=jB
         have fz:=fun i (i1:z+1+k'<=i) (i2:i<b.size)=>by
          have:=m3 (i-(z+1)) (by omega) (by omega)
          rwa [show z+1+(i-(z+1))=i by omega]at this
         refine wpS_bind (wp_elem L ?_)
         have U:=N _ _ _ L jz fz
         refine wp_ite (fun e=>wpS_pure ⟨⟨ss.arr,ss.kind,ss.pend,ss.failed⟩,.inl ⟨_,rfl,lst _ _ _ U (by simpa using e)⟩⟩) fun e=>?_
         have e:¬ (_:Nat)=a.size:=fun h=>e (beq_iff_eq.mpr h)
         try dsimp only at e
         refine wp_ite (fun _=>wpS_pure ⟨⟨ss.arr,ss.kind,ss.pend,ss.failed⟩,.inr ⟨rfl,U,by dsimp only;omega,by dsimp only;omega,by dsimp only;omega⟩⟩) fun _=>wpS_pure ⟨rfl,⟨ss.arr,ss.kind,ss.pend,ss.failed⟩,U,by dsimp only;omega,by dsimp only;omega,by dsimp only;omega⟩
        .have jz:=jy
         have fz:=fun i (i1:z+1<=i) (i2:i<b.size)=>by
          have:=m3 (i-(z+1)) (by omega) (by omega)
          rwa [show z+1+(i-(z+1))=i by omega]at this
         refine wpS_bind (wp_elem L ?_)
         have U:=N _ _ _ L jz fz
         refine wp_ite (fun e=>wpS_pure ⟨⟨ss.arr,ss.kind,ss.pend,ss.failed⟩,.inl ⟨_,rfl,lst _ _ _ U (by simpa using e)⟩⟩) fun e=>?_
         have e:¬ (_:Nat)=a.size:=fun h=>e (beq_iff_eq.mpr h)
         try dsimp only at e
         refine wp_ite (fun _=>wpS_pure ⟨⟨ss.arr,ss.kind,ss.pend,ss.failed⟩,.inr ⟨rfl,U,by dsimp only;omega,by dsimp only;omega,by dsimp only;omega⟩⟩) fun _=>wpS_pure ⟨rfl,⟨ss.arr,ss.kind,ss.pend,ss.failed⟩,U,by dsimp only;omega,by dsimp only;omega,by dsimp only;omega⟩
     .rintro⟨o,out,G,z,mg,ac,bc⟩ st3 ⟨J,ss,j,l1,l2,l4⟩
      exact⟨ss,.inr ⟨J,j,l1,l2,l4⟩⟩
     .rintro⟨o,out,G,z,mg,ac,bc⟩ st3 ⟨ss,hh⟩
      rcases hh with⟨m,J,gm⟩|⟨J,j,l8,l9,a9⟩
      .simp only at J;subst J
       exact wpS_pure (wpS_pure (q _ _ ss gm))
      .simp only at J j l8 l9 a9;subst J
       refine wpS_bind (wpS_modify (wpS_pure ⟨rfl,⟨ss.arr,ss.kind,ss.pend,ss.failed⟩,j,l8,l9,by dsimp only;omega⟩))
  .rintro⟨o,out,G,z,mg⟩ st' ⟨J,ss,j,l1,l2,l3⟩
   simp only at l1 l2 l3
   omega
 case c=>
  intro hg prog w A E s a₀ κ kd c st hk a b ha hb sa sb a1 b1 h0 h9 Q q
  have pa:=seg_pair sa
  have pb:=seg_pair sb
  have a4:∀ i,((a.toList.take i).reverse).Pairwise (Rr κ):=fun i=>List.pairwise_reverse.mpr (pa.sublist (List.take_sublist i _))
  have a3:∀ i,((b.toList.take i).reverse).Pairwise (Rr κ):=fun i=>List.pairwise_reverse.mpr (pb.sublist (List.take_sublist i _))
  have a6:∀(out:Array Keyed) na nb,MS (Rr κ) (a.toList++b.toList) out.toList (a.toList.take na).reverse (b.toList.take nb).reverse->na=0->GoodM (Rk κ) (a.toList++b.toList) (a.extract 0 na++b.extract 0 nb++out.reverse).toList:=fun out na nb j e=>goodRev (by
   subst e
   have:=j.finB (by simpa using a3 nb)
   simpa using this)
  have a5:∀(out:Array Keyed) na nb,MS (Rr κ) (a.toList++b.toList) out.toList (a.toList.take na).reverse (b.toList.take nb).reverse->nb=0->GoodM (Rk κ) (a.toList++b.toList) (a.extract 0 na++b.extract 0 nb++out.reverse).toList:=fun out na nb j e=>goodRev (by
   subst e
   have:=MS.finA (by simpa using j) (a4 na)
   simpa using this)
  have lst:∀(out:Array Keyed) na nb,MS (Rr κ) (a.toList++b.toList) out.toList (a.toList.take na).reverse (b.toList.take nb).reverse->nb=1->GoodM (Rk κ) (a.toList++b.toList) (b.extract 0 nb++a.extract 0 na++out.reverse).toList:=fun out na nb j e=>goodRev (by
   subst e
   have:=j.finAB (a4 na) (a3 1) fun x hx y hy=>by
    obtain⟨i,i1,i2,e1⟩:=mem_takeA (κ:=κ) hx
    obtain⟨m,m1,m2,Z⟩:=mem_takeA (κ:=κ) hy
    show κ.kle _ _
    rw[<-e1,<-Z,show m=0 by omega]
    exact KeyOrd.kle_trans (KeyOrd.kle_of_klt h0) (sa _ _ (Nat.zero_le _) (Nat.zero_le _) i2)
   simpa using this)
  have N:∀(out:Array Keyed) na nb (h:na<a.size),MS (Rr κ) (a.toList++b.toList) out.toList (a.toList.take (na+1)).reverse (b.toList.take nb).reverse->(∀ i,i<nb->i<b.size->κ.kle (KK κ b i) (ky κ a[na]))->MS (Rr κ) (a.toList++b.toList) (out.push a[na]).toList (a.toList.take na).reverse (b.toList.take nb).reverse:=fun out na nb h j f=>by
   rw[take_at h]at j
   rw[Array.toList_push]
   refine j.chA (by rw[<-take_at h];exact a4 _) fun x hx y hy=>?_
   rw[List.mem_singleton.mp hx]
   obtain⟨k,k1,k2,Z⟩:=mem_takeA (κ:=κ) hy
   show κ.kle _ _
   rw[<-Z];exact f k k1 k2
  have a0:∀(out:Array Keyed) na nb (h:nb<b.size),MS (Rr κ) (a.toList++b.toList) out.toList (a.toList.take na).reverse (b.toList.take (nb+1)).reverse->(∀ i,i<na->i<a.size->κ.kle (KK κ a i) (ky κ b[nb]))->MS (Rr κ) (a.toList++b.toList) (out.push b[nb]).toList (a.toList.take na).reverse (b.toList.take nb).reverse:=fun out na nb h j f=>by
   rw[take_at h]at j
   rw[Array.toList_push]
   refine j.chB (by rw[<-take_at h];exact a3 _) fun x hx y hy=>?_
   rw[List.mem_singleton.mp hx]
   obtain⟨k,k1,k2,Z⟩:=mem_takeA (κ:=κ) hy
   show κ.kle _ _
   rw[<-Z];exact f k k1 k2
  have chA:∀(out:Array Keyed) na nb k (hk:k<=na) (h:nb-1<b.size) (h':na<=a.size),MS (Rr κ) (a.toList++b.toList) out.toList (a.toList.take na).reverse (b.toList.take nb).reverse->(∀ i,k<=i->i<na->κ.klt (ky κ b[nb-1]) (KK κ a i))->MS (Rr κ) (a.toList++b.toList) (out++(a.extract k na).reverse).toList (a.toList.take k).reverse (b.toList.take nb).reverse:=fun out na nb k hk h h' j f=>by
   rw[take_ch (l:=a.toList) hk]at j
   rw[Array.toList_append,ex_mid]
   refine j.chA (by rw[<-take_ch hk];exact a4 _) fun x hx y hy=>?_
   obtain⟨i,i1,i2,e1⟩:=mem_chunk (κ:=κ) (List.mem_reverse.mp hx)
   obtain⟨m,m1,m2,Z⟩:=mem_takeA (κ:=κ) hy
   show κ.kle _ _
   rw[<-e1,<-Z]
   refine KeyOrd.kle_trans ?_ (KeyOrd.kle_of_klt (f (k+i) (by omega) (by omega)))
   rw[<-KK_ky (Array.getElem?_eq_getElem h)]
   exact sb _ _ (Nat.zero_le _) (by omega) h
  have chB:∀(out:Array Keyed) na nb k (hk:k<=nb) (h:na-1<a.size) (h':nb<=b.size),MS (Rr κ) (a.toList++b.toList) out.toList (a.toList.take na).reverse (b.toList.take nb).reverse->(∀ i,k<=i->i<nb->κ.kle (ky κ a[na-1]) (KK κ b i))->MS (Rr κ) (a.toList++b.toList) (out++(b.extract k nb).reverse).toList (a.toList.take na).reverse (b.toList.take k).reverse:=fun out na nb k hk h h' j f=>by
   rw[take_ch (l:=b.toList) hk]at j
   rw[Array.toList_append,ex_mid]
   refine j.chB (by rw[<-take_ch hk];exact a3 _) fun x hx y hy=>?_
   obtain⟨i,i1,i2,e1⟩:=mem_chunk (κ:=κ) (List.mem_reverse.mp hx)
   obtain⟨m,m1,m2,Z⟩:=mem_takeA (κ:=κ) hy
   show κ.kle _ _
   rw[<-e1,<-Z]
   refine KeyOrd.kle_trans ?_ (f (k+i) (by omega) (by omega))
   rw[<-KK_ky (Array.getElem?_eq_getElem h)]
   exact sa _ _ (Nat.zero_le _) (by omega) h
  have hl:a.size-1<a.size:=by omega
  have j0:MS (Rr κ) (a.toList++b.toList) (#[a[a.size-1]]:Array Keyed).toList (a.toList.take (a.size-1)).reverse (b.toList.take b.size).reverse:=by
   have:=N #[] (a.size-1) b.size hl (by
    rw[show a.size-1+1=a.size by omega]
    have:MS (Rr κ) (a.toList++b.toList) [] a.toList.reverse b.toList.reverse:=⟨((List.reverse_perm _).append (List.reverse_perm _)),.nil,fun x h=>absurd h (by simp),fun x h=>absurd h (by simp)⟩
    rw[List.take_of_length_le (l:=a.toList) (by simp),List.take_of_length_le (l:=b.toList) (by simp)]
    exact this) fun i _ h=>by
    rw[<-KK_ky (Array.getElem?_eq_getElem hl)]
    exact KeyOrd.kle_trans (sb _ _ (Nat.zero_le _) (by omega) (by omega)) (KeyOrd.kle_of_klt h9)
   simpa using this
  refine wpS_bind (wpS_lift (wpAny_rule ⟨rfl,?_⟩))
  refine wpS_bind (wp_elem hl ?_)
  refine wp_ite (fun e=>wpS_pure (q _ _ (.refl _) (a6 _ _ _ j0 (by simpa using e)))) fun e1=>?_
  refine wp_ite (fun e=>wpS_pure (q _ _ (.refl _) (lst _ _ _ j0 (by simpa using e)))) fun Z=>?_
  have e1:a.size-1≠0:=by simpa using e1
  have Z:b.size≠1:=by simpa using Z
  refine wpS_bind (wpS_get ?_)
  refine wpS_bind (wp_range 0 (a.size+b.size) _ _ (fun r t st'=>t.1=none/\St st st'/\MS (Rr κ) (a.toList++b.toList) t.2.2.2.1.toList (a.toList.take t.2.1).reverse (b.toList.take t.2.2.1).reverse/\(0<t.2.1/\t.2.1<=a.size)/\(1<t.2.2.1/\t.2.2.1<=b.size)/\t.2.1+t.2.2.1<=r) _ ⟨rfl,.refl _,j0,by dsimp only;omega,by dsimp only;omega,by dsimp only;omega⟩ ?_ ?_)
  .rintro _ r ⟨o,na0,nb0,out0,mg⟩ st1 _ _ _ ⟨J,ss1,j1,l1,l2,l3⟩
   simp only at J j1 l1 l2 l3
   subst J
   refine wpS_bind (wpS_mono (Q:=fun t st'=>St st st'/\((∃ m,t.1=some m/\GoodM (Rk κ) (a.toList++b.toList) m.toList)\/(t.1=none/\MS (Rr κ) (a.toList++b.toList) t.2.2.2.1.toList (a.toList.take t.2.1).reverse (b.toList.take t.2.2.1).reverse/\(0<t.2.1/\t.2.1<=a.size)/\(1<t.2.2.1/\t.2.2.1<=b.size)/\t.2.1+t.2.2.1+1<=na0+nb0))) (wp_range 0 (a.size+b.size) _ _ (fun r t st'=>t.1=none/\St st st'/\MS (Rr κ) (a.toList++b.toList) t.2.2.2.1.toList (a.toList.take t.2.1).reverse (b.toList.take t.2.2.1).reverse/\(0<t.2.1/\t.2.1<=a.size)/\(1<t.2.2.1/\t.2.2.1<=b.size)/\t.2.1+t.2.2.1+(a.size+b.size)<=na0+nb0+r/\t.2.1+t.2.2.1<=na0+nb0) _ ⟨rfl,ss1,j1,l1,l2,by dsimp only;omega,by dsimp only;omega⟩ ?_ ?_) ?_)
   .rintro _ r ⟨o,na,nb,out,ac,bc⟩ st2 _ _ _ ⟨J,ss,j,l1,l2,l3,l4⟩
    simp only at J j l1 l2 l3 l4
    subst J
    obtain⟨na,rfl⟩:∃ n,na=n+1:=⟨na-1,by omega⟩
    obtain⟨nb,rfl⟩:∃ n,nb=n+1:=⟨nb-1,by omega⟩
    have O:na<a.size:=by omega
    have Y:nb<b.size:=by omega
    refine wpS_bind (wp_elem Y ?_)
    refine wpS_bind (wp_elem O ?_)
    refine wpS_bind (c _ _ (hb _ (by simp)) (ha _ (by simp)) _ _ (ss.kind.trans hk) ?_)
    cases hv:κ.blt (ky κ b[nb]) (ky κ a[na])with
    |true=>
     refine wpS_bind (wp_elem O ?_)
     have j':=N out na (nb+1) O j fun i i1 i2=>KeyOrd.kle_trans (by
      rw[<-KK_ky (Array.getElem?_eq_getElem Y)]
      exact sb i nb (Nat.zero_le _) (by omega) Y) (KeyOrd.kle_of_klt hv)
     refine wp_ite (fun e=>wpS_pure ⟨ss,.inl ⟨_,rfl,a6 _ _ _ j' (by simpa using e)⟩⟩) fun e=>?_
     have e:¬ (_:Nat)=0:=fun h=>e (beq_iff_eq.mpr h)
     try dsimp only at e
     refine wp_ite (fun _=>wpS_pure ⟨ss,.inr ⟨rfl,j',by dsimp only;omega,l2,by dsimp only;omega⟩⟩) fun _=>wpS_pure ⟨rfl,ss,j',by dsimp only;omega,l2,by dsimp only;omega,by dsimp only;omega⟩
    |false=>
     refine wpS_bind (wp_elem Y ?_)
     have j':=a0 out (na+1) nb Y j fun i i1 i2=>KeyOrd.kle_trans (by
      rw[<-KK_ky (Array.getElem?_eq_getElem O)]
      exact sa i na (Nat.zero_le _) (by omega) O) hv
     refine wp_ite (fun e=>wpS_pure ⟨ss,.inl ⟨_,rfl,lst _ _ _ j' (by simpa using e)⟩⟩) fun e=>?_
     have e:¬ (_:Nat)=1:=fun h=>e (beq_iff_eq.mpr h)
     try dsimp only at e
     refine wp_ite (fun _=>wpS_pure ⟨ss,.inr ⟨rfl,j',l1,by dsimp only;omega,by dsimp only;omega⟩⟩) fun _=>wpS_pure ⟨rfl,ss,j',l1,by dsimp only;omega,by dsimp only;omega,by dsimp only;omega⟩
   .rintro⟨o,na,nb,out,ac,bc⟩ st2 ⟨J,ss,j,l1,l2,l3,l4⟩
    exact⟨ss,.inr ⟨J,j,l1,l2,by dsimp only at l3 ⊢;omega⟩⟩
   .rintro⟨o,na1,nb1,out1,ac,bc⟩ st2 ⟨ss2,hh⟩
    rcases hh with⟨m,J,gm⟩|⟨J,j2,l5,l6,l7⟩
    .simp only at J;subst J
     exact wpS_pure (wpS_pure (q _ _ ss2 gm))
    .simp only at J j2 l5 l6 l7;subst J
     refine wpS_bind (wpS_lift (wpAny_rule ⟨rfl,?_⟩))
     refine wpS_bind (wpS_mono (Q:=fun t st'=>St st st'/\((∃ m,t.1=some m/\GoodM (Rk κ) (a.toList++b.toList) m.toList)\/(t.1=none/\MS (Rr κ) (a.toList++b.toList) t.2.2.2.1.toList (a.toList.take t.2.1).reverse (b.toList.take t.2.2.1).reverse/\(0<t.2.1/\t.2.1<=a.size)/\(1<t.2.2.1/\t.2.2.1<=b.size)/\t.2.1+t.2.2.1+1<=na0+nb0))) (wp_range 0 (a.size+b.size) _ _ (fun r t st'=>t.1=none/\St st st'/\MS (Rr κ) (a.toList++b.toList) t.2.2.2.1.toList (a.toList.take t.2.1).reverse (b.toList.take t.2.2.1).reverse/\(0<t.2.1/\t.2.1<=a.size)/\(1<t.2.2.1/\t.2.2.1<=b.size)/\t.2.1+t.2.2.1+1<=na0+nb0) _ ⟨rfl,ss2,j2,l5,l6,l7⟩ ?_ ?_) ?_)
     .rintro _ r ⟨o,na,nb,out,mg,ac,bc⟩ st3 _ _ _ ⟨J,ss,j,l1,l2,l4⟩
      simp only at J j l1 l2 l4
      subst J
      have Y:nb-1<b.size:=by omega
      refine wp_ite (fun _=>?_) (fun _=>?_)
      all_goals
       refine wpS_bind (wpS_modify ?_)
       refine wpS_bind (wp_elem Y ?_)
       refine wpS_bind (wp_galF (base:=0) (n:=na) (hint:=na-1) hg c (by exact ss.kind.trans hk) (hb _ (Array.getElem_mem_toList Y)) ha (by omega) (fun i j i1 i2 i3=>sa i j (Nat.zero_le _) i2 (by omega)) (by omega) fun k k1 k2 k3=>?_)
       simp only[Nat.zero_add]at k2 k3
       have jA:=chA _ _ _ k k1 Y (by omega) j k3
       refine wp_ite (fun hp=>?_) (fun hn=>?_)
       .refine wp_ite (fun e=>wpS_pure ⟨⟨ss.arr,ss.kind,ss.pend,ss.failed⟩,.inl ⟨_,rfl,a6 _ _ _ jA (by simpa using e)⟩⟩) fun e1=>?_
        have e1:k≠0:=by simpa using e1
        have jx:=jA
        have fx:=fun i (i1:i<k) (i2:i<a.size)=>k2 i i1
        obtain⟨nb,rfl⟩:∃ n,nb=n+1:=⟨nb-1,by omega⟩
        have Y:nb<b.size:=by omega
        refine wpS_bind (wp_elem Y ?_)
        have jy:=a0 _ _ _ Y jx fx
        refine wp_ite (fun e=>wpS_pure ⟨⟨ss.arr,ss.kind,ss.pend,ss.failed⟩,.inl ⟨_,rfl,lst _ _ _ jy (by simpa using e)⟩⟩) fun e=>?_
        have e:¬ (_:Nat)=1:=fun h=>e (beq_iff_eq.mpr h)
        try dsimp only at e
        have a2:k-1<a.size:=by omega
        refine wpS_bind (wp_elem a2 ?_)
        refine wpS_bind (wp_galT (base:=0) (n:=nb) (hint:=nb-1) hg c (by exact ss.kind.trans hk) (ha _ (Array.getElem_mem_toList a2)) hb (by omega) (fun i j i1 i2 i3=>sb i j (Nat.zero_le _) i2 (by omega)) (by omega) fun k' m1 m2 m3=>?_)
        simp only[Nat.zero_add]at m2 m3
        have jB:=chB _ _ _ k' m1 a2 (by omega) jy m3
        refine wp_ite (fun hp=>?_) (fun hn=>?_)
        .refine wp_ite (fun e=>wpS_pure ⟨⟨ss.arr,ss.kind,ss.pend,ss.failed⟩,.inl ⟨_,rfl,lst _ _ _ jB (by simpa using e)⟩⟩) fun e3=>?_
         refine wp_ite (fun e=>wpS_pure ⟨⟨ss.arr,ss.kind,ss.pend,ss.failed⟩,.inl ⟨_,rfl,a5 _ _ _ jB (by simpa using e)⟩⟩) fun e4=>?_
         have e3:k'≠1:=by simpa using e3
         have e4:k'≠0:=by simpa using e4
         have jz:=jB
         have fz:=fun i (i1:i<k') (i2:i<b.size)=>KeyOrd.kle_of_klt (m2 i i1)
         obtain⟨a7,rfl⟩:∃ n,k=n+1:=⟨k-1,by omega⟩
         have O:a7<a.size:=by omega
         refine wpS_bind (wp_elem O ?_)
         have U:=N _ _ _ O jz fz
         refine wp_ite (fun e=>wpS_pure ⟨⟨ss.arr,ss.kind,ss.pend,ss.failed⟩,.inl ⟨_,rfl,a6 _ _ _ U (by simpa using e)⟩⟩) fun e=>?_
         have e:¬ (_:Nat)=0:=fun h=>e (beq_iff_eq.mpr h)
         try dsimp only at e
         refine wp_ite (fun _=>wpS_pure ⟨⟨ss.arr,ss.kind,ss.pend,ss.failed⟩,.inr ⟨rfl,U,by dsimp only;omega,by dsimp only;omega,by dsimp only;omega⟩⟩) fun _=>wpS_pure ⟨rfl,⟨ss.arr,ss.kind,ss.pend,ss.failed⟩,U,by dsimp only;omega,by dsimp only;omega,by dsimp only;omega⟩
        .have jz:=jy
         try dsimp only at hn
         have fz:=fun i (i1:i<nb) (i2:i<b.size)=>KeyOrd.kle_of_klt (m2 i (by omega))
         obtain⟨a7,rfl⟩:∃ n,k=n+1:=⟨k-1,by omega⟩
         have O:a7<a.size:=by omega
         refine wpS_bind (wp_elem O ?_)
         have U:=N _ _ _ O jz fz
         refine wp_ite (fun e=>wpS_pure ⟨⟨ss.arr,ss.kind,ss.pend,ss.failed⟩,.inl ⟨_,rfl,a6 _ _ _ U (by simpa using e)⟩⟩) fun e=>?_
         have e:¬ (_:Nat)=0:=fun h=>e (beq_iff_eq.mpr h)
         try dsimp only at e
         refine wp_ite (fun _=>wpS_pure ⟨⟨ss.arr,ss.kind,ss.pend,ss.failed⟩,.inr ⟨rfl,U,by dsimp only;omega,by dsimp only;omega,by dsimp only;omega⟩⟩) fun _=>wpS_pure ⟨rfl,⟨ss.arr,ss.kind,ss.pend,ss.failed⟩,U,by dsimp only;omega,by dsimp only;omega,by dsimp only;omega⟩
       .have jx:=j
        try dsimp only at hn
        have fx:=fun i (i1:i<na) (i2:i<a.size)=>k2 i (by omega)
        obtain⟨nb,rfl⟩:∃ n,nb=n+1:=⟨nb-1,by omega⟩
        have Y:nb<b.size:=by omega
        refine wpS_bind (wp_elem Y ?_)
        have jy:=a0 _ _ _ Y jx fx
        refine wp_ite (fun e=>wpS_pure ⟨⟨ss.arr,ss.kind,ss.pend,ss.failed⟩,.inl ⟨_,rfl,lst _ _ _ jy (by simpa using e)⟩⟩) fun e=>?_
        have e:¬ (_:Nat)=1:=fun h=>e (beq_iff_eq.mpr h)
        try dsimp only at e
        have a2:na-1<a.size:=by omega
        refine wpS_bind (wp_elem a2 ?_)
        refine wpS_bind (wp_galT (base:=0) (n:=nb) (hint:=nb-1) hg c (by exact ss.kind.trans hk) (ha _ (Array.getElem_mem_toList a2)) hb (by omega) (fun i j i1 i2 i3=>sb i j (Nat.zero_le _) i2 (by omega)) (by omega) fun k' m1 m2 m3=>?_)
        simp only[Nat.zero_add]at m2 m3
        have jB:=chB _ _ _ k' m1 a2 (by omega) jy m3
        refine wp_ite (fun hp=>?_) (fun hn=>?_)
        .refine wp_ite (fun e=>wpS_pure ⟨⟨ss.arr,ss.kind,ss.pend,ss.failed⟩,.inl ⟨_,rfl,lst _ _ _ jB (by simpa using e)⟩⟩) fun e3=>?_
         refine wp_ite (fun e=>wpS_pure ⟨⟨ss.arr,ss.kind,ss.pend,ss.failed⟩,.inl ⟨_,rfl,a5 _ _ _ jB (by simpa using e)⟩⟩) fun e4=>?_
         have e3:k'≠1:=by simpa using e3
         have e4:k'≠0:=by simpa using e4
         have jz:=jB
         have fz:=fun i (i1:i<k') (i2:i<b.size)=>KeyOrd.kle_of_klt (m2 i i1)
         obtain⟨a7,rfl⟩:∃ n,na=n+1:=⟨na-1,by omega⟩
         have O:a7<a.size:=by omega
         refine wpS_bind (wp_elem O ?_)
         have U:=N _ _ _ O jz fz
         refine wp_ite (fun e=>wpS_pure ⟨⟨ss.arr,ss.kind,ss.pend,ss.failed⟩,.inl ⟨_,rfl,a6 _ _ _ U (by simpa using e)⟩⟩) fun e=>?_
         have e:¬ (_:Nat)=0:=fun h=>e (beq_iff_eq.mpr h)
         try dsimp only at e
         refine wp_ite (fun _=>wpS_pure ⟨⟨ss.arr,ss.kind,ss.pend,ss.failed⟩,.inr ⟨rfl,U,by dsimp only;omega,by dsimp only;omega,by dsimp only;omega⟩⟩) fun _=>wpS_pure ⟨rfl,⟨ss.arr,ss.kind,ss.pend,ss.failed⟩,U,by dsimp only;omega,by dsimp only;omega,by dsimp only;omega⟩
        .have jz:=jy
         try dsimp only at hn
         have fz:=fun i (i1:i<nb) (i2:i<b.size)=>KeyOrd.kle_of_klt (m2 i (by omega))
         obtain⟨a7,rfl⟩:∃ n,na=n+1:=⟨na-1,by omega⟩
         have O:a7<a.size:=by omega
         refine wpS_bind (wp_elem O ?_)
         have U:=N _ _ _ O jz fz
         refine wp_ite (fun e=>wpS_pure ⟨⟨ss.arr,ss.kind,ss.pend,ss.failed⟩,.inl ⟨_,rfl,a6 _ _ _ U (by simpa using e)⟩⟩) fun e=>?_
         have e:¬ (_:Nat)=0:=fun h=>e (beq_iff_eq.mpr h)
         try dsimp only at e
         refine wp_ite (fun _=>wpS_pure ⟨⟨ss.arr,ss.kind,ss.pend,ss.failed⟩,.inr ⟨rfl,U,by dsimp only;omega,by dsimp only;omega,by dsimp only;omega⟩⟩) fun _=>wpS_pure ⟨rfl,⟨ss.arr,ss.kind,ss.pend,ss.failed⟩,U,by dsimp only;omega,by dsimp only;omega,by dsimp only;omega⟩
     .rintro⟨o,na,nb,out,mg,ac,bc⟩ st3 ⟨J,ss,j,l1,l2,l4⟩
      exact⟨ss,.inr ⟨J,j,l1,l2,l4⟩⟩
     .rintro⟨o,na,nb,out,mg,ac,bc⟩ st3 ⟨ss,hh⟩
      rcases hh with⟨m,J,gm⟩|⟨J,j,l8,l9,a9⟩
      .simp only at J;subst J
       exact wpS_pure (wpS_pure (q _ _ ss gm))
      .simp only at J j l8 l9 a9;subst J
       refine wpS_bind (wpS_modify (wpS_pure ⟨rfl,⟨ss.arr,ss.kind,ss.pend,ss.failed⟩,j,l8,l9,by dsimp only;omega⟩))
  .rintro⟨o,na,nb,out,mg⟩ st' ⟨J,ss,j,l1,l2,l3⟩
   simp only at l1 l2 l3
   omega
end
end TS
end
section
namespace TS
section
variable {prog:Program}{w:World}{A:Around}{E:Value->Shared->Prop}{s:Shared}{a₀:Array Keyed}{κ:PyProof.Rows.KeyKind}{kd:SortKind}{st:SortSt}
theorem wr_get (sa:Nat):∀(l:List Keyed)(n:Nat)(arr:Array Keyed),sa+n+l.length<=arr.size->∀ k,(List.foldl (fun(a:Array Keyed)(x:Keyed×Nat)=>match x with | (p,j)=>a.setIfInBounds (sa+j) p) arr (l.zipIdx n))[k]? =if sa+n<=k/\k<sa+n+l.length then l[k-(sa+n)]? else arr[k]?
 |[],n,arr,h,k=>by
  rw[List.zipIdx_nil,List.foldl_nil,if_neg (by simp)]
 |x::l,n,arr,h,k=>by
  simp only[List.length_cons]at h
  rw[List.zipIdx_cons,List.foldl_cons,wr_get sa l (n+1) _ (by simp;omega)]
  simp only[List.length_cons]
  by_cases h1:k=sa+n
  .subst h1
   rw[if_neg (by omega),if_pos (by omega),Array.getElem?_setIfInBounds_self_of_lt (by omega)]
   simp
  .by_cases h2:sa+(n+1)<=k/\k<sa+(n+1)+l.length
   .rw[if_pos h2,if_pos (by omega),show k-(sa+n)=(k-(sa+(n+1)))+1 by omega,List.getElem?_cons_succ]
   .rw[if_neg h2,if_neg (by omega),Array.getElem?_setIfInBounds_ne (by omega)]
theorem wr_toList {arr m:Array Keyed}{sa:Nat}(h:sa+m.size<=arr.size):(wr arr sa m).toList=arr.toList.take sa++m.toList++arr.toList.drop (sa+m.size):=by
 refine List.ext_getElem? fun k=>?_
 have:=wr_get sa m.toList 0 arr (by simpa using h) k
 rw[Array.getElem?_toList]
 unfold wr
 rw[this]
 simp only[Array.length_toList,Nat.add_zero,Array.getElem?_toList]
 have j:(arr.toList.take sa).length=sa:=by simp;omega
 by_cases h1:k<sa
 .rw[if_neg (by omega),List.append_assoc,List.getElem?_append_left (by omega),List.getElem?_take_of_lt h1,Array.getElem?_toList]
 .by_cases h2:k<sa+m.size
  .rw[if_pos (by omega),List.append_assoc,List.getElem?_append_right (by omega),List.getElem?_append_left (by simp;omega),j,Array.getElem?_toList]
  .rw[if_neg (by omega),List.getElem?_append_right (by simp;omega),List.getElem?_drop,Array.getElem?_toList]
   congr 1
   simp only[List.length_append,j,Array.length_toList]
   omega
theorem wr_KK {arr m:Array Keyed}{sa:Nat}(h:sa+m.size<=arr.size)(k:Nat):KK κ (wr arr sa m) k=if sa<=k/\k<sa+m.size then KK κ m (k-sa)else KK κ arr k:=by
 have:=wr_get sa m.toList 0 arr (by simpa using h) k
 simp only[Array.length_toList,Nat.add_zero,Array.getElem?_toList]at this
 split
 .rename_i h1
  rw[if_pos h1]at this
  exact KK_congr this
 .rename_i h1
  rw[if_neg h1]at this
  exact KK_congr this
theorem wr_perm {arr m:Array Keyed}{sa sb:Nat}(h:sb<=arr.size)(z:sa<=sb)(p:m.toList.Perm (arr.extract sa sb).toList):(wr arr sa m).Perm arr:=by
 have j:m.size=sb-sa:=by
  have:=p.length_eq
  simp at this;omega
 rw[Array.perm_iff_toList_perm,wr_toList (by omega)]
 have e:arr.toList=arr.toList.take sa++(arr.extract sa sb).toList++arr.toList.drop (sa+m.size):=by
  rw[j,Array.toList_extract,List.extract,show sa+(sb-sa)=sb by omega]
  conv=>lhs;rw[<-List.take_append_drop sb arr.toList]
  congr 1
  conv=>lhs;rw[show sb=sa+(sb-sa)by omega,List.take_add]
 conv=>rhs;rw[e]
 exact(p.append_left _).append_right _
theorem seg_glue {arr arr':Array Keyed}{lo p q hi:Nat}(h1:∀ k,k<p\/q<=k->KK κ arr' k=KK κ arr k)(h2:Seg κ arr' p q)(L:∀ k,p<=k->k<q->∃ r,p<=r/\r<q/\KK κ arr' k=KK κ arr r)(s1:Seg κ arr lo p)(O:Seg κ arr q hi)
  (J:∀ i r,lo<=i->i<p->p<=r->r<q->κ.kle (KK κ arr i) (KK κ arr r)) (z:∀ r j,p<=r->r<q->q<=j->j<hi->κ.kle (KK κ arr r) (KK κ arr j)) (G:∀ i j,lo<=i->i<p->q<=j->j<hi->κ.kle (KK κ arr i) (KK κ arr j)):Seg κ arr' lo hi:=by
 intro i j i1 i2 i3
 by_cases a1:i<p
 .rw[h1 i (.inl a1)]
  by_cases N:j<p
  .rw[h1 j (.inl N)];exact s1 i j i1 i2 N
  .by_cases b2:j<q
   .obtain⟨r,r1,r2,e⟩:=L j (by omega) b2
    rw[e];exact J i r i1 a1 r1 r2
   .rw[h1 j (.inr (by omega))];exact G i j i1 a1 (by omega) i3
 .by_cases a2:i<q
  .by_cases b2:j<q
   .exact h2 i j (by omega) i2 b2
   .obtain⟨r,r1,r2,e⟩:=L i (by omega) a2
    rw[e,h1 j (.inr (by omega))];exact z r j r1 r2 (by omega) i3
  .rw[h1 i (.inr (by omega)),h1 j (.inr (by omega))];exact O i j (by omega) i2 i3
theorem KK_ex {arr:Array Keyed}{i j m:Nat}(z:j<=arr.size)(h:m<j-i):KK κ (arr.extract i j) m=KK κ arr (i+m):=by
 refine KK_congr ?_
 rw[Array.getElem?_extract,if_pos (by omega)]
theorem wp_set {M:Model}{σ:Type}{st st':σ}{Q:PUnit->σ->Prop}(q:Q ⟨⟩ st'):wpS M A E s (set st') Q st:=wpAny_pure ⟨rfl,q⟩
theorem wp_mergeAt {i sa na pw sb nb pw2:Nat}(c:CL (model prog w) A E s a₀ κ kd)(h:SB a₀ kd st)(h1:(pendingOf st)[i]? =some (sa,na,pw))(h2:(pendingOf st)[i+1]? =some (sb,nb,pw2))(hs:sb=sa+na)(n1:1<=na)(n2:1<=nb)(hz:sb+nb<=a₀.size)(L:Seg κ (arrOf st) sa sb)(G:Seg κ (arrOf st) sb (sb+nb)){Q:Bool->SortSt->Prop}
  (q:∀ st',SB a₀ kd st'->pendingOf st'=((pendingOf st).setIfInBounds i (sa,na+nb,pw)).eraseIdxIfInBounds (i+1)->Seg κ (arrOf st') sa (sb+nb)->(∀ k,k<sa\/sb+nb<=k->KK κ (arrOf st') k=KK κ (arrOf st) k)->Q true st'):wpS (model prog w) A E s (mergeAt' i) Q st:=by
 obtain⟨g,a4,a5,eq,hg,a2,a3⟩:=parts
 rw[eq]
 unfold mergeAtG
 refine wpS_bind (wpS_get ?_)
 rw[h1,h2]
 have sz:=h.size
 have O:sb<(arrOf st).size:=by omega
 refine wpS_bind (wp_set ?_)
 refine wpS_bind (wp_elem O ?_)
 refine wpS_bind (wp_galF (base:=sa) (n:=na) (hint:=0) hg c (by exact h.kind) (h.mem _ (Array.getElem_mem_toList O)) h.mem (by omega) (hs ▸ L) (by omega) fun k k1 k2 k3=>?_)
 rw[<-KK_ky (Array.getElem?_eq_getElem O)]at k2 k3
 have h':SB a₀ kd (setPending st (((pendingOf st).setIfInBounds i (sa,na+nb,pw)).eraseIdxIfInBounds (i+1))):=⟨h.perm,h.kind,h.failed⟩
 refine wp_ite (fun e=>wpS_pure (q _ h' rfl ?_ fun _ _=>rfl)) fun e1=>?_
 .have e:na-k=0:=by simpa using e
  refine seg_glue (p:=sb) (q:=sb) (arr:=arrOf st) (fun _ _=>rfl) (fun _ _ _ _ _=>by omega) (fun _ _ _=>by omega) L G (fun _ _ _ _ _ _=>by omega) (fun _ _ _ _ _ _=>by omega) fun i j i1 i2 j1 N=>?_
  have:=k2 (i-sa) (by omega)
  rw[show sa+(i-sa)=i by omega]at this
  exact KeyOrd.kle_trans this (G _ _ (Nat.le_refl _) j1 N)
 have e1:na-k≠0:=by simpa using e1
 have hy:sa+k+(na-k)-1<(arrOf st).size:=by omega
 refine wpS_bind (wp_elem hy ?_)
 refine wpS_bind (wp_galT (base:=sb) (n:=nb) (hint:=nb-1) hg c (by exact h.kind) (h.mem _ (Array.getElem_mem_toList hy)) h.mem (by omega) G (by omega) fun m m1 m2 m3=>?_)
 rw[<-KK_ky (Array.getElem?_eq_getElem hy),show sa+k+(na-k)-1=sb-1 by omega]at m2 m3
 refine wp_ite (fun e=>wpS_pure (q _ h' rfl ?_ fun _ _=>rfl)) fun e2=>?_
 .have e:m=0:=by simpa using e
  refine seg_glue (p:=sb) (q:=sb) (arr:=arrOf st) (fun _ _=>rfl) (fun _ _ _ _ _=>by omega) (fun _ _ _=>by omega) L G (fun _ _ _ _ _ _=>by omega) (fun _ _ _ _ _ _=>by omega) fun i j i1 i2 j1 N=>?_
  have:=m3 (j-sb) (by omega) (by omega)
  rw[show sb+(j-sb)=j by omega]at this
  exact KeyOrd.kle_trans (L i (sb-1) i1 (by omega) (by omega)) this
 have e2:m≠0:=by simpa using e2
 have za:((arrOf st).extract (sa+k) sb).size=na-k:=by simp;omega
 have zb:((arrOf st).extract sb (sb+m)).size=m:=by simp;omega
 have a0:∀(z:Array Keyed)(st':SortSt),St (setPending st (((pendingOf st).setIfInBounds i (sa,na+nb,pw)).eraseIdxIfInBounds (i+1))) st'->GoodM (Rk κ) (((arrOf st).extract (sa+k) sb).toList++((arrOf st).extract sb (sb+m)).toList) z.toList->wpS (model prog w) A E s (mergeFin (sa+k) z) Q st':=by
  intro z st' ss ⟨gp,gs⟩
  unfold mergeFin
  refine wpS_bind (wpS_modify ?_)
  refine wpS_bind (wpS_get ?_)
  have hf:failedOf (setArr st' (wr (arrOf st') (sa+k) z))=none:=ss.failed.trans h.failed
  rw[hf]
  have ea:arrOf st'=arrOf st:=ss.arr
  have U:z.toList.Perm ((arrOf st).extract (sa+k) (sb+m)).toList:=by
   refine gp.trans ?_
   rw[<-Array.toList_append,Array.extract_append_extract,show min (sa+k) sb=sa+k by omega,show max sb (sb+m)=sb+m by omega]
  have zm:z.size=(sb+m)-(sa+k):=by
   have:=U.length_eq
   simp at this;omega
  have kk:=wr_KK (κ:=κ) (arr:=arrOf st) (m:=z) (sa:=sa+k) (by omega)
  refine wpS_pure (q _ ⟨?_,ss.kind.trans h.kind,hf⟩ ss.pend ?_ ?_)
  .show (wr (arrOf st') (sa+k) z).Perm a₀
   rw[ea]
   exact(wr_perm (sb:=sb+m) (by omega) (by omega) U).trans h.perm
  .show Seg κ (wr (arrOf st') (sa+k) z) sa (sb+nb)
   rw[ea]
   have sg:=pair_seg gs
   refine seg_glue (p:=sa+k) (q:=sb+m) (arr:=arrOf st) (fun j hj=>?_) (fun i j i1 i2 i3=>?_) (fun j j1 N=>?_) (fun i j i1 i2 i3=>L i j i1 i2 (by omega)) (fun i j i1 i2 i3=>G i j (by omega) i2 i3) (fun i r i1 i2 r1 r2=>?_) (fun r j r1 r2 j1 N=>?_) fun i j i1 i2 j1 N=>?_
   .rw[kk,if_neg (by omega)]
   .rw[kk,kk,if_pos (by omega),if_pos (by omega)]
    exact sg _ _ (Nat.zero_le _) (by omega) (by omega)
   .rw[kk,if_pos (by omega)]
    have hj:j-(sa+k)<z.size:=by omega
    rw[KK_ky (Array.getElem?_eq_getElem hj)]
    have hm:=U.mem_iff.mp (Array.getElem_mem_toList hj)
    obtain⟨r,J,er⟩:=List.getElem_of_mem hm
    have a1:r<sb+m-(sa+k):=by simp at J;omega
    refine⟨sa+k+r,by omega,by omega,?_⟩
    rw[<-er,<-KK_ex (κ:=κ) (arr:=arrOf st) (i:=sa+k) (j:=sb+m) (m:=r) (by omega) a1,KK_ky (Array.getElem?_eq_getElem (by simp;omega))]
    simp
   .rcases Nat.lt_or_ge r sb with J|J
    .exact L i r i1 (by omega) J
    .have:=k2 (i-sa) (by omega)
     rw[show sa+(i-sa)=i by omega]at this
     exact KeyOrd.kle_trans this (G _ _ (Nat.le_refl _) J (by omega))
   .rcases Nat.lt_or_ge r sb with J|J
    .have:=m3 (j-sb) (by omega) (by omega)
     rw[show sb+(j-sb)=j by omega]at this
     exact KeyOrd.kle_trans (L r (sb-1) (by omega) (by omega) (by omega)) this
    .exact G r j J (by omega) N
   .have:=k2 (i-sa) (by omega)
    rw[show sa+(i-sa)=i by omega]at this
    exact KeyOrd.kle_trans this (G _ _ (Nat.le_refl _) (by omega) N)
  .intro j hj
   show KK κ (wr (arrOf st') (sa+k) z) j=_
   rw[ea,kk,if_neg (by omega)]
 have ma:∀ x,x∈((arrOf st).extract (sa+k) sb).toList->x∈a₀.toList:=fun x hx=>h.mem x (by
  rw[Array.toList_extract,List.extract]at hx
  exact List.mem_of_mem_drop (List.mem_of_mem_take hx))
 have mb:∀ x,x∈((arrOf st).extract sb (sb+m)).toList->x∈a₀.toList:=fun x hx=>h.mem x (by
  rw[Array.toList_extract,List.extract]at hx
  exact List.mem_of_mem_drop (List.mem_of_mem_take hx))
 have Z:Seg κ ((arrOf st).extract (sa+k) sb) 0 ((arrOf st).extract (sa+k) sb).size:=fun i j _ i2 i3=>by
  rw[za]at i3
  rw[KK_ex (by omega) (by omega),KK_ex (by omega) (by omega)]
  exact L _ _ (by omega) (by omega) (by omega)
 have Y:Seg κ ((arrOf st).extract sb (sb+m)) 0 ((arrOf st).extract sb (sb+m)).size:=fun i j _ i2 i3=>by
  rw[zb]at i3
  rw[KK_ex (by omega) (by omega),KK_ex (by omega) (by omega)]
  exact G _ _ (by omega) (by omega) (by omega)
 have q0:κ.klt (KK κ ((arrOf st).extract sb (sb+m)) 0) (KK κ ((arrOf st).extract (sa+k) sb) 0):=by
  rw[KK_ex (by omega) (by omega),KK_ex (by omega) (by omega)]
  exact k3 k (Nat.le_refl _) (by omega)
 have q9:κ.klt (KK κ ((arrOf st).extract sb (sb+m)) (((arrOf st).extract sb (sb+m)).size-1)) (KK κ ((arrOf st).extract (sa+k) sb) (((arrOf st).extract (sa+k) sb).size-1)):=by
  rw[za,zb,KK_ex (by omega) (by omega),KK_ex (by omega) (by omega),show sa+k+(na-k-1)=sb-1 by omega]
  exact m2 (m-1) (by omega)
 refine wp_ite (fun _=>?_) (fun _=>?_)
 .exact wpS_bind (a2 _ _ _ _ _ _ _ _ c _ h'.kind _ _ ma mb Z Y (by omega) (by omega) q0 q9 _ a0)
 .exact wpS_bind (a3 _ _ _ _ _ _ _ _ c _ h'.kind _ _ ma mb Z Y (by omega) (by omega) q0 q9 _ a0)
end
end TS
end
section
namespace TS
section
variable {prog:Program}{w:World}{A:Around}{E:Value->Shared->Prop}{s:Shared}{a₀:Array Keyed}{κ:PyProof.Rows.KeyKind}{kd:SortKind}{st:SortSt}
noncomputable def Runs (κ:PyProof.Rows.KeyKind)(arr:Array Keyed):List (Nat×Nat×Nat)->Nat->Nat->Prop
 |[],lo,hi=>lo=hi
 | (s,n,_)::ps,lo,hi=>s=lo/\1<=n/\Seg κ arr s (s+n)/\Runs κ arr ps (s+n) hi
variable {arr arr':Array Keyed}
theorem Runs.app:∀{l1 l2:List (Nat×Nat×Nat)}{lo hi:Nat},Runs κ arr (l1++l2) lo hi↔∃ m,Runs κ arr l1 lo m/\Runs κ arr l2 m hi
 |[],l2,lo,hi=>⟨fun h=>⟨lo,rfl,h⟩,fun j=>by obtain⟨m,e,h⟩:=j;cases e;exact h⟩
 | (s,n,p)::l1,l2,lo,hi=>⟨fun j=>by
   obtain⟨a,b,c,d⟩:=j
   obtain⟨m,h1,h2⟩:=Runs.app.mp d
   exact⟨m,⟨a,b,c,h1⟩,h2⟩,fun⟨m,⟨a,b,c,d⟩,h⟩=>⟨a,b,c,Runs.app.mpr ⟨m,d,h⟩⟩⟩
theorem Runs.len:∀{l:List (Nat×Nat×Nat)}{lo hi:Nat},Runs κ arr l lo hi->lo+l.length<=hi
 |[],lo,hi,h=>by cases h;simp
 | (s,n,p)::l,lo,hi,⟨a,b,_,d⟩=>by
  have:=d.len
  simp only[List.length_cons];omega
theorem Runs.congr:∀{l:List (Nat×Nat×Nat)}{lo hi:Nat},Runs κ arr l lo hi->(∀ k,lo<=k->k<hi->KK κ arr' k=KK κ arr k)->Runs κ arr' l lo hi
 |[],lo,hi,h,_=>h
 | (s,n,p)::l,lo,hi,⟨a,b,c,d⟩,e=>⟨a,b,c.congr fun k k1 k2=>e k (by omega) (by have:=d.len;omega),d.congr fun k k1 k2=>e k (by omega) k2⟩
theorem erase_mid {j:Type}{l1 l2:List j}{x y z:j}:(((l1++x::y::l2).set l1.length z).eraseIdx (l1.length+1))=l1++z::l2:=by
 rw[List.set_append_right _ _ (Nat.le_refl _),Nat.sub_self,List.set_cons_zero,List.eraseIdx_append_of_length_le (by omega)]
 simp
theorem wp_mrg {i hi:Nat}(c:CL (model prog w) A E s a₀ κ kd)(h:SB a₀ kd st)(U:Runs κ (arrOf st) (pendingOf st).toList 0 hi)(J:i+1<(pendingOf st).size)(hz:hi<=a₀.size){Q:Bool->SortSt->Prop}
  (q:∀ st',SB a₀ kd st'->Runs κ (arrOf st') (pendingOf st').toList 0 hi->(pendingOf st').size+1=(pendingOf st).size->(∀ k,hi<=k->KK κ (arrOf st') k=KK κ (arrOf st) k)->Q true st'):wpS (model prog w) A E s (mergeAt' i) Q st:=by
 have hl:i+1<(pendingOf st).toList.length:=by simpa using J
 obtain⟨l1,x,y,l2,e,L⟩:∃ l1 x y l2,(pendingOf st).toList=l1++x::y::l2/\l1.length=i:=by
  refine⟨(pendingOf st).toList.take i,(pendingOf st).toList[i],(pendingOf st).toList[i+1],(pendingOf st).toList.drop (i+2),?_,by simp;omega⟩
  rw[<-List.drop_eq_getElem_cons hl,<-List.drop_eq_getElem_cons (by omega),List.take_append_drop]
 obtain⟨sa,na,pw⟩:=x
 obtain⟨sb,nb,pw2⟩:=y
 rw[e]at U
 obtain⟨m,O,r2,r3,r4,z,r6,r7,N⟩:=Runs.app.mp U
 have Y:=N.len
 refine wp_mergeAt c h (sa:=sa) (na:=na) (pw:=pw) (sb:=sb) (nb:=nb) (pw2:=pw2) (by rw[<-Array.getElem?_toList,e,<-L];simp) (by rw[<-Array.getElem?_toList,e,<-L];simp) z r3 r6 (by omega) (z ▸ r4) r7 fun st' h' ep Z G=>?_
 have j:(pendingOf st').toList=l1++(sa,na+nb,pw)::l2:=by
  rw[ep,Array.toList_eraseIdxIfInBounds,Array.toList_setIfInBounds,e,<-L,erase_mid]
 refine q st' h' ?_ ?_ fun k hk=>G k (.inr (by omega))
 .rw[j]
  have a0:=O.len
  refine Runs.app.mpr ⟨m,O.congr fun k _ k2=>G k (.inl (by omega)),r2,by omega,by rw[<-Nat.add_assoc,<-z];exact Z,?_⟩
  rw[<-Nat.add_assoc,<-z]
  exact N.congr fun k k1 k2=>G k (.inr (by omega))
 .have a:=congrArg List.length j
  have b:=congrArg List.length e
  simp at a b
  omega
theorem runs_one {l:List (Nat×Nat×Nat)}{n:Nat}(h:Runs κ arr l 0 n)(z:l.length<=1):Seg κ arr 0 n:=by
 match l,h with
 |[],h=>cases h;exact fun i j _ _ h=>absurd h (Nat.not_lt_zero _)
 |[(s,m,p)],⟨a,b,c,d⟩=>
  have d:s+m=n:=d
  subst a;subst d
  exact c
 |_::_::_,_=>simp at z
theorem Runs.mod {f:Nat×Nat×Nat->Nat×Nat×Nat}(j:∀ x,(f x).1=x.1/\(f x).2.1=x.2.1):∀{l:List (Nat×Nat×Nat)}{lo hi:Nat}(i:Nat),Runs κ arr l lo hi->Runs κ arr (l.modify i f) lo hi
 |[],lo,hi,i,h=>by simpa using h
 | (s,n,p)::l,lo,hi,0,h=>by
  rw[List.modify_zero_cons]
  have:=j (s,n,p)
  revert this
  generalize f (s,n,p)=x
  obtain⟨a,b,c⟩:=x
  rintro⟨G,z⟩
  simp only at G z
  subst G z
  exact h
 | (s,n,p)::l,lo,hi,i+1,⟨a,b,c,d⟩=>by
  rw[List.modify_succ_cons]
  exact⟨a,b,c,Runs.mod j i d⟩
theorem modify_runs {ps:Array (Nat×Nat×Nat)}{lo hi pw:Nat}(h:Runs κ arr ps.toList lo hi):Runs κ arr (ps.modify (ps.size-1) fun x=>match x with | (st,len,_)=>(st,len,pw)).toList lo hi:=by
 rw[Array.toList_modify]
 exact Runs.mod (f:=fun x=>match x with | (st,len,_)=>(st,len,pw)) (fun x=>⟨rfl,rfl⟩) _ h
theorem wp_runs (c:CL (model prog w) A E s a₀ κ kd)(h:SB a₀ kd st)(hp:pendingOf st=#[]){Q:Unit->SortSt->Prop}
  (q:∀ st',(arrOf st').Perm a₀->failedOf st'=none->SortedToK κ (arrOf st') a₀.size->Q () st'):wpS (model prog w) A E s sortRuns' Q st:=by
 rw[sortRuns'_eq]
 refine wpS_bind (wpS_get ?_)
 have sz:=h.size
 refine wpS_bind (wpS_mono (Q:=fun t st'=>t.1=none/\SB a₀ kd st'/\Runs κ (arrOf st') (pendingOf st').toList 0 a₀.size) (wp_range 0 (arrOf st).size _ _ (fun r t st'=>t.1=none/\SB a₀ kd st'/\Runs κ (arrOf st') (pendingOf st').toList 0 t.2/\t.2<=a₀.size/\a₀.size<=t.2+r) _ ⟨rfl,h,by rw[hp];rfl,by dsimp only;omega,by dsimp only;omega⟩ ?_ ?_) ?_)
 .rintro _ r ⟨o,lo⟩ st1 _ _ _ ⟨ho,h1,r1,l1,l2⟩
  simp only at ho r1 l1 l2
  subst ho
  refine wp_ite (fun e=>wpS_pure ⟨rfl,h1,?_⟩) fun e=>?_
  .have e:lo ≥ (arrOf st).size:=e
   rw[show lo=a₀.size by omega]at r1;exact r1
  have e:¬ lo ≥ (arrOf st).size:=e
  refine wpS_bind (wp_countRun c h1 (lo:=lo) (nrem:=(arrOf st).size-lo) (by omega) (by omega) fun m J ch m1 m2 sg=>?_)
  have r2:Runs κ (arrOf J) (pendingOf J).toList 0 lo:=by
   rw[ch.pend];exact r1.congr fun k _ hk=>ch.pre k hk
  refine wp_ite (fun e2=>?_) (fun e2=>?_)
  .refine wpS_bind (wpS_lift (wpAny_rule ⟨rfl,?_⟩))
   have e2:m<minRun' (arrOf st).size (arrOf st).size 0:=e2
   refine wpS_bind (wp_bin c ch.sb (lo:=lo) (n:=min ((arrOf st).size-lo) (minRun' (arrOf st).size (arrOf st).size 0)) m1 (by omega) (by omega) sg fun O a1 a3=>?_)
   have hS:=a1.sb
   have hR:Runs κ (arrOf O) (pendingOf O).toList 0 lo:=by
    rw[a1.pend];exact r2.congr fun k _ hk=>a1.pre k hk
   have hG:=a3
   have hN:1<=min ((arrOf st).size-lo) (minRun' (arrOf st).size (arrOf st).size 0):=by omega
   have hM:lo+min ((arrOf st).size-lo) (minRun' (arrOf st).size (arrOf st).size 0)<=a₀.size:=by omega
   refine wp_ite (fun e=>absurd e (by simp)) fun _=>?_
   clear e2 m1 m2 r2 sg
   revert hG hN hM
   generalize min ((arrOf st).size-lo) (minRun' (arrOf st).size (arrOf st).size 0)=N
   intro hG hN hM
   refine wpS_bind (wpS_get ?_)
   have U:∀ z:SortSt,SB a₀ kd z->Runs κ (arrOf z) (pendingOf z).toList 0 lo->(∀ k,lo<=k->KK κ (arrOf z) k=KK κ (arrOf O) k)->Runs κ (arrOf z) ((pendingOf z).push (lo,N,0)).toList 0 (lo+N):=fun z G L k3=>by
    rw[Array.toList_push]
    exact Runs.app.mpr ⟨lo,L,rfl,hN,hG.congr fun k k1 _=>k3 k k1,rfl⟩
   have Y:∀(z:SortSt)(pw:Nat),SB a₀ kd z->Runs κ (arrOf z) (pendingOf z).toList 0 lo->(∀ k,lo<=k->KK κ (arrOf z) k=KK κ (arrOf O) k)->Runs κ (arrOf z) (((pendingOf z).modify ((pendingOf z).size-1) fun x=>match x with | (a,b,_)=>(a,b,pw)).push (lo,N,0)).toList 0 (lo+N):=fun z pw G L k3=>U (setPending z ((pendingOf z).modify ((pendingOf z).size-1) fun x=>match x with | (a,b,_)=>(a,b,pw))) ⟨G.perm,G.kind,G.failed⟩ (modify_runs L) k3
   rcases hb:(pendingOf O).back? with _|⟨s1,n1,a4⟩
   .exact wpS_bind (wpS_modify (wpS_pure ⟨rfl,⟨hS.perm,hS.kind,hS.failed⟩,U O hS hR fun _ _=>rfl,hM,by dsimp only;omega⟩))
   .refine wpS_bind (wpS_mono (Q:=fun t st'=>t.1=none/\SB a₀ kd st'/\Runs κ (arrOf st') (pendingOf st').toList 0 lo/\∀ k,lo<=k->KK κ (arrOf st') k=KK κ (arrOf O) k) (wp_range 0 _ _ _ (fun _ t st'=>t.1=none/\SB a₀ kd st'/\Runs κ (arrOf st') (pendingOf st').toList 0 lo/\∀ k,lo<=k->KK κ (arrOf st') k=KK κ (arrOf O) k) _ ⟨rfl,hS,hR,fun _ _=>rfl⟩ ?_ ?_) ?_)
    .rintro _ r ⟨o,_⟩ z _ _ _ ⟨ho,G,L,k3⟩
     simp only at ho
     subst ho
     refine wpS_bind (wpS_get ?_)
     dsimp only
     by_cases Z:(pendingOf z).size>1
     .rcases he:(pendingOf z)[(pendingOf z).size-2]? with _|⟨x1,x2,a0⟩
      .rw[if_pos Z]
       exact wpS_pure ⟨rfl,G,L,k3⟩
      .rw[if_pos Z]
       refine wp_ite (fun _=>wpS_pure ⟨rfl,G,L,k3⟩) fun _=>?_
       exact wpS_bind (wp_mrg c G L (by omega) (by omega) fun a2 h4 r4 _ k4=>wpS_pure ⟨rfl,h4,r4,fun k hk=>(k4 k hk).trans (k3 k hk)⟩)
     .rw[if_neg Z]
      exact wpS_pure ⟨rfl,G,L,k3⟩
    .rintro⟨o,_⟩ z h
     exact h
    .rintro⟨o,_⟩ z ⟨ho,G,L,k3⟩
     simp only at ho
     subst ho
     refine wpS_bind (wpS_modify ?_)
     exact wpS_bind (wpS_modify (wpS_pure ⟨rfl,⟨G.perm,G.kind,G.failed⟩,Y z _ G L k3,hM,by dsimp only;omega⟩))
  .have hS:=ch.sb
   have hR:=r2
   have hG:=sg
   have hN:=m1
   have hM:lo+m<=a₀.size:=by omega
   refine wpS_bind (wpS_get ?_)
   have U:∀ z:SortSt,SB a₀ kd z->Runs κ (arrOf z) (pendingOf z).toList 0 lo->(∀ k,lo<=k->KK κ (arrOf z) k=KK κ (arrOf J) k)->Runs κ (arrOf z) ((pendingOf z).push (lo,m,0)).toList 0 (lo+m):=fun z G L k3=>by
    rw[Array.toList_push]
    exact Runs.app.mpr ⟨lo,L,rfl,hN,hG.congr fun k k1 _=>k3 k k1,rfl⟩
   have Y:∀(z:SortSt)(pw:Nat),SB a₀ kd z->Runs κ (arrOf z) (pendingOf z).toList 0 lo->(∀ k,lo<=k->KK κ (arrOf z) k=KK κ (arrOf J) k)->Runs κ (arrOf z) (((pendingOf z).modify ((pendingOf z).size-1) fun x=>match x with | (a,b,_)=>(a,b,pw)).push (lo,m,0)).toList 0 (lo+m):=fun z pw G L k3=>U (setPending z ((pendingOf z).modify ((pendingOf z).size-1) fun x=>match x with | (a,b,_)=>(a,b,pw))) ⟨G.perm,G.kind,G.failed⟩ (modify_runs L) k3
   rcases hb:(pendingOf J).back? with _|⟨s1,n1,a4⟩
   .exact wpS_bind (wpS_modify (wpS_pure ⟨rfl,⟨hS.perm,hS.kind,hS.failed⟩,U J hS hR fun _ _=>rfl,hM,by dsimp only;omega⟩))
   .refine wpS_bind (wpS_mono (Q:=fun t st'=>t.1=none/\SB a₀ kd st'/\Runs κ (arrOf st') (pendingOf st').toList 0 lo/\∀ k,lo<=k->KK κ (arrOf st') k=KK κ (arrOf J) k) (wp_range 0 _ _ _ (fun _ t st'=>t.1=none/\SB a₀ kd st'/\Runs κ (arrOf st') (pendingOf st').toList 0 lo/\∀ k,lo<=k->KK κ (arrOf st') k=KK κ (arrOf J) k) _ ⟨rfl,hS,hR,fun _ _=>rfl⟩ ?_ ?_) ?_)
    .rintro _ r ⟨o,_⟩ z _ _ _ ⟨ho,G,L,k3⟩
     simp only at ho
     subst ho
     refine wpS_bind (wpS_get ?_)
     dsimp only
     by_cases Z:(pendingOf z).size>1
     .rcases he:(pendingOf z)[(pendingOf z).size-2]? with _|⟨x1,x2,a0⟩
      .rw[if_pos Z]
       exact wpS_pure ⟨rfl,G,L,k3⟩
      .rw[if_pos Z]
       refine wp_ite (fun _=>wpS_pure ⟨rfl,G,L,k3⟩) fun _=>?_
       exact wpS_bind (wp_mrg c G L (by omega) (by omega) fun a2 h4 r4 _ k4=>wpS_pure ⟨rfl,h4,r4,fun k hk=>(k4 k hk).trans (k3 k hk)⟩)
     .rw[if_neg Z]
      exact wpS_pure ⟨rfl,G,L,k3⟩
    .rintro⟨o,_⟩ z h
     exact h
    .rintro⟨o,_⟩ z ⟨ho,G,L,k3⟩
     simp only at ho
     subst ho
     refine wpS_bind (wpS_modify ?_)
     exact wpS_bind (wpS_modify (wpS_pure ⟨rfl,⟨G.perm,G.kind,G.failed⟩,Y z _ G L k3,hM,by dsimp only;omega⟩))
 .rintro⟨o,lo⟩ st1 ⟨ho,h1,r1,l1,l2⟩
  simp only at r1 l1 l2
  rw[show lo=a₀.size by omega]at r1
  exact⟨ho,h1,r1⟩
 .rintro⟨o,lo⟩ st1 ⟨ho,h1,r1⟩
  simp only at ho
  subst ho
  refine wpS_bind (wpS_mono (Q:=fun t st'=>t.1=none/\SB a₀ kd st'/\Seg κ (arrOf st') 0 a₀.size) (wp_range 0 _ _ _ (fun r t st'=>t.1=none/\SB a₀ kd st'/\Runs κ (arrOf st') (pendingOf st').toList 0 a₀.size/\(pendingOf st').size<=r+1) _ ⟨rfl,h1,r1,by have:=r1.len;simp at this;omega⟩ ?_ ?_) ?_)
  .rintro _ r ⟨o,_⟩ J _ _ _ ⟨ho,h2,r2,l2⟩
   simp only at ho
   subst ho
   refine wpS_bind (wpS_get ?_)
   refine wp_ite (fun e=>wpS_pure ⟨rfl,h2,runs_one r2 (by simpa using e)⟩) fun e=>?_
   have e:¬ (pendingOf J).size<=1:=e
   refine wpS_bind (wp_mrg c h2 r2 ?_ (Nat.le_refl _) fun O G L l3 _=>wpS_pure ⟨rfl,G,L,by omega⟩)
   have pick:∀(p:Prop)[Decidable p](n:Nat),2<=n->(if p then n-2-1 else n-2)+1<n:=fun p _ n h=>by split <;> omega
   exact pick _ _ (by omega)
  .rintro⟨o,_⟩ J ⟨ho,h2,r2,l2⟩
   exact⟨ho,h2,runs_one r2 (by simpa using l2)⟩
  .rintro⟨o,_⟩ J ⟨ho,h2,sg⟩
   simp only at ho
   subst ho
   exact wpS_pure (q J h2.perm h2.failed fun i j h1 h2=>sg i j (Nat.zero_le _) h1 h2)
end
end TS
end
section
namespace TS
section
variable {prog:Program}{w:World}{A:Around}{E:Value->Shared->Prop}{s:Shared}{κ:PyProof.Rows.KeyKind}{kd:SortKind}
theorem wp_epoch {M:Model}{a:Addr}{o:Obj}{xs:Array Value}{n:Nat}{Q:Nat->Shared->Prop}(h:s.heap.get? a=some o)(hd:o.data= .seq xs n)(q:Q n s):wpAny M A (seqEpoch a) Q E s:=by
 wp_walk
 rw[hd]
 exact wpAny_pure q
noncomputable def sHp (h:Heap)(a:Addr)(vs:List Value):Heap:=((h.update a (Obj.mapSeq fun _=>#[])).push (seqObj "tuple" vs.toArray 0)).push (seqObj "list" #[] 0)
theorem list_sort_G {a:Addr}{vs:List Value}{n:Nat}{P:PySem.Fin->Shared->Prop}(U:s.heap.get? a=some (seqObj "list" vs.toArray n))(hl:vs.length<=sizeLine)
  (hk:2<=vs.length->∀ Q:SortKind->Shared->Prop,Q kd { s with heap:=sHp s.heap a vs }->wpAny (model prog w) A (keyKind' vs.toArray) Q E { s with heap:=sHp s.heap a vs })
  (hc:CL (model prog w) A E { s with heap:=sHp s.heap a vs } (pairsOf vs) κ kd)
  (L:∀ xs:Array Keyed,xs.Perm (pairsOf vs)->SortedToK κ xs (pairsOf vs).size->P (.done (.ret .none)) { s with heap:=sortedHeap s.heap a vs (xs.map (·.2)) }):wpAny (model prog w) A (Builtin.«list.sort» ⟨[.ref a],[]⟩) P E s:=by
 rw[list_sort_plain]
 have O:vs.toArray.size<=sizeLine:=by simpa using hl
 refine wpAny_bind (wpAny_listItems U rfl ?_)
 refine wpAny_bind (m:=Builtin.List.listUpdate (.ref a) fun _=>#[]) (wpAny_updateSeq U rfl ?_ O (Nat.zero_le _))
 have J:(s.heap.update a (Obj.mapSeq fun _=>#[])).get? a=some (Obj.mapSeq (fun _=>#[]) (seqObj "list" vs.toArray n)):=Heap.get?_update_self _ U rfl
 refine wpAny_bind (m:=seqEpoch a) (wp_epoch J rfl ?_)
 refine wpAny_bind (wpAny_newTuple ?_ (by simpa using hl))
 refine wpAny_bind (wpAny_newList ?_ (Nat.zero_le _))
 refine wpAny_holding ?_
 have z:(sHp s.heap a vs).get? a=some (Obj.mapSeq (fun _=>#[]) (seqObj "list" vs.toArray n)):=Heap.get?_push_of_some _ (Heap.get?_push_of_some _ J)
 by_cases h2:vs.toArray.size<2
 .rw[if_pos h2]
  refine wpAny_bind (wpAny_pure ?_)
  rw[if_pos h2]
  have G:=L (vs.toArray.zip vs.toArray) (.refl _) (fun i j h1 h3=>by
   have:(pairsOf vs).size<2:=by rw[pairsOf_size];simpa using h2
   rw[show i=j by omega];exact KeyOrd.kle_refl _)
  have N:((vs.toArray.zip vs.toArray).map (·.2)).size<=sizeLine+1:=by simp;omega
  refine wpAny_bind (m:=StateT.run (pure ()) _) (wpAny_pure ?_)
  refine wpAny_bind (m:=seqEpoch a) (wp_epoch z rfl ?_)
  refine wpAny_bind (m:=Builtin.List.listUpdate (.ref a) _) (wpAny_updateSeq z rfl ?_ (Nat.zero_le _) N)
  show wpAny (model prog w) A (if (_ != _)=true then _ else ret Value.none) P E _
  rw[if_neg (by simp)]
  exact wpAny_pure G
 .rw[if_neg h2]
  have Y:2<=vs.length:=by simpa using h2
  refine wpAny_bind ?_
  refine hk Y _ ?_
  rw[if_neg h2]
  have hs:SB (pairsOf vs) kd (SortSt.mk' kd (vs.toArray.zip vs.toArray) #[] 7 none):=⟨.refl _,rfl,rfl⟩
  refine wpAny_bind (wpAny_mono (wp_runs hc hs rfl (Q:=fun _ st'=>(arrOf st').Perm (pairsOf vs)/\failedOf st'=none/\SortedToK κ (arrOf st') (pairsOf vs).size) fun st' a b c=>⟨a,b,c⟩) ?_ fun _ _ h=>h)
  rintro⟨_,st'⟩ s' ⟨rfl,Z,p2,p3⟩
  have G:=L (arrOf st') Z p3
  have N:((arrOf st').map (·.2)).size<=sizeLine+1:=by
   have:=Z.size_eq;rw[pairsOf_size]at this;rw[Array.size_map,this];omega
  refine wpAny_bind (m:=seqEpoch a) (wp_epoch z rfl ?_)
  refine wpAny_bind (m:=Builtin.List.listUpdate (.ref a) _) (wpAny_updateSeq z rfl ?_ (Nat.zero_le _) N)
  rw[p2]
  show wpAny (model prog w) A (if (_ != _)=true then _ else ret Value.none) P E _
  rw[if_neg (by simp)]
  exact wpAny_pure G
noncomputable def intKind:PyProof.Rows.KeyKind where
 α:=Int
 blt:=fun a b=>decide (a<b)
 irrefl:=fun a=>by simp
 trans:=fun a b c h1 h2=>by simp at h1 h2 ⊢;omega
 negTrans:=fun a b c h=>by simp at h ⊢;omega
 total:=fun a b h1 h2=>by simp at h1 h2;omega
 keyOf:=fun v=>match v with | .int n _=>some n|_=>none
 dflt:=0
theorem ints_mem:∀{vs:List Value}{ns:List Int},IntsAre vs ns->∀ v,v∈vs->∃ n t,v= .int n t
 |_,_,.nil,v,h=>by cases h
 |_,_,.cons n t r,v,h=>by
  rcases List.mem_cons.mp h with e|h
  .exact⟨n,t,e⟩
  .exact ints_mem r v h
theorem CL_ints {s:Shared}{vs:List Value}{ns:List Int}(h:IntsAre vs ns):CL (model prog w) A E s (pairsOf vs) intKind oneType':=by
 have hm:∀ x:Keyed,x∈(pairsOf vs).toList->∃ n t,x.1= .int n t:=fun x j=>by
  rw[pairsOf_toList]at j
  exact ints_mem h _ (List.of_mem_zip j).1
 intro x y j J st Q L q
 obtain⟨n,t,G⟩:=hm x j
 obtain⟨m,u,z⟩:=hm y J
 rw[lt'_eq]
 refine wpS_bind (wpS_get ?_)
 rw[L,keyLt'_oneType,G,z]
 refine wpS_bind (wpS_lift (wpAny_attempt (oneLt_int ⟨rfl,wpS_pure ?_⟩)))
 have k1:ky intKind x=n:=by unfold ky;rw[G];rfl
 have k2:ky intKind y=m:=by unfold ky;rw[z];rfl
 rw[k1,k2]at q
 exact q
theorem KK_int {xs:Array Keyed}{i:Nat}:KK intKind xs i=K xs i:=by
 unfold KK K
 rcases xs[i]? with _|⟨v,q⟩
 .rfl
 .cases v <;> rfl
theorem list_sort_any {a:Addr}{vs:List Value}{ns:List Int}{n:Nat}{P:PySem.Fin->Shared->Prop}(O:s.heap.get? a=some (seqObj "list" vs.toArray n))(N:vs.length<=sizeLine)(G:IntsAre vs ns)
  (J:∀(out:Array Value)(z:List Int),IntsAre out.toList z->z.Perm ns->z.Pairwise (·<=·)->P (.done (.ret .none)) { s with heap:=sortedHeap s.heap a vs out }):wpAny (model prog w) A (Builtin.«list.sort» ⟨[.ref a],[]⟩) P E s:=by
 refine list_sort_G (κ:=intKind) (kd:=oneType') O N (fun h2 Q q=>?_) (CL_ints G) fun xs L p2=>?_
 .match vs,G,h2 with
  |v₁::v₂::rest,G,_=>
   rw[keyKind_ints G]
   exact wpAny_pure q
 .have st:SortedTo xs (pairsOf vs).size:=fun i j h1 h2=>by
   have:=p2 i j h1 h2
   rw[KK_int,KK_int]at this
   simpa[KeyOrd.kle,intKind]using this
  obtain⟨z,a1,Y,U⟩:=sorted_out G L st
  exact J _ z a1 Y U
end
end TS
end
section
section
variable {prog:Program}{w:World}{A:Around}{E:Value->Shared->Prop}{s:Shared}
end
section
variable {prog:Program}{w:World}{A:Around}{E:Value->Shared->Prop}{s:Shared}{a:Addr}
variable {S:Int->Bool}{n ep:Nat}{led:Bool}{o:Obj}{fs:Array (Int×Value)}{u:SetTable}
theorem sortedSetA (hh:A.handled=none)(G:SG prog w s.heap a S n led o fs ep u)(J:led=ledOf w)(D:List Int)(hS:∀ k,S k=D.any (·==k))(hn:n=D.length)(hd:D.Nodup)(a4:n<4096){Q:Value->Shared->Prop}
  (a5:∀(q:Addr) h' d out e,IntsAre out.toList (isort D)->h'.get? q=some (seqObj "list" out e)->s.heap.objs.size<=q->(∀ b o,b<s.heap.objs.size->s.heap.get? b=some o->h'.get? b=some o)->Q (.ref q) { s with heap:=h',drawn:=d }):
  wpAny (model prog w) A (call (.builtin "sorted") [.ref a]) Q E s:=by
 obtain⟨ks,L,a0⟩:=ints_of G.el
 have Z:ks.length=D.length:=by rw[<-hn,<-G.many,<-IntsAre.length L];simp
 have Y:D.Perm ks:=perm_of_sub hd (fun x hx=>(a0 x).mpr ((G.mem x).mp (by rw[hS];exact List.any_eq_true.mpr ⟨x,hx,by simp⟩))) Z.symm
 refine Calls.call_function_entry kind_sorted plain_sorted entry_sorted (args_sorted1 _) ?_
 unfold Builtin.«sorted»
 refine wpAny_bind (m:=checkCount "sorted" 1 1 _) (wpAny_pure ?_)
 refine wpAny_bind (collectSet (by simpa using hh) G J fun ws h' d hp keep j=>?_)
 obtain⟨ms,U,O⟩:=ints_perm hp L
 have a6:ws.length<4096:=by rw[hp.length_eq,length_map,Array.length_toList,G.many];exact a4
 refine wpAny_bind (wpAny_newList ?_ (by rw[sizeLine_eq];omega))
 have z:(h'.push (seqObj "list" ws.toArray 0)).get? h'.objs.size=some (seqObj "list" ws.toArray 0):=Heap.get?_push_size _ rfl
 show wpAny _ _ _ _ _ { s with heap:=h'.push (seqObj "list" ws.toArray 0),drawn:=d }
 refine wpAny_bind (wpAny_holding (wpAny_call_entry slot_list_sort ⟨_,z,rfl⟩ entry_list_sort (TS.list_sort_any z (by rw[sizeLine_eq];omega) U fun out N a1 a2 a3=>⟨_,rfl,?_⟩) (args_list_sort _)))
 have e:N=isort D:=sorted_uniq ((a2.trans (O.trans Y.symm)).trans (isort_perm D).symm) a3 (isort_sorted D)
 subst e
 obtain⟨c,hc⟩:=sortedHeap_at (out:=out) z
 refine wpAny_pure ⟨_,rfl,a5 _ _ d out c a1 hc (Nat.le_of_lt j) fun b o hb e=>?_⟩
 rw[sortedHeap_old (Nat.ne_of_lt (Nat.lt_trans hb j)) (by rw[size_push'];exact Nat.lt_succ_of_lt (Nat.lt_trans hb j))]
 exact Heap.get?_push_of_some _ (keep b o hb e)
end
section
variable {X:Cx}{e:Expr}{pos:Pos}
end
noncomputable def rSetA (P:Program)(w:World)(K:W.Frag):List V->Hp->VK->Prop:=fun vs H Q=>∃(p:Addr)(ns:List Int),vs=[.ref p]/\SqL K H p (ns.map V.int)/\ns.length<4000/\∀ a,H a=none->Q (.ref a) (upd H a (SetH P w a ns))
noncomputable def rSortSA (P:Program)(w:World):List V->Hp->VK->Prop:=fun vs H Q=>∃(a:Addr)(ns:List Int),vs=[.ref a]/\H a=some (SetH P w a ns)/\ns.length<4000/\∀ q,H q=none->Q (.ref q) (upd H q (.lst ((isort (ddI ns)).map V.int)))
section
variable {X:Cx}{e:Expr}{pos:Pos}
theorem call_setLA (N:X.calm=true):CallR X (.type "set") (rSetA X.prog X.w X.K):=by
 intro pins s σ H xs us Q I r h
 obtain⟨p,ns,rfl,J,O,q⟩:=h
 obtain⟨v,rfl,rx⟩:=vals1 r
 cases rx
 obtain⟨its,z,pl,Y⟩:=I.list J
 have L:its.length=ns.length:=by rw[<-z.length,length_map]
 have j:its.toArray.size=ns.length:=by simp[L]
 refine callSetG (items:=its.toArray) (ns:=ns) (I.ok.hd N) pl.isList (by simpa using ints_vals z) (by rw[j];unfold scanBound;omega) fun h' tk g keep=>?_
 rw[j]at g
 refine⟨.ref s.heap.objs.size,_,I.laid (t':=tk) (o:=SetH X.prog X.w s.heap.objs.size ns) (fun b u e=>keep b u (Heap.lt_size e) e) (Nat.le_refl _) ⟨g,?_,fun h1 h2 U k=>SetG.stay U k⟩,rfl,q _ (I.hok.fresh (Nat.le_refl _))⟩
 obtain⟨o,_,_,_,G⟩:=g
 exact⟨o,G.at_⟩
theorem call_sortSA (J:X.calm=true):CallR X (.builtin "sorted") (rSortSA X.prog X.w):=by
 intro pins s σ H xs us Q I r h
 obtain⟨a,ns,rfl,ha,L,q⟩:=h
 obtain⟨v,rfl,rx⟩:=vals1 r
 cases rx
 have ok:=I.hok a _ ha
 obtain⟨g,_,_⟩:=ok
 obtain⟨o,fs,ep,u,G⟩:=g
 have z:(ddI ns).length<=ns.length:=firstMet_length_le _ _
 refine sortedSetA (I.ok.hd J) G rfl (ddI ns) (fun k=>rfl) rfl (firstMet_nodup _ _) (by omega) fun w h' d out e hi hw j keep=>?_
 have N:Inv X pins σ H { s with drawn:=d }:=⟨I.ok,I.os,I.bare,I.base,I.loc,I.cell,I.free,I.freeC,I.pin,I.hok,I.len⟩
 refine⟨.ref w,_,N.laid (t':=s.toks) (o:=.lst ((isort (ddI ns)).map V.int)) (fun b u e=>keep b u (Heap.lt_size e) e) j ⟨?_,out.toList,e,vals_intsA hi,by simpa using hw⟩,rfl,q _ (I.hok.fresh j)⟩
 rw[length_map,isort_length,sizeLine_eq];omega
@[irreducible] noncomputable def msortSetA (m:ML):ML:=fun ρ=>match m ρ with |some ds=>(match intsD ds with |some ns=>if ns.length<4000 then some ((isort (ddI ns)).map .int)else none|none=>none)|none=>none
theorem pf_sortSetA {p p2 j:Pos}{m:ML}(hc:X.calm=true)(hg:Gl X "sorted")(hm:X.mg "sorted"=none)(a0:Gl X "set")(Z:X.mg "set"=none)(ha:PB X e m)(hv:bootBuiltins "sorted"=some (.builtin "sorted"))(N:bootBuiltins "set"=some (.type "set"))
  (hs:starEach (e::[]) X.env=(false,eval e X.env)::starEach [] X.env:=by rfl) (he:starEach [e] X.env=(false,eval e X.env)::starEach [] X.env:=by rfl)
  (O:starEach ((.Call (.Name "set" p2) [e] [] j)::[]) X.env=(false,eval (.Call (.Name "set" p2) [e] [] j) X.env)::starEach [] X.env:=by rfl) (a1:starEach [(.Call (.Name "set" p2) [e] [] j)] X.env=(false,eval (.Call (.Name "set" p2) [e] [] j) X.env)::starEach [] X.env:=by rfl)
  (G:(backTo j (starEach [] X.env)).any (·.1)=false:=by rfl) (U:(backTo pos (starEach [] X.env)).any (·.1)=false:=by rfl):PF X (.Call (.Name "sorted" p) [.Call (.Name "set" p2) [e] [] j] [] pos) (msortSetA m):=
 (pe_callB (call_sortSA hc) hg hm hv (pa_cons (pe_callTy (call_setLA hc) a0 Z N (pa_cons ha pa_nil hs) (by decide) (by decide) he G) pa_nil O) (by decide) (by decide) a1 U).imp fun σ H Q J=>by
  obtain⟨F0,H0,F,ρ,g,rl,e,q⟩:=J
  unfold msortSetA at e
  cases h1:m ρ with
  |none=>simp only[h1]at e;cases e
  |some ds=>
   simp only[h1]at e
   cases h2:intsD ds with
   |none=>simp only[h2]at e;cases e
   |some ns=>
    simp only[h2]at e
    split at e
    .rename_i h64
     cases e
     refine⟨F0,H0,F,ρ,ds,rl,h1,fun p xs F1 H1 L s1 r1=>⟨p,ns,rfl,?_,h64,fun a Y=>⟨a,ns,rfl,upd_same,h64,fun w hw=>?_⟩⟩⟩
     .rw[<-intsD_reps r1 h2];exact s1
     .have x2:Ext F1 H1 F1 (upd H1 a (SetH X.prog X.w a ns)):=Ext.own L.fh Y
      have z:H1 w=none:=x2.hh.free hw
      exact q w _ F1 _ (L.trans (x2.trans (Ext.own x2.fh hw))) (L.hh.free z) (L.fh.free z) upd_same (reps_ints _)
    .cases e
end
end
end L2
set_option maxHeartbeats 4000000
namespace Lw
open List
open PySem L2
abbrev k0a (r:List Int):Option S:=some (.sh (.lst (r.map .int)))
abbrev k0b (k:Nat):Option S:=some (.sh (.int (k:Int)))
abbrev k0c (k:Int):Option S:=some (.sh (.int k))
section
noncomputable section
noncomputable def b_Z4_f0:MS:=(mseq (mif (cor (mtest (m2 ltD (mvar 3) (mvar 2))) (mtest (m2 geD (mvar 3) (mlen (bvar 0))))) (mret (mc (.bl false))) mnext) (mset 2 (m2 addD (mvar 3) (mc (.int 1)))))
noncomputable def b_Z4:MS:=(mseq (mset 2 (mc (.int 0))) (mseq (mfor (aslst (mvar 1)) (.nm 3) b_Z4_f0) (mret (mc (.bl true)))))
noncomputable def m_Z4:MF:=runB 4 b_Z4
noncomputable def b_Z7_f0:MS:=(mif (cor (mtest (m2 ltD (call1 max2F (acons (mvar 2) (acons (mvar 4) anil))) (mvar 3))) (mtest (m2 ltD (mvar 3) (call1 min2F (acons (mvar 2) (acons (mvar 4) anil)))))) (maug 1 (mc (.int 1))) mnext)
noncomputable def b_Z7:MS:=(mseq (mset 1 (mc (.int 0))) (mseq (mfor (mlist zip3 (acons (mvar 0) (acons (mlst (mcut (bvar 0) (osome (mc (.int 1))) onone)) (acons (mlst (mcut (bvar 0) (osome (mc (.int 2))) onone)) anil)))) (.tp [2,3,4]) b_Z7_f0) (mretO 1)))
noncomputable def m_Z7:MF:=runB 5 b_Z7
noncomputable def b_Z1:MS:=(mseq (mif (cnot (mtru (mcall m_Z4 (acons (mvar 0) (acons (mvar 1) anil))))) mnever mnext) (mret (mcall m_Z7 (acons (mlst (mcomp [none,some 0] (aslst (mvar 1)) (.nm 0) cyes (mix (bvar 1) (mvar 0)))) anil))))
noncomputable def m_Z1:MF:=runB 2 b_Z1
noncomputable def bx_Z1:MXs:=(xif (cnot (mtru (mcall m_Z4 (acons (mvar 0) (acons (mvar 1) anil))))) (xraise "NoPlace" (acons (mc (.str "places rise, from 0 on and below how many numbers there are")) anil)) xnone)
noncomputable def xm_Z1:MFX:=runX 2 bx_Z1
noncomputable def b_Z8:MS:=(mseq (mif (mtest (m2 geD (mvar 0) (m2 powD (mc (.int 10)) (mc (.int 18))))) (mret (m2 modD (m2 shrD (m2 subD (mvar 0) (m2 powD (mc (.int 10)) (mc (.int 18)))) (m2 mulD (mc (.int 28)) (mvar 1))) (m2 powD (mc (.int 2)) (mc (.int 28))))) mnext) (mseq (mset 2 (m2 modD (m2 mulD (m2 addD (m2 addD (mvar 0) (m2 mulD (mc (.int 1013)) (mvar 1))) (mc (.int 1))) (mc (.int 16807))) (mc (.int 2147483647)))) (mseq (mset 2 (m2 modD (m2 mulD (mvar 2) (mvar 2)) (mc (.int 2147483629)))) (mret (m2 fdivD (m2 modD (m2 mulD (mvar 2) (mc (.int 39373))) (mc (.int 2147483587))) (mc (.int 8)))))))
noncomputable def m_Z8:MF:=runB 3 b_Z8
noncomputable def b_Z5:MS:=(mretF (mcut (mcat (mcut (bvar 0) onone (osome (mvar 1))) (sized (acons (mc (.int 0)) anil))) onone (osome (call1 max2F (acons (mc (.int 1)) (acons (call1 min2F (acons (mvar 1) (acons (mlen (bvar 0)) anil))) anil))))))
noncomputable def m_Z5:MF:=runB 2 b_Z5
noncomputable def b_Z11_f0:MS:=(mseq (mset 9 (m2 modD (mcall m_Z8 (acons (mvar 0) (acons (m2 addD (mc (.int 10)) (mvar 8)) anil))) (mvar 4))) (mseq (mset 7 (m2 subD (m2 addD (mvar 7) (mvar 9)) (m2 fdivD (mvar 4) (mc (.int 2))))) (mseq (mset 10 (mlst (sized (acons (m2 subD (mvar 9) (m2 fdivD (mvar 4) (mc (.int 2)))) (acons (m2 addD (mvar 8) (m2 fdivD (mvar 9) (mc (.int 2)))) (acons (m2 subD (m2 subD (mc (.int 0)) (mvar 8)) (m2 fdivD (mvar 9) (mc (.int 2)))) (acons (mix (sized (acons (mvar 9) (acons (m2 subD (mc (.int 0)) (mvar 9)) anil))) (m2 modD (mvar 8) (mc (.int 2)))) anil))))))) (mseq (mset 10 (mlst (mcat (bvar 10) (sized (acons (m2 addD (mvar 9) (m2 mulD (m2 modD (m2 fdivD (mvar 8) (mvar 5)) (mc (.int 2))) (mvar 4))) (acons (mvar 4) (acons (m2 addD (m2 mulD (m2 subD (mvar 9) (m2 fdivD (mvar 4) (mc (.int 2)))) (m2 powD (mc (.int 10)) (mc (.int 23)))) (m2 modD (mcall m_Z8 (acons (mvar 0) (acons (m2 addD (mc (.int 10)) (mvar 8)) anil))) (mc (.int 3)))) anil))))))) (mapp 6 (mix (mcat (bvar 10) (sized (acons (mvar 7) anil))) (mvar 3)))))))
noncomputable def b_Z11:MS:=(mseq (mset 2 (m2 modD (mcall m_Z8 (acons (mvar 0) (acons (mc (.int 0)) anil))) (mix (sized (acons (mc (.int 4)) (acons (mc (.int 13)) (acons (mc (.int 41)) (acons (m2 addD (mvar 1) (mc (.int 1))) anil))))) (m2 modD (mcall m_Z8 (acons (mvar 0) (acons (mc (.int 1)) anil))) (mc (.int 4)))))) (mseq (mset 3 (m2 modD (mcall m_Z8 (acons (mvar 0) (acons (mc (.int 2)) anil))) (mc (.int 8)))) (mseq (mset 4 (mix (sized (acons (mc (.int 2)) (acons (mc (.int 5)) (acons (mc (.int 50)) (acons (m2 powD (mc (.int 10)) (mc (.int 6))) anil))))) (m2 modD (mcall m_Z8 (acons (mvar 0) (acons (mc (.int 3)) anil))) (mc (.int 4))))) (mseq (mset 5 (m2 addD (mc (.int 1)) (m2 modD (mcall m_Z8 (acons (mvar 0) (acons (mc (.int 4)) anil))) (mc (.int 9))))) (mseq (msetF 6 (sized anil)) (mseq (mset 7 (mc (.int 0))) (mseq (mfor (mlist rng1 (acons (call1 min2F (acons (mvar 2) (acons (mvar 1) anil))) anil)) (.nm 8) b_Z11_f0) (mretO 6))))))))
noncomputable def m_Z11:MF:=runB 11 b_Z11
noncomputable def b_Z6:MS:=(mseq (mset 1 (mlst (sized (acons (misX [("NoPlace",false)] (mvar 0)) (acons (misX [("NoPlace",true)] (mvar 0)) (acons (misX [("NoPlace",false)] (mvar 0)) (acons (misX [("NoPlace",false)] (mvar 0)) anil))))))) (mseq (mset 1 (mlst (mcat (bvar 1) (sized (acons (misX [("NoPlace",false)] (mvar 0)) (acons (misX [("NoPlace",false)] (mvar 0)) (acons (misX [("NoPlace",false)] (mvar 0)) anil))))))) (mretF (mcat (bvar 1) (sized (acons (m1 notD (misX [("NoPlace",true)] (mvar 0))) anil))))))
noncomputable def m_Z6:MF:=runB 2 b_Z6
noncomputable def b_Z10:MS:=(mret (mix (sized (acons (mc (.int 0)) (acons (mc (.int 1)) (acons (m2 modD (mcall m_Z8 (acons (mvar 0) (acons (m2 addD (mvar 1) (mc (.int 1))) anil))) (mc (.int 1000))) (acons (m2 powD (mc (.int 10)) (mc (.int 29))) anil))))) (m2 modD (mcall m_Z8 (acons (mvar 0) (acons (mvar 1) anil))) (mc (.int 4)))))
noncomputable def m_Z10:MF:=runB 2 b_Z10
noncomputable def b_Z9_f0:MS:=(mseq (mset 5 (m2 andD (m2 shrD (mcall m_Z8 (acons (mvar 0) (acons (m2 addD (m2 addD (mvar 1) (mc (.int 1))) (m2 fdivD (mvar 4) (mc (.int 28)))) anil))) (m2 modD (mvar 4) (mc (.int 28)))) (mc (.int 1)))) (mseq (mif (mtest (m2 gtD (m2 modD (mcall m_Z8 (acons (mvar 0) (acons (mvar 1) anil))) (mc (.int 3))) (mc (.int 0)))) (mset 5 (m2 mulD (mvar 5) (m2 andD (m2 shrD (mcall m_Z8 (acons (mvar 0) (acons (m2 addD (m2 addD (mvar 1) (mc (.int 13))) (m2 fdivD (mvar 4) (mc (.int 28)))) anil))) (m2 modD (mvar 4) (mc (.int 28)))) (mc (.int 1))))) mnext) (mif (mtest (m2 eqSD (mvar 5) (mc (.int 1)))) (mapp 3 (mvar 4)) mnext)))
noncomputable def b_Z9:MS:=(mseq (msetF 3 (sized anil)) (mseq (mfor (mlist rng1 (acons (mvar 2) anil)) (.nm 4) b_Z9_f0) (mretO 3)))
noncomputable def m_Z9:MF:=runB 6 b_Z9
noncomputable def b_Z2_f0:MS:=(mseq (mset 8 (mand (m2 eqSD (m2 andD (m2 shrD (mcall m_Z8 (acons (mvar 0) (acons (m2 addD (mvar 1) (m2 fdivD (mvar 6) (mc (.int 28)))) anil))) (m2 modD (mvar 6) (mc (.int 28)))) (mc (.int 1))) (mc (.int 1))) (m2 gtD (m2 modD (mvar 6) (mc (.int 3))) (mc (.int 0))))) (mif (cand (mtest (meqB false (bvar 4) (sized anil))) (cnot (mtru (mvar 8)))) (mapp 4 (mvar 6)) (mif (cand (mtest (meqB true (bvar 4) (sized anil))) (cnot (mtru (mvar 8)))) (mseq (mset 9 (m2 subD (mvar 7) (mix (bvar 2) (mix (bvar 4) (m1 negD (mc (.int 1))))))) (mif (cand (mtest (m2 geD (call1 absF (acons (mvar 9) anil)) (mvar 3))) (mtest (m2 neSD (mvar 5) (m2 gtD (mvar 9) (mc (.int 0)))))) (mseq (mset 5 (m2 gtD (mvar 9) (mc (.int 0)))) (mapp 4 (mvar 6))) mnext)) mnext)))
noncomputable def b_Z2:MS:=(mseq (msetF 4 (sized anil)) (mseq (mset 5 (mc .non)) (mseq (mfor (mlist enum1 (acons (mvar 2) anil)) (.tp [6,7]) b_Z2_f0) (mretO 4))))
noncomputable def m_Z2:MF:=runB 10 b_Z2
noncomputable def b_Z0_f0:MS:=(mseq (mapp 8 (mlst (mcat (mcat (mcut (bvar 2) onone (osome (mvar 4))) (sized (acons (mvar 9) anil))) (mcut (bvar 2) (osome (mvar 4)) onone)))) (mapp 8 (mlst (mcat (mcat (mcut (bvar 2) onone (osome (mvar 4))) (sized (acons (mvar 9) anil))) (mcut (bvar 2) (osome (m2 addD (mvar 4) (mc (.int 1)))) onone)))))
noncomputable def b_Z0_r1:MS:=(mfreeze 8 (mseq (msetF 10 (bvar 2)) (mseq (mif (mtest (m2 ltD (call1 max2F (acons (mvar 4) (acons (mvar 5) anil))) (mlen (bvar 2)))) (msetix2 10 (mvar 4) (mvar 5) (mtup (acons (mix (bvar 2) (mvar 5)) (acons (mix (bvar 2) (mvar 4)) anil)))) mnext) (mfreeze 10 (mretF (mcat (bvar 8) (sized (acons (mvar 10) (acons (mlst (sized anil)) anil)))))))))
noncomputable def b_Z0:MS:=(mseq (mset 4 (m2 modD (mcall m_Z8 (acons (mvar 0) (acons (mvar 1) anil))) (m2 addD (mlen (bvar 2)) (mc (.int 1))))) (mseq (mset 5 (m2 modD (mcall m_Z8 (acons (mvar 0) (acons (m2 addD (mvar 1) (mc (.int 1))) anil))) (m2 addD (mlen (bvar 2)) (mc (.int 1))))) (mseq (mset 6 (mcall m_Z10 (acons (mvar 0) (acons (m2 addD (mvar 1) (mc (.int 2))) anil)))) (mseq (mset 7 (m2 modD (mcall m_Z8 (acons (mvar 0) (acons (m2 addD (mvar 1) (mc (.int 4))) anil))) (m2 addD (mvar 3) (mc (.int 1))))) (mseq (msetF 8 (sized (acons (mlst (mcat (mcut (bvar 2) onone (osome (mvar 4))) (mcut (bvar 2) (osome (m2 addD (mvar 4) (mc (.int 1)))) onone))) (acons (mlst (mcat (mcat (mcut (bvar 2) onone (osome (mvar 4))) (mcut (bvar 2) (osome (m2 subD (mvar 4) (mc (.int 1)))) (osome (mvar 4)))) (mcut (bvar 2) (osome (mvar 4)) onone))) (acons (mlst (mrev (bvar 2) (osome (m1 negD (mc (.int 1)))))) anil))))) (mseq (mfor (aslst (mlst (sized (acons (mvar 7) (acons (m1 negD (mc (.int 1))) (acons (m2 subD (m1 negD (mc (.int 1))) (mvar 6)) (acons (mvar 3) (acons (m2 addD (mvar 3) (mvar 6)) anil)))))))) (.nm 9) b_Z0_f0) b_Z0_r1))))))
noncomputable def m_Z0:MF:=runB 11 b_Z0
noncomputable def b_Z3:MS:=(mseq (msetF 2 (sized anil)) (mseq (mset 3 (mlst (sized (acons (mlst (bvar 0)) (acons (mlst (bvar 1)) anil))))) (mseq (mtry ["NoPlace"] (mexpr (mcall m_Z1 (acons (mix (bvar 3) (mc (.int 0))) (acons (mix (bvar 3) (mc (.int 1))) anil)))) (xE (xcall xm_Z1 (acons (mix (bvar 3) (mc (.int 0))) (acons (mix (bvar 3) (mc (.int 1))) anil)))) 4 (msetF 2 (mcallF m_Z6 (acons (mvar 4) anil)))) (mseq (mif (mtest (meqB true (bvar 3) (sized (acons (mvar 0) (acons (mvar 1) anil))))) (mretF (sized (acons (mc (.str "changed")) anil))) mnext) (mretO 2)))))
noncomputable def m_Z3:MF:=runB 5 b_Z3
noncomputable def b_Z12_f0:MS:=(mseq (mset 5 (mlst (mcomp [none,some 2] (aslst (mvar 4)) (.nm 0) (cnot (mtest (mchain leD ltD (mc (.int 0)) (mvar 0) (mlen (bvar 1))))) (mvar 0)))) (mseq (mset 6 (mand (meqB false (bvar 4) (msortSetA (bvar 4))) (meqB false (bvar 5) (sized anil)))) (mif (mtest (meqB true (aslst (mcall m_Z3 (acons (mvar 2) (acons (mvar 4) anil)))) (mcomp [none] (mlist rng1 (acons (m2 mulD (mc (.int 8)) (call1 intF (acons (m1 notD (mvar 6)) anil))) anil)) (.nm 0) cyes (m2 eqSD (mvar 0) (mc (.int 1)))))) (mret (mc (.bl false))) mnext)))
noncomputable def b_Z12_f1:MS:=(mfor (aslst (mlst (mcat (sized (acons (mvar 3) anil)) (aslst (mcall m_Z0 (acons (mvar 1) (acons (mc (.int 370)) (acons (mvar 3) (acons (mlen (bvar 2)) anil))))))))) (.nm 4) b_Z12_f0)
noncomputable def b_Z12_f2:MS:=(mseq (mset 2 (mcall m_Z11 (acons (mvar 1) (acons (mc (.int 300)) anil)))) (mfor (aslst (mlst (sized (acons (mcall m_Z9 (acons (mvar 1) (acons (mc (.int 320)) (acons (mlen (bvar 2)) anil)))) (acons (mcall m_Z2 (acons (mvar 1) (acons (mc (.int 350)) (acons (mvar 2) (acons (mc (.int 1)) anil))))) anil))))) (.nm 3) b_Z12_f1))
noncomputable def b_Z12:MS:=(mseq (mfor (aslst (mcall m_Z5 (acons (mvar 0) (acons (mc (.int 8)) anil)))) (.nm 1) b_Z12_f2) (mret (mc (.bl true))))
noncomputable def m_Z12:MF:=runB 7 b_Z12
end
end
section
theorem eqS_ii (i j:Int):eqS (.int i) (.int j)=some (i==j):=rfl
theorem eqS_bb (i j:Bool):eqS (.bl i) (.bl j)=some (i==j):=rfl
theorem eqS_ss (i j:Str):eqS (.str i) (.str j)=some (i==j):=rfl
theorem eqS_nn:eqS .non .non=some true:=rfl
theorem eqS_nb (j:Bool):eqS .non (.bl j)=some false:=rfl
theorem eqS_bn (j:Bool):eqS (.bl j) .non=some false:=rfl
theorem eqS_ni (j:Int):eqS .non (.int j)=some false:=rfl
theorem eqS_in (j:Int):eqS (.int j) .non=some false:=rfl
local macro_rules|`(tactic|simp_arith [$ls,*])=>`(tactic|simp(config:={decide:=true,implicitDefEqProofs:=false}) only[runB,startS,map_cons,map_nil,length_cons,length_nil,List.replicate,cons_append,nil_append,mvar,bvar,mc,mlst,aslst,m2,mtest,subD,mulD,fdivD,modD,powD,shrD,andD,ltD,leD,gtD,geD,eqSD,neSD,eqS_ii,eqS_bb,eqS_ss,eqS_nn,eqS_nb,eqS_bn,eqS_ni,eqS_in,m1,negD,notD,mand,mtru,truD,cand,cor,cnot,anil,acons,sized,mtup,mlen,mix,onone,osome,mcut,mcat,addD,call1,absF,max2F,min2F,two2,intF,mnext,mseq,mif,mnever,mset,msetF,maug,mexpr,mret,mretF,mretO,mapp,msetix,mfreeze,mlist,zip3,enum1,cyes,mcall,mcallF,meqB,mrev,msetix2,int2,bl2,tgD,setAll,Option.bind_some,Option.map_some,Option.bind_none,Option.map_none,getElem?_cons_zero,getElem?_cons_succ,set_cons_zero,set_cons_succ,isEmpty_cons,isEmpty_nil,Bool.not_true,Bool.not_false,$ls,*])
noncomputable def stir (c k:Int):Int:=if 10^18<=c then (c-10^18) / 2^(28*k).toNat % 2^28 else
 (((c+1013*k+1)*16807 % 2147483647)*((c+1013*k+1)*16807 % 2147483647) % 2147483629)*39373 % 2147483587 / 8
theorem stir_nonneg (c k:Int):0<=stir c k:=by
 unfold stir
 split
 .exact Int.emod_nonneg _ (by decide)
 .exact Int.ediv_nonneg (Int.emod_nonneg _ (by decide)) (by decide)
theorem mulOk_r (i j:Int)(h1:-(2^64)<j)(h2:j<2^64):mulOk i j=true:=by
 unfold mulOk;simp only[h1,h2,decide_true,Bool.and_self,Bool.or_true]
theorem mulOk_l (i j:Int)(h1:-(2^64)<i)(h2:i<2^64):mulOk i j=true:=by
 unfold mulOk;simp only[h1,h2,decide_true,Bool.and_self,Bool.true_or]
theorem modOk_of (i j:Int)(h:0<j):modOk i j=true:=by unfold modOk;simp only[h,decide_true]
theorem seqI {x y:MS}{ρ ρ':Ro}{o:Option Out}(h:x ρ=some (.nx ρ'))(h2:y ρ'=o):mseq x y ρ=o:=by
 unfold mseq;rw[h];exact h2
noncomputable def stepO {α:Type}(I:List α->Ro->Prop)(Q:Out->Prop)(ds:List α):Out->Prop
 | .nx ρ=>I ds ρ| .ct ρ=>I ds ρ| .bk ρ=>Q (.nx ρ)| .rt d=>Q (.rt d)| .rf es=>Q (.rf es)| .rp d es=>Q (.rp d es)| .rg d p r=>Q (.rg d p r)| .rgf d p r=>Q (.rgf d p r)
theorem forD_post {z:Type}{g:Tg}{body:MS}{f:z->D}(I:List z->Ro->Prop)(Q:Out->Prop)
  (G:∀ d ds ρ,I (d::ds) ρ->∃ ρ1 o,tgD g (f d) ρ=some ρ1/\body ρ1=some o/\stepO I Q ds o) (hd:∀ ρ,I [] ρ->Q (.nx ρ)):
  ∀(ds:List z)(ρ:Ro),I ds ρ->∃ o,forD g body (ds.map f) ρ=some o/\Q o
 |[],ρ,h=>⟨.nx ρ,rfl,hd ρ h⟩
 |d::ds,ρ,h=>by
  obtain⟨ρ1,o,h1,h2,j⟩:=G d ds ρ h
  rw[map_cons]
  unfold forD
  rw[h1]
  simp only[h2]
  cases o with
  |nx ρ2=>exact forD_post I Q G hd ds ρ2 j
  |ct ρ2=>exact forD_post I Q G hd ds ρ2 j
  |bk ρ2=>exact⟨_,rfl,j⟩
  |rt d=>exact⟨_,rfl,j⟩
  |rf d=>exact⟨_,rfl,j⟩
  |rp d es=>exact⟨_,rfl,j⟩
  |rg d p r=>exact⟨_,rfl,j⟩
  |rgf d p r=>exact⟨_,rfl,j⟩
theorem compD_map {z:Type}{g:Tg}{c:MB}{j:ME}{f:z->D}{G:z->D}(I:List z->Ro->Prop)
  (J:∀ d ds ρ,I (d::ds) ρ->∃ ρ1,tgD g (f d) ρ=some ρ1/\c ρ1=some true/\j ρ1=some (G d)/\I ds ρ1):
  ∀(ds:List z)(ρ:Ro)(acc:List D),I ds ρ->acc.length+ds.length<=sizeLine->compD g c j (ds.map f) ρ acc=some (acc++ds.map G)
 |[],ρ,acc,h,hl=>by simp[compD]
 |d::ds,ρ,acc,h,hl=>by
  obtain⟨ρ1,h1,h2,N,L⟩:=J d ds ρ h
  rw[map_cons]
  unfold compD
  rw[h1]
  simp only[h2,N]
  rw[length_cons]at hl
  rw[if_pos (by omega),compD_map I J ds ρ1 _ L (by simp;omega)]
  simp
noncomputable def cutI {α:Type}(xs:List α)(lo hi:Option Int):List α:=(xs.drop (HT.sIx xs.length 0 lo)).take (HT.sIx xs.length xs.length hi-HT.sIx xs.length 0 lo)
theorem cutL_map {j:Type}(f:j->D)(xs:List j)(lo hi:Option Int):cutL (xs.map f) lo hi=(cutI xs lo hi).map f:=by
 unfold cutL cutI;rw[length_map,<-map_drop,<-map_take]
theorem cutI_from {j:Type}(xs:List j)(k:Nat):cutI xs (some (k:Int)) none=xs.drop k:=by
 unfold cutI
 rw[HT.sIx_nat,HT.sIx_none]
 rcases Nat.le_total k xs.length with h|h
 .rw[Nat.min_eq_left h];exact take_of_length_le (by simp)
 .rw[Nat.min_eq_right h];simp[drop_eq_nil_of_le h]
theorem cutI_to {j:Type}(xs:List j)(k:Nat):cutI xs none (some (k:Int))=xs.take k:=by
 unfold cutI
 rw[HT.sIx_nat,HT.sIx_none]
 simp
theorem atI_map {j:Type}(f:j->D)(xs:List j)(k:Int)(G:0<=k)(h1:k<xs.length)(dflt:j):atI (xs.map f) k=some (f (xs.getD k.toNat dflt)):=by
 unfold atI ixN
 rw[length_map,if_pos G,if_pos h1]
 have z:k.toNat<xs.length:=by omega
 simp[getElem?_map,z]
theorem atI_last {j:Type}(f:j->D)(xs:List j)(x:j):atI ((xs++[x]).map f) (-1)=some (f x):=by
 unfold atI ixN
 rw[length_map,if_neg (by decide),if_pos (by simp;omega)]
 have e:(-1+((xs++[x]).length:Int)).toNat=xs.length:=by simp;omega
 rw[e]
 simp
theorem runB_rt {n:Nat}{m:MS}{ds:List D}{d:D}(h:m (startS n ds)=some (.rt d)):runB n m ds=some (.sh d):=by unfold runB;rw[h]
theorem runB_rf {n:Nat}{m:MS}{ds:List D}{d:List D}(h:m (startS n ds)=some (.rf d)):runB n m ds=some (.fr d):=by unfold runB;rw[h]
noncomputable def after (rest:MS):Out->Option Out
 | .nx ρ=>rest ρ| .bk ρ=>some (.bk ρ)| .ct ρ=>some (.ct ρ)| .rt d=>some (.rt d)| .rf d=>some (.rf d)| .rp d es=>some (.rp d es)| .rg d p r=>some (.rg d p r)| .rgf d p r=>some (.rgf d p r)
theorem seq_after {x y:MS}{ρ:Ro}{o:Out}(h:x ρ=some o):mseq x y ρ=after y o:=by
 unfold mseq;rw[h];cases o <;> rfl
theorem seq_for {j:Type}{z:ML}{g:Tg}{body rest:MS}{ρ:Ro}{res:Option Out}{f:j->D}(ds:List j)(hi:z ρ=some (ds.map f))(I:List j->Ro->Prop)(Q:Out->Prop)(L:I ds ρ)
  (G:∀ d ds ρ,I (d::ds) ρ->∃ ρ1 o,tgD g (f d) ρ=some ρ1/\body ρ1=some o/\stepO I Q ds o) (hd:∀ ρ,I [] ρ->Q (.nx ρ)) (J:∀ o,Q o->after rest o=res):mseq (mfor z g body) rest ρ=res:=by
 obtain⟨o,e,q⟩:=forD_post (g:=g) (body:=body) I Q G hd ds ρ L
 rw[seq_after (o:=o) (by unfold mfor;rw[hi];exact e)]
 exact J o q
theorem max_if (i j:Int):(if j>i then j else i)=max i j:=by omega
theorem min_if (i j:Int):(if j<i then j else i)=min i j:=by omega
theorem abs_if (i:Int):(if i<0 then -i else i)=(i.natAbs:Int):=by omega
theorem size_big:1000000<=sizeLine:=by rw[show sizeLine=2^24 from rfl];decide
theorem le_size {n:Nat}(h:n<=1000000):n<=sizeLine:=Nat.le_trans h size_big
theorem range_cons (j n:Nat)(h:j<n):List.range' j (n-j)=j::List.range' (j+1) (n-(j+1)):=by
 have:n-j=(n-(j+1))+1:=by omega
 rw[this,range'_succ]
theorem mod_cases {x n:Int}(hn:0<n):0<=x % n/\x % n<n:=⟨Int.emod_nonneg _ (by omega),Int.emod_lt_of_pos _ hn⟩
noncomputable def Run (m:MS)(ρ:Ro)(R:Out->Prop):Prop:=∃ o,m ρ=some o/\R o
noncomputable def afterR (rest:MS)(R:Out->Prop):Out->Prop
 | .nx ρ=>Run rest ρ R| .bk ρ=>R (.bk ρ)| .ct ρ=>R (.ct ρ)| .rt d=>R (.rt d)| .rf d=>R (.rf d)| .rp d es=>R (.rp d es)| .rg d p r=>R (.rg d p r)| .rgf d p r=>R (.rgf d p r)
theorem run_seq {x y:MS}{ρ ρ':Ro}{R:Out->Prop}(h:x ρ=some (.nx ρ'))(h2:Run y ρ' R):Run (mseq x y) ρ R:=by
 obtain⟨o,e,r⟩:=h2
 exact⟨o,seqI h e,r⟩
theorem run_mseq {x y:MS}{ρ:Ro}{R:Out->Prop}(h:Run x ρ (afterR y R)):Run (mseq x y) ρ R:=by
 obtain⟨o,e,r⟩:=h
 cases o with
 |nx ρ'=>exact run_seq e r
 |bk ρ'=>exact⟨_,seq_after e,r⟩
 |ct ρ'=>exact⟨_,seq_after e,r⟩
 |rt d=>exact⟨_,seq_after e,r⟩
 |rf d=>exact⟨_,seq_after e,r⟩
 |rp d es=>exact⟨_,seq_after e,r⟩
 |rg d z j=>exact⟨_,seq_after e,r⟩
 |rgf d z j=>exact⟨_,seq_after e,r⟩
theorem run_for {j:Type}{z:ML}{g:Tg}{body:MS}{ρ:Ro}{f:j->D}(ds:List j)(hi:z ρ=some (ds.map f))(I:List j->Ro->Prop)(Q:Out->Prop)(J:I ds ρ)
  (G:∀ d ds ρ,I (d::ds) ρ->∃ ρ1,tgD g (f d) ρ=some ρ1/\Run body ρ1 (stepO I Q ds)) (hd:∀ ρ,I [] ρ->Q (.nx ρ)):Run (mfor z g body) ρ Q:=by
 obtain⟨o,e,q⟩:=forD_post (g:=g) (body:=body) I Q (fun d ds ρ h=>by obtain⟨ρ1,a,o,b,c⟩:=G d ds ρ h;exact⟨ρ1,o,a,b,c⟩) hd ds ρ J
 exact⟨o,by unfold mfor;rw[hi];exact e,q⟩
theorem run_forN {N:ML}{g:Tg}{body:MS}{ρ:Ro}{f:Nat->D}(n:Nat)(hi:N ρ=some ((List.range n).map f))(I:Nat->Ro->Prop)(Q:Out->Prop)(Z:I 0 ρ)
  (Y:∀ j ρ,j<n->I j ρ->∃ ρ1,tgD g (f j) ρ=some ρ1/\Run body ρ1 (stepO (fun(_:List Unit) ρ=>I (j+1) ρ) Q [])) (hd:∀ ρ,I n ρ->Q (.nx ρ)):Run (mfor N g body) ρ Q:=by
 refine run_for (List.range n) hi (I:=fun ks ρ=>∃ j,j<=n/\ks=List.range' j (n-j)/\I j ρ) (Q:=Q) ⟨0,by omega,by rw[range_eq_range'];rfl,Z⟩ ?_ ?_
 .rintro d ds ρ ⟨j,hj,e,h⟩
  have J:j<n:=by
   rcases Nat.lt_or_ge j n with z|z
   .exact z
   .rw[show n-j=0 by omega]at e;cases e
  rw[range_cons j n J]at e
  obtain⟨e1,O⟩:=List.cons.inj e
  subst e1
  obtain⟨ρ1,a1,o,a2,G⟩:=Y d ρ J h
  refine⟨ρ1,a1,o,a2,?_⟩
  cases o with
  |nx r=>exact⟨d+1,by omega,O,G⟩
  |ct r=>exact⟨d+1,by omega,O,G⟩
  |bk r=>exact G
  |rt r=>exact G
  |rf r=>exact G
  |rp r L=>exact G
  |rg r L U=>exact G
  |rgf r L U=>exact G
 .rintro ρ ⟨j,hj,e,h⟩
  have:n-j=0:=by
   rcases Nat.eq_zero_or_pos (n-j)with z|z
   .exact z
   .rw[range_cons j n (by omega)]at e;cases e
  have:j=n:=by omega
  subst this
  exact hd ρ h
theorem run_freeze {i:Nat}{m:MS}{ρ:Ro}{ds:List D}{R:Out->Prop}(h:ρ[i]? =some (some (.own ds)))(h2:Run m (ρ.set i (some (.sh (.lst ds)))) R):Run (mfreeze i m) ρ R:=by
 obtain⟨o,e,r⟩:=h2
 exact⟨o,by unfold mfreeze;rw[h];exact e,r⟩
theorem run_if {c:MB}{x y:MS}{ρ:Ro}{R:Out->Prop}{b:Bool}(h:c ρ=some b)(h2:Run (if b then x else y) ρ R):Run (mif c x y) ρ R:=by
 obtain⟨o,e,r⟩:=h2
 refine⟨o,?_,r⟩
 unfold mif;rw[h]
 cases b <;> exact e
theorem run_next {ρ:Ro}{R:Out->Prop}(h:R (.nx ρ)):Run mnext ρ R:=⟨_,rfl,h⟩
theorem nat_of {x:Int}(h:0<=x):∃ n:Nat,x=n:=⟨x.toNat,by omega⟩
theorem mand_bl {x y:ME}{ρ:Ro}{a b:Bool}(h1:x ρ=some (.bl a))(h2:y ρ=some (.bl b)):mand x y ρ=some (.bl (a&&b)):=by
 unfold mand;rw[h1];cases a <;> simp[h2]
theorem rangeD_map (lo:Int)(n:Nat):rangeD lo n=(List.range n).map fun(i:Nat)=>D.int (lo+(i:Int)):=rfl
theorem rangeD_li (n:Nat):rangeD 0 n=((List.range n).map fun(i:Nat)=>(i:Int)).map .int:=by
 rw[rangeD_map,map_map]
 apply map_congr_left
 intro i _
 simp
theorem okR_of {j:Int}(h1:-(2^62)<=j)(h2:j<2^62):okR j=true:=by unfold okR;simp only[h1,h2,decide_true,Bool.and_self]
theorem rng1_ok {j:Int}(h:okR j=true):rng1 [.int j]=some (rangeD 0 j.toNat):=by
 unfold rng1
 simp only[h,if_true]
theorem runB_rfR {n:Nat}{m:MS}{ds:List D}{P:List D->Prop}(h:Run m (startS n ds) (fun o=>∃ es,o= .rf es/\P es)):∃ es,runB n m ds=some (.fr es)/\P es:=by
 obtain⟨o,e,es,rfl,p⟩:=h
 exact⟨es,runB_rf e,p⟩
theorem run_retO {i:Nat}{ρ:Ro}{ds:List D}{R:Out->Prop}(h:ρ[i]? =some (some (.own ds)))(h2:R (.rf ds)):Run (mretO i) ρ R:=⟨_,by unfold mretO;rw[h],h2⟩
theorem fdivOk_of (i j:Int)(h:0<j)(h2:j<1073741824):fdivOk i j=true:=by unfold fdivOk;simp only[h,h2,decide_true,Bool.and_self]
theorem shrOk_of (i j:Int)(h:0<=j):shrOk i j=true:=by unfold shrOk;simp only[h,decide_true]
theorem at4 (a b c d:Int)(k:Int)(j:0<=k)(h1:k<4):∃ x,atI [D.int a,.int b,.int c,.int d] k=some (.int x)/\(x=a\/x=b\/x=c\/x=d):=by
 have:k=0\/k=1\/k=2\/k=3:=by omega
 rcases this with h|h|h|h <;> subst h
 .exact⟨_,rfl,by simp⟩
 .exact⟨_,rfl,by simp⟩
 .exact⟨_,rfl,by simp⟩
 .exact⟨_,rfl,by simp⟩
theorem at8 (a b c d e f g h:Int)(k:Int)(j:0<=k)(h1:k<8):∃ x,atI [D.int a,.int b,.int c,.int d,.int e,.int f,.int g,.int h] k=some (.int x):=by
 have:k=0\/k=1\/k=2\/k=3\/k=4\/k=5\/k=6\/k=7:=by omega
 rcases this with h|h|h|h|h|h|h|h <;> subst h <;> exact⟨_,rfl⟩
theorem at2 (a b:Int)(k:Int)(j:0<=k)(h1:k<2):∃ x,atI [D.int a,.int b] k=some (.int x):=by
 have:k=0\/k=1:=by omega
 rcases this with h|h <;> subst h <;> exact⟨_,rfl⟩
theorem bit01 (x:Int)(h:0<=x):0<=Builtin.bitAnd x 1/\Builtin.bitAnd x 1<=1:=by
 unfold Builtin.bitAnd
 rw[show decide (0<=x)=true from decide_eq_true h]
 have:(x.toNat&&& (1:Int).toNat:Nat)<=(1:Int).toNat:=Nat.and_le_right
 refine⟨?_,?_⟩
 .show (0:Int)<=((x.toNat&&& (1:Int).toNat:Nat):Int)
  omega
 .show ((x.toNat&&& (1:Int).toNat:Nat):Int)<=1
  have e:(1:Int).toNat=1:=rfl
  omega
theorem shr_nonneg {x:Int}(h:0<=x)(k:Nat):0<=x / 2^k:=Int.ediv_nonneg h (Int.pow_nonneg (by decide))
theorem enumL_map:∀(η:List Int)(k:Nat),enumL k (η.map .int)=(List.range η.length).map fun(i:Nat)=>D.tup [.int ((k+i:Nat):Int),.int (η.getD i 0)]
 |[],k=>rfl
 |x::η,k=>by
  rw[map_cons,enumL,enumL_map η (k+1),length_cons,range_succ_eq_map,map_cons,map_map]
  congr 1
  apply map_congr_left
  intro i _
  simp only[Function.comp,Nat.succ_eq_add_one,getD_cons_succ]
  rw[show k+1+i=k+(i+1)by omega]
theorem eq_nilF (ds:List D):eqFD false (.lst ds) (.lst [])=some (.bl ds.isEmpty):=by
 unfold eqFD eqF
 cases ds with
 |nil=>rfl
 |cons d ds=>rfl
theorem eq_nilT (ds:List D):eqFD true (.lst ds) (.lst [])=some (.bl (!ds.isEmpty)):=by
 unfold eqFD eqF
 cases ds with
 |nil=>rfl
 |cons d ds=>rfl
theorem cutI_len {j:Type}(xs:List j)(lo hi:Option Int):(cutI xs lo hi).length<=xs.length:=by
 unfold cutI;rw[length_take,length_drop];omega
theorem ixN_in {n:Nat}{k:Int}(j:0<=k)(h1:k<n):ixN n k=some k.toNat:=by unfold ixN;rw[if_pos j,if_pos h1]
theorem zipE_int (n:Nat):∀ xs:List Int,zipE (eqF (n+1)) (xs.map .int) (xs.map .int)=some true
 |[]=>rfl
 |x::xs=>by
  rw[map_cons,zipE,zipE_int n xs]
  show (some (x==x)).bind _=_
  rw[beq_self_eq_true];rfl
theorem eqF_li (n:Nat)(xs:List Int):eqF (n+2) (.lst (xs.map .int)) (.lst (xs.map .int))=some true:=by
 show (if _=_ then zipE (eqF (n+1)) (xs.map .int) (xs.map .int)else some false)=_
 rw[if_pos rfl,zipE_int]
theorem eq_pair (xs ys:List Int):eqFD true (.lst [.lst (xs.map .int),.lst (ys.map .int)]) (.lst [.lst (xs.map .int),.lst (ys.map .int)])=some (.bl false):=by
 have:eqF 8 (.lst [.lst (xs.map .int),.lst (ys.map .int)]) (.lst [.lst (xs.map .int),.lst (ys.map .int)])=some true:=by
  show (if _=_ then zipE (eqF 7) [.lst (xs.map .int),.lst (ys.map .int)] [.lst (xs.map .int),.lst (ys.map .int)]else some false)=_
  rw[if_pos rfl]
  simp only[zipE,eqF_li 5,Option.bind_some,Bool.and_self]
 unfold eqFD
 rw[this];rfl
theorem runB_run {n:Nat}{m:MS}{ds:List D}{d:D}(h:Run m (startS n ds) (fun o=>o= .rt d)):runB n m ds=some (.sh d):=by
 obtain⟨o,e,rfl⟩:=h
 exact runB_rt e
theorem mcall_fr {f:MF}{m:ML}{ρ:Ro}{ds es:List D}(h:m ρ=some ds)(h2:f ds=some (.fr es)):mcall f m ρ=some (.lst es):=by
 unfold mcall;rw[h];show (match f ds with |some (.sh d)=>some d|some (.fr es)=>some (D.lst es)|some (.pr d es)=>some (.tup [d,.lst es])|none=>none)=_;rw[h2]
theorem mcall_sh {f:MF}{m:ML}{ρ:Ro}{ds:List D}{d:D}(h:m ρ=some ds)(h2:f ds=some (.sh d)):mcall f m ρ=some d:=by
 unfold mcall;rw[h];show (match f ds with |some (.sh d)=>some d|some (.fr es)=>some (D.lst es)|some (.pr d es)=>some (.tup [d,.lst es])|none=>none)=_;rw[h2]
theorem acons_ev {x:ME}{r:ML}{ρ:Ro}{d:D}{ds:List D}(h:x ρ=some d)(h2:r ρ=some ds):acons x r ρ=some (d::ds):=by
 unfold acons;rw[h,h2];rfl
theorem anil_ev {ρ:Ro}:anil ρ=some []:=rfl
theorem compD_filter {j:Type}{g:Tg}{c:MB}{z:ME}{f:j->D}{p:j->Bool}{G:j->D}(I:List j->Ro->Prop)
  (J:∀ d ds ρ,I (d::ds) ρ->∃ ρ1,tgD g (f d) ρ=some ρ1/\c ρ1=some (p d)/\(p d=true->z ρ1=some (G d))/\I ds ρ1):
  ∀(ds:List j)(ρ:Ro)(acc:List D),I ds ρ->acc.length+ds.length<=sizeLine->compD g c z (ds.map f) ρ acc=some (acc++(ds.filter p).map G)
 |[],ρ,acc,h,hl=>by simp[compD]
 |d::ds,ρ,acc,h,hl=>by
  obtain⟨ρ1,h1,h2,N,L⟩:=J d ds ρ h
  rw[length_cons]at hl
  rw[map_cons]
  unfold compD
  rw[h1]
  simp only[h2]
  cases hp:p d with
  |false=>
   simp only
   rw[compD_filter I J ds ρ1 acc L (by omega),filter_cons,hp]
   rfl
  |true=>
   simp only[N hp]
   rw[if_pos (by omega),compD_filter I J ds ρ1 _ L (by simp;omega),filter_cons,hp]
   simp
theorem mset_ev {i:Nat}{x:ME}{ρ:Ro}{d:D}(h:x ρ=some d):mset i x ρ=some (.nx (ρ.set i (some (.sh d)))):=by unfold mset;rw[h];rfl
theorem mlst_ev {m:ML}{ρ:Ro}{ds:List D}(h:m ρ=some ds):mlst m ρ=some (.lst ds):=by unfold mlst;rw[h];rfl
theorem sized_ev {m:ML}{ρ:Ro}{ds:List D}(h:m ρ=some ds)(j:ds.length<=sizeLine):sized m ρ=some ds:=by
 unfold sized;rw[h];show (if ds.length<=sizeLine then some ds else none)=_;rw[if_pos j]
theorem mix_ev {m:ML}{i:ME}{ρ:Ro}{ds:List D}{k:Int}{d:D}(h1:m ρ=some ds)(h2:i ρ=some (.int k))(j:atI ds k=some d):mix m i ρ=some d:=by
 unfold mix;rw[h1,h2];exact j
theorem eqB_nilD {m:ML}{ρ:Ro}{ds:List D}(h:m ρ=some ds)(j:Bool):meqB j m (sized anil) ρ=some (.bl (if j then !ds.isEmpty else ds.isEmpty)):=by
 have z:0<=sizeLine:=Nat.zero_le _
 have e:sized anil ρ=some []:=by simp_arith [z,if_true]
 unfold meqB
 rw[h,e]
 cases j
 .simp only[Option.bind_some,eq_nilF];rfl
 .simp only[Option.bind_some,eq_nilT];rfl
theorem aslst_ev {m:ME}{ρ:Ro}{ds:List D}(h:m ρ=some (.lst ds)):aslst m ρ=some ds:=by unfold aslst;rw[h]
theorem mcat_ev {x y:ML}{ρ:Ro}{ds es:List D}(h1:x ρ=some ds)(h2:y ρ=some es)(j:ds.length+es.length<=sizeLine):mcat x y ρ=some (ds++es):=by
 unfold mcat;rw[h1,h2];show (if ds.length+es.length<=sizeLine then some (ds++es)else none)=_;rw[if_pos j]
section
open PySem L2
theorem try_ok {names:List Str}{mb z:MS}{j:MXs}{i:Nat}{ρ:Ro}{o:Out}(h:mb ρ=some o):mtry names mb j i z ρ=some o:=by unfold mtry;rw[h]
theorem try_x {names:List Str}{mb z:MS}{j:MXs}{i:Nat}{ρ ρ1 ρ2:Ro}{c:Str}(h:mb ρ=none)(G:j ρ=some (c,ρ1))(L:c∈names)(J:z (ρ1.set i (some (.sh (.exc c))))=some (.nx ρ2)):mtry names mb j i z ρ=some (.nx (ρ2.set i none)):=by
 unfold mtry
 rw[h,G]
 dsimp only
 rw[if_pos L,J]
theorem mif_ev {c:MB}{x y:MS}{ρ:Ro}{b:Bool}(h:c ρ=some b):mif c x y ρ=(if b then x else y) ρ:=by unfold mif;rw[h];cases b <;> rfl
theorem xif_ev {c:MB}{x y:MXs}{ρ:Ro}{b:Bool}(h:c ρ=some b):xif c x y ρ=(if b then x else y) ρ:=by unfold xif;rw[h];cases b <;> rfl
theorem mexpr_ev {x:ME}{ρ:Ro}{d:D}(h:x ρ=some d):mexpr x ρ=some (.nx ρ):=by unfold mexpr;rw[h];rfl
theorem mexpr_no {x:ME}{ρ:Ro}(h:x ρ=none):mexpr x ρ=none:=by unfold mexpr;rw[h];rfl
theorem mcall_no {f:MF}{m:ML}{ρ:Ro}{ds:List D}(h:m ρ=some ds)(h2:f ds=none):mcall f m ρ=none:=by unfold mcall;rw[h];show (match f ds with |some (.sh d)=>some d|some (.fr es)=>some (.lst es)|some (.pr d es)=>some (.tup [d,.lst es])|none=>none)=_;rw[h2]
theorem xcall_ev {x:MFX}{m:ML}{ρ:Ro}{ds:List D}{c:Str}(h:m ρ=some ds)(h2:x ds=some c):xcall x m ρ=some c:=by unfold xcall;rw[h];exact h2
theorem xE_ev {x:MXe}{ρ:Ro}{c:Str}(h:x ρ=some c):xE x ρ=some (c,ρ):=by unfold xE;rw[h];rfl
theorem runX_ev {n:Nat}{x:MXs}{ds:List D}{c:Str}{ρ:Ro}(h:x (startS n ds)=some (c,ρ)):runX n x ds=some c:=by unfold runX;rw[h];rfl
theorem xraise_ev {c:Str}{m:ML}{ρ:Ro}{ds:List D}(h:m ρ=some ds):xraise c m ρ=some (c,ρ):=by unfold xraise;rw[h];rfl
theorem mseq_no {x y:MS}{ρ:Ro}(h:x ρ=none):mseq x y ρ=none:=by unfold mseq;rw[h]
theorem runB_no {n:Nat}{m:MS}{ds:List D}(h:m (startS n ds)=none):runB n m ds=none:=by unfold runB;rw[h]
theorem misX_ev {tab:List (Str×Bool)}{m:ME}{ρ:Ro}{c:Str}{k:Bool}(h:m ρ=some (.exc c))(h2:tab.lookup c=some k):misX tab m ρ=some (.bl k):=by unfold misX;rw[h];simp only[h2];rfl
end
section
open PySem L2
theorem stir_eq (c k:Int)(hk:0<=k):m_Z8 [.int c,.int k]=some (.sh (.int (stir c k))):=by
 have hp:((10:Int)^(18:Int).toNat)=10^18:=rfl
 have j:((2:Int)^(28:Int).toNat)=2^28:=rfl
 have L:powOk 10 18=true:=by decide
 have J:powOk 2 28=true:=by decide
 have G:mulOk 28 k=true:=mulOk_l _ _ (by decide) (by decide)
 have o4:mulOk 1013 k=true:=mulOk_l _ _ (by decide) (by decide)
 have o5:mulOk (c+1013*k+1) 16807=true:=mulOk_r _ _ (by decide) (by decide)
 have o6:shrOk (c-10^18) (28*k)=true:=by unfold shrOk;exact decide_eq_true (by omega)
 have Z:mulOk ((c+1013*k+1)*16807 % 2147483647) ((c+1013*k+1)*16807 % 2147483647)=true:=mulOk_l _ _ (by omega) (by omega)
 have Y:mulOk (((c+1013*k+1)*16807 % 2147483647)*((c+1013*k+1)*16807 % 2147483647) % 2147483629) 39373=true:=mulOk_r _ _ (by decide) (by decide)
 have z:∀ i,modOk i (2^28)=true:=fun i=>modOk_of _ _ (by decide)
 have U:∀ i,modOk i 2147483647=true:=fun i=>modOk_of _ _ (by decide)
 have O:∀ i,modOk i 2147483629=true:=fun i=>modOk_of _ _ (by decide)
 have N:∀ i,modOk i 2147483587=true:=fun i=>modOk_of _ _ (by decide)
 have f1:∀ i,fdivOk i 8=true:=fun i=>by unfold fdivOk;decide
 unfold m_Z8 b_Z8 stir
 by_cases h:10^18<=c
 .simp_arith [hp,j,L,J,G,o6,z,h,decide_true,if_true]
 .simp_arith [hp,j,L,J,G,o4,o5,Z,Y,z,U,O,N,f1,h,decide_false,if_true,if_false]
theorem cells_eq (ns:List Int)(many:Nat)(N:ns.length<=63):∃ L:List Int,m_Z5 [.lst (ns.map .int),.int many]=some (.fr (L.map .int)):=by
 unfold m_Z5 b_Z5
 have J:cutL (ns.map D.int) none (some (many:Int))=(ns.take many).map .int:=by rw[cutL_map,cutI_to]
 have G:[D.int 0]=([0]:List Int).map .int:=rfl
 have g:((ns.take many).map D.int).length+[D.int 0].length<=sizeLine:=le_size (by simp;omega)
 have z:1<=sizeLine:=le_size (by decide)
 refine⟨cutI (ns.take many++[0]) none (some (max 1 (min (many:Int) (ns.length:Int)))),runB_rf ?_⟩
 simp_arith [J,z,if_true,length_map,max_if,min_if]
 have j:(ns.take many).length+(0+1)<=sizeLine:=le_size (by simp;omega)
 rw[if_pos j]
 simp_arith []
 rw[G,<-map_append,cutL_map]
noncomputable def envR (c most size kind wide block:Int)(f:List Int)(last:Int)(o8 o9 o10:Option S):Ro:=[k0c c,k0c most,k0c size,k0c kind,k0c wide,k0c block,some (.own (f.map .int)),k0c last,o8,o9,o10]
theorem row_body (c J size kind wide z:Int)(f:List Int)(G:Int)(j:Nat)(U L:Option S)(a2:0<=kind)(a1:kind<8)(hw:0<wide)(a3:wide<=1000000)(hb:0<z)(a4:z<=9)(hf:f.length<1000000)(Q:Out->Prop)
  (hQ:∀ x G o8 U L,Q (.nx (envR c J size kind wide z (f++[x]) G o8 U L))):Run b_Z11_f0 (envR c J size kind wide z f G (k0b j) U L) Q:=by
 have s1:=stir_eq c (10+(j:Int)) (by omega)
 have b1:=mod_cases (x:=stir c (10+(j:Int))) hw
 obtain⟨one,eo⟩:∃ k,stir c (10+(j:Int)) % wide=k:=⟨_,rfl⟩
 rw[eo]at b1
 have O:(10:Int)^(23:Int).toNat=100000000000000000000000:=by decide
 have Y:powOk 10 23=true:=by decide
 have i1:0+1<=sizeLine:=le_size (by decide)
 have i2:0+1+1<=sizeLine:=le_size (by decide)
 have i3:0+1+1+1<=sizeLine:=le_size (by decide)
 have i4:0+1+1+1+1<=sizeLine:=le_size (by decide)
 have i7:0+1+1+1+1+(0+1+1+1)<=sizeLine:=le_size (by decide)
 have i8:0+1+1+1+1+1+1+1+(0+1)<=sizeLine:=le_size (by decide)
 have d2:∀ i,fdivOk i 2=true:=fun i=>fdivOk_of _ _ (by decide) (by decide)
 have N:=mod_cases (x:=(j:Int)) (show (0:Int)<2 by decide)
 obtain⟨x2,e2⟩:=at2 one (0-one) ((j:Int) % 2) N.1 N.2
 have mb:=mod_cases (x:=(j:Int) / z) (show (0:Int)<2 by decide)
 have a0:mulOk ((j:Int) / z % 2) wide=true:=mulOk_l _ _ (by omega) (by omega)
 have Z:mulOk (one-wide / 2) 100000000000000000000000=true:=mulOk_l _ _ (by omega) (by omega)
 unfold b_Z11_f0 envR
 ((apply run_seq;focus (simp_arith [s1,modOk_of (stir c (10+(j:Int))) wide hw,if_true,eo];rfl)))
 ((apply run_seq;focus (simp_arith [d2,if_true];rfl)))
 ((apply run_seq;focus (simp_arith [d2,if_true,i4,i2,modOk_of (j:Int) 2 (by decide),e2];rfl)))
 ((apply run_seq;focus (simp_arith [d2,if_true,i3,i7,fdivOk_of (j:Int) z hb (by omega),modOk_of ((j:Int) / z) 2 (by decide),a0,Z,O,Y,s1,modOk_of (stir c (10+(j:Int))) 3 (by decide)];rfl)))
 obtain⟨x8,e8⟩:=at8 (one-wide / 2) ((j:Int)+one / 2) (0-(j:Int)-one / 2) x2 (one+(j:Int) / z % 2*wide) wide ((one-wide / 2)*100000000000000000000000+stir c (10+(j:Int)) % 3) (G+one-wide / 2) kind a2 a1
 have hl:(f.map D.int).length<sizeLine:=by simp;have:=size_big;omega
 refine⟨_,by simp_arith [i1,i8,if_true,e8,hl];rfl,?_⟩
 have:=fun a b d=>hQ x8 (G+one-wide / 2) a b d
 unfold envR at this
 simp only[map_append]at this
 exact this _ _ _
theorem row_eq (c:Int)(z:Nat)(hm:z<=300):∃ f:List Int,f.length<=z/\m_Z11 [.int c,.int z]=some (.fr (f.map .int)):=by
 suffices h:∃ es,m_Z11 [.int c,.int z]=some (.fr es)/\∃ f:List Int,f.length<=z/\es=f.map .int by
  obtain⟨es,e,f,U,rfl⟩:=h
  exact⟨f,U,e⟩
 unfold m_Z11 b_Z11
 refine runB_rfR ?_
 have Y:0+1+1+1+1<=sizeLine:=le_size (by decide)
 have i0:0<=sizeLine:=Nat.zero_le _
 have p6:(10:Int)^(6:Int).toNat=1000000:=by decide
 have o6:powOk 10 6=true:=by decide
 have b1:=mod_cases (x:=stir c 1) (show (0:Int)<4 by decide)
 have b2:=mod_cases (x:=stir c 2) (show (0:Int)<8 by decide)
 have Z:=mod_cases (x:=stir c 3) (show (0:Int)<4 by decide)
 have b4:=mod_cases (x:=stir c 4) (show (0:Int)<9 by decide)
 obtain⟨sz,e1,a0⟩:=at4 4 13 41 ((z:Int)+1) (stir c 1 % 4) b1.1 b1.2
 have O:0<sz:=by omega
 have b0:=mod_cases (x:=stir c 0) O
 ((apply run_seq;focus (simp_arith [stir_eq c 0 (by decide),stir_eq c 1 (by decide),Y,if_true,modOk_of (stir c 1) 4 (by decide),e1,modOk_of (stir c 0) sz O];rfl)))
 ((apply run_seq;focus (simp_arith [stir_eq c 2 (by decide),if_true,modOk_of (stir c 2) 8 (by decide)];rfl)))
 obtain⟨wide,e3,hw⟩:=at4 2 5 50 1000000 (stir c 3 % 4) Z.1 Z.2
 ((apply run_seq;focus (simp_arith [stir_eq c 3 (by decide),Y,if_true,modOk_of (stir c 3) 4 (by decide),p6,o6,e3];rfl)))
 ((apply run_seq;focus (simp_arith [stir_eq c 4 (by decide),if_true,modOk_of (stir c 4) 9 (by decide)];rfl)))
 ((apply run_seq;focus (simp_arith [i0,if_true];rfl)))
 ((apply run_seq;focus (simp_arith [];rfl)))
 obtain⟨n,en⟩:=nat_of (x:=min (stir c 0 % sz) (z:Int)) (by omega)
 have hn:n<=300:=by omega
 have a1:n<=z:=by omega
 have k1:okR (n:Int)=true:=okR_of (by omega) (by omega)
 refine run_mseq (run_forN n (f:=fun(j:Nat)=>D.int (j:Int)) (by simp_arith [min_if,en,rng1_ok k1,Int.toNat_natCast];rw[rangeD_li,map_map];rfl)
  (I:=fun j ρ=>∃ f G N L J,f.length=j/\ρ=envR c z (stir c 0 % sz) (stir c 2 % 8) wide (1+stir c 4 % 9) f G N L J) _ ⟨[],_,_,_,_,rfl,rfl⟩ ?_ ?_)
 .rintro j ρ hj ⟨f,G,N,L,J,U,rfl⟩
  refine⟨_,rfl,row_body c z (stir c 0 % sz) (stir c 2 % 8) wide (1+stir c 4 % 9) f G j L J b2.1 b2.2 (by omega) (by omega) (by omega) (by omega) (by omega) _ fun x G N L J=>⟨f++[x],G,N,L,J,by simp[U],rfl⟩⟩
 .rintro ρ ⟨f,G,N,L,J,U,rfl⟩
  exact run_retO rfl ⟨_,rfl,f,by omega,rfl⟩
theorem mtru_bl {x:ME}{ρ:Ro}{b:Bool}(h:x ρ=some (.bl b)):mtru x ρ=some b:=by unfold mtru;rw[h];rfl
theorem cnot_ev {x:MB}{ρ:Ro}{b:Bool}(h:x ρ=some b):cnot x ρ=some (!b):=by unfold cnot;rw[h];rfl
theorem mtest_bl {x:ME}{ρ:Ro}{b:Bool}(h:x ρ=some (.bl b)):mtest x ρ=some b:=by unfold mtest;rw[h]
theorem call1_ev {f:List D->Option D}{m:ML}{ρ:Ro}{ds:List D}(h:m ρ=some ds):call1 f m ρ=f ds:=by
 unfold call1;rw[h];rfl
theorem m2_at {f:D->D->Option D}{x y:ME}{ρ:Ro}{a b:D}(h1:x ρ=some a)(h2:y ρ=some b):m2 f x y ρ=f a b:=by
 unfold m2;rw[h1,h2];rfl
end
section
open PySem L2
noncomputable def pok (n:Nat):Int->List Int->Bool
 |_,[]=>true
 |l,p::ps=>if p<l\/(n:Int)<=p then false else pok n (p+1) ps
theorem are_places_eq (η places:List Int):m_Z4 [.lst (η.map .int),.lst (places.map .int)]=some (.sh (.bl (pok η.length 0 places))):=by
 unfold m_Z4 b_Z4
 refine runB_rt ?_
 ((apply seqI;focus (simp_arith [];rfl)))
 refine seq_for places (f:=D.int) (by simp_arith []) (I:=fun ps ρ=>∃ l x,ρ=[k0a η,k0a places,k0c l,x]/\pok η.length 0 places=pok η.length l ps)
  (Q:=fun o=>(∃ ρ,o= .nx ρ/\pok η.length 0 places=true)\/(o= .rt (.bl false)/\pok η.length 0 places=false)) ⟨0,none,rfl,rfl⟩ ?_ ?_ ?_
 .rintro p ps ρ ⟨l,x,rfl,e⟩
  simp only[pok]at e
  by_cases h1:p<l
  .rw[if_pos (Or.inl h1)]at e
   exact⟨_,.rt (.bl false),rfl,by unfold b_Z4_f0;simp_arith [length_map,h1,decide_true],Or.inr ⟨rfl,e⟩⟩
  .by_cases h2:(η.length:Int)<=p
   .rw[if_pos (Or.inr h2)]at e
    exact⟨_,.rt (.bl false),rfl,by unfold b_Z4_f0;simp_arith [length_map,h1,h2,decide_true,decide_false],Or.inr ⟨rfl,e⟩⟩
   .rw[if_neg (by omega)]at e
    exact⟨_,.nx _,rfl,by unfold b_Z4_f0;simp_arith [length_map,h1,h2,decide_true,decide_false];rfl,_,_,rfl,e⟩
 .rintro ρ ⟨l,x,rfl,e⟩
  exact Or.inl ⟨_,rfl,e⟩
 .rintro o (⟨ρ,rfl,e⟩|⟨rfl,e⟩)
  .rw[e];rfl
  .rw[e];rfl
noncomputable def turn (t:Int×Int×Int):Bool:=decide (max t.1 t.2.2<t.2.1) || decide (t.2.1<min t.1 t.2.2)
noncomputable def trip:List Int->List (Int×Int×Int)
 |a::b::c::r=>(a,b,c)::trip (b::c::r)
 |_=>[]
theorem zipW3_trip:∀ ns:List Int,zipW3 (ns.map .int) ((ns.drop 1).map .int) ((ns.drop 2).map .int)=(trip ns).map fun t=>.tup [.int t.1,.int t.2.1,.int t.2.2]
 |[]=>rfl
 |[_]=>rfl
 |[_,_]=>rfl
 |a::b::c::r=>by
  have:=zipW3_trip (b::c::r)
  simp only[drop_succ_cons,drop_zero,map_cons]at this
  simp only[drop_succ_cons,drop_zero,map_cons,trip,zipW3,List.cons.injEq,true_and]
  exact this
theorem turns_of_eq (ns:List Int):m_Z7 [.lst (ns.map .int)]=some (.sh (.int (((trip ns).filter turn).length:Nat))):=by
 unfold m_Z7 b_Z7
 refine runB_rt ?_
 ((apply seqI;focus (simp_arith [];rfl)))
 have h1:cutI ns (some 1) none=ns.drop 1:=cutI_from ns 1
 have h2:cutI ns (some 2) none=ns.drop 2:=cutI_from ns 2
 refine seq_for (trip ns) (f:=fun t=>.tup [.int t.1,.int t.2.1,.int t.2.2]) (by simp_arith [cutL_map,h1,h2,zipW3_trip]) (I:=fun G ρ=>∃ k:Nat,∃ x y z,ρ=[k0a ns,some (.sh (.int (k:Nat))),x,y,z]/\((trip ns).filter turn).length=k+(G.filter turn).length)
  (Q:=fun o=>∃ x y z,o= .nx [k0a ns,some (.sh (.int (((trip ns).filter turn).length:Nat))),x,y,z]) ⟨0,none,none,none,rfl,by simp⟩ ?_ ?_ ?_
 .rintro⟨a,b,c⟩ G ρ ⟨k,x,y,z,rfl,e⟩
  refine⟨_,.nx [k0a ns,some (.sh (.int ((k+if turn (a,b,c)then 1 else 0:Nat):Nat))),k0c a,k0c b,k0c c],rfl,?_,?_⟩
  .unfold b_Z7_f0
   by_cases j:max a c<b
   .have t:turn (a,b,c)=true:=by unfold turn;simp[j]
    simp_arith [max_if,min_if,j,decide_true,t,if_true];simp
   .by_cases q2:b<min a c
    .have t:turn (a,b,c)=true:=by unfold turn;simp[q2]
     simp_arith [max_if,min_if,j,q2,decide_true,decide_false,t,if_true];simp
    .have t:turn (a,b,c)=false:=by unfold turn;simp[j,q2]
     simp_arith [max_if,min_if,j,q2,decide_true,decide_false,t,if_true];simp
  .refine⟨_,_,_,_,rfl,?_⟩
   rw[e,filter_cons]
   split <;> simp_all <;> omega
 .rintro ρ ⟨k,x,y,z,rfl,e⟩
  exact⟨x,y,z,by rw[e];simp⟩
 .rintro o ⟨x,y,z,rfl⟩
  unfold after
  simp_arith []
noncomputable def wD:Option Bool->D
 |none=>.non
 |some b=>.bl b
theorem far_eq (c k:Int)(L:0<=k):∃ x:Int,0<=x/\m_Z10 [.int c,.int k]=some (.sh (.int x)):=by
 unfold m_Z10 b_Z10
 have J:0+1+1+1+1<=sizeLine:=le_size (by decide)
 have j:(10:Int)^(29:Int).toNat=100000000000000000000000000000:=by decide
 have z:powOk 10 29=true:=by decide
 have G:=mod_cases (x:=stir c k) (show (0:Int)<4 by decide)
 have O:=mod_cases (x:=stir c (k+1)) (show (0:Int)<1000 by decide)
 obtain⟨x,e,N⟩:=at4 0 1 (stir c (k+1) % 1000) 100000000000000000000000000000 (stir c k % 4) G.1 G.2
 refine⟨x,by omega,runB_rt ?_⟩
 simp_arith [stir_eq c k L,stir_eq c (k+1) (by omega),J,if_true,j,z,modOk_of (stir c (k+1)) 1000 (by decide),modOk_of (stir c k) 4 (by decide),e]
theorem some_eq (c k:Int)(n:Nat)(hk:0<=k)(hn:n<=300):∃ f:List Int,f.length<=n/\m_Z9 [.int c,.int k,.int n]=some (.fr (f.map .int)):=by
 suffices h:∃ es,m_Z9 [.int c,.int k,.int n]=some (.fr es)/\∃ f:List Int,f.length<=n/\es=f.map .int by
  obtain⟨es,e,f,N,rfl⟩:=h
  exact⟨f,N,e⟩
 unfold m_Z9 b_Z9
 refine runB_rfR ?_
 have i0:0<=sizeLine:=Nat.zero_le _
 have k1:okR (n:Int)=true:=okR_of (by omega) (by omega)
 ((apply run_seq;focus (simp_arith [i0,if_true];rfl)))
 refine run_mseq (run_forN n (f:=fun(j:Nat)=>D.int (j:Int)) (by simp_arith [rng1_ok k1,Int.toNat_natCast];rw[rangeD_li,map_map];rfl)
  (I:=fun j ρ=>∃(f:List Int)(G z:Option S),f.length<=j/\ρ=[k0c c,k0c k,k0b n,some (.own (f.map .int)),G,z]) _ ⟨[],_,_,Nat.le_refl _,rfl⟩ ?_ ?_)
 .rintro j ρ hj ⟨f,G,z,N,rfl⟩
  refine⟨_,rfl,?_⟩
  unfold b_Z9_f0
  have J:=mod_cases (x:=(j:Int)) (show (0:Int)<28 by decide)
  have a0:0<=(j:Int) / 28:=Int.ediv_nonneg (by omega) (by decide)
  have s1:=stir_eq c (k+1+(j:Int) / 28) (by omega)
  have s2:=stir_eq c (k+13+(j:Int) / 28) (by omega)
  have O:=stir_eq c k hk
  have q1:=bit01 _ (shr_nonneg (stir_nonneg c (k+1+(j:Int) / 28)) ((j:Int) % 28).toNat)
  obtain⟨b0,Z⟩:∃ b,Builtin.bitAnd (stir c (k+1+(j:Int) / 28) / 2^((j:Int) % 28).toNat) 1=b:=⟨_,rfl⟩
  rw[Z]at q1
  ((apply run_seq;focus (simp_arith [s1,fdivOk_of (j:Int) 28 (by decide) (by decide),modOk_of (j:Int) 28 (by decide),if_true,shrOk_of (stir c (k+1+(j:Int) / 28)) ((j:Int) % 28) J.1,Z];rfl)))
  have l1:(f.map D.int).length<sizeLine:=by simp;have:=size_big;omega
  have L:∀ b:Int,Run (mif (mtest (m2 eqSD (mvar 5) (mc (.int 1)))) (mapp 3 (mvar 4)) mnext) [k0c c,k0c k,k0b n,some (.own (f.map .int)),k0b j,k0c b]
    (stepO (fun(_:List Unit) ρ=>∃(f:List Int)(G z:Option S),f.length<=j+1/\ρ=[k0c c,k0c k,k0b n,some (.own (f.map .int)),G,z]) (afterR (mretO 3) fun o=>∃ es,o= .rf es/\∃ f:List Int,f.length<=n/\es=f.map .int) []):=by
   intro b
   by_cases Y:b=1
   .have e1:(b==1)=true:=by rw[Y];rfl
    refine⟨_,by simp_arith [e1,l1,if_true];rfl,?_⟩
    refine⟨f++[(j:Int)],k0b j,k0c b,by simp;omega,?_⟩
    rw[map_append]
    rfl
   .have e1:(b==1)=false:=beq_eq_false_iff_ne.mpr Y
    refine⟨_,by simp_arith [e1];rfl,?_⟩
    exact⟨f,_,_,by omega,rfl⟩
  by_cases U:0<stir c k % 3
  .have mu:mulOk b0 (Builtin.bitAnd (stir c (k+13+(j:Int) / 28) / 2^((j:Int) % 28).toNat) 1)=true:=mulOk_l _ _ (by omega) (by omega)
   ((apply run_seq;focus (simp_arith [O,s2,modOk_of (stir c k) 3 (by decide),U,decide_true,fdivOk_of (j:Int) 28 (by decide) (by decide),modOk_of (j:Int) 28 (by decide),if_true,shrOk_of (stir c (k+13+(j:Int) / 28)) ((j:Int) % 28) J.1,mu];rfl)))
   exact L _
  ·((apply run_seq;focus (simp_arith [O,modOk_of (stir c k) 3 (by decide),U,decide_false,if_true];rfl)))
   exact L _
 .rintro ρ ⟨f,G,z,N,rfl⟩
  exact run_retO rfl ⟨_,rfl,f,N,rfl⟩
theorem eqS_way (w:Option Bool)(b:Bool):∃ t,eqS (wD w) (.bl b)=some t:=by
 cases w with
 |none=>exact⟨false,rfl⟩
 |some i=>exact⟨i==b,rfl⟩
noncomputable def envT (c k:Int)(η:List Int)(step:Int)(f:List Int)(w:Option Bool)(o6 o7 o8 o9:Option S):Ro:=[k0c c,k0c k,k0a η,k0c step,some (.own (f.map .int)),some (.sh (wD w)),o6,o7,o8,o9]
theorem by_turns_eq (c k:Int)(η:List Int)(step:Int)(hk:0<=k)(hn:η.length<=300):∃ f:List Int,f.length<=η.length/\m_Z2 [.int c,.int k,.lst (η.map .int),.int step]=some (.fr (f.map .int)):=by
 suffices h:∃ es,m_Z2 [.int c,.int k,.lst (η.map .int),.int step]=some (.fr es)/\∃ f:List Int,f.length<=η.length/\es=f.map .int by
  obtain⟨es,e,f,hf,rfl⟩:=h
  exact⟨f,hf,e⟩
 unfold m_Z2 b_Z2
 refine runB_rfR ?_
 have i0:0<=sizeLine:=Nat.zero_le _
 ((apply run_seq;focus (simp_arith [i0,if_true];rfl)))
 ((apply run_seq;focus (simp_arith [];rfl)))
 refine run_mseq (run_forN η.length (f:=fun(i:Nat)=>D.tup [.int ((0+i:Nat):Int),.int (η.getD i 0)]) (by simp_arith [enumL_map])
  (I:=fun j ρ=>∃(f:List Int)(w:Option Bool)(N L J G:Option S),f.length<=j/\(∀ p∈f,0<=p/\p<η.length)/\ρ=envT c k η step f w N L J G) _ ⟨[],none,_,_,_,_,Nat.le_refl _,by simp,rfl⟩ ?_ ?_)
 .rintro j ρ hj ⟨f,w,N,L,J,G,hf,hp,rfl⟩
  rw[show 0+j=j by omega]
  refine⟨_,rfl,?_⟩
  unfold b_Z2_f0
  have a5:=mod_cases (x:=(j:Int)) (show (0:Int)<28 by decide)
  have a7:0<=(j:Int) / 28:=Int.ediv_nonneg (by omega) (by decide)
  have s1:=stir_eq c (k+(j:Int) / 28) (by omega)
  have l1:(f.map D.int).length<sizeLine:=by simp;have:=size_big;omega
  obtain⟨z,Y⟩:∃ b,mand (m2 eqSD (m2 andD (m2 shrD (mcall m_Z8 (acons (mvar 0) (acons (m2 addD (mvar 1) (m2 fdivD (mvar 6) (mc (.int 28)))) anil))) (m2 modD (mvar 6) (mc (.int 28)))) (mc (.int 1))) (mc (.int 1))) (m2 gtD (m2 modD (mvar 6) (mc (.int 3))) (mc (.int 0)))
    (envT c k η step f w (k0b j) (some (.sh (.int (η.getD j 0)))) J G)=some (.bl b):=
   ⟨_,mand_bl (by unfold envT;simp_arith [s1,fdivOk_of (j:Int) 28 (by decide) (by decide),modOk_of (j:Int) 28 (by decide),if_true,shrOk_of (stir c (k+(j:Int) / 28)) ((j:Int) % 28) a5.1];rfl) (by unfold envT;simp_arith [modOk_of (j:Int) 3 (by decide),if_true];rfl)⟩
  refine run_seq (ρ':=envT c k η step f w (k0b j) (some (.sh (.int (η.getD j 0)))) (some (.sh (.bl z))) G) (by unfold mset;show Option.map _ (mand _ _ (envT c k η step f w (k0b j) (some (.sh (.int (η.getD j 0)))) J G))=_;rw[Y];rfl) ?_
  have keep:Run mnext (envT c k η step f w (k0b j) (some (.sh (.int (η.getD j 0)))) (some (.sh (.bl z))) G) (stepO (fun(_:List Unit) ρ=>∃(f:List Int)(w:Option Bool)(N L J G:Option S),f.length<=j+1/\(∀ p∈f,0<=p/\p<η.length)/\ρ=envT c k η step f w N L J G) (afterR (mretO 4) fun o=>∃ es,o= .rf es/\∃ f:List Int,f.length<=η.length/\es=f.map .int) []):=
   run_next ⟨f,w,_,_,_,_,by omega,hp,rfl⟩
  have O:∀(w':Option Bool)(N L J G:Option S),stepO (fun(_:List Unit) ρ=>∃(f:List Int)(w:Option Bool)(N L J G:Option S),f.length<=j+1/\(∀ p∈f,0<=p/\p<η.length)/\ρ=envT c k η step f w N L J G) (afterR (mretO 4) fun o=>∃ es,o= .rf es/\∃ f:List Int,f.length<=η.length/\es=f.map .int) []
    (.nx (envT c k η step (f++[(j:Int)]) w' N L J G)):=fun w' N L J G=>⟨_,w',N,L,J,G,by simp;omega,by
     intro p a6
     rcases List.mem_append.mp a6 with h|h
     .exact hp p h
     .rw[mem_singleton]at h;subst h;omega,rfl⟩
  unfold envT at O
  simp only[map_append,map_cons,map_nil]at O
  refine run_if (b:=(f.map D.int).isEmpty&& !z) ?_ ?_
  .unfold envT
   cases hE:(f.map D.int).isEmpty <;> simp_arith [eq_nilF,i0,if_true,hE] <;> cases z <;> rfl
  .cases f with
   |nil=>
    cases z with
    |false=>
     show Run (mapp 4 (mvar 6)) _ _
     unfold envT
     rw[map_nil,length_nil]at l1
     refine⟨_,by simp_arith [l1,if_true];rfl,?_⟩
     exact O _ _ _ _ _
    |true=>
     show Run (mif _ _ mnext) _ _
     refine run_if (b:=false) ?_ keep
     unfold envT
     simp_arith [eq_nilT,i0,if_true]
   |cons p0 f0=>
    show Run (mif _ _ mnext) _ _
    refine run_if (b:=!z) ?_ ?_
    .unfold envT
     simp_arith [eq_nilT,i0,if_true]
    .cases z with
     |true=>exact keep
     |false=>
      show Run (mseq _ _) _ _
      obtain⟨fi,pl,a3⟩:∃ fi pl,p0::f0=fi++[pl]:=⟨_,_,(dropLast_concat_getLast (cons_ne_nil p0 f0)).symm⟩
      have a0:=hp pl (by rw[a3];simp)
      have a1:atI ((p0::f0).map D.int) (-1)=some (.int pl):=by rw[a3];exact atI_last D.int fi pl
      have a2:=atI_map D.int η pl a0.1 a0.2 0
      rw[map_cons]at a1
      unfold envT
      ((apply run_seq;focus (simp_arith [a1,a2];rfl)))
      obtain⟨Z,a4⟩:∃ x,η.getD j 0-η.getD pl.toNat 0=x:=⟨_,rfl⟩
      rw[a4]
      obtain⟨t,et⟩:=eqS_way w (decide (0<Z))
      by_cases U:step<=(Z.natAbs:Int)
      .cases t with
       |true=>
        refine run_if (b:=false) (by simp_arith [abs_if,U,decide_true,et]) ?_
        exact run_next ⟨p0::f0,w,_,_,_,_,by omega,hp,rfl⟩
       |false=>
        refine run_if (b:=true) (by simp_arith [abs_if,U,decide_true,et]) ?_
        show Run (mseq _ _) _ _
        ((apply run_seq;focus (simp_arith [];rfl)))
        rw[map_cons,length_cons]at l1
        refine⟨_,by simp_arith [l1,if_true];rfl,?_⟩
        have:=fun a b d e=>O (some (decide (0<Z))) a b d e
        rw[map_cons,cons_append]at this
        exact this _ _ _ _
      .refine run_if (b:=false) (by simp_arith [abs_if,U,decide_false]) ?_
       exact run_next ⟨p0::f0,w,_,_,_,_,by omega,hp,rfl⟩
 .rintro ρ ⟨f,w,N,L,J,G,hf,hp,rfl⟩
  exact run_retO rfl ⟨_,rfl,f,hf,rfl⟩
noncomputable def LI (l:List Int):D:=.lst (l.map .int)
noncomputable def envO (c k:Int)(pl:List Int)(size at_ to_ far any:Int)(found:S)(o9 o10:Option S):Ro:=[k0c c,k0c k,k0a pl,k0c size,k0c at_,k0c to_,k0c far,k0c any,some found,o9,o10]
theorem odd_body (c k:Int)(pl:List Int)(size at_ G L any:Int)(J:List (List Int))(x:Int)(j:Option S)(a0:pl.length<=300)(a1:J.length<=100)(Q:Out->Prop)
  (hQ:∀ l1 l2:List Int,l1.length<=1000->l2.length<=1000->∀ o9 j,Q (.nx (envO c k pl size at_ G L any (.own ((J++[l1,l2]).map LI)) o9 j))):
  Run b_Z0_f0 (envO c k pl size at_ G L any (.own (J.map LI)) (k0c x) j) Q:=by
 have a2:=size_big
 have i1:0+1<=sizeLine:=le_size (by decide)
 have h1:=cutI_len pl none (some at_)
 have h2:=cutI_len pl (some at_) none
 have h3:=cutI_len pl (some (at_+1)) none
 obtain⟨z,N⟩:∃ r,cutI pl none (some at_)=r:=⟨_,rfl⟩
 obtain⟨O,Y⟩:∃ r,cutI pl (some at_) none=r:=⟨_,rfl⟩
 obtain⟨Z,e3⟩:∃ r,cutI pl (some (at_+1)) none=r:=⟨_,rfl⟩
 rw[N]at h1;rw[Y]at h2;rw[e3]at h3
 have U:z.length+(0+1)<=sizeLine:=le_size (by omega)
 have g2:(z.map D.int++[D.int x]).length+O.length<=sizeLine:=le_size (by simp;omega)
 have g3:(z.map D.int++[D.int x]).length+Z.length<=sizeLine:=le_size (by simp;omega)
 have l1:J.length<sizeLine:=by omega
 have l2:(J.map LI++[D.lst (z.map D.int++[D.int x]++O.map D.int)]).length<sizeLine:=by simp;omega
 unfold b_Z0_f0
 unfold envO
 ((apply run_seq;focus (simp_arith [cutL_map,N,Y,i1,if_true,length_map,U,g2,l1];rfl)))
 refine⟨_,by simp_arith [cutL_map,N,e3,i1,if_true,length_map,U,g3,l2];rfl,?_⟩
 have:=fun a b=>hQ (z++[x]++O) (z++[x]++Z) (by simp;omega) (by simp;omega) a b
 unfold envO at this
 simp only[map_append,map_cons,map_nil,LI]at this
 simp only[append_assoc,cons_append,nil_append]at this ⊢
 exact this _ _
theorem odd_tail (c k:Int)(pl:List Int)(size at_ j J any:Int)(z:List (List Int))(O L:Option S)(a0:pl.length<=300)(a3:z.length<=100)(ha:0<=at_)(U:0<=j)(hb:∀ l∈z,l.length<=1000):
  Run b_Z0_r1 (envO c k pl size at_ j J any (.own (z.map LI)) O L) (fun o=>∃ es,o= .rf es/\∃ z:List (List Int),z.length<=200/\(∀ l∈z,l.length<=1000)/\es=z.map LI):=by
 have a4:=size_big
 have i0:0<=sizeLine:=Nat.zero_le _
 have i2:0+1+1<=sizeLine:=le_size (by decide)
 have g:z.length+(0+1+1)<=sizeLine:=le_size (by omega)
 have G:∀ tn:List Int,tn.length<=1000->Run (mfreeze 10 (mretF (mcat (bvar 8) (sized (acons (mvar 10) (acons (mlst (sized anil)) anil)))))) [k0c c,k0c k,k0a pl,k0c size,k0c at_,k0c j,k0c J,k0c any,some (.sh (.lst (z.map LI))),O,some (.own (tn.map .int))]
   (fun o=>∃ es,o= .rf es/\∃ z:List (List Int),z.length<=200/\(∀ l∈z,l.length<=1000)/\es=z.map LI):=by
  intro tn N
  refine run_freeze (ds:=tn.map .int) rfl ?_
  refine⟨_,by simp_arith [i0,i2,if_true,length_map,g];rfl,_,rfl,z++[tn,[]],by simp;omega,?_,?_⟩
  .intro l hl
   rcases List.mem_append.mp hl with h|h
   .exact hb l h
   .simp at h
    rcases h with h|h <;> subst h
    .exact N
    .simp
  .rw[map_append];rfl
 unfold b_Z0_r1
 refine run_freeze (ds:=z.map LI) rfl ?_
 unfold envO
 ((apply run_seq;focus (simp_arith [];rfl)))
 by_cases hm:max at_ j<(pl.length:Int)
 .have a1:=atI_map D.int pl at_ ha (by omega) 0
  have a2:=atI_map D.int pl j U (by omega) 0
  have Z:=ixN_in (n:=pl.length) ha (by omega)
  have Y:=ixN_in (n:=pl.length) U (by omega)
  ((apply run_seq;focus (simp_arith [max_if,length_map,hm,decide_true,a1,a2,i2,if_true,Z,Y];rfl)))
  have:=G ((pl.set at_.toNat (pl.getD j.toNat 0)).set j.toNat (pl.getD at_.toNat 0)) (by simp;omega)
  rw[map_set,map_set]at this
  exact this
 ·((apply run_seq;focus (simp_arith [max_if,length_map,hm,decide_false];rfl)))
  exact G pl (by omega)
theorem odd_eq (c k:Int)(pl:List Int)(size:Int)(hk:0<=k)(hs:0<=size)(O:pl.length<=300):∃ j:List (List Int),j.length<=200/\(∀ l∈j,l.length<=1000)/\m_Z0 [.int c,.int k,.lst (pl.map .int),.int size]=some (.fr (j.map LI)):=by
 suffices h:∃ es,m_Z0 [.int c,.int k,.lst (pl.map .int),.int size]=some (.fr es)/\∃ j:List (List Int),j.length<=200/\(∀ l∈j,l.length<=1000)/\es=j.map LI by
  obtain⟨es,e,j,h1,h2,rfl⟩:=h
  exact⟨j,h1,h2,e⟩
 unfold m_Z0 b_Z0
 refine runB_rfR ?_
 have a0:=size_big
 have i3:0+1+1+1<=sizeLine:=le_size (by decide)
 have i5:0+1+1+1+1+1<=sizeLine:=le_size (by decide)
 have L:(0:Int)<(pl.length:Int)+1:=by omega
 have bA:=mod_cases (x:=stir c k) L
 have bT:=mod_cases (x:=stir c (k+1)) L
 obtain⟨at_,eA⟩:∃ x,stir c k % ((pl.length:Int)+1)=x:=⟨_,rfl⟩
 obtain⟨J,Z⟩:∃ x,stir c (k+1) % ((pl.length:Int)+1)=x:=⟨_,rfl⟩
 rw[eA]at bA
 rw[Z]at bT
 ((apply run_seq;focus (simp_arith [stir_eq c k hk,length_map,modOk_of (stir c k) ((pl.length:Int)+1) L,if_true,eA];rfl)))
 ((apply run_seq;focus (simp_arith [stir_eq c (k+1) (by omega),length_map,modOk_of (stir c (k+1)) ((pl.length:Int)+1) L,if_true,Z];rfl)))
 obtain⟨G,hf,ef⟩:=far_eq c (k+2) (by omega)
 ((apply run_seq;focus (simp_arith [ef];rfl)))
 ((apply run_seq;focus (simp_arith [stir_eq c (k+4) (by omega),modOk_of (stir c (k+4)) (size+1) (by omega),if_true];rfl)))
 obtain⟨any,ea⟩:∃ x,stir c (k+4) % (size+1)=x:=⟨_,rfl⟩
 rw[ea]
 have h1:=cutI_len pl none (some at_)
 have h2:=cutI_len pl (some at_) none
 have h3:=cutI_len pl (some (at_+1)) none
 have h4:=cutI_len pl (some (at_-1)) (some at_)
 obtain⟨U,e1⟩:∃ r,cutI pl none (some at_)=r:=⟨_,rfl⟩
 obtain⟨c2,e2⟩:∃ r,cutI pl (some at_) none=r:=⟨_,rfl⟩
 obtain⟨c3,e3⟩:∃ r,cutI pl (some (at_+1)) none=r:=⟨_,rfl⟩
 obtain⟨Y,e4⟩:∃ r,cutI pl (some (at_-1)) (some at_)=r:=⟨_,rfl⟩
 rw[e1]at h1;rw[e2]at h2;rw[e3]at h3;rw[e4]at h4
 have g1:U.length+c3.length<=sizeLine:=le_size (by omega)
 have g2:U.length+Y.length<=sizeLine:=le_size (by omega)
 have g3:(U.map D.int++Y.map D.int).length+c2.length<=sizeLine:=le_size (by simp;omega)
 refine run_seq (ρ':=envO c k pl size at_ J G any (.own ([U++c3,U++Y++c2,pl.reverse].map LI)) none none) ?_ ?_
 .simp_arith [cutL_map,e1,e2,e3,e4,length_map,g1,g2,g3,i3,if_true]
  unfold envO
  simp only[map_cons,map_nil,LI,map_append,map_reverse]
 refine run_mseq (run_for [any,-1,-1-G,size,size+G] (f:=D.int) (by unfold envO;simp_arith [i5,if_true])
  (I:=fun xs ρ=>∃(j:List (List Int))(N z:Option S),j.length+2*xs.length<=13/\(∀ l∈j,l.length<=1000)/\ρ=envO c k pl size at_ J G any (.own (j.map LI)) N z) _ ⟨_,_,_,by simp,?_,rfl⟩ ?_ ?_)
 .intro l L
  simp at L
  rcases L with h|h|h <;> subst h <;> simp <;> omega
 .rintro x xs ρ ⟨j,N,z,hn,hb,rfl⟩
  rw[length_cons]at hn
  refine⟨_,rfl,odd_body c k pl size at_ J G any j x z O (by omega) _ fun l1 l2 q1 q2 N z=>⟨j++[l1,l2],N,z,by simp;omega,?_,rfl⟩⟩
  intro l L
  rcases List.mem_append.mp L with h|h
  .exact hb l h
  .simp at h
   rcases h with h|h <;> subst h <;> assumption
 .rintro ρ ⟨j,N,z,hn,hb,rfl⟩
  exact odd_tail c k pl size at_ J G any j N z O (by simp at hn;omega) bA.1 bT.1 hb
end
section
open PySem L2
noncomputable def num (η:List Int)(p:Int):Int:=η.getD p.toNat 0
noncomputable def Ris (f:List Int)(n:Nat):Prop:=f.Pairwise (·<·)/\∀ p∈f,0<=p/\p<n
theorem Ris.pok {n:Nat}:∀{f:List Int}{l:Int},f.Pairwise (·<·)->(∀ p∈f,l<=p/\p<n)->pok n l f=true
 |[],_,_,_=>rfl
 |p::f,l,h1,h2=>by
  have hp:=h2 p (by simp)
  simp only[Lw.pok]
  rw[if_neg (by omega)]
  rw[pairwise_cons]at h1
  exact Ris.pok h1.2 fun q j=>⟨by have:=h1.1 q j;omega,(h2 q (by simp[j])).2⟩
theorem nums_comp (η pl:List Int)(hm:∀ p∈pl,0<=p/\p<η.length)(z:pl.length<=sizeLine):compD (.nm 0) cyes (mix (bvar 1) (mvar 0)) (pl.map .int) [none,k0a η] []=some ((pl.map (num η)).map .int):=by
 rw[compD_map (f:=D.int) (G:=fun p=>D.int (num η p)) (fun ps ρ=>∃ x,ρ=[x,k0a η]/\∀ p∈ps,0<=p/\p<η.length)
  (by
   rintro p ps ρ ⟨x,rfl,hh⟩
   have:=hh p (by simp)
   exact⟨_,rfl,rfl,by simp_arith [atI_map D.int η p this.1 this.2 0];rfl,_,rfl,fun q j=>hh q (by simp[j])⟩) pl _ [] ⟨none,rfl,hm⟩ (by simp;omega)]
 simp
theorem how_many_eq (η pl:List Int)(j:Ris pl η.length)(z:pl.length<=sizeLine):m_Z1 [.lst (η.map .int),.lst (pl.map .int)]=some (.sh (.int (((trip (pl.map (num η))).filter turn).length:Nat))):=by
 unfold m_Z1 b_Z1
 refine runB_rt ?_
 have hp:pok η.length 0 pl=true:=Ris.pok j.1 j.2
 rw[show startS 2 [D.lst (η.map .int),D.lst (pl.map .int)]=[k0a η,k0a pl]from rfl]
 ((apply seqI;focus (simp_arith [are_places_eq,hp];rfl)))
 have G:mcomp [none,some 0] (aslst (mvar 1)) (.nm 0) cyes (mix (bvar 1) (mvar 0)) [k0a η,k0a pl]=some ((pl.map (num η)).map .int):=by
  unfold mcomp
  simp_arith [blkRo]
  exact nums_comp η pl j.2 z
 simp_arith [G,turns_of_eq]
end
end
section
theorem ddI_mem (ns:List Int)(x:Int):x∈ddI ns↔x∈ns:=by
 have h:=PyProof.Rows.firstMet_any (fun i=>ns.getD i 0) ns.length x
 have e:(List.range ns.length).map (fun i=>ns.getD i 0)=ns:=by
  refine ext_getElem (by simp) fun i h1 h2=>?_
  simp[getD_eq_getElem?_getD,getElem?_eq_getElem h2]
 rw[e,Bool.eq_iff_iff,any_eq_true,any_eq_true]at h
 simp only[beq_iff_eq,exists_eq_right]at h
 exact h
theorem ddI_nodup (ns:List Int):(ddI ns).Nodup:=firstMet_nodup _ _
theorem nodup_of_lt:∀{ns:List Int},ns.Pairwise (·<·)->ns.Nodup:=fun h=>h.imp fun h=>by omega
theorem perm_of_mem:∀{l m:List Int},l.Nodup->m.Nodup->(∀ x,x∈l↔x∈m)->l.Perm m
 |[],m,_,_,h=>by
  have:m=[]:=List.eq_nil_iff_forall_not_mem.mpr fun x G=>by have:=(h x).mpr G;simp at this
  rw[this]
 |x::l,m,hd,hm,h=>by
  have G:x∈m:=(h x).mp (by simp)
  have hp:=perm_cons_erase G
  have z:=List.nodup_cons.mp hd
  refine(List.Perm.cons x (perm_of_mem z.2 (hm.erase x) fun y=>?_)).trans hp.symm
  rw[hm.mem_erase_iff]
  constructor
  .intro j
   refine⟨fun e=>z.1 (e ▸ j),(h y).mp (mem_cons_of_mem _ j)⟩
  .rintro⟨hne,j⟩
   rcases List.mem_cons.mp ((h y).mpr j)with e|j
   .exact absurd e hne
   .exact j
theorem sortset_iff (ns:List Int):isort (ddI ns)=ns↔ns.Pairwise (·<·):=by
 constructor
 .intro e
  have h1:=isort_sorted (ddI ns)
  have h2:(isort (ddI ns)).Nodup:=(isort_perm (ddI ns)).nodup_iff.mpr (ddI_nodup ns)
  rw[e]at h1 h2
  exact(h1.and h2).imp fun j=>by obtain⟨a,b⟩:=j;omega
 .intro h
  refine sorted_uniq ((isort_perm _).trans (perm_of_mem (ddI_nodup ns) (nodup_of_lt h) (ddI_mem ns))) (isort_sorted _) (h.imp fun h=>by omega)
theorem pok_iff (n:Nat):∀(ns:List Int)(l:Int),pok n l ns=true↔ns.Pairwise (·<·)/\∀ p∈ns,l<=p/\p<n
 |[],l=>by simp[pok]
 |p::ns,l=>by
  simp only[pok]
  constructor
  .intro h
   split at h
   .cases h
   .rename_i hp
    obtain⟨h1,h2⟩:=(pok_iff n ns (p+1)).mp h
    refine⟨List.pairwise_cons.mpr ⟨fun q j=>by have:=h2 q j;omega,h1⟩,fun q j=>?_⟩
    rcases List.mem_cons.mp j with rfl|j
    .omega
    .have:=h2 q j;omega
  .rintro⟨h1,h2⟩
   have hp:=h2 p (by simp)
   rw[if_neg (by omega)]
   rw[pairwise_cons]at h1
   exact(pok_iff n ns (p+1)).mpr ⟨h1.2,fun q j=>⟨by have:=h1.1 q j;omega,(h2 q (by simp[j])).2⟩⟩
noncomputable def beyond (n:Nat)(ns:List Int):List Int:=ns.filter fun p=>!(decide (0<=p)&&decide (p<n))
theorem good_iff (n:Nat)(ns:List Int):(decide (ns=isort (ddI ns))&&(beyond n ns).isEmpty)=pok n 0 ns:=by
 rw[Bool.eq_iff_iff,Bool.and_eq_true,decide_eq_true_iff,pok_iff,eq_comm,sortset_iff,isEmpty_iff]
 unfold beyond
 rw[filter_eq_nil_iff]
 simp
theorem zipE_ii (k:Nat):∀(l m:List Int),l.length=m.length->zipE (eqF (k+1)) (l.map .int) (m.map .int)=some (decide (l=m))
 |[],[],_=>rfl
 |[],_::_,h=>by cases h
 |_::_,[],h=>by cases h
 |a::l,b::m,h=>by
  rw[map_cons,map_cons,zipE,zipE_ii k l m (by simpa using h)]
  show some ((a==b)&&decide (l=m))=_
  congr 1
  rw[Bool.eq_iff_iff]
  simp
theorem eqI_ev {x y:ML}{ρ:Ro}{l m:List Int}(h1:x ρ=some (l.map .int))(h2:y ρ=some (m.map .int)):meqB false x y ρ=some (.bl (decide (l=m))):=by
 unfold meqB
 rw[h1,h2]
 show eqFD false (.lst (l.map .int)) (.lst (m.map .int))=_
 have e:eqF 8 (.lst (l.map .int)) (.lst (m.map .int))=some (decide (l=m)):=by
  unfold eqF
  simp only[length_map]
  split
  .rename_i h;exact zipE_ii 6 l m h
  .rename_i h
   rw[decide_eq_false fun e=>h (by rw[e])]
 unfold eqFD
 rw[e];rfl
end
section
noncomputable abbrev RI (r:List Int):D:=.lst (r.map .int)
noncomputable abbrev flagsD:List D:=[.bl false,.bl true,.bl false,.bl false,.bl false,.bl false,.bl false,.bl false]
theorem mcallF_ev {f:MF}{m:ML}{ρ:Ro}{ds es:List D}(h:m ρ=some ds)(h2:f ds=some (.fr es)):mcallF f m ρ=some es:=by
 unfold mcallF;rw[h];show (match f ds with |some (.fr es)=>some es|_=>none)=_;rw[h2]
theorem flags_eq:m_Z6 [.exc "NoPlace"]=some (.fr flagsD):=by
 unfold m_Z6 b_Z6
 refine runB_rf ?_
 have t:∀{ρ:Ro},mvar 0 ρ=some (.exc "NoPlace")->misX [("NoPlace",true)] (mvar 0) ρ=some (.bl true):=fun h=>misX_ev h rfl
 have f:∀{ρ:Ro},mvar 0 ρ=some (.exc "NoPlace")->misX [("NoPlace",false)] (mvar 0) ρ=some (.bl false):=fun h=>misX_ev h rfl
 refine seqI (ρ':=[some (.sh (.exc "NoPlace")),some (.sh (.lst [.bl false,.bl true,.bl false,.bl false]))]) ((mset_ev (mlst_ev (sized_ev (acons_ev (f rfl) (acons_ev (t rfl) (acons_ev (f rfl) (acons_ev (f rfl) anil_ev)))) (le_size (by decide))))).trans rfl) ?_
 refine seqI (ρ':=[some (.sh (.exc "NoPlace")),some (.sh (.lst [.bl false,.bl true,.bl false,.bl false,.bl false,.bl false,.bl false]))]) ((mset_ev (mlst_ev (mcat_ev (ds:=[.bl false,.bl true,.bl false,.bl false]) (es:=[.bl false,.bl false,.bl false]) rfl (sized_ev (acons_ev (f rfl) (acons_ev (f rfl) (acons_ev (f rfl) anil_ev))) (le_size (by decide))) (le_size (by decide))))).trans rfl) ?_
 have j:∀{ρ:Ro},mvar 0 ρ=some (.exc "NoPlace")->m1 notD (misX [("NoPlace",true)] (mvar 0)) ρ=some (.bl false):=fun h=>by unfold m1;rw[t h];rfl
 unfold mretF
 rw[mcat_ev (ds:=[.bl false,.bl true,.bl false,.bl false,.bl false,.bl false,.bl false]) (es:=[.bl false]) rfl (sized_ev (acons_ev (j rfl) anil_ev) (le_size (by decide))) (le_size (by decide))]
 rfl
section
variable (η places:List Int)
theorem test_ev (ρ:Ro)(j:mvar 0 ρ=some (RI η))(h1:mvar 1 ρ=some (RI places)):cnot (mtru (mcall m_Z4 (acons (mvar 0) (acons (mvar 1) anil)))) ρ=some (!pok η.length 0 places):=
 cnot_ev (mtru_bl (mcall_sh (acons_ev j (acons_ev h1 anil_ev)) (are_places_eq η places)))
theorem how_no (h:pok η.length 0 places=false):m_Z1 [RI η,RI places]=none:=by
 unfold m_Z1 b_Z1
 refine runB_no (mseq_no ?_)
 rw[mif_ev (test_ev η places _ rfl rfl),h];rfl
theorem how_x (h:pok η.length 0 places=false):xm_Z1 [RI η,RI places]=some ("NoPlace":Str):=by
 unfold xm_Z1 bx_Z1
 refine runX_ev (ρ:=startS 2 [RI η,RI places]) ?_
 rw[xif_ev (test_ev η places _ rfl rfl),h]
 exact xraise_ev (acons_ev rfl anil_ev)
noncomputable def envX (fl:List D)(o4:Option S):Ro:=[some (.sh (RI η)),some (.sh (RI places)),some (.own fl),some (.sh (.lst [RI η,RI places])),o4]
theorem a0:mix (bvar 3) (mc (.int 0)) (envX η places [] none)=some (RI η):=mix_ev (ds:=[RI η,RI places]) (k:=0) rfl rfl rfl
theorem a1:mix (bvar 3) (mc (.int 1)) (envX η places [] none)=some (RI places):=mix_ev (ds:=[RI η,RI places]) (k:=1) rfl rfl rfl
theorem tailX (j:List D)(z:Option S):(mseq (mif (mtest (meqB true (bvar 3) (sized (acons (mvar 0) (acons (mvar 1) anil))))) (mretF (sized (acons (mc (.str "changed")) anil))) mnext) (mretO 2)) (envX η places j z)=some (.rf j):=by
 refine seqI (ρ':=envX η places j z) ?_ rfl
 have c:mtest (meqB true (bvar 3) (sized (acons (mvar 0) (acons (mvar 1) anil)))) (envX η places j z)=some false:=by
  unfold mtest meqB
  rw[sized_ev (ds:=[RI η,RI places]) (acons_ev rfl (acons_ev rfl anil_ev)) (le_size (by simp))]
  show (match eqFD true (.lst [RI η,RI places]) (.lst [RI η,RI places])with |some (.bl b)=>some b|_=>none)=_
  rw[eq_pair η places]
 rw[mif_ev c];rfl
theorem refused_eq (j:places.length<=sizeLine):m_Z3 [RI η,RI places]=some (.fr (if pok η.length 0 places then []else flagsD)):=by
 unfold m_Z3 b_Z3
 refine runB_rf ?_
 refine seqI (ρ':=[some (.sh (RI η)),some (.sh (RI places)),some (.own []),none,none]) ?_ ?_
 .unfold msetF
  rw[sized_ev anil_ev (le_size (by simp))];rfl
 refine seqI (ρ':=envX η places [] none) ((mset_ev (mlst_ev (sized_ev (acons_ev (mlst_ev (ds:=η.map .int) rfl) (acons_ev (mlst_ev (ds:=places.map .int) rfl) anil_ev)) (le_size (by simp))))).trans rfl) ?_
 cases hp:pok η.length 0 places with
 |true=>
  obtain⟨h1,h2⟩:=(pok_iff _ _ _).mp hp
  exact seqI (ρ':=envX η places [] none) (try_ok (mexpr_ev (mcall_sh (acons_ev (a0 _ _) (acons_ev (a1 _ _) anil_ev)) (how_many_eq η places ⟨h1,h2⟩ j)))) (tailX η places [] none)
 |false=>
  refine seqI (ρ':=envX η places flagsD none) ((try_x (c:=("NoPlace":Str)) (ρ1:=envX η places [] none) (ρ2:=envX η places flagsD (some (.sh (.exc "NoPlace")))) ?_ ?_ (by simp) ?_).trans rfl) (tailX η places flagsD none)
  .exact mexpr_no (mcall_no (acons_ev (a0 _ _) (acons_ev (a1 _ _) anil_ev)) (how_no η places hp))
  .exact xE_ev (xcall_ev (acons_ev (a0 _ _) (acons_ev (a1 _ _) anil_ev)) (how_x η places hp))
  .unfold msetF
   rw[mcallF_ev (acons_ev (d:=.exc "NoPlace") rfl anil_ev) flags_eq];rfl
end
end
section
noncomputable def envL (scr:D)(c:Int)(η:List Int)(o3 o4 o5 o6:Option S):Ro:=[some (.sh scr),k0c c,some (.sh (RI η)),o3,o4,o5,o6]
theorem mchain_ev {x y z:ME}{ρ:Ro}{a b c:Int}(h1:x ρ=some (.int a))(h2:y ρ=some (.int b))(j:z ρ=some (.int c)):mchain leD ltD x y z ρ=some (.bl (decide (a<=b)&&decide (b<c))):=by
 unfold mchain
 rw[h1,h2,j]
 show (match (some (D.bl (decide (a<=b))):Option D)with |some (.bl true)=>(some (.bl (decide (b<c))):Option D)|some (.bl false)=>some (.bl false)|_=>none)=_
 cases decide (a<=b) <;> rfl
theorem mlen_ev {m:ML}{ρ:Ro}{ds:List D}(h:m ρ=some ds):mlen m ρ=some (.int ds.length):=by unfold mlen;rw[h];rfl
theorem mand_ev {x y:ME}{ρ:Ro}{a b:Bool}(h1:x ρ=some (.bl a))(h2:y ρ=some (.bl b)):mand x y ρ=some (.bl (a&&b)):=mand_bl h1 h2
theorem beyond_ev (j:D)(c:Int)(η so:List Int)(L J z:Option S)(O:so.length<=1000):
  mcomp [none,some 2] (aslst (mvar 4)) (.nm 0) (cnot (mtest (mchain leD ltD (mc (.int 0)) (mvar 0) (mlen (bvar 1))))) (mvar 0) (envL j c η L (some (.sh (RI so))) J z)=some ((beyond η.length so).map .int):=by
 have N:so.length<=sizeLine:=le_size (by omega)
 unfold mcomp
 rw[show aslst (mvar 4) (envL j c η L (some (.sh (RI so))) J z)=some (so.map D.int)from aslst_ev rfl]
 show compD (.nm 0) (cnot (mtest (mchain leD ltD (mc (.int 0)) (mvar 0) (mlen (bvar 1))))) (mvar 0) (so.map D.int) [none,some (.sh (RI η))] []=_
 rw[compD_filter (f:=D.int) (p:=fun p=>!(decide (0<=p)&&decide (p<(η.length:Int)))) (G:=D.int) (fun _ ρ=>∃ o,ρ=[o,some (.sh (RI η))]) ?_ so _ [] ⟨none,rfl⟩ (by simpa using N)]
 .rfl
 .rintro d ds ρ ⟨o,rfl⟩
  refine⟨[k0c d,some (.sh (RI η))],rfl,?_,fun _=>rfl,_,rfl⟩
  have hm:mlen (bvar 1) [k0c d,some (.sh (RI η))]=some (.int (η.length:Int)):=by
   rw[mlen_ev (ds:=η.map .int) rfl,length_map]
  exact cnot_ev (mtest_bl (mchain_ev (a:=0) (b:=d) (c:=η.length) rfl rfl hm))
theorem sortSet_ev {m:ML}{ρ:Ro}{ns:List Int}(h:m ρ=some (ns.map .int))(j:ns.length<4000):msortSetA m ρ=some ((isort (ddI ns)).map .int):=by
 unfold msortSetA
 rw[h]
 simp only[intsD_map]
 rw[if_pos j]
theorem mul8 (k:Int)(h:mulOk 8 k=true):mulD (.int 8) (.int k)=some (.int (8*k)):=by
 show (if mulOk 8 k=true then some (D.int (8*k))else none)=_
 rw[if_pos h]
theorem mlist_ev {f:List D->Option (List D)}{m:ML}{ρ:Ro}{ds es:List D}(h:m ρ=some ds)(h2:f ds=some es):mlist f m ρ=some es:=by
 unfold mlist;rw[h];exact h2
noncomputable def flB (b:Bool):List D:=if b then []else flagsD
theorem due_ev (g:Bool)(ρ:Ro)(h:mvar 6 ρ=some (.bl g)):mcomp [none] (mlist rng1 (acons (m2 mulD (mc (.int 8)) (call1 intF (acons (m1 notD (mvar 6)) anil))) anil)) (.nm 0) cyes (m2 eqSD (mvar 0) (mc (.int 1))) ρ=some (flB g):=by
 have hn:m1 notD (mvar 6) ρ=some (.bl (!g)):=by unfold m1;rw[h];rfl
 have hi:call1 intF (acons (m1 notD (mvar 6)) anil) ρ=some (.int (if (!g)=true then 1 else 0)):=by
  rw[call1_ev (acons_ev hn anil_ev)];rfl
 cases g with
 |true=>
  have hm:m2 mulD (mc (.int 8)) (call1 intF (acons (m1 notD (mvar 6)) anil)) ρ=some (.int 0):=by
   rw[m2_at (a:=.int 8) (b:=.int 0) rfl hi];exact mul8 0 (by decide)
  unfold mcomp
  rw[show mlist rng1 (acons (m2 mulD (mc (.int 8)) (call1 intF (acons (m1 notD (mvar 6)) anil))) anil) ρ=some []from(mlist_ev (acons_ev hm anil_ev) (rng1_ok (j:=0) (by decide))).trans rfl]
  rfl
 |false=>
  have hm:m2 mulD (mc (.int 8)) (call1 intF (acons (m1 notD (mvar 6)) anil)) ρ=some (.int 8):=by
   rw[m2_at (a:=.int 8) (b:=.int 1) rfl hi];exact mul8 1 (by decide)
  unfold mcomp
  rw[show mlist rng1 (acons (m2 mulD (mc (.int 8)) (call1 intF (acons (m1 notD (mvar 6)) anil))) anil) ρ=some ((List.range 8).map fun(i:Nat)=>D.int (0+(i:Int)))from(mlist_ev (acons_ev hm anil_ev) (rng1_ok (j:=8) (by decide))).trans rfl]
  show compD (.nm 0) cyes (m2 eqSD (mvar 0) (mc (.int 1))) ((List.range 8).map fun(i:Nat)=>D.int (0+(i:Int))) [none] []=_
  rw[compD_map (f:=fun(i:Nat)=>D.int (0+(i:Int))) (G:=fun(i:Nat)=>D.bl (i==1)) (fun _ ρ=>∃ o,ρ=[o]) ?_ (List.range 8) _ [] ⟨none,rfl⟩ (le_size (by simp))]
  .rfl
  .rintro d ds ρ ⟨o,rfl⟩
   refine⟨[k0b d],by rw[Int.zero_add];rfl,rfl,?_,_,rfl⟩
   rw[m2_at (a:=.int (d:Int)) (b:=.int 1) rfl rfl]
   show some (D.bl ((d:Int)==1))=_
   congr 2
   rw[Bool.eq_iff_iff,beq_iff_eq,beq_iff_eq];omega
theorem eqFl (b:Bool){x y:ML}{ρ:Ro}(h1:x ρ=some (flB b))(h2:y ρ=some (flB b)):mtest (meqB true x y) ρ=some false:=by
 unfold mtest meqB
 rw[h1,h2]
 cases b <;> decide
theorem one_ok (j:D)(c:Int)(η so:List Int)(Z:η.length<=300)(O:so.length<=1000)(G J z:Option S)(Q:Out->Prop)(Y:∀ L J z,Q (.nx (envL j c η G L J z))):
  Run b_Z12_f0 (envL j c η G (some (.sh (RI so))) J z) Q:=by
 have N:so.length<=sizeLine:=le_size (by omega)
 unfold b_Z12_f0
 refine run_seq (ρ':=envL j c η G (some (.sh (RI so))) (some (.sh (.lst ((beyond η.length so).map .int)))) z) ((mset_ev (mlst_ev (beyond_ev j c η so G J z O))).trans rfl) ?_
 have U:mand (meqB false (bvar 4) (msortSetA (bvar 4))) (meqB false (bvar 5) (sized anil)) (envL j c η G (some (.sh (RI so))) (some (.sh (.lst ((beyond η.length so).map .int)))) z)=some (.bl (pok η.length 0 so)):=by
  rw[<-good_iff]
  refine mand_ev (eqI_ev (l:=so) (m:=isort (ddI so)) rfl (sortSet_ev (ns:=so) rfl (by omega))) ?_
  rw[eqB_nilD (ds:=(beyond η.length so).map .int) rfl]
  cases beyond η.length so <;> rfl
 refine run_seq (ρ':=envL j c η G (some (.sh (RI so))) (some (.sh (.lst ((beyond η.length so).map .int)))) (some (.sh (.bl (pok η.length 0 so))))) ((mset_ev U).trans rfl) ?_
 refine run_if (b:=false) (eqFl (pok η.length 0 so) (aslst_ev (mcall_fr (acons_ev (d:=RI η) rfl (acons_ev (d:=RI so) rfl anil_ev)) ?_)) (due_ev (pok η.length 0 so) _ rfl)) ⟨_,rfl,Y _ _ _⟩
 exact refused_eq η so N
theorem places_ok (j:D)(c:Int)(η pl:List Int)(hr:η.length<=300)(L:pl.length<=300)(J G z:Option S)(Q:Out->Prop)(hQ:∀ o3 J G z,Q (.nx (envL j c η o3 J G z))):
  Run b_Z12_f1 (envL j c η (some (.sh (RI pl))) J G z) Q:=by
 unfold b_Z12_f1
 obtain⟨O,a0,N,el⟩:=odd_eq c 370 pl (η.length:Int) (by decide) (by omega) L
 have hm:mlen (bvar 2) (envL j c η (some (.sh (RI pl))) J G z)=some (.int (η.length:Int)):=by
  rw[mlen_ev (ds:=η.map .int) rfl,length_map]
 refine run_for (pl::O) (f:=LI) (aslst_ev (mlst_ev (mcat_ev (ds:=[RI pl]) (es:=O.map LI) (sized_ev (acons_ev rfl anil_ev) (le_size (by simp))) (aslst_ev (mcall_fr (acons_ev (d:=.int c) rfl (acons_ev (d:=.int 370) rfl (acons_ev (d:=RI pl) rfl (acons_ev hm anil_ev)))) el)) (le_size (by simp;omega)))))
  (I:=fun ds ρ=>(∀ l∈ds,l.length<=1000)/\∃ J G z,ρ=envL j c η (some (.sh (RI pl))) J G z) _ ⟨?_,_,_,_,rfl⟩ ?_ ?_
 .intro l hl
  rcases List.mem_cons.mp hl with h|h
  .subst h;omega
  .exact N l h
 .rintro so ds' ρ ⟨hso,q4,q5,q6,rfl⟩
  exact⟨_,rfl,one_ok j c η so hr (hso so (by simp)) _ q5 q6 _ fun Z Y U=>⟨fun l h=>hso l (by simp[h]),Z,Y,U,rfl⟩⟩
 .rintro ρ ⟨_,q4,q5,q6,rfl⟩
  exact hQ _ _ _ _
theorem cell_ok (j:D)(c:Int)(N L J G z:Option S)(Q:Out->Prop)(hQ:∀ o1 N L J G z,Q (.nx [some (.sh j),o1,N,L,J,G,z])):
  Run b_Z12_f2 [some (.sh j),k0c c,N,L,J,G,z] Q:=by
 unfold b_Z12_f2
 obtain⟨η,O,U⟩:=row_eq c 300 (by decide)
 have U:m_Z11 [.int c,.int 300]=some (.fr (η.map .int)):=U
 refine run_seq (ρ':=envL j c η L J G z) ((mset_ev (mcall_fr (acons_ev (d:=.int c) rfl (acons_ev (d:=.int 300) rfl anil_ev)) U)).trans rfl) ?_
 obtain⟨f1,a1,e1⟩:=some_eq c 320 η.length (by decide) O
 obtain⟨f2,a0,e2⟩:=by_turns_eq c 350 η 1 (by decide) O
 have hm:mlen (bvar 2) (envL j c η L J G z)=some (.int (η.length:Int)):=by
  rw[mlen_ev (ds:=η.map .int) rfl,length_map]
 refine run_for [f1,f2] (f:=LI) (aslst_ev (mlst_ev (sized_ev (acons_ev (mcall_fr (acons_ev (d:=.int c) rfl (acons_ev (d:=.int 320) rfl (acons_ev hm anil_ev))) e1) (acons_ev (mcall_fr (acons_ev (d:=.int c) rfl (acons_ev (d:=.int 350) rfl (acons_ev (d:=RI η) rfl (acons_ev (d:=.int 1) rfl anil_ev)))) e2) anil_ev)) (le_size (by simp)))))
  (I:=fun ds ρ=>(∀ l∈ds,l.length<=300)/\∃ L J G z,ρ=envL j c η L J G z) _ ⟨?_,_,_,_,_,rfl⟩ ?_ ?_
 .intro l hl
  simp at hl
  rcases hl with h|h <;> subst h <;> omega
 .rintro pl ds ρ ⟨hds,p3,p4,p5,p6,rfl⟩
  exact⟨_,rfl,places_ok j c η pl O (hds pl (by simp)) p4 p5 p6 _ fun r3 r4 Z Y=>⟨fun l h=>hds l (by simp[h]),r3,r4,Z,Y,rfl⟩⟩
 .rintro ρ ⟨_,p3,p4,p5,p6,rfl⟩
  exact hQ _ _ _ _ _ _
theorem law_true (ns:List Int)(hn:ns.length<=63):m_Z12 [.lst (ns.map .int)]=some (.sh (.bl true)):=by
 unfold m_Z12 b_Z12
 refine runB_run ?_
 obtain⟨U,N⟩:=cells_eq ns 8 hn
 have N:m_Z5 [.lst (ns.map .int),.int 8]=some (.fr (U.map .int)):=N
 refine run_mseq (run_for U (f:=D.int) (aslst_ev (mcall_fr (acons_ev (d:=.lst (ns.map .int)) rfl (acons_ev (d:=.int 8) rfl anil_ev)) N)) (I:=fun _ ρ=>∃ O L J G z j,ρ=[k0a ns,O,L,J,G,z,j]) _ ⟨_,_,_,_,_,_,rfl⟩ ?_ (fun ρ _=>⟨_,rfl,rfl⟩))
 rintro c a0 ρ ⟨O,L,J,G,z,j,rfl⟩
 exact⟨_,rfl,cell_ok _ c L J G z j _ fun p1 p2 p3 p4 Z Y=>⟨p1,p2,p3,p4,Z,Y,rfl⟩⟩
end
end Lw
namespace Lw
open List
open PySem L2
open PyProof.Rows
section
noncomputable def top (i:Nat):Stmt:=PySem.Challenge.pw_wavyrow_k05_no_places.main.body.getD i (.Pass ⟨0,0,0,0⟩)
noncomputable abbrev s_Z4:Stmt:=top 10
noncomputable abbrev N_Z4:List Str:=["row","places","least","place"]
theorem sc_Z4:FnScope N_Z4 ["row","places"] (defScope s_Z4):=⟨rfl,rfl,rfl,by decide +kernel,rfl,by decide +kernel,by decide +kernel⟩
theorem ok_Z4 {P:Program}{w:World}{K:W.Frag}{mg:Str->Option Value}{base:Heap}{f:Addr}{fd:FuncData}(z:Fun K "are_places" "are_places" s_Z4 f fd)(j:mg "len"=none):FnOk P w K mg base CX0 1 f fd ["row","places"] (spR K 2 m_Z4):=
 z.okD (k:=0) (m:=b_Z4) sc_Z4 fun cdv A outer s H E G=>(pssd_cons (psd_set (i:=2) sc_Z4.nd rfl (by first|exact Or.inl rfl|exact Or.inr rfl) pd_int) (pssd_cons (psd_for PassesOwn.never rfl (pid_seq (pd_var 1 (pv 1))) (pgd_name (i:=3) (pg_name sc_Z4.nd rfl (by first|exact Or.inl rfl|exact Or.inr rfl))) (pssd_cons (psd_if (pc_w (pcw_or (pc_cmp op_lt opd_lt (pd_var 3 (pv 3)) (pd_var 2 (pv 2)) (nomark _)) (pw1_or (pc_cmp op_ge opd_ge (pd_var 3 (pv 3)) (pd_lenB rfl j (pb_var 0 (pv 0))) (nomark _))))) (pssd_one (psd_ret pd_bl)) pssd_nil) (pssd_one (psd_set (i:=2) sc_Z4.nd rfl (by first|exact Or.inl rfl|exact Or.inr rfl) (pd_add (pd_var 3 (pv 3)) pd_int))))) (pssd_one (psd_ret pd_bl))))
noncomputable abbrev s_Z7:Stmt:=top 11
noncomputable abbrev N_Z7:List Str:=["numbers","many","left","middle","right"]
theorem sc_Z7:FnScope N_Z7 ["numbers"] (defScope s_Z7):=⟨rfl,rfl,rfl,by decide +kernel,rfl,by decide +kernel,by decide +kernel⟩
theorem ok_Z7 {P:Program}{w:World}{K:W.Frag}{mg:Str->Option Value}{base:Heap}{f:Addr}{fd:FuncData}(J:Fun K "turns_of" "turns_of" s_Z7 f fd)(G:mg "max"=none)(z:mg "min"=none)(j:mg "zip"=none):FnOk P w K mg base CX0 1 f fd ["numbers"] (spR K 1 m_Z7):=
 J.okD (k:=0) (m:=b_Z7) sc_Z7 fun cdv A outer s H E L=>(pssd_cons (psd_set (i:=1) sc_Z7.nd rfl (by first|exact Or.inl rfl|exact Or.inr rfl) pd_int) (pssd_cons (psd_for PassesOwn.never rfl (pid_zip3 rfl j (pas_cons (pd_var 0 (pv 0)) (pas_cons (pf_pd (pf_sl (pb_var 0 (pv 0)) (pos_some pd_int) pos_none)) (pas_cons (pf_pd (pf_sl (pb_var 0 (pv 0)) (pos_some pd_int) pos_none)) pas_nil)))) (pgd_tup (is:=[2,3,4]) (pg_tup rfl (pgs_cons (pg_name (i:=2) sc_Z7.nd rfl (by first|exact Or.inl rfl|exact Or.inr rfl)) (pgs_cons (pg_name (i:=3) sc_Z7.nd rfl (by first|exact Or.inl rfl|exact Or.inr rfl)) (pgs_cons (pg_name (i:=4) sc_Z7.nd rfl (by first|exact Or.inl rfl|exact Or.inr rfl)) pgs_nil))))) (pssd_one (psd_if (pc_w (pcw_or (pc_cmp op_lt opd_lt (pd_max2 rfl rfl G (pas_cons (pd_var 2 (pv 2)) (pas_cons (pd_var 4 (pv 4)) pas_nil))) (pd_var 3 (pv 3)) (nomark _)) (pw1_or (pc_cmp op_lt opd_lt (pd_var 3 (pv 3)) (pd_min2 rfl rfl z (pas_cons (pd_var 2 (pv 2)) (pas_cons (pd_var 4 (pv 4)) pas_nil))) (nomark _))))) (pssd_one (psd_aug (i:=1) sc_Z7.nd rfl (by first|exact Or.inl rfl|exact Or.inr rfl) pd_int)) pssd_nil))) (pssd_one (psd_retO 1 (pv 1)))))
noncomputable abbrev s_Z1:Stmt:=top 12
noncomputable abbrev N_Z1:List Str:=["row","places"]
theorem sc_Z1:FnScope N_Z1 ["row","places"] (defScope s_Z1):=⟨rfl,rfl,rfl,by decide +kernel,rfl,by decide +kernel,by decide +kernel⟩
theorem nd_how_many_turns_0:List.Nodup (["place","row"]:List Str):=by decide +kernel
theorem ok_Z1 {P:Program}{w:World}{K:W.Frag}{mg:Str->Option Value}{base:Heap}{f:Addr}{fd:FuncData}{G:Addr}{O:FuncData}{z:Addr}{L:FuncData}(Fn:Fun K "how_many_turns" "how_many_turns" s_Z1 f fd)(a1:FnOk P w K mg base CX0 1 G O ["row","places"] (spR K 2 m_Z4))(b_Z4:Binds K O ["row","places"] [])(k_Z4:W.keepIn K (.ref G)=true)(Z:mg "are_places"=some (.ref G))(a0:FnOk P w K mg base CX0 1 z L ["numbers"] (spR K 1 m_Z7))(b_Z7:Binds K L ["numbers"] [])(k_Z7:W.keepIn K (.ref z)=true)(Y:mg "turns_of"=some (.ref z)){j:Addr}(U:mg "NoPlace"=some (.ref j))(J:XC K "NoPlace" j)(q_NoPlace:W.excIn K j bmV "ValueError.__new__"=true):FnOk P w K mg base CX0 2 f fd ["row","places"] (spR K 2 m_Z1):=
 Fn.okD (k:=1) (m:=b_Z1) sc_Z1 fun cdv A outer s H E hr=>(pssd_cons (psd_if (pc_not (pc_tru (pd_call (fun t ha=>pe_call (a1.mono (by decide)) hr rfl Z k_Z4 b_Z4 .nil pass0 ha) rfl (pas_cons (pd_var 0 (pv 0)) (pas_cons (pd_var 1 (pv 1)) pas_nil)) (acons_len (acons_len anil_len))))) (pssd_one psd_never) pssd_nil) (pssd_one (psd_ret (pd_call (fun t ha=>pe_call (a0.mono (by decide)) hr rfl Y k_Z7 b_Z7 .nil pass0 ha) rfl (pas_cons (pf_pd (pf_comp (blk_of (N:=["place","row"]) (src:=[none,some 0]) (defScope s_Z1) N_Z1 rfl rfl (by decide +kernel)) rfl (pid_seq (pd_var 1 (pv 1))) (fun C fp s0 H0=>(pgd_name (i:=0) (pg_name nd_how_many_turns_0 rfl (by first|exact Or.inl rfl|exact Or.inr rfl)))) (fun C fp s0 H0=>ptsd_nil) (fun C fp s0 H0=>(pd_ix (pb_var 1 (pv 1)) (pd_var 0 (pv 0)))))) pas_nil) (acons_len anil_len)))))
theorem okx_Z1 {P:Program}{w:World}{K:W.Frag}{mg:Str->Option Value}{base:Heap}{f:Addr}{fd:FuncData}{L:Addr}{O:FuncData}{J:Addr}{N:FuncData}(Fn:Fun K "how_many_turns" "how_many_turns" s_Z1 f fd)(Y:FnOk P w K mg base CX0 1 L O ["row","places"] (spR K 2 m_Z4))(b_Z4:Binds K O ["row","places"] [])(k_Z4:W.keepIn K (.ref L)=true)(U:mg "are_places"=some (.ref L))(a0:FnOk P w K mg base CX0 1 J N ["numbers"] (spR K 1 m_Z7))(b_Z7:Binds K N ["numbers"] [])(k_Z7:W.keepIn K (.ref J)=true)(Z:mg "turns_of"=some (.ref J)){j:Addr}(G:mg "NoPlace"=some (.ref j))(z:XC K "NoPlace" j)(q_NoPlace:W.excIn K j bmV "ValueError.__new__"=true):FnOk P w K mg base (CXx P w) 2 f fd ["row","places"] (spX K 2 xm_Z1):=
 Fn.okX (k:=1) (m:=bx_Z1) sc_Z1 fun cdv A outer s H E hr=>(pssx_head (psx_if rfl (pc_not (pc_tru (pd_call (fun t ha=>pe_call (Y.mono (by decide)) hr rfl U k_Z4 b_Z4 .nil pass0 ha) rfl (pas_cons (pd_var 0 (pv 0)) (pas_cons (pd_var 1 (pv 1)) pas_nil)) (acons_len (acons_len anil_len))))) (pssx_one (psx_raise rfl ⟨rfl,rfl,rfl⟩ rfl rfl G z q_NoPlace (pas_cons pd_str pas_nil) (acons_len anil_len) (by decide))) pssx_none))
noncomputable abbrev s_Z8:Stmt:=top 14
noncomputable abbrev N_Z8:List Str:=["cell","k","number"]
theorem sc_Z8:FnScope N_Z8 ["cell","k"] (defScope s_Z8):=⟨rfl,rfl,rfl,by decide +kernel,rfl,by decide +kernel,by decide +kernel⟩
theorem ok_Z8 {P:Program}{w:World}{K:W.Frag}{mg:Str->Option Value}{base:Heap}{f:Addr}{fd:FuncData}(j:Fun K "_law_stir" "_law_stir" s_Z8 f fd):FnOk P w K mg base CX0 1 f fd ["cell","k"] (spR K 2 m_Z8):=
 j.okD (k:=0) (m:=b_Z8) sc_Z8 fun cdv A outer s H E z=>(pssd_cons (psd_if (pc_cmp op_ge opd_ge (pd_var 0 (pv 0)) (pd_pow pd_int pd_int) (nomark _)) (pssd_one (psd_ret (pd_mod (pd_shr (pd_sub (pd_var 0 (pv 0)) (pd_pow pd_int pd_int)) (pd_mul pd_int (pd_var 1 (pv 1)))) (pd_pow pd_int pd_int)))) pssd_nil) (pssd_cons (psd_set (i:=2) sc_Z8.nd rfl (by first|exact Or.inl rfl|exact Or.inr rfl) (pd_mod (pd_mul (pd_add (pd_add (pd_var 0 (pv 0)) (pd_mul pd_int (pd_var 1 (pv 1)))) pd_int) pd_int) pd_int)) (pssd_cons (psd_set (i:=2) sc_Z8.nd rfl (by first|exact Or.inl rfl|exact Or.inr rfl) (pd_mod (pd_mul (pd_var 2 (pv 2)) (pd_var 2 (pv 2))) pd_int)) (pssd_one (psd_ret (pd_fdiv (pd_mod (pd_mul (pd_var 2 (pv 2)) pd_int) pd_int) pd_int))))))
noncomputable abbrev s_Z5:Stmt:=top 15
noncomputable abbrev N_Z5:List Str:=["script","many"]
theorem sc_Z5:FnScope N_Z5 ["script","many"] (defScope s_Z5):=⟨rfl,rfl,rfl,by decide +kernel,rfl,by decide +kernel,by decide +kernel⟩
theorem ok_Z5 {P:Program}{w:World}{K:W.Frag}{mg:Str->Option Value}{base:Heap}{f:Addr}{fd:FuncData}(J:Fun K "_law_cells" "_law_cells" s_Z5 f fd)(G:mg "len"=none)(z:mg "max"=none)(j:mg "min"=none):FnOk P w K mg base CX0 1 f fd ["script","many"] (spR K 2 m_Z5):=
 J.okD (k:=0) (m:=b_Z5) sc_Z5 fun cdv A outer s H E L=>(pssd_one (psd_retF (pf_sl (pf_pb (pf_cat (pf_pb (pf_sl (pb_var 0 (pv 0)) pos_none (pos_some (pd_var 1 (pv 1))))) (pf_pb (pf_lst (pas_cons pd_int pas_nil))))) pos_none (pos_some (pd_max2 rfl rfl z (pas_cons pd_int (pas_cons (pd_min2 rfl rfl j (pas_cons (pd_var 1 (pv 1)) (pas_cons (pd_lenB rfl G (pb_var 0 (pv 0))) pas_nil))) pas_nil)))))))
noncomputable abbrev s_Z11:Stmt:=top 16
noncomputable abbrev N_Z11:List Str:=["cell","most","size","kind","wide","block","found","last","k","one","some"]
theorem sc_Z11:FnScope N_Z11 ["cell","most"] (defScope s_Z11):=⟨rfl,rfl,rfl,by decide +kernel,rfl,by decide +kernel,by decide +kernel⟩
theorem ok_Z11 {P:Program}{w:World}{K:W.Frag}{mg:Str->Option Value}{base:Heap}{f:Addr}{fd:FuncData}{J:Addr}{L:FuncData}(U:Fun K "_law_row" "_law_row" s_Z11 f fd)(z:FnOk P w K mg base CX0 1 J L ["cell","k"] (spR K 2 m_Z8))(b_Z8:Binds K L ["cell","k"] [])(k_Z8:W.keepIn K (.ref J)=true)(j:mg "_law_stir"=some (.ref J))(N:mg "min"=none)(G:mg "range"=none):FnOk P w K mg base CX0 2 f fd ["cell","most"] (spR K 2 m_Z11):=
 U.okD (k:=1) (m:=b_Z11) sc_Z11 fun cdv A outer s H E O=>(pssd_cons (psd_set (i:=2) sc_Z11.nd rfl (by first|exact Or.inl rfl|exact Or.inr rfl) (pd_mod (pd_call (fun t ha=>pe_call (z.mono (by decide)) O rfl j k_Z8 b_Z8 .nil pass0 ha) rfl (pas_cons (pd_var 0 (pv 0)) (pas_cons pd_int pas_nil)) (acons_len (acons_len anil_len))) (pd_ix (pf_pb (pf_lst (pas_cons pd_int (pas_cons pd_int (pas_cons pd_int (pas_cons (pd_add (pd_var 1 (pv 1)) pd_int) pas_nil)))))) (pd_mod (pd_call (fun t ha=>pe_call (z.mono (by decide)) O rfl j k_Z8 b_Z8 .nil pass0 ha) rfl (pas_cons (pd_var 0 (pv 0)) (pas_cons pd_int pas_nil)) (acons_len (acons_len anil_len))) pd_int)))) (pssd_cons (psd_set (i:=3) sc_Z11.nd rfl (by first|exact Or.inl rfl|exact Or.inr rfl) (pd_mod (pd_call (fun t ha=>pe_call (z.mono (by decide)) O rfl j k_Z8 b_Z8 .nil pass0 ha) rfl (pas_cons (pd_var 0 (pv 0)) (pas_cons pd_int pas_nil)) (acons_len (acons_len anil_len))) pd_int)) (pssd_cons (psd_set (i:=4) sc_Z11.nd rfl (by first|exact Or.inl rfl|exact Or.inr rfl) (pd_ix (pf_pb (pf_lst (pas_cons pd_int (pas_cons pd_int (pas_cons pd_int (pas_cons (pd_pow pd_int pd_int) pas_nil)))))) (pd_mod (pd_call (fun t ha=>pe_call (z.mono (by decide)) O rfl j k_Z8 b_Z8 .nil pass0 ha) rfl (pas_cons (pd_var 0 (pv 0)) (pas_cons pd_int pas_nil)) (acons_len (acons_len anil_len))) pd_int))) (pssd_cons (psd_set (i:=5) sc_Z11.nd rfl (by first|exact Or.inl rfl|exact Or.inr rfl) (pd_add pd_int (pd_mod (pd_call (fun t ha=>pe_call (z.mono (by decide)) O rfl j k_Z8 b_Z8 .nil pass0 ha) rfl (pas_cons (pd_var 0 (pv 0)) (pas_cons pd_int pas_nil)) (acons_len (acons_len anil_len))) pd_int))) (pssd_cons (psd_setF (i:=6) sc_Z11.nd rfl (by first|exact Or.inl rfl|exact Or.inr rfl) (pf_lst pas_nil)) (pssd_cons (psd_set (i:=7) sc_Z11.nd rfl (by first|exact Or.inl rfl|exact Or.inr rfl) pd_int) (pssd_cons (psd_for PassesOwn.never rfl (pid_range1 rfl G (pas_cons (pd_min2 rfl rfl N (pas_cons (pd_var 2 (pv 2)) (pas_cons (pd_var 1 (pv 1)) pas_nil))) pas_nil)) (pgd_name (i:=8) (pg_name sc_Z11.nd rfl (by first|exact Or.inl rfl|exact Or.inr rfl))) (pssd_cons (psd_set (i:=9) sc_Z11.nd rfl (by first|exact Or.inl rfl|exact Or.inr rfl) (pd_mod (pd_call (fun t ha=>pe_call (z.mono (by decide)) O rfl j k_Z8 b_Z8 .nil pass0 ha) rfl (pas_cons (pd_var 0 (pv 0)) (pas_cons (pd_add pd_int (pd_var 8 (pv 8))) pas_nil)) (acons_len (acons_len anil_len))) (pd_var 4 (pv 4)))) (pssd_cons (psd_set (i:=7) sc_Z11.nd rfl (by first|exact Or.inl rfl|exact Or.inr rfl) (pd_sub (pd_add (pd_var 7 (pv 7)) (pd_var 9 (pv 9))) (pd_fdiv (pd_var 4 (pv 4)) pd_int))) (pssd_cons (psd_set (i:=10) sc_Z11.nd rfl (by first|exact Or.inl rfl|exact Or.inr rfl) (pf_pd (pf_lst (pas_cons (pd_sub (pd_var 9 (pv 9)) (pd_fdiv (pd_var 4 (pv 4)) pd_int)) (pas_cons (pd_add (pd_var 8 (pv 8)) (pd_fdiv (pd_var 9 (pv 9)) pd_int)) (pas_cons (pd_sub (pd_sub pd_int (pd_var 8 (pv 8))) (pd_fdiv (pd_var 9 (pv 9)) pd_int)) (pas_cons (pd_ix (pf_pb (pf_lst (pas_cons (pd_var 9 (pv 9)) (pas_cons (pd_sub pd_int (pd_var 9 (pv 9))) pas_nil)))) (pd_mod (pd_var 8 (pv 8)) pd_int)) pas_nil))))))) (pssd_cons (psd_set (i:=10) sc_Z11.nd rfl (by first|exact Or.inl rfl|exact Or.inr rfl) (pf_pd (pf_cat (pb_var 10 (pv 10)) (pf_pb (pf_lst (pas_cons (pd_add (pd_var 9 (pv 9)) (pd_mul (pd_mod (pd_fdiv (pd_var 8 (pv 8)) (pd_var 5 (pv 5))) pd_int) (pd_var 4 (pv 4)))) (pas_cons (pd_var 4 (pv 4)) (pas_cons (pd_add (pd_mul (pd_sub (pd_var 9 (pv 9)) (pd_fdiv (pd_var 4 (pv 4)) pd_int)) (pd_pow pd_int pd_int)) (pd_mod (pd_call (fun t ha=>pe_call (z.mono (by decide)) O rfl j k_Z8 b_Z8 .nil pass0 ha) rfl (pas_cons (pd_var 0 (pv 0)) (pas_cons (pd_add pd_int (pd_var 8 (pv 8))) pas_nil)) (acons_len (acons_len anil_len))) pd_int)) pas_nil)))))))) (pssd_one (psd_append (i:=6) (pv 6) (pd_ix (pf_pb (pf_cat (pb_var 10 (pv 10)) (pf_pb (pf_lst (pas_cons (pd_var 7 (pv 7)) pas_nil))))) (pd_var 3 (pv 3))) (fun t ha=>pe_bm PySem.F.plainAttrs_list PySem.F.slot_list_append PySem.F.type_list_append mt_append (pv 6) ha) (pas_cons (pd_ix (pf_pb (pf_cat (pb_var 10 (pv 10)) (pf_pb (pf_lst (pas_cons (pd_var 7 (pv 7)) pas_nil))))) (pd_var 3 (pv 3))) pas_nil)))))))) (pssd_one (psd_retO 6 (pv 6))))))))))
noncomputable abbrev s_Z6:Stmt:=top 17
noncomputable abbrev N_Z6:List Str:=["e","found"]
theorem sc_Z6:FnScope N_Z6 ["e"] (defScope s_Z6):=⟨rfl,rfl,rfl,by decide +kernel,rfl,by decide +kernel,by decide +kernel⟩
theorem ok_Z6 {P:Program}{w:World}{K:W.Frag}{mg:Str->Option Value}{base:Heap}{f:Addr}{fd:FuncData}(Fn:Fun K "_law_flags" "_law_flags" s_Z6 f fd){a0:Addr}(ad:mg "NoForm"=some (.ref a0)){G:Addr}(a5:mg "NoNumber"=some (.ref G)){L:Addr}(aa:mg "NoPlace"=some (.ref L)){Z:Addr}(ac:mg "NoStep"=some (.ref Z)){Y:Addr}(ab:mg "NoText"=some (.ref Y)){z:Addr}(a2:mg "NoWeights"=some (.ref z)){J:Addr}(a9:mg "NoneYet"=some (.ref J))(a8:∀ c k,([("NoPlace",false)]:List (Str×Bool)).lookup c=some k->∀ C,XC K c C->XCls K C/\W.kitOne K (.ref C) (.ref a0)=some k)(a1:∀ c k,([("NoPlace",false)]:List (Str×Bool)).lookup c=some k->∀ C,XC K c C->XCls K C/\W.kitOne K (.ref C) (.ref G)=some k)(a4:∀ c k,([("NoPlace",true)]:List (Str×Bool)).lookup c=some k->∀ C,XC K c C->XCls K C/\W.kitOne K (.ref C) (.ref L)=some k)(a7:∀ c k,([("NoPlace",false)]:List (Str×Bool)).lookup c=some k->∀ C,XC K c C->XCls K C/\W.kitOne K (.ref C) (.ref Z)=some k)(a6:∀ c k,([("NoPlace",false)]:List (Str×Bool)).lookup c=some k->∀ C,XC K c C->XCls K C/\W.kitOne K (.ref C) (.ref Y)=some k)(U:∀ c k,([("NoPlace",false)]:List (Str×Bool)).lookup c=some k->∀ C,XC K c C->XCls K C/\W.kitOne K (.ref C) (.ref z)=some k)(a3:∀ c k,([("NoPlace",false)]:List (Str×Bool)).lookup c=some k->∀ C,XC K c C->XCls K C/\W.kitOne K (.ref C) (.ref J)=some k)(N:∀ c k,([("NoPlace",true)]:List (Str×Bool)).lookup c=some k->∀ C,XC K c C->XCls K C/\W.kitOne K (.ref C) (.type "ValueError")=some k)(O:mg "ValueError"=none)(j:mg "isinstance"=none):FnOkN P w K mg base CX0 1 f fd ["e"] (spR K 1 m_Z6):=
 Fn.okN (k:=0) (m:=b_Z6) sc_Z6 fun cdv A outer s H E hr=>(pssd_cons (psd_set (i:=1) sc_Z6.nd rfl (by first|exact Or.inl rfl|exact Or.inr rfl) (pf_pd (pf_lst (pas_cons (pd_isX (tab:=[("NoPlace",false)]) rfl j rfl ac (pd_var 0 (pv 0)) a7) (pas_cons (pd_isX (tab:=[("NoPlace",true)]) rfl j rfl aa (pd_var 0 (pv 0)) a4) (pas_cons (pd_isX (tab:=[("NoPlace",false)]) rfl j rfl a2 (pd_var 0 (pv 0)) U) (pas_cons (pd_isX (tab:=[("NoPlace",false)]) rfl j rfl a5 (pd_var 0 (pv 0)) a1) pas_nil))))))) (pssd_cons (psd_set (i:=1) sc_Z6.nd rfl (by first|exact Or.inl rfl|exact Or.inr rfl) (pf_pd (pf_cat (pb_var 1 (pv 1)) (pf_pb (pf_lst (pas_cons (pd_isX (tab:=[("NoPlace",false)]) rfl j rfl ab (pd_var 0 (pv 0)) a6) (pas_cons (pd_isX (tab:=[("NoPlace",false)]) rfl j rfl ad (pd_var 0 (pv 0)) a8) (pas_cons (pd_isX (tab:=[("NoPlace",false)]) rfl j rfl a9 (pd_var 0 (pv 0)) a3) pas_nil)))))))) (pssd_one (psd_retF (pf_cat (pb_var 1 (pv 1)) (pf_pb (pf_lst (pas_cons (pd_not (pd_isXB (T:="ValueError") (tab:=[("NoPlace",true)]) rfl j rfl O (by rfl) (pd_var 0 (pv 0)) N)) pas_nil))))))))
noncomputable abbrev s_Z10:Stmt:=top 18
noncomputable abbrev N_Z10:List Str:=["cell","k"]
theorem sc_Z10:FnScope N_Z10 ["cell","k"] (defScope s_Z10):=⟨rfl,rfl,rfl,by decide +kernel,rfl,by decide +kernel,by decide +kernel⟩
theorem ok_Z10 {P:Program}{w:World}{K:W.Frag}{mg:Str->Option Value}{base:Heap}{f:Addr}{fd:FuncData}{j:Addr}{z:FuncData}(N:Fun K "_law_far" "_law_far" s_Z10 f fd)(J:FnOk P w K mg base CX0 1 j z ["cell","k"] (spR K 2 m_Z8))(b_Z8:Binds K z ["cell","k"] [])(k_Z8:W.keepIn K (.ref j)=true)(G:mg "_law_stir"=some (.ref j)):FnOk P w K mg base CX0 2 f fd ["cell","k"] (spR K 2 m_Z10):=
 N.okD (k:=1) (m:=b_Z10) sc_Z10 fun cdv A outer s H E L=>(pssd_one (psd_ret (pd_ix (pf_pb (pf_lst (pas_cons pd_int (pas_cons pd_int (pas_cons (pd_mod (pd_call (fun t ha=>pe_call (J.mono (by decide)) L rfl G k_Z8 b_Z8 .nil pass0 ha) rfl (pas_cons (pd_var 0 (pv 0)) (pas_cons (pd_add (pd_var 1 (pv 1)) pd_int) pas_nil)) (acons_len (acons_len anil_len))) pd_int) (pas_cons (pd_pow pd_int pd_int) pas_nil)))))) (pd_mod (pd_call (fun t ha=>pe_call (J.mono (by decide)) L rfl G k_Z8 b_Z8 .nil pass0 ha) rfl (pas_cons (pd_var 0 (pv 0)) (pas_cons (pd_var 1 (pv 1)) pas_nil)) (acons_len (acons_len anil_len))) pd_int))))
noncomputable abbrev s_Z9:Stmt:=top 19
noncomputable abbrev N_Z9:List Str:=["cell","k","size","found","place","bit"]
theorem sc_Z9:FnScope N_Z9 ["cell","k","size"] (defScope s_Z9):=⟨rfl,rfl,rfl,by decide +kernel,rfl,by decide +kernel,by decide +kernel⟩
theorem ok_Z9 {P:Program}{w:World}{K:W.Frag}{mg:Str->Option Value}{base:Heap}{f:Addr}{fd:FuncData}{z:Addr}{L:FuncData}(O:Fun K "_law_some" "_law_some" s_Z9 f fd)(J:FnOk P w K mg base CX0 1 z L ["cell","k"] (spR K 2 m_Z8))(b_Z8:Binds K L ["cell","k"] [])(k_Z8:W.keepIn K (.ref z)=true)(G:mg "_law_stir"=some (.ref z))(j:mg "range"=none):FnOk P w K mg base CX0 2 f fd ["cell","k","size"] (spR K 3 m_Z9):=
 O.okD (k:=1) (m:=b_Z9) sc_Z9 fun cdv A outer s H E N=>(pssd_cons (psd_setF (i:=3) sc_Z9.nd rfl (by first|exact Or.inl rfl|exact Or.inr rfl) (pf_lst pas_nil)) (pssd_cons (psd_for PassesOwn.never rfl (pid_range1 rfl j (pas_cons (pd_var 2 (pv 2)) pas_nil)) (pgd_name (i:=4) (pg_name sc_Z9.nd rfl (by first|exact Or.inl rfl|exact Or.inr rfl))) (pssd_cons (psd_set (i:=5) sc_Z9.nd rfl (by first|exact Or.inl rfl|exact Or.inr rfl) (pd_band (pd_shr (pd_call (fun t ha=>pe_call (J.mono (by decide)) N rfl G k_Z8 b_Z8 .nil pass0 ha) rfl (pas_cons (pd_var 0 (pv 0)) (pas_cons (pd_add (pd_add (pd_var 1 (pv 1)) pd_int) (pd_fdiv (pd_var 4 (pv 4)) pd_int)) pas_nil)) (acons_len (acons_len anil_len))) (pd_mod (pd_var 4 (pv 4)) pd_int)) pd_int)) (pssd_cons (psd_if (pc_cmp op_gt opd_gt (pd_mod (pd_call (fun t ha=>pe_call (J.mono (by decide)) N rfl G k_Z8 b_Z8 .nil pass0 ha) rfl (pas_cons (pd_var 0 (pv 0)) (pas_cons (pd_var 1 (pv 1)) pas_nil)) (acons_len (acons_len anil_len))) pd_int) pd_int (nomark _)) (pssd_one (psd_set (i:=5) sc_Z9.nd rfl (by first|exact Or.inl rfl|exact Or.inr rfl) (pd_mul (pd_var 5 (pv 5)) (pd_band (pd_shr (pd_call (fun t ha=>pe_call (J.mono (by decide)) N rfl G k_Z8 b_Z8 .nil pass0 ha) rfl (pas_cons (pd_var 0 (pv 0)) (pas_cons (pd_add (pd_add (pd_var 1 (pv 1)) pd_int) (pd_fdiv (pd_var 4 (pv 4)) pd_int)) pas_nil)) (acons_len (acons_len anil_len))) (pd_mod (pd_var 4 (pv 4)) pd_int)) pd_int)))) pssd_nil) (pssd_one (psd_if (pc_cmp op_eq opd_eqS (pd_var 5 (pv 5)) pd_int (nomark _)) (pssd_one (psd_append (i:=3) (pv 3) (pd_var 4 (pv 4)) (fun t ha=>pe_bm PySem.F.plainAttrs_list PySem.F.slot_list_append PySem.F.type_list_append mt_append (pv 3) ha) (pas_cons (pd_var 4 (pv 4)) pas_nil))) pssd_nil))))) (pssd_one (psd_retO 3 (pv 3)))))
noncomputable abbrev s_Z2:Stmt:=top 20
noncomputable abbrev N_Z2:List Str:=["cell","k","row","step","found","up","place","number","passed","far"]
theorem sc_Z2:FnScope N_Z2 ["cell","k","row","step"] (defScope s_Z2):=⟨rfl,rfl,rfl,by decide +kernel,rfl,by decide +kernel,by decide +kernel⟩
theorem ok_Z2 {P:Program}{w:World}{K:W.Frag}{mg:Str->Option Value}{base:Heap}{f:Addr}{fd:FuncData}{z:Addr}{G:FuncData}(U:Fun K "_law_by_turns" "_law_by_turns" s_Z2 f fd)(N:FnOk P w K mg base CX0 1 z G ["cell","k"] (spR K 2 m_Z8))(b_Z8:Binds K G ["cell","k"] [])(k_Z8:W.keepIn K (.ref z)=true)(L:mg "_law_stir"=some (.ref z))(J:mg "abs"=none)(j:mg "enumerate"=none):FnOk P w K mg base CX0 2 f fd ["cell","k","row","step"] (spR K 4 m_Z2):=
 U.okD (k:=1) (m:=b_Z2) sc_Z2 fun cdv A outer s H E O=>(pssd_cons (psd_setF (i:=4) sc_Z2.nd rfl (by first|exact Or.inl rfl|exact Or.inr rfl) (pf_lst pas_nil)) (pssd_cons (psd_set (i:=5) sc_Z2.nd rfl (by first|exact Or.inl rfl|exact Or.inr rfl) pd_non) (pssd_cons (psd_for PassesOwn.never rfl (pid_enum rfl j (pas_cons (pd_var 2 (pv 2)) pas_nil)) (pgd_tup (is:=[6,7]) (pg_tup rfl (pgs_cons (pg_name (i:=6) sc_Z2.nd rfl (by first|exact Or.inl rfl|exact Or.inr rfl)) (pgs_cons (pg_name (i:=7) sc_Z2.nd rfl (by first|exact Or.inl rfl|exact Or.inr rfl)) pgs_nil)))) (pssd_cons (psd_set (i:=8) sc_Z2.nd rfl (by first|exact Or.inl rfl|exact Or.inr rfl) (pd_and (pd_cmp op_eq opd_eqS (pd_band (pd_shr (pd_call (fun t ha=>pe_call (N.mono (by decide)) O rfl L k_Z8 b_Z8 .nil pass0 ha) rfl (pas_cons (pd_var 0 (pv 0)) (pas_cons (pd_add (pd_var 1 (pv 1)) (pd_fdiv (pd_var 6 (pv 6)) pd_int)) pas_nil)) (acons_len (acons_len anil_len))) (pd_mod (pd_var 6 (pv 6)) pd_int)) pd_int) pd_int (nomark _)) (pd_one (pd_cmp op_gt opd_gt (pd_mod (pd_var 6 (pv 6)) pd_int) pd_int (nomark _))))) (pssd_one (psd_if (pc_w (pcw_and (pc_eqB (op_eqF O.units) (pb_var 4 (pv 4)) (pf_pb (pf_lst pas_nil)) (nomark _)) (pw1_and (pc_not (pc_tru (pd_var 8 (pv 8))))))) (pssd_one (psd_append (i:=4) (pv 4) (pd_var 6 (pv 6)) (fun t ha=>pe_bm PySem.F.plainAttrs_list PySem.F.slot_list_append PySem.F.type_list_append mt_append (pv 4) ha) (pas_cons (pd_var 6 (pv 6)) pas_nil))) (pssd_one (psd_if (pc_w (pcw_and (pc_eqB (op_neF O.units) (pb_var 4 (pv 4)) (pf_pb (pf_lst pas_nil)) (nomark _)) (pw1_and (pc_not (pc_tru (pd_var 8 (pv 8))))))) (pssd_cons (psd_set (i:=9) sc_Z2.nd rfl (by first|exact Or.inl rfl|exact Or.inr rfl) (pd_sub (pd_var 7 (pv 7)) (pd_ix (pb_var 2 (pv 2)) (pd_ix (pb_var 4 (pv 4)) (pd_neg pd_int))))) (pssd_one (psd_if (pc_w (pcw_and (pc_cmp op_ge opd_ge (pd_abs rfl J (pas_cons (pd_var 9 (pv 9)) pas_nil)) (pd_var 3 (pv 3)) (nomark _)) (pw1_and (pc_cmp op_ne opd_neS (pd_var 5 (pv 5)) (pd_cmp op_gt opd_gt (pd_var 9 (pv 9)) pd_int (nomark _)) (nomark _))))) (pssd_cons (psd_set (i:=5) sc_Z2.nd rfl (by first|exact Or.inl rfl|exact Or.inr rfl) (pd_cmp op_gt opd_gt (pd_var 9 (pv 9)) pd_int (nomark _))) (pssd_one (psd_append (i:=4) (pv 4) (pd_var 6 (pv 6)) (fun t ha=>pe_bm PySem.F.plainAttrs_list PySem.F.slot_list_append PySem.F.type_list_append mt_append (pv 4) ha) (pas_cons (pd_var 6 (pv 6)) pas_nil)))) pssd_nil))) pssd_nil)))))) (pssd_one (psd_retO 4 (pv 4))))))
noncomputable abbrev s_Z0:Stmt:=top 21
noncomputable abbrev N_Z0:List Str:=["cell","k","places","size","at","to","far","any_place","found","place","turned"]
theorem sc_Z0:FnScope N_Z0 ["cell","k","places","size"] (defScope s_Z0):=⟨rfl,rfl,rfl,by decide +kernel,rfl,by decide +kernel,by decide +kernel⟩
theorem ok_Z0 {P:Program}{w:World}{K:W.Frag}{mg:Str->Option Value}{base:Heap}{f:Addr}{fd:FuncData}{z:Addr}{J:FuncData}{G:Addr}{U:FuncData}(Fn:Fun K "_law_odd_places" "_law_odd_places" s_Z0 f fd)(a0:FnOk P w K mg base CX0 2 z J ["cell","k"] (spR K 2 m_Z10))(b_Z10:Binds K J ["cell","k"] [])(k_Z10:W.keepIn K (.ref z)=true)(Z:mg "_law_far"=some (.ref z))(N:FnOk P w K mg base CX0 1 G U ["cell","k"] (spR K 2 m_Z8))(b_Z8:Binds K U ["cell","k"] [])(k_Z8:W.keepIn K (.ref G)=true)(L:mg "_law_stir"=some (.ref G))(j:mg "len"=none)(O:mg "list"=none)(Y:mg "max"=none):FnOk P w K mg base CX0 3 f fd ["cell","k","places","size"] (spR K 4 m_Z0):=
 Fn.okD (k:=2) (m:=b_Z0) sc_Z0 fun cdv A outer s H E hr=>(pssd_cons (psd_set (i:=4) sc_Z0.nd rfl (by first|exact Or.inl rfl|exact Or.inr rfl) (pd_mod (pd_call (fun t ha=>pe_call (N.mono (by decide)) hr rfl L k_Z8 b_Z8 .nil pass0 ha) rfl (pas_cons (pd_var 0 (pv 0)) (pas_cons (pd_var 1 (pv 1)) pas_nil)) (acons_len (acons_len anil_len))) (pd_add (pd_lenB rfl j (pb_var 2 (pv 2))) pd_int))) (pssd_cons (psd_set (i:=5) sc_Z0.nd rfl (by first|exact Or.inl rfl|exact Or.inr rfl) (pd_mod (pd_call (fun t ha=>pe_call (N.mono (by decide)) hr rfl L k_Z8 b_Z8 .nil pass0 ha) rfl (pas_cons (pd_var 0 (pv 0)) (pas_cons (pd_add (pd_var 1 (pv 1)) pd_int) pas_nil)) (acons_len (acons_len anil_len))) (pd_add (pd_lenB rfl j (pb_var 2 (pv 2))) pd_int))) (pssd_cons (psd_set (i:=6) sc_Z0.nd rfl (by first|exact Or.inl rfl|exact Or.inr rfl) (pd_call (fun t ha=>pe_call (a0.mono (by decide)) hr rfl Z k_Z10 b_Z10 .nil pass0 ha) rfl (pas_cons (pd_var 0 (pv 0)) (pas_cons (pd_add (pd_var 1 (pv 1)) pd_int) pas_nil)) (acons_len (acons_len anil_len)))) (pssd_cons (psd_set (i:=7) sc_Z0.nd rfl (by first|exact Or.inl rfl|exact Or.inr rfl) (pd_mod (pd_call (fun t ha=>pe_call (N.mono (by decide)) hr rfl L k_Z8 b_Z8 .nil pass0 ha) rfl (pas_cons (pd_var 0 (pv 0)) (pas_cons (pd_add (pd_var 1 (pv 1)) pd_int) pas_nil)) (acons_len (acons_len anil_len))) (pd_add (pd_var 3 (pv 3)) pd_int))) (pssd_cons (psd_setF (i:=8) sc_Z0.nd rfl (by first|exact Or.inl rfl|exact Or.inr rfl) (pf_lst (pas_cons (pf_pd (pf_cat (pf_pb (pf_sl (pb_var 2 (pv 2)) pos_none (pos_some (pd_var 4 (pv 4))))) (pf_pb (pf_sl (pb_var 2 (pv 2)) (pos_some (pd_add (pd_var 4 (pv 4)) pd_int)) pos_none)))) (pas_cons (pf_pd (pf_cat (pf_pb (pf_cat (pf_pb (pf_sl (pb_var 2 (pv 2)) pos_none (pos_some (pd_var 4 (pv 4))))) (pf_pb (pf_sl (pb_var 2 (pv 2)) (pos_some (pd_sub (pd_var 4 (pv 4)) pd_int)) (pos_some (pd_var 4 (pv 4))))))) (pf_pb (pf_sl (pb_var 2 (pv 2)) (pos_some (pd_var 4 (pv 4))) pos_none)))) (pas_cons (pf_pd (pf_rev (pb_var 2 (pv 2)) (pos_some (pd_neg pd_int)))) pas_nil))))) (pssd_cons (psd_for PassesOwn.never rfl (pid_seq (pf_pd (pf_lst (pas_cons (pd_var 7 (pv 7)) (pas_cons (pd_neg pd_int) (pas_cons (pd_sub (pd_neg pd_int) (pd_var 6 (pv 6))) (pas_cons (pd_var 3 (pv 3)) (pas_cons (pd_add (pd_var 3 (pv 3)) (pd_var 6 (pv 6))) pas_nil)))))))) (pgd_name (i:=9) (pg_name sc_Z0.nd rfl (by first|exact Or.inl rfl|exact Or.inr rfl))) (pssd_cons (psd_append (i:=8) (pv 8) (pf_pd (pf_cat (pf_pb (pf_cat (pf_pb (pf_sl (pb_var 2 (pv 2)) pos_none (pos_some (pd_var 4 (pv 4))))) (pf_pb (pf_lst (pas_cons (pd_var 9 (pv 9)) pas_nil))))) (pf_pb (pf_sl (pb_var 2 (pv 2)) (pos_some (pd_var 4 (pv 4))) pos_none)))) (fun t ha=>pe_bm PySem.F.plainAttrs_list PySem.F.slot_list_append PySem.F.type_list_append mt_append (pv 8) ha) (pas_cons (pf_pd (pf_cat (pf_pb (pf_cat (pf_pb (pf_sl (pb_var 2 (pv 2)) pos_none (pos_some (pd_var 4 (pv 4))))) (pf_pb (pf_lst (pas_cons (pd_var 9 (pv 9)) pas_nil))))) (pf_pb (pf_sl (pb_var 2 (pv 2)) (pos_some (pd_var 4 (pv 4))) pos_none)))) pas_nil)) (pssd_one (psd_append (i:=8) (pv 8) (pf_pd (pf_cat (pf_pb (pf_cat (pf_pb (pf_sl (pb_var 2 (pv 2)) pos_none (pos_some (pd_var 4 (pv 4))))) (pf_pb (pf_lst (pas_cons (pd_var 9 (pv 9)) pas_nil))))) (pf_pb (pf_sl (pb_var 2 (pv 2)) (pos_some (pd_add (pd_var 4 (pv 4)) pd_int)) pos_none)))) (fun t ha=>pe_bm PySem.F.plainAttrs_list PySem.F.slot_list_append PySem.F.type_list_append mt_append (pv 8) ha) (pas_cons (pf_pd (pf_cat (pf_pb (pf_cat (pf_pb (pf_sl (pb_var 2 (pv 2)) pos_none (pos_some (pd_var 4 (pv 4))))) (pf_pb (pf_lst (pas_cons (pd_var 9 (pv 9)) pas_nil))))) (pf_pb (pf_sl (pb_var 2 (pv 2)) (pos_some (pd_add (pd_var 4 (pv 4)) pd_int)) pos_none)))) pas_nil))))) (pssd_freeze 8 (pssd_cons (psd_setF (i:=10) sc_Z0.nd rfl (by first|exact Or.inl rfl|exact Or.inr rfl) (pf_list rfl O (pb_var 2 (pv 2)) PyProof.Rows.boot_list)) (pssd_cons (psd_if (pc_cmp op_lt opd_lt (pd_max2 rfl rfl Y (pas_cons (pd_var 4 (pv 4)) (pas_cons (pd_var 5 (pv 5)) pas_nil))) (pd_lenB rfl j (pb_var 2 (pv 2))) (nomark _)) (pssd_one (psd_setix2 (i:=10) (ps_asg (pd_tup (pas_cons (pd_ix (pb_var 2 (pv 2)) (pd_var 5 (pv 5))) (pas_cons (pd_ix (pb_var 2 (pv 2)) (pd_var 4 (pv 4))) pas_nil))) (pg_tup rfl (pgs_cons (pg_sub (pv 10) (pd_var 4 (pv 4)) set_list) (pgs_cons (pg_sub (pv 10) (pd_var 5 (pv 5)) set_list) pgs_nil)))))) pssd_nil) (pssd_freeze 10 (pssd_one (psd_retF (pf_cat (pb_var 8 (pv 8)) (pf_pb (pf_lst (pas_cons (pd_var 10 (pv 10)) (pas_cons (pf_pd (pf_lst pas_nil)) pas_nil)))))))))))))))))
noncomputable abbrev s_Z3:Stmt:=top 22
noncomputable abbrev N_Z3:List Str:=["row","places","found","handed","e"]
theorem sc_Z3:FnScope N_Z3 ["row","places"] (defScope s_Z3):=⟨rfl,rfl,rfl,by decide +kernel,rfl,by decide +kernel,by decide +kernel⟩
theorem ok_Z3 {P:Program}{w:World}{K:W.Frag}{mg:Str->Option Value}{base:Heap}{f:Addr}{fd:FuncData}{N:Addr}{U:FuncData}{L:Addr}{O:FuncData}(Fn:Fun K "_law_refused" "_law_refused" s_Z3 f fd)(a1:FnOkN P w K mg base CX0 1 N U ["e"] (spR K 1 m_Z6))(b_Z6:Binds K U ["e"] [])(k_Z6:W.keepIn K (.ref N)=true)(a0:mg "_law_flags"=some (.ref N))(a2:FnOk P w K mg base CX0 2 L O ["row","places"] (spR K 2 m_Z1))(b_Z1:Binds K O ["row","places"] [])(k_Z1:W.keepIn K (.ref L)=true)(Y:mg "how_many_turns"=some (.ref L))(Z:FnOk P w K mg base (CXx P w) 2 L O ["row","places"] (spX K 2 xm_Z1)){j:Addr}(G:mg "WaveError"=some (.ref j))(z:∀ c∈(["NoPlace"]:List Str),∀ C,XC K c C->W.exmOne K (.ref C) (.ref j)=some true)(J:mg "list"=none):FnOk P w K mg base CX0 3 f fd ["row","places"] (spR K 2 m_Z3):=
 Fn.okD (k:=2) (m:=b_Z3) sc_Z3 fun cdv A outer s H E hr=>(pssd_cons (psd_setF (i:=2) sc_Z3.nd rfl (by first|exact Or.inl rfl|exact Or.inr rfl) (pf_lst pas_nil)) (pssd_cons (psd_set (i:=3) sc_Z3.nd rfl (by first|exact Or.inl rfl|exact Or.inr rfl) (pf_pd (pf_lst (pas_cons (pf_pd (pf_list rfl J (pb_var 0 (pv 0)) PyProof.Rows.boot_list)) (pas_cons (pf_pd (pf_list rfl J (pb_var 1 (pv 1)) PyProof.Rows.boot_list)) pas_nil))))) (pssd_cons (psd_try (names:=["NoPlace"]) (i:=4) rfl ⟨rfl,rfl,rfl⟩ rfl G z sc_Z3.nd rfl rfl (pssd_one (psd_expr (pd_call (fun t ha=>pe_call (a2.mono (by decide)) hr rfl Y k_Z1 b_Z1 .nil pass0 ha) rfl (pas_cons (pd_ix (pb_var 3 (pv 3)) pd_int) (pas_cons (pd_ix (pb_var 3 (pv 3)) pd_int) pas_nil)) (acons_len (acons_len anil_len))))) (pssx_one (psx_expr (pex_call rfl ⟨rfl,rfl,rfl⟩ (Z.mono (by decide)) hr rfl Y k_Z1 b_Z1 rfl (pas_cons (pd_ix (pb_var 3 (pv 3)) pd_int) (pas_cons (pd_ix (pb_var 3 (pv 3)) pd_int) pas_nil)) (acons_len (acons_len anil_len))))) (fun a=>(pssd_one (psd_setF (i:=2) sc_Z3.nd rfl (by first|exact Or.inl rfl|exact Or.inr rfl) (pf_call (fun t ha=>pe_callN (a1.mono (by decide)) (hr.mark _) rfl a0 k_Z6 b_Z6 .nil pass0 ha) rfl (pas_cons (pd_var 4 (pv 4)) pas_nil) (acons_len anil_len)))))) (pssd_cons (psd_if (pc_eqB (op_neF hr.units) (pb_var 3 (pv 3)) (pf_pb (pf_lst (pas_cons (pd_var 0 (pv 0)) (pas_cons (pd_var 1 (pv 1)) pas_nil)))) (nomark _)) (pssd_one (psd_retF (pf_lst (pas_cons pd_str pas_nil)))) pssd_nil) (pssd_one (psd_retO 2 (pv 2)))))))
noncomputable abbrev s_Z12:Stmt:=top 23
noncomputable abbrev N_Z12:List Str:=["script","cell","row","places","some","beyond","good"]
theorem sc_Z12:FnScope N_Z12 ["script"] (defScope s_Z12):=⟨rfl,rfl,rfl,by decide +kernel,rfl,by decide +kernel,by decide +kernel⟩
theorem nd_law_0:List.Nodup (["place","row"]:List Str):=by decide +kernel
theorem nd_law_1:List.Nodup (["k"]:List Str):=by decide +kernel
theorem ok_Z12 {P:Program}{w:World}{K:W.Frag}{mg:Str->Option Value}{base:Heap}{f:Addr}{fd:FuncData}{Y:Addr}{a4:FuncData}{O:Addr}{a2:FuncData}{Z:Addr}{a5:FuncData}{U:Addr}{a3:FuncData}{z:Addr}{a0:FuncData}{L:Addr}{a1:FuncData}(Fn:Fun K "law" "law" s_Z12 f fd)(ai:FnOk P w K mg base CX0 2 Y a4 ["cell","k","row","step"] (spR K 4 m_Z2))(b_Z2:Binds K a4 ["cell","k","row","step"] [])(k_Z2:W.keepIn K (.ref Y)=true)(ad:mg "_law_by_turns"=some (.ref Y))(ag:FnOk P w K mg base CX0 1 O a2 ["script","many"] (spR K 2 m_Z5))(b_Z5:Binds K a2 ["script","many"] [])(k_Z5:W.keepIn K (.ref O)=true)(ab:mg "_law_cells"=some (.ref O))(aj:FnOk P w K mg base CX0 3 Z a5 ["cell","k","places","size"] (spR K 4 m_Z0))(b_Z0:Binds K a5 ["cell","k","places","size"] [])(k_Z0:W.keepIn K (.ref Z)=true)(ae:mg "_law_odd_places"=some (.ref Z))(ah:FnOk P w K mg base CX0 3 U a3 ["row","places"] (spR K 2 m_Z3))(b_Z3:Binds K a3 ["row","places"] [])(k_Z3:W.keepIn K (.ref U)=true)(ac:mg "_law_refused"=some (.ref U))(a9:FnOk P w K mg base CX0 2 z a0 ["cell","most"] (spR K 2 m_Z11))(b_Z11:Binds K a0 ["cell","most"] [])(k_Z11:W.keepIn K (.ref z)=true)(a8:mg "_law_row"=some (.ref z))(af:FnOk P w K mg base CX0 2 L a1 ["cell","k","size"] (spR K 3 m_Z9))(b_Z9:Binds K a1 ["cell","k","size"] [])(k_Z9:W.keepIn K (.ref L)=true)(aa:mg "_law_some"=some (.ref L))(a7:mg "int"=none)(j:mg "len"=none)(J:mg "range"=none)(a6:mg "set"=none)(G:mg "sorted"=none):FnOk P w K mg base CX0 4 f fd ["script"] (spR K 1 m_Z12):=
 Fn.okD (k:=3) (m:=b_Z12) sc_Z12 fun cdv A outer s H E hr=>(pssd_cons (psd_for PassesOwn.never rfl (pid_seq (pd_call (fun t ha=>pe_call (ag.mono (by decide)) hr rfl ab k_Z5 b_Z5 .nil pass0 ha) rfl (pas_cons (pd_var 0 (pv 0)) (pas_cons pd_int pas_nil)) (acons_len (acons_len anil_len)))) (pgd_name (i:=1) (pg_name sc_Z12.nd rfl (by first|exact Or.inl rfl|exact Or.inr rfl))) (pssd_cons (psd_set (i:=2) sc_Z12.nd rfl (by first|exact Or.inl rfl|exact Or.inr rfl) (pd_call (fun t ha=>pe_call (a9.mono (by decide)) hr rfl a8 k_Z11 b_Z11 .nil pass0 ha) rfl (pas_cons (pd_var 1 (pv 1)) (pas_cons pd_int pas_nil)) (acons_len (acons_len anil_len)))) (pssd_one (psd_for PassesOwn.never rfl (pid_seq (pf_pd (pf_lst (pas_cons (pd_call (fun t ha=>pe_call (af.mono (by decide)) hr rfl aa k_Z9 b_Z9 .nil pass0 ha) rfl (pas_cons (pd_var 1 (pv 1)) (pas_cons pd_int (pas_cons (pd_lenB rfl j (pb_var 2 (pv 2))) pas_nil))) (acons_len (acons_len (acons_len anil_len)))) (pas_cons (pd_call (fun t ha=>pe_call (ai.mono (by decide)) hr rfl ad k_Z2 b_Z2 .nil pass0 ha) rfl (pas_cons (pd_var 1 (pv 1)) (pas_cons pd_int (pas_cons (pd_var 2 (pv 2)) (pas_cons pd_int pas_nil)))) (acons_len (acons_len (acons_len (acons_len anil_len))))) pas_nil))))) (pgd_name (i:=3) (pg_name sc_Z12.nd rfl (by first|exact Or.inl rfl|exact Or.inr rfl))) (pssd_one (psd_for PassesOwn.never rfl (pid_seq (pf_pd (pf_cat (pf_pb (pf_lst (pas_cons (pd_var 3 (pv 3)) pas_nil))) (pd_pb (pd_call (fun t ha=>pe_call (aj.mono (by decide)) hr rfl ae k_Z0 b_Z0 .nil pass0 ha) rfl (pas_cons (pd_var 1 (pv 1)) (pas_cons pd_int (pas_cons (pd_var 3 (pv 3)) (pas_cons (pd_lenB rfl j (pb_var 2 (pv 2))) pas_nil)))) (acons_len (acons_len (acons_len (acons_len anil_len))))))))) (pgd_name (i:=4) (pg_name sc_Z12.nd rfl (by first|exact Or.inl rfl|exact Or.inr rfl))) (pssd_cons (psd_setCs (ps_setC (i:=5) sc_Z12.nd rfl (by first|exact Or.inl rfl|exact Or.inr rfl) (blk_of (N:=["place","row"]) (src:=[none,some 2]) (defScope s_Z12) N_Z12 rfl rfl (by decide +kernel)) rfl (pid_seq (pd_var 4 (pv 4))) (fun C fp s0 H0=>(pgd_name (i:=0) (pg_name nd_law_0 rfl (by first|exact Or.inl rfl|exact Or.inr rfl)))) (fun C fp s0 H0=>(ptsd_one (pc_not (pc_chain op_le opd_le op_lt opd_lt pd_int (pd_var 0 (pv 0)) (pd_lenB rfl j (pb_var 1 (pv 1))))))) (fun C fp s0 H0=>(pd_var 0 (pv 0))))) (pssd_cons (psd_set (i:=6) sc_Z12.nd rfl (by first|exact Or.inl rfl|exact Or.inr rfl) (pd_and (pd_eqB (op_eqF hr.units) (pb_var 4 (pv 4)) (pf_pb (pf_sortSetA rfl rfl G rfl a6 (pb_var 4 (pv 4)) PyProof.Rows.boot_sorted PyProof.Rows.boot_set)) (nomark _)) (pd_one (pd_eqB (op_eqF hr.units) (pb_var 5 (pv 5)) (pf_pb (pf_lst pas_nil)) (nomark _))))) (pssd_one (psd_if (pc_eqB (op_neF hr.units) (pd_pb (pd_call (fun t ha=>pe_call (ah.mono (by decide)) hr rfl ac k_Z3 b_Z3 .nil pass0 ha) rfl (pas_cons (pd_var 2 (pv 2)) (pas_cons (pd_var 4 (pv 4)) pas_nil)) (acons_len (acons_len anil_len)))) (pf_pb (pf_comp (blk_of (N:=["k"]) (src:=[none]) (defScope s_Z12) N_Z12 rfl rfl (by decide +kernel)) rfl (pid_range1 rfl J (pas_cons (pd_mul pd_int (pd_intc rfl a7 (pas_cons (pd_not (pd_var 6 (pv 6))) pas_nil) PyProof.Rows.boot_int)) pas_nil)) (fun C fp s0 H0=>(pgd_name (i:=0) (pg_name nd_law_1 rfl (by first|exact Or.inl rfl|exact Or.inr rfl)))) (fun C fp s0 H0=>ptsd_nil) (fun C fp s0 H0=>(pd_cmp op_eq opd_eqS (pd_var 0 (pv 0)) pd_int (nomark _))))) (nomark _)) (pssd_one (psd_ret pd_bl)) pssd_nil)))))))))) (pssd_one (psd_ret pd_bl)))
theorem all_mk {l:W.OpenLaw}{w:World}{K:W.Frag}{h:Heap}{mg:Str->Option Value}{fa b9 b6 bc b5 b8 al b7 am b4 bb bd ba ak:Addr}(X:K.In h)(G:h.Ns mainGlobals mg)(g1:mg "law"=some (.ref fa)){ea dz:Option Addr}{d2:Array (Option Value)}{dm ek ey dc bj f8:Value}{e7 dv:Option Addr}{cz:Array (Option Value)}{dj eh eu d9 bg f5:Value}{ed e2:Option Addr}{d5:Array (Option Value)}{dq en f1 df bm fc:Value}{e6 du:Option Addr}{cy:Array (Option Value)}{di eg et d8 bf f4:Value}{e9 dy:Option Addr}{d1:Array (Option Value)}{dl ej ew db bi f7:Value}{c4 c1:Option Addr}{bt:Array (Option Value)}{bz c6 c8 bv ay cd:Value}{e8 dw:Option Addr}{d0:Array (Option Value)}{dk ei ev da bh f6:Value}{c5 c2:Option Addr}{bu:Array (Option Value)}{c0 c7 c9 bw az ce:Value}{e5 dt:Option Addr}{cx:Array (Option Value)}{dh ef er d7 be f3:Value}{ec e1:Option Addr}{d4:Array (Option Value)}{dp em f0 de bl fb:Value}{ee e4:Option Addr}{d6:Array (Option Value)}{dr eo f2 dg bn fe:Value}{eb e0:Option Addr}{d3:Array (Option Value)}{dn el ez dd bk f9:Value}{c3 au:Option Addr}{bs:Array (Option Value)}{bx av aw as aa ax:Value}
  (e_Z4:W.nsIn K mainGlobals "are_places"=some (some (.ref b9))) (l_Z4:K.lookup b9=some ⟨dm,ea,.func (W.fnOf "are_places" "are_places" (defArgs s_Z4) (defBody s_Z4) (defScope s_Z4) .none ek ey dc dz bj f8),d2⟩) (c_Z4:W.codeIn K bj "are_places"=true) (k_Z4:W.keepIn K (.ref b9)=true)
  (e_Z7:W.nsIn K mainGlobals "turns_of"=some (some (.ref b6))) (l_Z7:K.lookup b6=some ⟨dj,e7,.func (W.fnOf "turns_of" "turns_of" (defArgs s_Z7) (defBody s_Z7) (defScope s_Z7) .none eh eu d9 dv bg f5),cz⟩) (c_Z7:W.codeIn K bg "turns_of"=true) (k_Z7:W.keepIn K (.ref b6)=true)
  (e_Z1:W.nsIn K mainGlobals "how_many_turns"=some (some (.ref bc))) (l_Z1:K.lookup bc=some ⟨dq,ed,.func (W.fnOf "how_many_turns" "how_many_turns" (defArgs s_Z1) (defBody s_Z1) (defScope s_Z1) .none en f1 df e2 bm fc),d5⟩) (c_Z1:W.codeIn K bm "how_many_turns"=true) (k_Z1:W.keepIn K (.ref bc)=true)
  (e_Z8:W.nsIn K mainGlobals "_law_stir"=some (some (.ref b5))) (l_Z8:K.lookup b5=some ⟨di,e6,.func (W.fnOf "_law_stir" "_law_stir" (defArgs s_Z8) (defBody s_Z8) (defScope s_Z8) .none eg et d8 du bf f4),cy⟩) (c_Z8:W.codeIn K bf "_law_stir"=true) (k_Z8:W.keepIn K (.ref b5)=true)
  (e_Z5:W.nsIn K mainGlobals "_law_cells"=some (some (.ref b8))) (l_Z5:K.lookup b8=some ⟨dl,e9,.func (W.fnOf "_law_cells" "_law_cells" (defArgs s_Z5) (defBody s_Z5) (defScope s_Z5) .none ej ew db dy bi f7),d1⟩) (c_Z5:W.codeIn K bi "_law_cells"=true) (k_Z5:W.keepIn K (.ref b8)=true)
  (e_Z11:W.nsIn K mainGlobals "_law_row"=some (some (.ref al))) (l_Z11:K.lookup al=some ⟨bz,c4,.func (W.fnOf "_law_row" "_law_row" (defArgs s_Z11) (defBody s_Z11) (defScope s_Z11) .none c6 c8 bv c1 ay cd),bt⟩) (c_Z11:W.codeIn K ay "_law_row"=true) (k_Z11:W.keepIn K (.ref al)=true)
  (e_Z6:W.nsIn K mainGlobals "_law_flags"=some (some (.ref b7))) (l_Z6:K.lookup b7=some ⟨dk,e8,.func (W.fnOf "_law_flags" "_law_flags" (defArgs s_Z6) (defBody s_Z6) (defScope s_Z6) .none ei ev da dw bh f6),d0⟩) (c_Z6:W.codeIn K bh "_law_flags"=true) (k_Z6:W.keepIn K (.ref b7)=true)
  (e_Z10:W.nsIn K mainGlobals "_law_far"=some (some (.ref am))) (l_Z10:K.lookup am=some ⟨c0,c5,.func (W.fnOf "_law_far" "_law_far" (defArgs s_Z10) (defBody s_Z10) (defScope s_Z10) .none c7 c9 bw c2 az ce),bu⟩) (c_Z10:W.codeIn K az "_law_far"=true) (k_Z10:W.keepIn K (.ref am)=true)
  (e_Z9:W.nsIn K mainGlobals "_law_some"=some (some (.ref b4))) (l_Z9:K.lookup b4=some ⟨dh,e5,.func (W.fnOf "_law_some" "_law_some" (defArgs s_Z9) (defBody s_Z9) (defScope s_Z9) .none ef er d7 dt be f3),cx⟩) (c_Z9:W.codeIn K be "_law_some"=true) (k_Z9:W.keepIn K (.ref b4)=true)
  (e_Z2:W.nsIn K mainGlobals "_law_by_turns"=some (some (.ref bb))) (l_Z2:K.lookup bb=some ⟨dp,ec,.func (W.fnOf "_law_by_turns" "_law_by_turns" (defArgs s_Z2) (defBody s_Z2) (defScope s_Z2) .none em f0 de e1 bl fb),d4⟩) (c_Z2:W.codeIn K bl "_law_by_turns"=true) (k_Z2:W.keepIn K (.ref bb)=true)
  (e_Z0:W.nsIn K mainGlobals "_law_odd_places"=some (some (.ref bd))) (l_Z0:K.lookup bd=some ⟨dr,ee,.func (W.fnOf "_law_odd_places" "_law_odd_places" (defArgs s_Z0) (defBody s_Z0) (defScope s_Z0) .none eo f2 dg e4 bn fe),d6⟩) (c_Z0:W.codeIn K bn "_law_odd_places"=true) (k_Z0:W.keepIn K (.ref bd)=true)
  (e_Z3:W.nsIn K mainGlobals "_law_refused"=some (some (.ref ba))) (l_Z3:K.lookup ba=some ⟨dn,eb,.func (W.fnOf "_law_refused" "_law_refused" (defArgs s_Z3) (defBody s_Z3) (defScope s_Z3) .none el ez dd e0 bk f9),d3⟩) (c_Z3:W.codeIn K bk "_law_refused"=true) (k_Z3:W.keepIn K (.ref ba)=true)
  (e_Z12:W.nsIn K mainGlobals "law"=some (some (.ref ak))) (l_Z12:K.lookup ak=some ⟨bx,c3,.func (W.fnOf "law" "law" (defArgs s_Z12) (defBody s_Z12) (defScope s_Z12) .none av aw as au aa ax),bs⟩) (c_Z12:W.codeIn K aa "law"=true) (k_Z12:W.keepIn K (.ref ak)=true) {Y:Addr} {J:Addr} {j:Addr} {U:Addr} {O:Addr} {z:Addr} {N:Addr} {L:Addr}
  (e_NoForm:W.nsIn K mainGlobals "NoForm"=some (some (.ref Y)))
  (e_NoNumber:W.nsIn K mainGlobals "NoNumber"=some (some (.ref J)))
  (e_NoPlace:W.nsIn K mainGlobals "NoPlace"=some (some (.ref j)))
  (e_NoStep:W.nsIn K mainGlobals "NoStep"=some (some (.ref U)))
  (e_NoText:W.nsIn K mainGlobals "NoText"=some (some (.ref O)))
  (e_NoWeights:W.nsIn K mainGlobals "NoWeights"=some (some (.ref z)))
  (e_NoneYet:W.nsIn K mainGlobals "NoneYet"=some (some (.ref N)))
  (e_WaveError:W.nsIn K mainGlobals "WaveError"=some (some (.ref L)))
  (n_NoPlace:xName K j=some "NoPlace")
  (q_NoPlace:W.excIn K j bmV "ValueError.__new__"=true)
  (w_NoPlace:xclsB K j=true)
  (m_NoPlace_WaveError:W.exmOne K (.ref j) (.ref L)=some true)
  (i_NoPlace_NoForm:W.kitOne K (.ref j) (.ref Y)=some false)
  (i_NoPlace_NoNumber:W.kitOne K (.ref j) (.ref J)=some false)
  (i_NoPlace_NoPlace:W.kitOne K (.ref j) (.ref j)=some true)
  (i_NoPlace_NoStep:W.kitOne K (.ref j) (.ref U)=some false)
  (i_NoPlace_NoText:W.kitOne K (.ref j) (.ref O)=some false)
  (i_NoPlace_NoWeights:W.kitOne K (.ref j) (.ref z)=some false)
  (i_NoPlace_NoneYet:W.kitOne K (.ref j) (.ref N)=some false)
  (j_NoPlace_ValueError:W.kitOne K (.ref j) (.type "ValueError")=some true)
  (y_ValueError:W.nsIn K mainGlobals "ValueError"=some none)
  (y_abs:W.nsIn K mainGlobals "abs"=some none)
  (y_enumerate:W.nsIn K mainGlobals "enumerate"=some none)
  (y_int:W.nsIn K mainGlobals "int"=some none)
  (y_isinstance:W.nsIn K mainGlobals "isinstance"=some none)
  (y_len:W.nsIn K mainGlobals "len"=some none)
  (y_list:W.nsIn K mainGlobals "list"=some none)
  (y_max:W.nsIn K mainGlobals "max"=some none)
  (y_min:W.nsIn K mainGlobals "min"=some none)
  (y_range:W.nsIn K mainGlobals "range"=some none)
  (y_set:W.nsIn K mainGlobals "set"=some none)
  (y_sorted:W.nsIn K mainGlobals "sorted"=some none)
  (y_zip:W.nsIn K mainGlobals "zip"=some none):
  ∃ fd:FuncData,(∀(s:Shared)(v:Value),BindsTo s fd ⟨[v],[]⟩ [("script",v)])/\∀ base:Heap,K.In base->base.Ns mainGlobals mg->FnOk l.prog w K mg base CX0 4 fa fd ["script"] (spR K 1 m_Z12):=by
 have e:=g1.symm.trans (W.mg_of X G e_Z12)
 cases e
 have cp:=fun_mk (st:=s_Z4) l_Z4 c_Z4 k_Z4
 have b_Z4:=cp.binds (ps:=["row","places"]) fun _ _ _ _ _ _ us hl=>by refine us2 (P:=fun vs=>bindArgs _ { pos:=vs }=pure (List.zip _ vs)) ?_ us hl;intros;rfl
 have cg:=W.mg_of X G e_Z4
 have cl:=fun_mk (st:=s_Z7) l_Z7 c_Z7 k_Z7
 have b_Z7:=cl.binds (ps:=["numbers"]) fun _ _ _ _ _ _ us hl=>by refine us1 (P:=fun vs=>bindArgs _ { pos:=vs }=pure (List.zip _ vs)) ?_ us hl;intros;rfl
 have cf:=W.mg_of X G e_Z7
 have br:=fun_mk (st:=s_Z1) l_Z1 c_Z1 k_Z1
 have b_Z1:=br.binds (ps:=["row","places"]) fun _ _ _ _ _ _ us hl=>by refine us2 (P:=fun vs=>bindArgs _ { pos:=vs }=pure (List.zip _ vs)) ?_ us hl;intros;rfl
 have fr:=W.mg_of X G e_Z1
 have ck:=fun_mk (st:=s_Z8) l_Z8 c_Z8 k_Z8
 have b_Z8:=ck.binds (ps:=["cell","k"]) fun _ _ _ _ _ _ us hl=>by refine us2 (P:=fun vs=>bindArgs _ { pos:=vs }=pure (List.zip _ vs)) ?_ us hl;intros;rfl
 have af:=W.mg_of X G e_Z8
 have co:=fun_mk (st:=s_Z5) l_Z5 c_Z5 k_Z5
 have b_Z5:=co.binds (ps:=["script","many"]) fun _ _ _ _ _ _ us hl=>by refine us2 (P:=fun vs=>bindArgs _ { pos:=vs }=pure (List.zip _ vs)) ?_ us hl;intros;rfl
 have fn:=W.mg_of X G e_Z5
 have bp:=fun_mk (st:=s_Z11) l_Z11 c_Z11 k_Z11
 have b_Z11:=bp.binds (ps:=["cell","most"]) fun _ _ _ _ _ _ us hl=>by refine us2 (P:=fun vs=>bindArgs _ { pos:=vs }=pure (List.zip _ vs)) ?_ us hl;intros;rfl
 have ff:=W.mg_of X G e_Z11
 have cm:=fun_mk (st:=s_Z6) l_Z6 c_Z6 k_Z6
 have b_Z6:=cm.binds (ps:=["e"]) fun _ _ _ _ _ _ us hl=>by refine us1 (P:=fun vs=>bindArgs _ { pos:=vs }=pure (List.zip _ vs)) ?_ us hl;intros;rfl
 have fm:=W.mg_of X G e_Z6
 have bq:=fun_mk (st:=s_Z10) l_Z10 c_Z10 k_Z10
 have b_Z10:=bq.binds (ps:=["cell","k"]) fun _ _ _ _ _ _ us hl=>by refine us2 (P:=fun vs=>bindArgs _ { pos:=vs }=pure (List.zip _ vs)) ?_ us hl;intros;rfl
 have fg:=W.mg_of X G e_Z10
 have cj:=fun_mk (st:=s_Z9) l_Z9 c_Z9 k_Z9
 have b_Z9:=cj.binds (ps:=["cell","k","size"]) fun _ _ _ _ _ _ us hl=>by refine us3 (P:=fun vs=>bindArgs _ { pos:=vs }=pure (List.zip _ vs)) ?_ us hl;intros;rfl
 have fl:=W.mg_of X G e_Z9
 have cr:=fun_mk (st:=s_Z2) l_Z2 c_Z2 k_Z2
 have b_Z2:=cr.binds (ps:=["cell","k","row","step"]) fun _ _ _ _ _ _ us hl=>by refine us4 (P:=fun vs=>bindArgs _ { pos:=vs }=pure (List.zip _ vs)) ?_ us hl;intros;rfl
 have fq:=W.mg_of X G e_Z2
 have cs:=fun_mk (st:=s_Z0) l_Z0 c_Z0 k_Z0
 have b_Z0:=cs.binds (ps:=["cell","k","places","size"]) fun _ _ _ _ _ _ us hl=>by refine us4 (P:=fun vs=>bindArgs _ { pos:=vs }=pure (List.zip _ vs)) ?_ us hl;intros;rfl
 have ft:=W.mg_of X G e_Z0
 have cq:=fun_mk (st:=s_Z3) l_Z3 c_Z3 k_Z3
 have b_Z3:=cq.binds (ps:=["row","places"]) fun _ _ _ _ _ _ us hl=>by refine us2 (P:=fun vs=>bindArgs _ { pos:=vs }=pure (List.zip _ vs)) ?_ us hl;intros;rfl
 have fo:=W.mg_of X G e_Z3
 have bo:=fun_mk (st:=s_Z12) l_Z12 c_Z12 k_Z12
 have b_Z12:=bo.binds (ps:=["script"]) fun _ _ _ _ _ _ us hl=>by refine us1 (P:=fun vs=>bindArgs _ { pos:=vs }=pure (List.zip _ vs)) ?_ us hl;intros;rfl
 have g2:=W.mg_of X G e_Z12
 have a5:=W.mg_none_of X G y_ValueError
 have cw:=W.mg_none_of X G y_abs
 have a8:=W.mg_none_of X G y_enumerate
 have cv:=W.mg_none_of X G y_int
 have a4:=W.mg_none_of X G y_isinstance
 have a7:=W.mg_none_of X G y_len
 have ar:=W.mg_none_of X G y_list
 have aj:=W.mg_none_of X G y_max
 have ai:=W.mg_none_of X G y_min
 have a1:=W.mg_none_of X G y_range
 have cu:=W.mg_none_of X G y_set
 have b0:=W.mg_none_of X G y_sorted
 have ct:=W.mg_none_of X G y_zip
 have b3:=W.mg_of X G e_NoForm
 have ag:=W.mg_of X G e_NoNumber
 have Z:=W.mg_of X G e_NoPlace
 have b2:=W.mg_of X G e_NoStep
 have b1:=W.mg_of X G e_NoText
 have ac:=W.mg_of X G e_NoWeights
 have aq:=W.mg_of X G e_NoneYet
 have ab:=W.mg_of X G e_WaveError
 have a0:XC K "NoPlace" j:=⟨e_NoPlace,n_NoPlace⟩
 have a2:∀ c∈(["NoPlace"]:List Str),∀ C,XC K c C->W.exmOne K (.ref C) (.ref L)=some true:=by
  intro c hc C h
  simp only[mem_cons,not_mem_nil,or_false]at hc
  rcases hc with rfl
  .rw[h.eq e_NoPlace];exact m_NoPlace_WaveError
 have ap:∀ c k,([("NoPlace",false)]:List (Str×Bool)).lookup c=some k->∀ C,XC K c C->XCls K C/\W.kitOne K (.ref C) (.ref Y)=some k:=lookup_all (P:=fun c k=>∀ C,XC K c C->XCls K C/\W.kitOne K (.ref C) (.ref Y)=some k) (by
  intro p hp
  simp only[mem_cons,not_mem_nil,or_false]at hp
  rcases hp with rfl
  .intro C h;rw[h.eq e_NoPlace];exact⟨xcls_of w_NoPlace,i_NoPlace_NoForm⟩
  )
 have a9:∀ c k,([("NoPlace",false)]:List (Str×Bool)).lookup c=some k->∀ C,XC K c C->XCls K C/\W.kitOne K (.ref C) (.ref J)=some k:=lookup_all (P:=fun c k=>∀ C,XC K c C->XCls K C/\W.kitOne K (.ref C) (.ref J)=some k) (by
  intro p hp
  simp only[mem_cons,not_mem_nil,or_false]at hp
  rcases hp with rfl
  .intro C h;rw[h.eq e_NoPlace];exact⟨xcls_of w_NoPlace,i_NoPlace_NoNumber⟩
  )
 have ae:∀ c k,([("NoPlace",true)]:List (Str×Bool)).lookup c=some k->∀ C,XC K c C->XCls K C/\W.kitOne K (.ref C) (.ref j)=some k:=lookup_all (P:=fun c k=>∀ C,XC K c C->XCls K C/\W.kitOne K (.ref C) (.ref j)=some k) (by
  intro p hp
  simp only[mem_cons,not_mem_nil,or_false]at hp
  rcases hp with rfl
  .intro C h;rw[h.eq e_NoPlace];exact⟨xcls_of w_NoPlace,i_NoPlace_NoPlace⟩
  )
 have ao:∀ c k,([("NoPlace",false)]:List (Str×Bool)).lookup c=some k->∀ C,XC K c C->XCls K C/\W.kitOne K (.ref C) (.ref U)=some k:=lookup_all (P:=fun c k=>∀ C,XC K c C->XCls K C/\W.kitOne K (.ref C) (.ref U)=some k) (by
  intro p hp
  simp only[mem_cons,not_mem_nil,or_false]at hp
  rcases hp with rfl
  .intro C h;rw[h.eq e_NoPlace];exact⟨xcls_of w_NoPlace,i_NoPlace_NoStep⟩
  )
 have an:∀ c k,([("NoPlace",false)]:List (Str×Bool)).lookup c=some k->∀ C,XC K c C->XCls K C/\W.kitOne K (.ref C) (.ref O)=some k:=lookup_all (P:=fun c k=>∀ C,XC K c C->XCls K C/\W.kitOne K (.ref C) (.ref O)=some k) (by
  intro p hp
  simp only[mem_cons,not_mem_nil,or_false]at hp
  rcases hp with rfl
  .intro C h;rw[h.eq e_NoPlace];exact⟨xcls_of w_NoPlace,i_NoPlace_NoText⟩
  )
 have a6:∀ c k,([("NoPlace",false)]:List (Str×Bool)).lookup c=some k->∀ C,XC K c C->XCls K C/\W.kitOne K (.ref C) (.ref z)=some k:=lookup_all (P:=fun c k=>∀ C,XC K c C->XCls K C/\W.kitOne K (.ref C) (.ref z)=some k) (by
  intro p hp
  simp only[mem_cons,not_mem_nil,or_false]at hp
  rcases hp with rfl
  .intro C h;rw[h.eq e_NoPlace];exact⟨xcls_of w_NoPlace,i_NoPlace_NoWeights⟩
  )
 have ad:∀ c k,([("NoPlace",false)]:List (Str×Bool)).lookup c=some k->∀ C,XC K c C->XCls K C/\W.kitOne K (.ref C) (.ref N)=some k:=lookup_all (P:=fun c k=>∀ C,XC K c C->XCls K C/\W.kitOne K (.ref C) (.ref N)=some k) (by
  intro p hp
  simp only[mem_cons,not_mem_nil,or_false]at hp
  rcases hp with rfl
  .intro C h;rw[h.eq e_NoPlace];exact⟨xcls_of w_NoPlace,i_NoPlace_NoneYet⟩
  )
 have a3:∀ c k,([("NoPlace",true)]:List (Str×Bool)).lookup c=some k->∀ C,XC K c C->XCls K C/\W.kitOne K (.ref C) (.type "ValueError")=some k:=lookup_all (P:=fun c k=>∀ C,XC K c C->XCls K C/\W.kitOne K (.ref C) (.type "ValueError")=some k) (by
  intro p hp
  simp only[mem_cons,not_mem_nil,or_false]at hp
  rcases hp with rfl
  .intro C h;rw[h.eq e_NoPlace];exact⟨xcls_of w_NoPlace,j_NoPlace_ValueError⟩
  )
 refine⟨W.fnOf "law" "law" (defArgs s_Z12) (defBody s_Z12) (defScope s_Z12) .none av aw as au aa ax,fun s v=>.of_eq rfl,fun base _ _=>?_⟩
 have ci:=ok_Z4 (P:=l.prog) (w:=w) (mg:=mg) (base:=base) cp         a7
 have ch:=ok_Z7 (P:=l.prog) (w:=w) (mg:=mg) (base:=base) cl         aj ai ct
 have fz:=ok_Z1 (P:=l.prog) (w:=w) (mg:=mg) (base:=base) br  ci b_Z4 k_Z4 cg ch b_Z7 k_Z7 cf    Z a0 q_NoPlace
 have fk:=okx_Z1 (P:=l.prog) (w:=w) (mg:=mg) (base:=base) br  ci b_Z4 k_Z4 cg ch b_Z7 k_Z7 cf    Z a0 q_NoPlace
 have ah:=ok_Z8 (P:=l.prog) (w:=w) (mg:=mg) (base:=base) ck
 have fw:=ok_Z5 (P:=l.prog) (w:=w) (mg:=mg) (base:=base) co         a7 aj ai
 have fi:=ok_Z11 (P:=l.prog) (w:=w) (mg:=mg) (base:=base) bp  ah b_Z8 k_Z8 af       ai a1
 have fv:=ok_Z6 (P:=l.prog) (w:=w) (mg:=mg) (base:=base) cm      b3 ag Z b2 b1 ac aq ap a9 ae ao an a6 ad a3   a5 a4
 have fj:=ok_Z10 (P:=l.prog) (w:=w) (mg:=mg) (base:=base) bq  ah b_Z8 k_Z8 af
 have fu:=ok_Z9 (P:=l.prog) (w:=w) (mg:=mg) (base:=base) cj  ah b_Z8 k_Z8 af       a1
 have fy:=ok_Z2 (P:=l.prog) (w:=w) (mg:=mg) (base:=base) cr  ah b_Z8 k_Z8 af       cw a8
 have g0:=ok_Z0 (P:=l.prog) (w:=w) (mg:=mg) (base:=base) cs  fj b_Z10 k_Z10 fg ah b_Z8 k_Z8 af       a7 ar aj
 have fx:=ok_Z3 (P:=l.prog) (w:=w) (mg:=mg) (base:=base) cq  fv b_Z6 k_Z6 fm fz b_Z1 k_Z1 fr   fk ab a2   ar
 have fh:=ok_Z12 (P:=l.prog) (w:=w) (mg:=mg) (base:=base) bo  fy b_Z2 k_Z2 fq fw b_Z5 k_Z5 fn g0 b_Z0 k_Z0 ft fx b_Z3 k_Z3 fo fi b_Z11 k_Z11 ff fu b_Z9 k_Z9 fl       cv a7 a1 cu b0
 exact fh
theorem walk {l:W.OpenLaw}{q:Program}{j:List Str}{Z:(Str->Option Value)->Heap->Prop}{N:World->Heap->Prop}{d:DefRec}{K:Params->W.Frag}(hn:l.most=some 63)(J:d.params.defaults=[])
  (G:∀ ns:List Int,ns.length<=63->m_Z12 [.lst (ns.map .int)]=some (.sh (.bl true)))
  (U:∀(w:World)(h:Heap),N w h->(K w.params).In h)
  (F:∀(w:World)(mg:Str->Option Value)(L:Addr)(h:Heap),(K w.params).In h->h.Ns mainGlobals mg->mg d.name=some (.ref L)->
   ∃ fd:FuncData,(∀(s:Shared)(u:Value),BindsTo s fd ⟨[u],[]⟩ [("script",u)])/\∀ base:Heap,(K w.params).In base->base.Ns mainGlobals mg->FnOk l.prog w (K w.params) mg base CX0 4 L fd ["script"] (spR (K w.params) 1 m_Z12)):
  W.WalkO q j Z N l.row.toRowW d [] (fun f vs=>PySem.call f vs):=
 L2.walk_of (n:=63) (k:=4) (x:="script") (CX:=fun _=>CX0) (sp:=fun w=>spR (K w.params) 1 m_Z12) hn (by decide) J ⟨rfl,by decide,by decide⟩ U F (fun w H a ns O _ Y=>sp_Z12 G H a ns O Y _) fun _ _ _ _ _ z=>z
end
end Lw
open PySem PySem.W PyProof.Rows
set_option maxRecDepth 100000 in
set_option maxHeartbeats 0 in
theorem PySem.Challenge.cw_wavyrow_k05_no_places_holds : PySem.Challenge.rw_wavyrow_k05_no_places.Holds := by
 w_on;o_law;k_head;(case hw=>w_witness2)
 k_fill
 refine Lw.walk (l:=PySem.Challenge.rw_wavyrow_k05_no_places) rfl rfl Lw.law_true (fun w h Y=>PySem.W.kIn_of Y) ?F
 case F=>
  intro w mg fa h KX G hmg
  refine' Lw.all_mk KX G hmg  ?e_Z4 ?l_Z4 ?c_Z4 ?k_Z4 ?e_Z7 ?l_Z7 ?c_Z7 ?k_Z7 ?e_Z1 ?l_Z1 ?c_Z1 ?k_Z1 ?e_Z8 ?l_Z8 ?c_Z8 ?k_Z8 ?e_Z5 ?l_Z5 ?c_Z5 ?k_Z5 ?e_Z11 ?l_Z11 ?c_Z11 ?k_Z11 ?e_Z6 ?l_Z6 ?c_Z6 ?k_Z6 ?e_Z10 ?l_Z10 ?c_Z10 ?k_Z10 ?e_Z9 ?l_Z9 ?c_Z9 ?k_Z9 ?e_Z2 ?l_Z2 ?c_Z2 ?k_Z2 ?e_Z0 ?l_Z0 ?c_Z0 ?k_Z0 ?e_Z3 ?l_Z3 ?c_Z3 ?k_Z3 ?e_Z12 ?l_Z12 ?c_Z12 ?k_Z12   ?e_NoForm ?e_NoNumber ?e_NoPlace ?e_NoStep ?e_NoText ?e_NoWeights ?e_NoneYet ?e_WaveError ?n_NoPlace ?q_NoPlace ?w_NoPlace ?m_NoPlace_WaveError ?i_NoPlace_NoForm ?i_NoPlace_NoNumber ?i_NoPlace_NoPlace ?i_NoPlace_NoStep ?i_NoPlace_NoText ?i_NoPlace_NoWeights ?i_NoPlace_NoneYet ?j_NoPlace_ValueError ?y_ValueError ?y_abs ?y_enumerate ?y_int ?y_isinstance ?y_len ?y_list ?y_max ?y_min ?y_range ?y_set ?y_sorted ?y_zip
  (case e_Z4=>k_is);(case l_Z4=>k_is);(case c_Z4=>k_is);(case k_Z4=>k_is)
  (case e_Z7=>k_is);(case l_Z7=>k_is);(case c_Z7=>k_is);(case k_Z7=>k_is)
  (case e_Z1=>k_is);(case l_Z1=>k_is);(case c_Z1=>k_is);(case k_Z1=>k_is)
  (case e_Z8=>k_is);(case l_Z8=>k_is);(case c_Z8=>k_is);(case k_Z8=>k_is)
  (case e_Z5=>k_is);(case l_Z5=>k_is);(case c_Z5=>k_is);(case k_Z5=>k_is)
  (case e_Z11=>k_is);(case l_Z11=>k_is);(case c_Z11=>k_is);(case k_Z11=>k_is)
  (case e_Z6=>k_is);(case l_Z6=>k_is);(case c_Z6=>k_is);(case k_Z6=>k_is)
  (case e_Z10=>k_is);(case l_Z10=>k_is);(case c_Z10=>k_is);(case k_Z10=>k_is)
  (case e_Z9=>k_is);(case l_Z9=>k_is);(case c_Z9=>k_is);(case k_Z9=>k_is)
  (case e_Z2=>k_is);(case l_Z2=>k_is);(case c_Z2=>k_is);(case k_Z2=>k_is)
  (case e_Z0=>k_is);(case l_Z0=>k_is);(case c_Z0=>k_is);(case k_Z0=>k_is)
  (case e_Z3=>k_is);(case l_Z3=>k_is);(case c_Z3=>k_is);(case k_Z3=>k_is)
  (case e_Z12=>k_is);(case l_Z12=>k_is);(case c_Z12=>k_is);(case k_Z12=>k_is)
  (case e_NoForm=>first|k_is|rfl|k_exc| (unfold L2.bmV;k_exc))
  (case e_NoNumber=>first|k_is|rfl|k_exc| (unfold L2.bmV;k_exc))
  (case e_NoPlace=>first|k_is|rfl|k_exc| (unfold L2.bmV;k_exc))
  (case e_NoStep=>first|k_is|rfl|k_exc| (unfold L2.bmV;k_exc))
  (case e_NoText=>first|k_is|rfl|k_exc| (unfold L2.bmV;k_exc))
  (case e_NoWeights=>first|k_is|rfl|k_exc| (unfold L2.bmV;k_exc))
  (case e_NoneYet=>first|k_is|rfl|k_exc| (unfold L2.bmV;k_exc))
  (case e_WaveError=>first|k_is|rfl|k_exc| (unfold L2.bmV;k_exc))
  (case n_NoPlace=>first|k_is|rfl|k_exc| (unfold L2.bmV;k_exc))
  (case q_NoPlace=>first|k_is|rfl|k_exc| (unfold L2.bmV;k_exc))
  (case w_NoPlace=>first|k_is|rfl|k_exc| (unfold L2.bmV;k_exc))
  (case m_NoPlace_WaveError=>first|k_is|rfl|k_exc| (unfold L2.bmV;k_exc))
  (case i_NoPlace_NoForm=>first|k_is|rfl|k_exc| (unfold L2.bmV;k_exc))
  (case i_NoPlace_NoNumber=>first|k_is|rfl|k_exc| (unfold L2.bmV;k_exc))
  (case i_NoPlace_NoPlace=>first|k_is|rfl|k_exc| (unfold L2.bmV;k_exc))
  (case i_NoPlace_NoStep=>first|k_is|rfl|k_exc| (unfold L2.bmV;k_exc))
  (case i_NoPlace_NoText=>first|k_is|rfl|k_exc| (unfold L2.bmV;k_exc))
  (case i_NoPlace_NoWeights=>first|k_is|rfl|k_exc| (unfold L2.bmV;k_exc))
  (case i_NoPlace_NoneYet=>first|k_is|rfl|k_exc| (unfold L2.bmV;k_exc))
  (case j_NoPlace_ValueError=>first|k_is|rfl|k_exc| (unfold L2.bmV;k_exc))
  (case y_ValueError=>k_is)
  (case y_abs=>k_is)
  (case y_enumerate=>k_is)
  (case y_int=>k_is)
  (case y_isinstance=>k_is)
  (case y_len=>k_is)
  (case y_list=>k_is)
  (case y_max=>k_is)
  (case y_min=>k_is)
  (case y_range=>k_is)
  (case y_set=>k_is)
  (case y_sorted=>k_is)
  (case y_zip=>k_is)
