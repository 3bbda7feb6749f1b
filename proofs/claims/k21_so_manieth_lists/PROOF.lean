import PyProof.Rows.All
import Wide.All
import OpenK.AllK
import Wide.FinOn
import Lean
import PyProof.EqAt
import PyProof.EqKinds
import PyProof.TupleCall
import PyProof.NeKinds
import KE.IntBitsLaws
import PyProof.FitsBits
import PySem.Challenge.RW_wavyrow_k21_so_manieth_lists
namespace PySem.W.Fast
theorem te2956895545508760283 : True := True.intro
noncomputable def tw9513417073588078931 := PySem.Challenge.pw_wavyrow_k21_so_manieth_lists
theorem te9513417073588078931 : PySem.Challenge.pw_wavyrow_k21_so_manieth_lists = tw9513417073588078931 := rfl
def tw9040497530251683523 := 0
def tw3000855884402506219 := 0
def tw17069377126257876400 := 0
def tw5157457513661971409 := 0
def tw14507728314451409330 := 0
def tw1062754258531981874 := 0
def tw12908689496575409910 := 0
def tw361722811775261337 := 0
def tw16228985816920074460 := 0
def tw4457300101716456120:=0
def tw14830687651761914278:=0
def tw18300495164327675239:=0
def tw501678435288886376:=0
def tw16423270492950169387:=0
def tw14127425417499347441:=0
def tw12634327984596794383:=0
def tw14125953397804657638:=0
def tw6633530449830926220:=0
def tw8463791688395717789:=0
def tw15941957088170380908:=0
def tw11112610496991584070:=0
def tw14233149850450625836:=0
def tw11467300375577712245:=0
def tw6574834481819105535:=0
def tw7447304676156097944:=0
def tw913039006550806483:=0
def tw429516883557117799:=0
def tw18006192697897326964:=0
def tw10209703713190959728:=0
def tw14395829893427155459:=0
def tw5613875291664216644:=0
def tw16671093285147048778:=0
def tw4023267134064488776:=0
def tw667006984488989661:=0
def tw1622755669170359953:=0
def tw18230329747988767832:=0
def tw16632830204114487865:=0
def tw4193099422649034686:=0
def tw3744598244268629460:=0
def tw9819878738874631654:=0
def tw14525351643992670468:=0
def tw6566605639378333028:=0
def tw9226154687648732219:=0
def tw13891609826385733423:=0
def tw5763941020479294040:=0
def tw14960518268283582228:=0
def tw17999563084625869759:=0
def tw12784841677495593726:=0
def tw531341753207910086:=0
def tw11844623128316683804:=0
def tw4171348736501608021:=0
def tw13899984465045322990:=0
def tw16707909212682511389:=0
def tw17358082173422315989:=0
def tw18391320844449031767:=0
def tw4119751313905101016:=0
def tw10420564061548623590:=0
def tw6014450414405420119:=0
def tw1057632925074909408:=0
def tw16825751684170303042:=0
def tw15546631089284048413:=0
def tw15902384898991824239:=0
def tw17068246803705680696:=0
def tw18360417991502662162:=0
def tw12260320476121928978:=0
end PySem.W.Fast
set_option Elab.async false
set_option linter.all false
set_option maxRecDepth 100000
noncomputable section
section
open List PySem PySem.Spec PyProof.Rows
theorem aA{P:Prop}(h:P:=by lia):P:=h
theorem aB{P:Prop}(h:P:=by omega):P:=h
theorem aC{P:Prop}(h:P:=by decide):P:=h
theorem aD{P:Prop}(h:P:=by simp):P:=h
theorem aE{P:Prop}(h:P:=by decide +kernel):P:=h
def aF:=@wpAny_bind
def aG:=@Heap.get?_push_of_some
def aH:=@wpAny_pure
def aI:=@if_neg
def aJ:=@if_pos
def aK:=@getElem?_eq_getElem
def aL:=@getD_eq_getElem?_getD
def aM:=@Array.getElem?_eq_getElem
def aN:=@Nat.le_refl
def aO:=@wpS_bind
def aP:=@Option.bind_some
def aQ:=@decide_eq_false
def aR:=@getElem?_set_self
def aS:=@Heap.lt_size
def aT:=@wpS_pure
def aU:=@getElem?_set_ne
def aV:=@decide_eq_true
def aW:=@length_map
def aX:=@Heap.get?_push_size
def aY:=@Nat.zero_le
def aZ:=@absurd
def ba:=@List.mem_cons
def bd:=@Nat.lt_of_lt_of_le
def bf:=@Bool.false_ne_true
def bg:=@getElem?_eq_none
def bi:=@congrArg
def bm:=@List.mem_singleton
def bn:=@Option.some.inj
def bp:=@List.getElem?_eq_some_iff
def bq:=@Nat.lt_or_ge
def br:=@map_congr_left
def bt:=@mem_cons_of_mem
def bu:=@KeyOrd.kle_trans
def bv:=@Nat.ne_of_lt
def bw:=@PassesOwn.never
def bz:=@map_cons
def bA:=@List.mem_append
def bB:=@Int.toNat_natCast
def bC:=@List.nodup_cons
def bD:=@mem_append_right
def bE:=@Nat.le_trans
def bF:=@getElem?_map
def bG:=@List.mem_map
def bH:=@length_cons
def bI:=@map_map
def bJ:=@List.pairwise_cons
def bK:=@Heap.get?_update_self
def bL:=@length_append
def bM:=@wpAny_call_entry
def bN:=@Nat.lt_succ_of_lt
def bO:=@KeyOrd.kle_of_klt
def bP:=@Nat.lt_irrefl
def bQ:=@PyProof.Rows.callWith_type1
def bR:=@Array.toList_append
def bS:=@List.mem_range
def bT:=@getElem?_append_left
def bU:=@Around.under_plainId
def bV:=@mem_cons_self
def bW:=@Heap.SameBut.update
def bX:=@Array.length_toList
def bY:=@wpAny_newObj_type
def bZ:=@W.mg_none_of
def ce:=@wpAny_callSpecial?_slot
def cf:=@Obj.data_mapFields
def cg:=@size_toArray
def ci:=@Nat.lt_succ_self
def cj:=@Nat.le_add_right
def ck:=@Heap.get?_update_other
def cm:=@map_append
def cq:=@range_succ_eq_map
def cr:=@getElem?_append_right
def cu:=@Array.getElem?_toList
def cv:=@wpAny_seqItems
def cw:=@Heap.size_push
def cy:=@Array.getElem_mem_toList
def cz:=@codeAny_builtin
def cA:=@List.pairwise_append
def cB:=@wpAny_rule
def cE:=@replicate_succ
def cF:=@Nat.zero_add
def cG:=@Nat.add_zero
def cH:=@List.append_assoc
def cI:=@Array.toList_push
def cJ:=@beq_self_eq_true
def cK:=@PySem.F.called_set
def cL:=@Nat.lt_of_le_of_ne
def cM:=@Nat.ne_of_gt
def cO:=@length_take
def cP:=@List.nodup_append
def cQ:=@List.length_eq_zero_iff
def cR:=@PySem.mem_of_lookup
def cS:=@wpAny_holding
def cT:=@wpAny_attempt
def cU:=@mem_singleton
def cV:=@wpS_modify
def cW:=@wpAny_setField_rec
def cX:=@Nat.add_sub_cancel
def cY:=@KeyOrd.kle_refl
def cZ:=@wpAny_field
def da:=@Nat.lt_trans
def db:=@getElem?_range
def de:=@decide_eq_decide
def dg:=@W.kia_one
def dh:=@wpAny_of_eq
def di:=@wpAny_nextOf_list_item
def dj:=@pairwise_singleton
def dk:=@Nat.le_of_lt
def dm:=@wpAny_updateSeq
def dn:=@wpAny_passesOwn
def dq:=@plainId_quiet
def dr:=@PyProof.Rows.boot_int
def du:=@Obj.isFreed_of_fields
def dv:=@Classical.choose_spec
def dw:=@wpAny_setState_of
def dy:=@take_of_length_le
def dz:=@wpAny_setField
def dA:=@wpAny_mono
def dB:=@sum_cons
def dC:=@nil_append
def dD:=@getElem_of_mem
def dE:=@drop_eq_getElem_cons
def dF:=@Array.perm_iff_toList_perm
def dG:=@flatten_cons
def dH:=@ext_getElem?
def dI:=@append_assoc
def dJ:=@PySem.F.plain_extend_loop
def dL:=@List.pairwise_iff_getElem
def dM:=@wpAny_setEntries_of
def dO:=@beq_eq_false_iff_ne
def dP:=@Nat.add_assoc
def dQ:=@Bool.true_and
def dR:=@mem_of_getElem?
def dS:=@mem_append_left
def dU:=@Ne.symm
def dW:=@List.mem_filter
def dX:=@getElem?_replicate
def dY:=@wpS_get
def dZ:=@wpAny_pyIter_list
def ef:=@getElem?_set
def eh:=@drop_of_length_le
def eu:=@drop_eq_nil_of_le
def ey:=@List.Perm.append_left
def ez:=@wpAny_isInstance
def eE:=@wpAny_onRaise
def eF:=@pairwise_append
def eH:=@Bool.eq_iff_iff
end
namespace L2
open List
open PySem PySem.Spec PyProof.Rows
noncomputable abbrev Key:=Sum Int Str
def wp4:Key->Value->Bool
 | .inl k,v=>Value.isInt k v
 | .inr x,v=>Value.isStrOf x v
def keyH(w:World):Key->Int
 | .inl k=>hashInt k
 | .inr x=>hashStr w x
theorem g8:∀{k:Key}{v:Value},wp4 k v=true->(∃i t,k=Sum.inl i/\v=Value.int i t)\/(∃x t,k=Sum.inr x/\v=Value.str x t)
 | .inl i,v,h=>by obtain⟨t,e⟩:=Value.isInt_shape (k:=i) (v:=v) h;exact .inl ⟨i,t,rfl,e⟩
 | .inr x,v,h=>by obtain⟨t,e⟩:=Value.isStrOf_shape (x:=x) (v:=v) h;exact .inr ⟨x,t,rfl,e⟩
theorem wp3(a b:Int):decide ((Sum.inl a:Key)=Sum.inl b)=(a==b):=by
 by_cases e:a=b
 .subst e;simp
 .have h:¬ (Sum.inl a:Key)=Sum.inl b:=λq=>e (Sum.inl.inj q);rw[aQ h];exact(dO.mpr e).symm
theorem wp0(a b:Str):decide ((Sum.inr a:Key)=Sum.inr b)=decide (a=b):=by
 by_cases e:a=b
 .subst e;simp
 .have h:¬ (Sum.inr a:Key)=Sum.inr b:=λq=>e (Sum.inr.inj q);rw[aQ h,aQ e]
theorem wp2(a:Int)(b:Str):decide ((Sum.inl a:Key)=Sum.inr b)=false:=aQ (λq=>nomatch q)
theorem wp1(a:Str)(b:Int):decide ((Sum.inr a:Key)=Sum.inl b)=false:=aQ (λq=>nomatch q)
def zb7(prog:Program)(w:World):PySem.KeyKind prog w Key where
 is:=wp4
 hash:=keyH w
 inj:=λv a b ha hb=>by
  rcases g8 ha with⟨i,t,rfl,rfl⟩|⟨x,t,rfl,rfl⟩
  .rcases g8 hb with⟨j,u,rfl,e⟩|⟨y,u,rfl,e⟩
   .injection e with e1 _;rw[e1]
   .exact nomatch e
  .rcases g8 hb with⟨j,u,rfl,e⟩|⟨y,u,rfl,e⟩
   .exact nomatch e
   .injection e with e1 _;rw[e1]
 byValue:=λk v h=>by rcases g8 h with⟨i,t,rfl,rfl⟩|⟨x,t,rfl,rfl⟩ <;> rfl
 pyHash:=λhv h=>by
  rcases g8 hv with⟨i,t,rfl,rfl⟩|⟨x,t,rfl,rfl⟩
  .exact wpAny_pyHash_int h
  .exact wpAny_pyHash_str h
 eqBool:=λhu hv h=>by
  rcases g8 hu with⟨i,t,rfl,rfl⟩|⟨x,t,rfl,rfl⟩
  .rcases g8 hv with⟨j,u,rfl,rfl⟩|⟨y,u,rfl,rfl⟩
   .rw[wp3]at h;exact wpAny_eqBool_int h
   .rw[wp2]at h;exact SeqAt.EqAt.int_str i t y u _ _ _ _ h
  .rcases g8 hv with⟨j,u,rfl,rfl⟩|⟨y,u,rfl,rfl⟩
   .rw[wp1]at h;exact SeqAt.EqAt.str_int x t j u _ _ _ _ h
   .rw[wp0]at h;exact wpAny_eqBool_str h
 «strs»:=λk x t v h=>by
  rcases g8 h with⟨i,u,rfl,e⟩|⟨y,u,rfl,e⟩
  .exact nomatch e
  .injection e with e1 _
   subst e1;cases v <;> rfl
inductive V where
 |non|bl (b:Bool)|int (i:Int)|str (x:Str)|byt (b:Array UInt8)|flt (b:UInt64)|ref (a:Addr)|ty (n:String)
 deriving DecidableEq
noncomputable def RelV:V->Value->Prop
 | .non,u=>u=Value.none
 | .bl b,u=>u=Value.bool b
 | .int i,u=>∃t,u=Value.int i t
 | .str x,u=>∃t,u=Value.str x t
 | .byt b,u=>∃t,u=Value.bytes b t
 | .flt b,u=>∃t,u=Value.float b t
 | .ref a,u=>u=Value.ref a
 | .ty n,u=>u=Value.type n
abbrev Vals:List V->List Value->Prop:=Paired RelV
theorem Vals.length(r:Vals xs us):xs.length=us.length:=Paired.length r
theorem Vals.get:∀{xs:List V}{us:List Value}{i:Nat}{x:V},Vals xs us->xs[i]? =some x->∃u,us[i]? =some u/\RelV x u
 |_,_,_,_,.nil,e=>by simp at e
 |_,_,0,_,.cons r _,e=>by simp at e;subst e;exact⟨_,rfl,r⟩
 |_,_,i+1,x,.cons _ t,e=>by obtain⟨u,h1,h2⟩:=Vals.get (i:=i) (x:=x) t (by simpa using e);exact⟨u,by simpa using h1,h2⟩
theorem Vals.set{x:V}{u:Value}(r:RelV x u):∀{xs:List V}{us:List Value}(i:Nat),Vals xs us->Vals (xs.set i x) (us.set i u)
 |_,_,_,.nil=>.nil
 |_,_,0,.cons _ t=>.cons r t
 |_,_,i+1,.cons q t=>.cons q (Vals.set r i t)
theorem Vals.append:∀{xs ys:List V}{us ws:List Value},Vals xs us->Vals ys ws->Vals (xs++ys) (us++ws)
 |_,_,_,_,.nil,s=>s
 |_,_,_,_,.cons r t,s=>.cons r (Vals.append t s)
theorem Vals.take:∀{xs:List V}{us:List Value}(n:Nat),Vals xs us->Vals (xs.take n) (us.take n)
 |_,_,0,_=>.nil
 |_,_,_+1,.nil=>.nil
 |_,_,n+1,.cons r t=>.cons r (Vals.take n t)
theorem Vals.drop:∀{xs:List V}{us:List Value}(n:Nat),Vals xs us->Vals (xs.drop n) (us.drop n)
 |_,_,0,r=>r
 |_,_,_+1,.nil=>.nil
 |_,_,n+1,.cons _ t=>Vals.drop n t
def RelO:Option V->Option Value->Prop
 |some v,some u=>RelV v u
 |none,none=>True
 |_,_=>False
def KV{a:Type}:List (a×V)->List (a×Value)->Prop:=Paired λ(p:a×V)(q:a×Value)=>p.1=q.1/\RelV p.2 q.2
def kV:Key->V
 | .inl i=>.int i
 | .inr x=>.str x
inductive HO where
 |lst (xs:List V)
 |tup (xs:List V)
 |dK (kvs:List (Key×V))|dT (kvs:List (List Key×V))
 |set (S:Int->Bool) (n:Nat)
 |ins (C dx:Addr) (fs:List (Str×V))
 |own (x:Addr)
 |xd (fs:List (Str×V))
 |met (f x:Addr)
 |rng (lo hi:Int)
 |frz (o:Obj) (u:HO)
 |tbl (ps:Array Value)
 |ext (φ:Heap->Prop)
noncomputable abbrev Hp:=Addr->Option HO
noncomputable def upd(H:Hp)(a:Addr)(o:HO):Hp:=λb=>if b=a then some o else H b
theorem x8:upd H a o a=some o:=by unfold upd;rw[aJ rfl]
theorem x9(h:b≠a):upd H a o b=H b:=by unfold upd;rw[aI h]
theorem h7{H:Hp}{a b:Addr}{o:HO}(h:H a=some o)(h':H b=none):a≠b:=by intro e;subst e;rw[h]at h';cases h'
section
variable (P:Program)(w:World)
def ObjOk(H:Hp)(h:Heap)(a:Addr):HO->Prop
 | .lst xs=>xs.length<=sizeLine/\∃(its:List Value)(n:Nat),Vals xs its/\h.get? a=some { cls:=.type "list",data:=.seq its.toArray n }
 | .tup xs=>xs.length<=sizeLine/\∃its:List Value,Vals xs its/\IsTup h a its.toArray
 | .dK kvs=>kvs.length<=sizeLine/\(a==sysModules)=false/\∃vs,KV kvs vs/\h.DictOf (zb7 P w) a vs
 | .dT kvs=>kvs.length<=sizeLine/\(a==sysModules)=false/\∃xs:List (List Key×Addr×Value),
   Paired (λ(p:List Key×V)(q:List Key×Addr×Value)=>p.1=q.1/\H q.2.1=some (.tup (p.1.map kV))/\RelV p.2 q.2.2) kvs xs/\
   ∃o es ep,h.get? a=some o/\o.ExactDict/\o.data= .dict es ep/\es.toList=xs.map (entryOfKey (tupleKind (zb7 P w)))/\(xs.map (·.1)).Nodup
 | .set S n=>h.SetOf (intKind P w) a S n
 | .ins C dx fs=>H dx=some (.own a)/\fs.length<=1000/\dx≠a/\h.get? a=some (W.instObj C dx)/\
   ∃mA,h.Ns1 dx mA/\(∀f,RelO (fs.lookup f) (mA f))/\PySem.Within mA (fs.map (·.1))
 | .own _=>∃o,h.get? a=some o
 | .xd fs=>∃mA,h.Ns1 a mA/\∀f,RelO (fs.lookup f) (mA f)
 | .rng lo hi=>∃t u v,h.get? a=some { cls:=.type "range",data:=.fields #[.int lo t,.int hi u,.int 1 v] }
 | .frz o u=>h.get? a=some o/\ObjOk H h a u
 | .tbl ps=>h.get? a=some { cls:=.none,data:=.fields ps }
 | .met f x=>h.get? a=some (W.methodObj (.ref f) (.ref x))
 | .ext φ=>φ h/\(∃o,h.get? a=some o)/\∀h1 h2:Heap,φ h1->(∀o,h1.get? a=some o->h2.get? a=some o)->φ h2
def HOk(H:Hp)(h:Heap):Prop:=∀a o,H a=some o->ObjOk P w H h a o
end
section
variable {P:Program}{w:World}{H H':Hp}{h h':Heap}{a:Addr}{o:HO}
theorem ObjOk.lt(x:ObjOk P w H h a o):a<h.objs.size:=by
 cases o with
 |lst xs=>obtain⟨_,_,_,_,e⟩:=x;exact aS e
 |tup xs=>obtain⟨_,_,_,p⟩:=x;exact p.lt
 |dK kvs=>obtain⟨_,_,_,_,o,_,_,e,_⟩:=x;exact aS e
 |dT kvs=>obtain⟨_,_,_,_,o,_,_,e,_⟩:=x;exact aS e
 |set S n=>obtain⟨o,_,_,_,e,_⟩:=x;exact aS e
 |ins C dx fs=>obtain⟨_,_,_,e,_⟩:=x;exact aS e
 |own y=>obtain⟨_,e⟩:=x;exact aS e
 |xd fs=>obtain⟨_,⟨_,_,_,e,_⟩,_⟩:=x;exact aS e
 |rng lo hi=>obtain⟨_,_,_,e⟩:=x;exact aS e
 |frz ob u=>obtain⟨e,_⟩:=x;exact aS e
 |tbl ps=>exact aS (show h.get? a=some _ from x)
 |met f y=>exact aS (show h.get? a=some _ from x)
 |ext φ=>obtain⟨_,⟨_,e⟩,_⟩:=x;exact aS e
theorem Paired.mapP{N c:Type}{F G:N->c->Prop}:∀{z:List N}{j:List c},Paired F z j->(∀a b,F a b->G a b)->Paired G z j
 |_,_,.nil,_=>.nil
 |_,_,.cons r t,f=>.cons (f _ _ r) (Paired.mapP t f)
theorem ObjOk.stay(x:ObjOk P w H h a o)(k:∀b u,(b=a\/H b=some (.own a))->h.get? b=some u->h'.get? b=some u)
  (G:∀b,H b=some (.own a)->H' b=some (.own a)) (ht:∀b xs,H b=some (.tup xs)->H' b=some (.tup xs)):ObjOk P w H' h' a o:=by
 induction o with
 |lst xs=>obtain⟨z,its,n,r,e⟩:=x;exact⟨z,its,n,r,k _ _ (.inl rfl) e⟩
 |tup xs=>obtain⟨z,its,r,ob,e,c⟩:=x;exact⟨z,its,r,ob,k _ _ (.inl rfl) e,c⟩
 |dK kvs=>obtain⟨z,y,vs,r,ob,es,ep,e,c⟩:=x;exact⟨z,y,vs,r,ob,es,ep,k _ _ (.inl rfl) e,c⟩
 |dT kvs=>obtain⟨z,y,xs,r,ob,es,ep,e,c⟩:=x;exact⟨z,y,xs,Paired.mapP r λp q z=>⟨z.1,ht _ _ z.2.1,z.2.2⟩,ob,es,ep,k _ _ (.inl rfl) e,c⟩
 |set S n=>obtain⟨ob,es,ep,t,e,c⟩:=x;exact⟨ob,es,ep,t,k _ _ (.inl rfl) e,c⟩
 |ins C dx fs=>obtain⟨d,z,ne,e,mA,⟨od,es,ep,e2,c⟩,r⟩:=x;exact⟨G _ d,z,ne,k _ _ (.inl rfl) e,mA,⟨od,es,ep,k _ _ (.inr d) e2,c⟩,r⟩
 |own y=>obtain⟨ob,e⟩:=x;exact⟨ob,k _ _ (.inl rfl) e⟩
 |xd fs=>obtain⟨mA,⟨od,es,ep,e,c⟩,r⟩:=x;exact⟨mA,⟨od,es,ep,k _ _ (.inl rfl) e,c⟩,r⟩
 |rng lo hi=>obtain⟨t,u,v,e⟩:=x;exact⟨t,u,v,k _ _ (.inl rfl) e⟩
 |frz ob u j=>obtain⟨e,q⟩:=x;exact⟨k _ _ (.inl rfl) e,j q⟩
 |tbl ps=>have e:h.get? a=some { cls:=.none,data:=.fields ps }:=x;show h'.get? a=some { cls:=.none,data:=.fields ps };exact k a _ (.inl rfl) e
 |met f y=>have e:h.get? a=some (W.methodObj (.ref f) (.ref y)):=x;show h'.get? a=some (W.methodObj (.ref f) (.ref y));exact k a _ (.inl rfl) e
 |ext φ=>obtain⟨p,⟨o,e⟩,st⟩:=x;exact⟨st _ _ p λo q=>k _ _ (.inl rfl) q,⟨o,k _ _ (.inl rfl) e⟩,st⟩
theorem HOk.lt(x:HOk P w H h)(e:H a=some o):a<h.objs.size:=(x a o e).lt
theorem HOk.fresh(x:HOk P w H h)(e:h.objs.size<=a):H a=none:=by
 cases q:H a with
 |none=>rfl
 |some u=>exact aZ (bd (x.lt q) e) (bP _)
theorem HOk.kept(x:HOk P w H h)(k:∀b u,h.get? b=some u->h'.get? b=some u):HOk P w H h':=λa o e=>
 (x a o e).stay (λb u _ q=>k b u q) (λ_ q=>q) λ_ _ q=>q
theorem HOk.laid(x:HOk P w H h)(k:∀b u,h.get? b=some u->h'.get? b=some u)(hp:h.objs.size<=a)(new:ObjOk P w (upd H a o) h' a o):HOk P w (upd H a o) h':=λb u e=>by
 have hn:=x.fresh hp;by_cases j:b=a
 .subst j;rw[x8]at e;cases e;exact new
 .rw[x9 j]at e;exact(x b u e).stay (λc v _ q=>k c v q) (λc q=>by rw[x9 (h7 q hn)];exact q) λc xs q=>by rw[x9 (h7 q hn)];exact q
end
def Rd(H:Hp)(a:Addr)(u:HO):Prop:=H a=some u\/∃o,H a=some (.frz o u)
theorem Rd.ok{P:Program}(r:Rd H a u)(x:HOk P w H h):ObjOk P w H h a u:=by
 rcases r with r|⟨o,r⟩
 .exact x a u r
 .obtain⟨_,q⟩:=x a _ r;exact q
noncomputable def Mut:Option HO->Prop
 |some (.lst _)=>True
 |some (.dK _)=>True
 |some (.dT _)=>True
 |some (.set _ _)=>True
 |some (.ins _ _ _)=>True
 |some (.ext _)=>True
 |_=>False
section
variable {P:Program}{w:World}{H:Hp}{h h':Heap}{x e:Addr}{o':HO}
theorem HOk.write(ok:HOk P w H h)(O:Mut (H x))(Z:e=x\/H e=some (.own x))(k:∀b u,b≠e->h.get? b=some u->h'.get? b=some u)(Y:∃u,h'.get? e=some u)
  (new:ObjOk P w (upd H x o') h' x o'):HOk P w (upd H x o') h':=λb u q=>by
 have G:∀c y,H c=some (.own y)->c≠x:=λc y r z=>by subst z;rw[r]at O;exact O
 have N:∀c xs,H c=some (.tup xs)->c≠x:=λc xs r z=>by subst z;rw[r]at O;exact O
 by_cases U:b=x
 .subst U;rw[x8]at q;cases q;exact new
 .rw[x9 U]at q;by_cases j:b=e
  .have q':H b=some (.own x):=by
    rcases Z with z|z
    .exact aZ (j.trans z) U
    .rw[j];exact z
   rw[q]at q';cases q';obtain⟨v,hv⟩:=Y;exact⟨v,by rw[j];exact hv⟩
  .refine(ok b u q).stay (λc v hc r=>k c v ?_ r) (λc r=>by rw[x9 (G c b r)];exact r) λc xs r=>by rw[x9 (N c xs r)];exact r
   rcases hc with rfl|hc
   .exact j
   .rintro rfl;rcases Z with z|z
    .exact G c b hc z
    .rw[hc]at z;cases z;exact U rfl
end
structure Un(fs ex:List Addr)(H H':Hp)(h h':Heap):Prop where
 keep:∀b o,h.get? b=some o->H b=none->b∉fs->b∉ex->h'.get? b=some o
 slot:∀b o,h.get? b=some o->H b=none->b∈fs->b∉ex->∃sl,h'.get? b=some { o with slots:=sl }
 free:∀b o,h.get? b=some o->H b=none->b∉ex->H' b=none
 there:∀b o,h.get? b=some o->b∉ex->∃o',h'.get? b=some o'
 tups:∀b xs,H b=some (.tup xs)->H' b=some (.tup xs)
 frzs:∀b o u,H b=some (.frz o u)->H' b=some (.frz o u)
 tbls:∀b ps,H b=some (.tbl ps)->∃more,H' b=some (.tbl (ps++more))
section
variable {fs fs' ex ex':List Addr}{H H1 H2:Hp}{h h1 h2 h':Heap}{a x e:Addr}{o:HO}
theorem Un.any(u:Un fs ex H H1 h h1)(q:h.get? b=some ob)(n:H b=none)(j:b∉ex):∃sl,h1.get? b=some { ob with slots:=sl }:=by
 by_cases z:b∈fs
 .exact u.slot b ob q n z j
 .exact⟨ob.slots,u.keep b ob q n z j⟩
theorem Un.kept(k:∀b u,h.get? b=some u->h'.get? b=some u):Un fs ex H H h h':=
 ⟨λb ob q _ _ _=>k b ob q,λb ob q _ _ _=>⟨ob.slots,k b ob q⟩,λ_ _ _ n _=>n,λb ob q _=>⟨ob,k b ob q⟩,λ_ _ q=>q,λ_ _ _ q=>q,λ_ ps q=>⟨#[],by rw[q];simp⟩⟩
theorem Un.refl:Un fs ex H H h h:=Un.kept λ_ _ q=>q
theorem Un.laid(k:∀b u,h.get? b=some u->h'.get? b=some u)(hp:h.objs.size<=a)(hn:H a=none):Un fs ex H (upd H a o) h h' where
 keep:=λb u q _ _ _=>k b u q
 slot:=λb u q _ _ _=>⟨u.slots,k b u q⟩
 free:=λb u q n _=>by rw[x9 (bv (bd (aS q) hp))];exact n
 there:=λb u q _=>⟨u,k b u q⟩
 tups:=λb xs q=>by rw[x9 (h7 q hn)];exact q
 frzs:=λb u xs q=>by rw[x9 (h7 q hn)];exact q
 tbls:=λb ps q=>⟨#[],by rw[x9 (h7 q hn),q];simp⟩
theorem Un.write(G:Mut (H x))(Y:e=x\/H e=some (.own x))(k:∀b u,b≠e->h.get? b=some u->h'.get? b=some u)(N:∃u,h'.get? e=some u):Un fs ex H (upd H x o) h h':=by
 have O:∀b,H b=none->b≠x:=λb n z=>by subst z;rw[n]at G;exact G
 have U:∀b,H b=none->b≠e:=λb n z=>by
  subst z;rcases Y with r|r
  .exact O b n r
  .rw[n]at r;cases r
 have hm:∀b u,H b=some u->¬ Mut (some u)->b≠x:=λb u q nm z=>by subst z;rw[q]at G;exact nm G
 refine⟨λb u q n _ _=>k b u (U b n) q,λb u q n _ _=>⟨u.slots,k b u (U b n) q⟩,λb u q n _=>by rw[x9 (O b n)];exact n,λb u q _=>?_,
  λb xs q=>by rw[x9 (hm b _ q λz=>z)];exact q,λb u xs q=>by rw[x9 (hm b _ q λz=>z)];exact q,λb ps q=>⟨#[],by rw[x9 (hm b _ q λz=>z),q];simp⟩⟩
 by_cases j:b=e
 .subst j;exact N
 .exact⟨u,k b u j q⟩
end
noncomputable def trk(h:Heap)(H:Hp):List Addr:=(List.range h.objs.size).filter λa=>(H a).isSome
def hidT(h:Heap)(H:Hp):Heap:=W.hideAll h (trk h H)
theorem yd8(h:Heap)(H:Hp):(hidT h H).objs.size=h.objs.size:=W.hideAll_size _ _
theorem xq0(e:h.get? b=some o)(n:H b=none):(hidT h H).get? b=some o:=
 W.hideAll_get _ e λhm=>by have q:(H b).isSome=true:=(dW.mp hm).2;rw[n]at q;simp at q
theorem xc0(e:(hidT h H).get? b=some o):h.get? b=some o/\H b=none:=by
 have j:h.get? b=some o:=W.of_hideAll (trk h H) e;refine⟨j,?_⟩;cases q:H b with
 |none=>rfl
 |some x=>have hm:b∈trk h H:=dW.mpr ⟨bS.mpr (aS j),by simp[q]⟩;have z:(hidT h H).get? b=none:=W.hideAll_none (trk h H) hm;rw[z]at e;cases e
noncomputable def wy9(g h:Heap)(L:Addr):List (Addr×Obj):=(List.range h.objs.size).filterMap λa=>if a=L\/(g.get? a).isSome=true then none else (h.get? a).map λo=>(a,o)
def rest(g h:Heap)(L d:Addr):List (Addr×Obj):=(wy9 g h L).filter λp=>decide (p.1≠d)
structure Mod(K:W.Frag)(mg:Str->Option Value)(base:Heap):Prop where
 kin:K.In base
 glob:base.Ns mainGlobals mg
 blt:∃mb,base.Ns builtinsNs mb/\∀x:Str,x≠"__name__"->mb x=bootBuiltins x
 nolimit:base.NoLimit
structure Cx where
 prog:Program
 w:World
 K:W.Frag
 mg:Str->Option Value
 base:Heap
 A:Around
 N:List Str
 s₀:Shared
 H₀:Hp
 env:Env
 outer:List Env
 stack:List Env
 ex:List Addr
 fn:Str->Bool
 calm:Bool
 pn:List (Addr×Obj)
 xe:Value->Shared->Prop
noncomputable def frs(l:List Env):List Addr:=l.filterMap (·.frame)
abbrev Cx.fs(X:Cx):List Addr:=frs X.outer
def Vis(sc:Scope)(x:Str):Prop:=sc.names.lookup x=some .local\/sc.names.lookup x=some .cell\/sc.names.lookup x=some .free
def Loc(sc:Scope)(x:Str):Prop:=sc.names.lookup x=some .local\/sc.names.lookup x=some .cell
def Look(env:Env)(h:Heap)(m:Str->Option Value)(x:Str)(u:Value):Prop:=
 (env.kindOf x=some .local/\m x=some u)\/((env.kindOf x=some .cell\/env.kindOf x=some .free)/\∃c,env.cells.lookup x=some c/\h.IsCell c (some u))
structure Cx.Ok(X:Cx):Prop where
 mod:Mod X.K X.mg X.base
 kind:X.env.scope.kind= .function
 glob:X.env.globals=mainGlobals
 blt:X.env.builtins=builtinsNs
 above:X.s₀.heap.objs.size<=X.env.locals
 inj:∀x y c,X.env.cells.lookup x=some c->X.env.cells.lookup y=some c->x=y
 has:∀x,(X.env.kindOf x=some .cell\/X.env.kindOf x=some .free)->∃c,X.env.cells.lookup x=some c
 cab:∀x c,X.fn x=true->X.env.cells.lookup x=some c->X.s₀.heap.objs.size<=c
 hd:X.calm=true->X.A.handled=none
 frames:X.A.frames=some X.stack
 stk:X.stack=X.outer\/(X.stack=X.env::X.outer/\X.env.frame=some X.env.locals)
 exf:∀b∈X.ex,b≠X.env.locals/\∀x c,X.env.cells.lookup x=some c->c≠b
 bs:∀b o,X.base.get? b=some o->X.s₀.heap.get? b=some o/\X.H₀ b=none
 bsz:X.base.objs.size<=X.s₀.heap.objs.size
 noex:∀b o,X.base.get? b=some o->b∉X.ex
 exfs:∀b∈X.ex,b∉X.fs
 funs:X.s₀.heap.FunFrames X.base X.outer
 frf:∀b∈X.fs,X.H₀ b=none
structure Inv(X:Cx)(pins:List (Addr×Obj))(σ:List (Option V))(H:Hp)(s:Shared):Prop where
 ok:X.Ok
 os:s.os=X.s₀.os
 bare:AllBare s.gens
 base:Un X.fs X.ex X.H₀ H X.s₀.heap s.heap
 loc:∃m,s.heap.Ns X.env.locals m/\∀(i:Nat)(x:Str)(v:V),X.N[i]? =some x->σ[i]? =some (some v)->Vis X.env.scope x->∃u,RelV v u/\Look X.env s.heap m x u
 cell:∀x c,X.env.cells.lookup x=some c->∃v,s.heap.IsCell c v
 free:H X.env.locals=none
 freeC:∀x c,X.env.cells.lookup x=some c->H c=none
 pin:∀p∈X.pn++pins,s.heap.get? p.1=some p.2/\H p.1=none/\p.1≠X.env.locals/\p.1∉X.fs/\∀v,p.2.data≠ .cell v
 hok:HOk X.prog X.w H s.heap
 len:σ.length=X.N.length
section
variable {X:Cx}{pins:List (Addr×Obj)}{f:List (Option V)}{H H':Hp}{s:Shared}{h':Heap}
theorem Cx.Ok.nofr(ok:X.Ok)(e:X.base.get? b=some o):b∉X.fs:=λj=>by have:=(ok.funs.mem j).1;rw[e]at this;cases this
theorem Inv.bs(I:Inv X pins f H s):∀b o,X.base.get? b=some o->s.heap.get? b=some o/\H b=none:=λb o e=>
 ⟨I.base.keep b o (I.ok.bs b o e).1 (I.ok.bs b o e).2 (I.ok.nofr e) (I.ok.noex b o e),I.base.free b o (I.ok.bs b o e).1 (I.ok.bs b o e).2 (I.ok.noex b o e)⟩
theorem Inv.bk(I:Inv X pins f H s):∀b o,X.base.get? b=some o->s.heap.get? b=some o:=λb o e=>(I.bs b o e).1
theorem Inv.mod(I:Inv X pins f H s):Mod X.K X.mg X.base:=I.ok.mod
theorem Inv.kIn(I:Inv X pins f H s):X.K.In s.heap:=I.ok.mod.kin.keeps I.bk
theorem Inv.lt(I:Inv X pins f H s):X.env.locals<s.heap.objs.size:=let ⟨_,hn,_⟩:=I.loc;hn.lt
theorem Inv.sz(I:Inv X pins f H s):X.s₀.heap.objs.size<=s.heap.objs.size:=bE I.ok.above (dk I.lt)
theorem Inv.nofs(I:Inv X pins f H s)(h:s.heap.objs.size<=a):a∉X.fs:=λz=>by obtain⟨_,o,j,_⟩:=I.ok.funs.mem z;exact aZ (bd (aS j) (bE I.sz h)) (bP _)
theorem Inv.cne(I:Inv X pins f H s):∀x c,X.env.cells.lookup x=some c->c≠X.env.locals:=λx c e z=>by obtain⟨v,o,N,hd⟩:=I.cell x c e;obtain⟨m,⟨o',es,ep,j,G,_⟩,_⟩:=I.loc;rw[z,j]at N;cases N;rw[G]at hd;cases hd
theorem Inv.funs(I:Inv X pins f H s):s.heap.FunFrames X.base X.outer:=by
 have all:∀(l:List Env),(∀b∈frs l,b∈X.fs)->X.s₀.heap.FunFrames X.base l->s.heap.FunFrames X.base l:=by
  intro l;induction l with
  |nil=>intro _ _;trivial
  |cons env r O=>intro hs Y;obtain⟨Z,⟨L,o,j,hn,U,hd⟩,hr⟩:=Y;have N:L∈X.fs:=hs L (by unfold frs;rw[filterMap_cons,j];exact bV);obtain⟨sl,e⟩:=I.base.slot L o U (I.ok.frf L N) N λz=>I.ok.exfs L z N;exact⟨Z,⟨L,_,j,hn,e,hd⟩,O (λb G=>hs b (by unfold frs;rw[filterMap_cons,j];exact bt _ G)) hr⟩
 exact all X.outer (λ_ G=>G) I.ok.funs
theorem Inv.stack(I:Inv X pins f H s):s.heap.FunFrames X.base X.stack:=by
 rcases I.ok.stk with e|⟨e,j⟩
 .rw[e];exact I.funs
 .rw[e];obtain⟨m,hn,_⟩:=I.loc;refine .cons (by rw[I.ok.kind];decide) j hn ?_ I.funs;exact Heap.get?_none_of_le (bE I.ok.bsz I.ok.above)
theorem Inv.stkSub(I:Inv X pins f H s):∀b∈frs X.stack,b∈X.env.locals::X.fs:=λb j=>by
 rcases I.ok.stk with e|⟨e,z⟩
 .rw[e]at j;exact bt _ j
 .rw[e]at j;unfold frs at j;rw[filterMap_cons,z]at j;exact j
theorem Inv.stkFree(I:Inv X pins f H s):∀b∈frs X.stack,H b=none:=λb j=>by
 rcases ba.mp (I.stkSub b j)with e|j
 .rw[e];exact I.free
 .obtain⟨_,o,ho,_⟩:=I.ok.funs.mem j;exact I.base.free b o ho (I.ok.frf b j) λz=>I.ok.exfs b z j
theorem Inv.step{g':Array GenState}{t':Nat}{d':Drawn}{ch:List Addr}(I:Inv X pins f H s)
  (N:∀b∈ch,(b∈X.ex\/X.s₀.heap.objs.size<=b)/\b≠X.env.locals/\(∀x c,X.env.cells.lookup x=some c->c≠b)/\∀p∈X.pn++pins,p.1≠b)
  (keep:∀b o,b≠X.env.locals->b∉X.fs->b∉ch->s.heap.get? b=some o->H b=none->h'.get? b=some o)
  (slot:∀b o,b≠X.env.locals->b∈X.fs->b∉ch->s.heap.get? b=some o->H b=none->∃sl,h'.get? b=some { o with slots:=sl }) (free:∀b o,b∉ch->s.heap.get? b=some o->H b=none->H' b=none)
  (there:∀b o,b∉ch->s.heap.get? b=some o->∃o',h'.get? b=some o')
  (tups:∀b xs,H b=some (.tup xs)->H' b=some (.tup xs)) (frzs:∀b o u,H b=some (.frz o u)->H' b=some (.frz o u)) (tbls:∀b ps,H b=some (.tbl ps)->∃more,H' b=some (.tbl (ps++more)))
  (ns:∀m,s.heap.Ns X.env.locals m->h'.Ns X.env.locals m) (hok:HOk X.prog X.w H' h') (hg:AllBare g'):
  Inv X pins f H' { s with heap:=h',gens:=g',drawn:=d',toks:=t' }:=by
 have a1:∀b o,X.s₀.heap.get? b=some o->b≠X.env.locals:=λb o e=>bv (bd (aS e) I.ok.above);have U:∀b o,X.s₀.heap.get? b=some o->b∉X.ex->b∉ch:=λb o e j Y=>by
  rcases (N b Y).1 with z|z
  .exact j z
  .exact aZ (bd (aS e) z) (bP _)
 have O:∀x c,X.env.cells.lookup x=some c->∀v,s.heap.IsCell c v->h'.IsCell c v:=λx c e v a2=>by
  obtain⟨o,Z,hd⟩:=a2;have G:c∉ch:=λz=>(N c z).2.2.1 x c e rfl;by_cases hc:c∈X.fs
  .obtain⟨sl,q⟩:=slot c o (I.cne x c e) hc G Z (I.freeC x c e);exact⟨_,q,hd⟩
  .exact⟨o,keep c o (I.cne x c e) hc G Z (I.freeC x c e),hd⟩
 refine⟨I.ok,I.os,hg,⟨λb o e n Y j=>?_,λb o e n Y j=>?_,λb o e n j=>?_,λb o e j=>?_,λb xs e=>tups b xs (I.base.tups b xs e),λb o xs e=>frzs b o xs (I.base.frzs b o xs e),λb ps e=>?_⟩,?_,λx c e=>?_,?_,λx c e=>?_,λp hp=>?_,hok,I.len⟩
 .exact keep b o (a1 b o e) Y (U b o e j) (I.base.keep b o e n Y j) (I.base.free b o e n j)
 .obtain⟨sl,e1⟩:=I.base.slot b o e n Y j;obtain⟨a3,e2⟩:=slot b _ (a1 b o e) Y (U b o e j) e1 (I.base.free b o e n j);exact⟨a3,e2⟩
 .obtain⟨o',e1⟩:=I.base.there b o e j;exact free b o' (U b o e j) e1 (I.base.free b o e n j)
 .obtain⟨o',e1⟩:=I.base.there b o e j;exact there b o' (U b o e j) e1
 .obtain⟨m1,e1⟩:=I.base.tbls b ps e;obtain⟨m2,e2⟩:=tbls b _ e1;exact⟨m1++m2,by rw[e2,Array.append_assoc]⟩
 .obtain⟨m,hn,hl⟩:=I.loc;refine⟨m,ns m hn,λi x v e1 e2 e3=>?_⟩;obtain⟨u,r,l⟩:=hl i x v e1 e2 e3;refine⟨u,r,?_⟩;rcases l with l|⟨k,c,e,z⟩
  .exact .inl l
  .exact .inr ⟨k,c,e,O x c e _ z⟩
 .obtain⟨v,z⟩:=I.cell x c e;exact⟨v,O x c e v z⟩
 .obtain⟨m,⟨o,_,_,Z,_⟩,_⟩:=I.loc;exact free _ o (λz=>(N _ z).2.1 rfl) Z I.free
 .obtain⟨v,o,Z,hd⟩:=I.cell x c e;exact free c o (λz=>(N c z).2.2.1 x c e rfl) Z (I.freeC x c e)
 .obtain⟨e,n,ne,nf,d⟩:=I.pin p hp;have G:p.1∉ch:=λz=>(N p.1 z).2.2.2 p hp rfl;exact⟨keep p.1 p.2 ne nf G e n,free p.1 p.2 G e n,ne,nf,d⟩
theorem Inv.un{t':Nat}(I:Inv X pins f H s)(u:Un X.fs [] H H' s.heap h')(hok:HOk X.prog X.w H' h'):Inv X pins f H' { s with heap:=h',toks:=t' }:=by
 obtain⟨m,⟨o,es,ep,U,r⟩,_⟩:=id I.loc;obtain⟨sl,Z⟩:=u.any U I.free aD;exact I.step (g':=s.gens) (d':=s.drawn) (ch:=[]) (λ_ z=>nomatch z) (λb o _ G _ e n=>u.keep b o e n G aD) (λb o _ G _ e n=>u.slot b o e n G aD) (λb o _ e n=>u.free b o e n aD) (λb o _ e=>u.there b o e aD) u.tups u.frzs u.tbls (λm' hm=>by obtain⟨o',N,O,j,Y⟩:=hm;rw[U]at j;cases j;exact⟨_,N,O,Z,Y⟩) hok I.bare
theorem Inv.call{t':Nat}(I:Inv X pins f H s)(u:Un (frs X.stack) ch H H' s.heap h')(hok:HOk X.prog X.w H' h')(hg:AllBare g')
  (G:∀b∈ch,(b∈X.ex\/X.s₀.heap.objs.size<=b)/\b≠X.env.locals/\(∀x c,X.env.cells.lookup x=some c->c≠b)/\∀p∈X.pn++pins,p.1≠b):
  Inv X pins f H' { s with heap:=h',gens:=g',drawn:=d',toks:=t' }:=by
 obtain⟨m,⟨o,es,ep,Y,r⟩,_⟩:=id I.loc;obtain⟨sl,N⟩:=u.any Y I.free λz=>(G _ z).2.1 rfl;exact I.step (ch:=ch) G (λb o N hb hc e n=>u.keep b o e n (λz=>(ba.mp (I.stkSub b z)).elim N hb) hc) (λb o _ _ hc e n=>u.any e n hc) (λb o hc e n=>u.free b o e n hc) (λb o hc e=>u.there b o e hc) u.tups u.frzs u.tbls (λm' hm=>by obtain⟨o',O,U,j,Z⟩:=hm;rw[Y]at j;cases j;exact⟨_,O,U,N,Z⟩) hok hg
theorem Inv.turned{t':Nat}(I:Inv X pins f H s)(k:∀b o,b≠it->s.heap.get? b=some o->h'.get? b=some o)(hn:H it=none)(G:it≠X.env.locals)
  (h1:it∈X.ex\/X.s₀.heap.objs.size<=it) (h2:∀x c,X.env.cells.lookup x=some c->c≠it) (O:∀p∈X.pn++pins,p.1≠it):Inv X pins f H { s with heap:=h',toks:=t' }:=by
 have j:∀b u,H b=some u->b≠it:=λb u e z=>by rw[z,hn]at e;cases e
 refine I.step (g':=s.gens) (d':=s.drawn) (ch:=[it]) (λb N=>?_) (λb o _ _ hc e _=>k b o (λz=>hc (by simp[z])) e) (λb o _ _ hc e _=>⟨o.slots,k b o (λz=>hc (by simp[z])) e⟩) (λ_ _ _ _ n=>n)
  (λb o hc e=>⟨o,k b o (λz=>hc (by simp[z])) e⟩) (λ_ _ e=>e) (λ_ _ _ e=>e) (λb ps e=>⟨#[],by rw[e];simp⟩) (λm hm=>?_) (λb u e=>?_) I.bare
 .have e:b=it:=by simpa using N
  subst e;exact⟨h1,G,h2,O⟩
 .obtain⟨o,es,ep,ho,r⟩:=hm;exact⟨o,es,ep,k _ o (dU G) ho,r⟩
 .refine(I.hok b u e).stay (λc v hc q=>k c v ?_ q) (λ_ q=>q) λ_ _ q=>q;rcases hc with z|z
  .rw[z];exact j b u e
  .exact j c _ z
theorem Inv.tok(I:Inv X pins f H s)(t:Nat):Inv X pins f H { s with toks:=t }:=I.un (h':=s.heap) (t':=t) Un.refl I.hok
theorem Inv.kept{t':Nat}(I:Inv X pins f H s)(k:∀b u,s.heap.get? b=some u->h'.get? b=some u):Inv X pins f H { s with heap:=h',toks:=t' }:=I.un (Un.kept k) (I.hok.kept k)
theorem Inv.laid{t':Nat}(I:Inv X pins f H s)(k:∀b u,s.heap.get? b=some u->h'.get? b=some u)(hp:s.heap.objs.size<=a)(new:ObjOk X.prog X.w (upd H a o) h' a o):
  Inv X pins f (upd H a o) { s with heap:=h',toks:=t' }:=I.un (Un.laid k hp (I.hok.fresh hp)) (I.hok.laid k hp new)
theorem Inv.write{t':Nat}(I:Inv X pins f H s)(z:Mut (H x))(G:e=x\/H e=some (.own x))(k:∀b u,b≠e->s.heap.get? b=some u->h'.get? b=some u)(j:∃u,h'.get? e=some u)
  (new:ObjOk X.prog X.w (upd H x o) h' x o):Inv X pins f (upd H x o) { s with heap:=h',toks:=t' }:=I.un (Un.write z G k j) (I.hok.write z G k j new)
theorem Inv.pins_of{pins':List (Addr×Obj)}(I:Inv X pins f H s)(h:∀p∈pins',s.heap.get? p.1=some p.2/\H p.1=none/\p.1≠X.env.locals/\p.1∉X.fs/\∀v,p.2.data≠ .cell v):Inv X pins' f H s:=
 ⟨I.ok,I.os,I.bare,I.base,I.loc,I.cell,I.free,I.freeC,λp hp=>(bA.mp hp).elim (λz=>I.pin p (dS _ z)) (h p),I.hok,I.len⟩
theorem yv3{N:List Str}(z:N.Nodup){i j:Nat}{x:Str}(a:N[i]? =some x)(b:N[j]? =some x):i=j:=by obtain⟨h1,e1⟩:=bp.mp a;obtain⟨h2,e2⟩:=bp.mp b;exact(getElem_inj z).mp (e1.trans e2.symm)
theorem zj4{E:Value->Shared->Prop}{i:Nat}{Q:Unit->Shared->Prop}(I:Inv X pins f H s)(hN:X.N.Nodup)(hi:X.N[i]? =some x)(O:Loc X.env.scope x)(r:RelV v u)
  (h:∀s',Inv X pins (f.set i (some v)) H s'->(∃a,Heap.SameBut a s.heap s'.heap/\(a=X.env.locals\/X.env.cells.lookup x=some a))->Q () s') (hf:X.fn x=true\/X.env.scope.names.lookup x=some .local:=by first|exact .inl rfl|exact .inr rfl|assumption):wpAny M A (storeName X.env x u) Q E s:=by
 obtain⟨m,hn,hl⟩:=id I.loc;have a3:(X.env.scope.kind== .class || (X.env.scope.kind== .module&&X.env.locals != X.env.globals))=false:=by rw[I.ok.kind];rfl
 have Z:i<f.length:=by rw[I.len];exact(bp.mp hi).1
 have cne:=I.cne;have G:∀{a:Addr}{h':Heap},(∃o,s.heap.get? a=some o/\H a=none)->Heap.SameBut a s.heap h'->HOk X.prog X.w H h':=λ{a h'} ha hs b ob e=>by
  obtain⟨_,_,U⟩:=ha;refine(I.hok b ob e).stay (λc w' hc q=>(hs.2 c ?_).trans q) (λ_ q=>q) λ_ _ q=>q;rintro rfl;rcases hc with rfl|hc
  .rw[U]at e;cases e
  .rw[U]at hc;cases hc
 rcases O with Y|Y
 .refine wpAny_storeName_local Y hn (λh' a6 hs=>?_) a3;obtain⟨oL,_,_,a5,_⟩:=id hn;refine h _ ⟨I.ok,I.os,I.bare,⟨λb o e n hb O=>?_,λb o e n hb O=>?_,I.base.free,λb o e O=>?_,I.base.tups,I.base.frzs,I.base.tbls⟩,⟨_,a6,λj y v' e1 e2 e3=>?_⟩,λy c e=>?_,I.free,I.freeC,λp hp=>?_,G ⟨oL,a5,I.free⟩ hs,by simpa using I.len⟩ ⟨_,hs,.inl rfl⟩
  .exact(hs.2 b (bv (bd (aS e) I.ok.above))).trans (I.base.keep b o e n hb O)
  .obtain⟨sl,e1⟩:=I.base.slot b o e n hb O;exact⟨sl,(hs.2 b (bv (bd (aS e) I.ok.above))).trans e1⟩
  .obtain⟨o',e1⟩:=I.base.there b o e O;exact⟨o',(hs.2 b (bv (bd (aS e) I.ok.above))).trans e1⟩
  .by_cases hj:j=i
   .subst hj;rw[hi]at e1;cases e1;rw[aR Z]at e2;cases e2;exact⟨u,r,.inl ⟨Y,by simp⟩⟩
   .rw[aU (dU hj)]at e2;obtain⟨u',r',q⟩:=hl j y v' e1 e2 e3;refine⟨u',r',?_⟩;rcases q with⟨k,e⟩|⟨k,c,e,z⟩
    .refine .inl ⟨k,?_⟩;have:y≠x:=λe=>hj (yv3 hN e1 (e ▸ hi));simp[this,e]
    .exact .inr ⟨k,c,e,z.sameBut hs (cne y c e)⟩
  .obtain⟨w',z⟩:=I.cell y c e;exact⟨w',z.sameBut hs (cne y c e)⟩
  .obtain⟨e,n,ne,nf,d⟩:=I.pin p hp;exact⟨(hs.2 p.1 ne).trans e,n,ne,nf,d⟩
 .have hfn:X.fn x=true:=by
   rcases hf with z|z
   .exact z
   .rw[z]at Y;cases Y
  obtain⟨c,hc⟩:=I.ok.has x (.inl Y);obtain⟨w',z⟩:=I.cell x c hc;refine wpAny_storeName_cell I.ok.kind Y hc z (λh' a4 hs=>?_);obtain⟨oc,a2,a1⟩:=id z;refine h { s with heap:=h' } ⟨I.ok,I.os,I.bare,⟨λb o e n hb O=>?_,λb o e n hb O=>?_,I.base.free,λb o e O=>?_,I.base.tups,I.base.frzs,I.base.tbls⟩,⟨m,hn.sameBut hs (dU (cne x c hc)),λj y v' e1 e2 e3=>?_⟩,λy c' e=>?_,I.free,I.freeC,λp hp=>?_,G ⟨oc,a2,I.freeC x c hc⟩ hs,by simpa using I.len⟩ ⟨c,hs,.inr hc⟩
  .exact(hs.2 b (bv (bd (aS e) (I.ok.cab x c hfn hc)))).trans (I.base.keep b o e n hb O)
  .obtain⟨sl,e1⟩:=I.base.slot b o e n hb O;exact⟨sl,(hs.2 b (bv (bd (aS e) (I.ok.cab x c hfn hc)))).trans e1⟩
  .obtain⟨o',e1⟩:=I.base.there b o e O;exact⟨o',(hs.2 b (bv (bd (aS e) (I.ok.cab x c hfn hc)))).trans e1⟩
  .by_cases hj:j=i
   .subst hj;rw[hi]at e1;cases e1;rw[aR Z]at e2;cases e2;exact⟨u,r,.inr ⟨.inl Y,c,hc,a4⟩⟩
   .rw[aU (dU hj)]at e2;obtain⟨u',r',q⟩:=hl j y v' e1 e2 e3;refine⟨u',r',?_⟩;rcases q with q|⟨k,c',e,z'⟩
    .exact .inl q
    .refine .inr ⟨k,c',e,z'.sameBut hs ?_⟩;rintro rfl;exact hj (yv3 hN e1 (I.ok.inj _ _ _ e hc ▸ hi))
  .by_cases hcc:c'=c
   .subst hcc;exact⟨_,a4⟩
   .obtain⟨w2,z2⟩:=I.cell y c' e;exact⟨w2,z2.sameBut hs hcc⟩
  .obtain⟨e,n,ne,nf,d⟩:=I.pin p hp;refine⟨(hs.2 p.1 ?_).trans e,n,ne,nf,d⟩;intro q;rw[q,a2]at e;have q':oc=p.2:=bn e;exact d w' (by rw[<-q'];exact a1)
theorem M4{E:Value->Shared->Prop}{i:Nat}{Q:Unit->Shared->Prop}(I:Inv X pins f H s)(G:X.N.Nodup)(hi:X.N[i]? =some x)(j:Loc X.env.scope x)(r:RelV v u)
  (h:∀s',Inv X pins (f.set i (some v)) H s'->Q () s') (z:X.fn x=true\/X.env.scope.names.lookup x=some .local:=by first|exact .inl rfl|exact .inr rfl|assumption):wpAny M A (storeName X.env x u) Q E s:=
 zj4 I G hi j r (λs' O _=>h s' O) z
theorem Inv.call'(I:Inv X pins f H s)(z:s'.os=s.os)(u:Un (frs X.stack) ch H H' s.heap s'.heap)(hok:HOk X.prog X.w H' s'.heap)(G:AllBare s'.gens)
  (j:∀b∈ch,(b∈X.ex\/X.s₀.heap.objs.size<=b)/\b≠X.env.locals/\(∀x c,X.env.cells.lookup x=some c->c≠b)/\∀p∈X.pn++pins,p.1≠b):Inv X pins f H' s':=by
 obtain⟨h',g',d',t',o'⟩:=s';have e:o'=s.os:=z;subst e;exact I.call (g':=g') (t':=t') (d':=d') u hok G j
end
abbrev XK:=Value->Option Addr->Hp->Prop
noncomputable abbrev St:=List (Option V)
abbrev VK:=V->Hp->Prop
abbrev TE:=St->Hp->VK->Prop
abbrev TT:=St->Hp->(Bool->Hp->Prop)->Prop
abbrev TA:=St->Hp->(List V->Hp->Prop)->Prop
structure Ends where
 nx:St->Hp->Prop
 rt:VK
 bk:St->Hp->Prop:=λ_ _=>False
 ct:St->Hp->Prop:=λ_ _=>False
abbrev TS:=Ends->St->Hp->Prop
def EP(X:Cx)(pins:List (Addr×Obj))(a:St)(Q:VK)(u:Value)(s':Shared):Prop:=∃v H',Inv X pins a H' s'/\RelV v u/\Q v H'
def TP(X:Cx)(pins:List (Addr×Obj))(a:St)(Q:Bool->Hp->Prop)(b:Bool)(s':Shared):Prop:=∃H',Inv X pins a H' s'/\Q b H'
def AP(X:Cx)(pins:List (Addr×Obj))(a:St)(Q:List V->Hp->Prop)(us:List Value)(s':Shared):Prop:=∃vs H',Inv X pins a H' s'/\Vals vs us/\Q vs H'
def SP(X:Cx)(pins:List (Addr×Obj))(D:Ends)(f:Flow)(s':Shared):Prop:=
 match f with
 | .next=>∃σ' H',Inv X pins σ' H' s'/\D.nx σ' H'
 | .brk=>∃σ' H',Inv X pins σ' H' s'/\D.bk σ' H'
 | .cont=>∃σ' H',Inv X pins σ' H' s'/\D.ct σ' H'
 | .ret u=>∃v σ' H',Inv X pins σ' H' s'/\RelV v u/\D.rt v H'
def PE(X:Cx)(e:Expr)(t:TE):Prop:=
 ∀(pins:List (Addr×Obj))(s:Shared)(a:St)(H:Hp)(Q:VK),Inv X pins a H s->t a H Q->wpAny (model X.prog X.w) X.A (eval e X.env) (EP X pins a Q) X.xe s
def PT(X:Cx)(e:Expr)(t:TT):Prop:=
 ∀(pins:List (Addr×Obj))(s:Shared)(a:St)(H:Hp)(Q:Bool->Hp->Prop),Inv X pins a H s->t a H Q->wpAny (model X.prog X.w) X.A (isTrue e X.env (eval e X.env)) (TP X pins a Q) X.xe s
def PW(X:Cx)(e:Expr)(t:TT):Prop:=
 ∀(whole:Sem Value)(pins:List (Addr×Obj))(s:Shared)(a:St)(H:Hp)(Q:Bool->Hp->Prop),Inv X pins a H s->t a H Q->wpAny (model X.prog X.w) X.A (isTrue e X.env whole) (TP X pins a Q) X.xe s
theorem PW.pt{X:Cx}(h:PW X e t):PT X e t:=h _
def PA(X:Cx)(es:List Expr)(t:TA):Prop:=
 ∀(pos:Pos)(pins:List (Addr×Obj))(s:Shared)(a:St)(H:Hp)(Q:List V->Hp->Prop),Inv X pins a H s->t a H Q->wpAny (model X.prog X.w) X.A (spliced (backTo pos (starEach es X.env))) (AP X pins a Q) X.xe s
def PS(X:Cx)(st:Stmt)(t:TS):Prop:=
 ∀(pins:List (Addr×Obj))(s:Shared)(a:St)(H:Hp)(D:Ends),Inv X pins a H s->t D a H->wpAny (model X.prog X.w) X.A (exec st X.env) (SP X pins D) X.xe s
def PSs(X:Cx)(st:List Stmt)(t:TS):Prop:=
 ∀(pins:List (Addr×Obj))(s:Shared)(a:St)(H:Hp)(D:Ends),Inv X pins a H s->t D a H->wpAny (model X.prog X.w) X.A (execs st X.env) (SP X pins D) X.xe s
theorem thn{j:Type}{t:Sem j}{Q z:j->Shared->Prop}{E:Value->Shared->Prop}(h:wpAny M A t Q E s)(G:∀a s,Q a s->z a s):wpAny M A t z E s:=dA h G λ_ _ x=>x
section
variable {X:Cx}
def tVar(i:Nat):TE:=λa H Q=>∃v,a[i]? =some (some v)/\Q v H
def tC(v:V):TE:=λ_ H Q=>Q v H
theorem wt5{i:Nat}{pos:Pos}(Y:X.N[i]? =some x)(O:Vis X.env.scope x)(hd:(x==("__debug__":Str))=false:=by decide)(G:(x==("__classdict__":Str))=false:=by decide):PE X (.Name x pos) (tVar i):=by
 intro pins s a H Q I h;obtain⟨v,e,h⟩:=h;obtain⟨m,hn,U⟩:=I.loc;obtain⟨u,r,l⟩:=U i x v Y e O;have fin:EP X pins a Q u s:=⟨v,H,I,r,h⟩;rcases l with⟨z,hm⟩|⟨z,c,hc,j⟩
 .exact wpAny_Name (wpAny_loadName_local I.ok.kind z hn hm fin) hd
 .rcases z with z|z
  .exact wpAny_Name (wpAny_loadName_cell I.ok.kind z hc j fin) hd
  .exact wpAny_Name (wpAny_loadName_free I.ok.kind z hc j fin G) hd
theorem pe_int{i j pos}:PE X (.Constant (.int i) j pos) (tC (.int i)):=λ_ _ _ H _ I h=>wpAny_Constant_int ⟨.int i,H,I.tok _,⟨_,rfl⟩,h⟩
theorem pe_bl{b j pos}:PE X (.Constant (.bool b) j pos) (tC (.bl b)):=λ_ _ _ H _ I h=>Constant_bool ⟨.bl b,H,I,rfl,h⟩
theorem pe_non{j pos}:PE X (.Constant .none j pos) (tC .non):=λ_ _ _ H _ I h=>Constant_none ⟨.non,H,I,rfl,h⟩
def Gl(X:Cx)(x:Str):Prop:=X.env.kindOf x=some .globalImplicit
theorem xb0{E:Value->Shared->Prop}{pins:List (Addr×Obj)}{pos:Pos}{Q:Value->Shared->Prop}(I:Inv X pins a H s)(j:Gl X x)(hm:X.mg x=some u)(h:Q u s)
  (hd:(x==("__debug__":Str))=false:=by decide):wpAny (model X.prog X.w) X.A (eval (.Name x pos) X.env) Q E s:=
 Calls.Name_function_global I.ok.kind j (Calls.loadGlobal_global (by rw[I.ok.glob];exact I.mod.glob.keeps I.bk) hm h) hd
theorem O4{E:Value->Shared->Prop}{pins:List (Addr×Obj)}{pos:Pos}{Q:Value->Shared->Prop}(I:Inv X pins a H s)(z:Gl X x)(hm:X.mg x=none)(j:bootBuiltins x=some u)(h:Q u s)
  (hn:x≠"__name__":=by decide) (hd:(x==("__debug__":Str))=false:=by decide):wpAny (model X.prog X.w) X.A (eval (.Name x pos) X.env) Q E s:=by
 obtain⟨mb,h1,h2⟩:=I.mod.blt;exact Calls.Name_function_global I.ok.kind z (Calls.loadGlobal_builtin (by rw[I.ok.glob];exact I.mod.glob.keeps I.bk) hm (by rw[I.ok.blt];exact h1.keeps I.bk) ((h2 x hn).trans j) h) hd
theorem xe6{pos:Pos}(z:Gl X x)(hm:X.mg x=none)(j:bootBuiltins x=some u)(r:RelV v u)(hn:x≠"__name__":=by decide)(hd:(x==("__debug__":Str))=false:=by decide):PE X (.Name x pos) (tC v):=
 λ_ _ _ H _ I h=>O4 I z hm j ⟨v,H,I,r,h⟩ hn hd
variable {a b:Expr}{ta tb:TE}{pos:Pos}
def tB(t:TE):TT:=λa H Q=>t a H λx H1=>∃c,x= .bl c/\Q c H1
variable {tA tB':TT}{rest:List Expr}
def tAnd(t u:TT):TT:=λa H Q=>t a H λc H1=>if c=true then u a H1 Q else Q false H1
def tOr(t u:TT):TT:=λa H Q=>t a H λc H1=>if c=true then Q true H1 else u a H1 Q
def tNot(t:TT):TT:=λa H Q=>t a H λc H1=>Q (!c) H1
theorem yj5(ha:PT X a tA):PW X (.BoolOp .And [a] pos) tA:=by
 intro j pins s b H Q I h;refine isTrue_and (thn (ha pins s b H Q I h) λc s1 e=>?_);cases c with
 |true=>exact isTrue_and_nil e
 |false=>exact e
theorem wu9(ha:PT X a tA):PW X (.BoolOp .Or [a] pos) tA:=by
 intro j pins s b H Q I h;refine isTrue_or (thn (ha pins s b H Q I h) λc s1 e=>?_);cases c with
 |false=>exact isTrue_or_nil e
 |true=>exact e
theorem xn4(ha:PT X a tA)(O:PW X (.BoolOp .And (b::rest) pos) tB'):PW X (.BoolOp .And (a::b::rest) pos) (tAnd tA tB'):=by
 intro N pins s d H Q I h;refine isTrue_and (thn (ha pins s d H _ I h) λc s1 j=>?_);obtain⟨H1,G,z⟩:=j;cases c with
 |true=>exact O N pins s1 d H1 Q G z
 |false=>exact⟨H1,G,z⟩
theorem wh1(ha:PT X a tA)(O:PW X (.BoolOp .Or (b::rest) pos) tB'):PW X (.BoolOp .Or (a::b::rest) pos) (tOr tA tB'):=by
 intro N pins s d H Q I h;refine isTrue_or (thn (ha pins s d H _ I h) λc s1 j=>?_);obtain⟨H1,G,z⟩:=j;cases c with
 |true=>exact⟨H1,G,z⟩
 |false=>exact O N pins s1 d H1 Q G z
theorem wt0(ha:PT X a tA):PT X (.UnaryOp .Not a pos) (tNot tA):=by intro pins s b H Q I h;exact isTrue_not (ha pins s b H (λc H1=>Q (!c) H1) I h)
def wi6(ta tb:TE):TE:=λa H Q=>ta a H λx H1=>∃c,x= .bl c/\if c=true then tb a H1 Q else Q (.bl false) H1
theorem wt7{op}(h:PE X a t):PE X (.BoolOp op [a] pos) t:=λpins s b H Q I hw=>BoolOp_one (h pins s b H Q I hw)
theorem wt8(ha:PE X a ta)(O:PE X (.BoolOp .And (b::rest) pos) tb):PE X (.BoolOp .And (a::b::rest) pos) (wi6 ta tb):=by
 intro pins s d H Q I h;refine BoolOp_and (thn (ha pins s d H _ I h) λv s1 j=>?_);obtain⟨x,H1,G,N,z⟩:=j;obtain⟨c,rfl,z⟩:=z;cases N;refine wpAny_truthy_bool ?_;cases c with
 |true=>exact O pins s1 d H1 Q G z
 |false=>exact⟨.bl false,H1,G,rfl,z⟩
def tIf(t:TT)(ta tb:TE):TE:=λa H Q=>t a H λc H1=>if c=true then ta a H1 Q else tb a H1 Q
theorem xu3(hc:PT X c tA)(ha:PE X a ta)(N:PE X b tb):PE X (.IfExp c a b pos) (tIf tA ta tb):=by
 intro pins s e H Q I h;refine wpAny_IfExp (thn (hc pins s e H _ I h) λd s1 j=>?_);obtain⟨H1,G,z⟩:=j;cases d with
 |true=>exact ha pins s1 e H1 Q G z
 |false=>exact N pins s1 e H1 Q G z
end
def SqL(K:W.Frag)(H:Hp)(a:Addr)(xs:List V):Prop:=
 Rd H a (.lst xs)\/
  ∃(o:Obj)(its:Array Value)(n:Nat),K.lookup a=some o/\o.cls= .type "list"/\o.dict=none/\o.data= .seq its n/\its.size<=sizeLine/\Vals xs its.toList
def SqT(K:W.Frag)(H:Hp)(a:Addr)(xs:List V):Prop:=
 Rd H a (.tup xs)\/
  ∃(o:Obj)(its:Array Value)(n:Nat),K.lookup a=some o/\o.cls= .type "tuple"/\o.data= .seq its n/\its.size<=sizeLine/\Vals xs its.toList
noncomputable def absV:Value->Option V
 | .none=>some .non
 | .bool b=>some (.bl b)
 | .int i _=>some (.int i)
 | .str x _=>some (.str x)
 | .bytes b _=>some (.byt b)
 | .float b _=>some (.flt b)
 | .ref a=>some (.ref a)
 | .type n=>some (.ty n)
 |_=>none
theorem RelV.abs(r:RelV x u):absV u=some x:=by
 cases x with
 |non=>cases r;rfl
 |bl _=>cases r;rfl
 |int _=>obtain⟨t,rfl⟩:=r;rfl
 |str _=>obtain⟨t,rfl⟩:=r;rfl
 |byt _=>obtain⟨t,rfl⟩:=r;rfl
 |flt _=>obtain⟨t,rfl⟩:=r;rfl
 |ref _=>cases r;rfl
 |ty _=>cases r;rfl
theorem RelV.inj(r:RelV x u)(q:RelV y u):x=y:=bn (r.abs.symm.trans q.abs)
theorem Vals.inj:∀{xs ys:List V}{us:List Value},Vals xs us->Vals ys us->xs=ys
 |_,_,_,.nil,.nil=>rfl
 |_,_,_,.cons r t,.cons r' t'=>by rw[r.inj r',Vals.inj t t']
section
variable {X:Cx}{pins:List (Addr×Obj)}{b:St}{H:Hp}{s:Shared}{a:Addr}{xs ys:List V}
theorem SqL.of{K:W.Frag}(h:H a=some (.lst xs)):SqL K H a xs:=.inl (.inl h)
theorem SqT.of{K:W.Frag}(h:H a=some (.tup xs)):SqT K H a xs:=.inl (.inl h)
theorem Inv.list(I:Inv X pins b H s)(h:SqL X.K H a xs):∃its:List Value,Vals xs its/\PlainL s.heap a its.toArray/\xs.length<=sizeLine:=by
 rcases h with h|⟨o,its,n,j,hc,hd,hs,G,r⟩
 .obtain⟨z,its,n,r,e⟩:=h.ok I.hok;exact⟨its,r,⟨_,n,e,rfl,rfl,rfl⟩,z⟩
 .refine⟨its.toList,r,⟨o,n,I.kIn a o j,hc,hd,by simpa using hs⟩,?_⟩;have e:=r.length;simp only[Array.length_toList]at e;lia
theorem Inv.tuple(I:Inv X pins b H s)(h:SqT X.K H a xs):∃its:List Value,Vals xs its/\IsTup s.heap a its.toArray/\xs.length<=sizeLine:=by
 rcases h with h|⟨o,its,n,j,hc,hs,G,r⟩
 .obtain⟨z,its,r,p⟩:=h.ok I.hok;exact⟨its,r,p,z⟩
 .refine⟨its.toList,r,⟨o,I.kIn a o j,hc,n,by simpa using hs⟩,?_⟩;have e:=r.length;simp only[Array.length_toList]at e;lia
theorem Inv.list_inj(I:Inv X pins b H s)(h:SqL X.K H a xs)(h':SqL X.K H a ys):xs=ys:=by
 obtain⟨its,r,⟨o,n,e,_,_,d⟩,_⟩:=I.list h;obtain⟨its',z,⟨o',n',j,_,_,d'⟩,_⟩:=I.list h';rw[e]at j;cases j;rw[d]at d';injection d' with G _
 have:its=its':=by simpa using bi Array.toList G
 subst this;exact r.inj z
theorem Inv.tuple_inj(I:Inv X pins b H s)(h:SqT X.K H a xs)(h':SqT X.K H a ys):xs=ys:=by
 obtain⟨its,r,⟨o,e,_,n,d⟩,_⟩:=I.tuple h;obtain⟨its',z,⟨o',j,_,n',d'⟩,_⟩:=I.tuple h';rw[e]at j;cases j;rw[d]at d';injection d' with G _
 have:its=its':=by simpa using bi Array.toList G
 subst this;exact r.inj z
end
abbrev Cx.wish(X:Cx)(E:Value->Shared->Prop):Cx:={ X with xe:=E }
abbrev Cx.nox(X:Cx):Cx:=X.wish λ_ _=>False
theorem Cx.Ok.wish{X:Cx}(ok:X.Ok)(E:Value->Shared->Prop):(X.wish E).Ok:=
 ⟨ok.mod,ok.kind,ok.glob,ok.blt,ok.above,ok.inj,ok.has,ok.cab,ok.hd,ok.frames,ok.stk,ok.exf,ok.bs,ok.bsz,ok.noex,ok.exfs,ok.funs,ok.frf⟩
theorem Cx.Ok.unwish{X:Cx}{E:Value->Shared->Prop}(ok:(X.wish E).Ok):X.Ok:=
 ⟨ok.mod,ok.kind,ok.glob,ok.blt,ok.above,ok.inj,ok.has,ok.cab,ok.hd,ok.frames,ok.stk,ok.exf,ok.bs,ok.bsz,ok.noex,ok.exfs,ok.funs,ok.frf⟩
section
variable {X:Cx}{pins:List (Addr×Obj)}{a:St}{H:Hp}{s:Shared}{E:Value->Shared->Prop}
theorem Inv.wish(I:Inv X pins a H s)(E:Value->Shared->Prop):Inv (X.wish E) pins a H s:=⟨I.ok.wish E,I.os,I.bare,I.base,I.loc,I.cell,I.free,I.freeC,I.pin,I.hok,I.len⟩
theorem Inv.unwish(I:Inv (X.wish E) pins a H s):Inv X pins a H s:=⟨I.ok.unwish,I.os,I.bare,I.base,I.loc,I.cell,I.free,I.freeC,I.pin,I.hok,I.len⟩
theorem SP.unwish{D:Ends}(h:SP (X.wish E) pins D f s'):SP X pins D f s':=by
 cases f with
 |next=>obtain⟨j,H',I,q⟩:=h;exact⟨j,H',I.unwish,q⟩
 |brk=>obtain⟨j,H',I,q⟩:=h;exact⟨j,H',I.unwish,q⟩
 |cont=>obtain⟨j,H',I,q⟩:=h;exact⟨j,H',I.unwish,q⟩
 |ret u=>obtain⟨v,j,H',I,r,q⟩:=h;exact⟨v,j,H',I.unwish,r,q⟩
theorem PSs.nox{st:List Stmt}(h:PSs X.nox st t):PSs X st t:=λpins s a H D I hw=>
 dA (h pins s a H D (I.wish _) hw) (λ_ _ q=>q.unwish) λ_ _ z=>False.elim z
end
section
variable {X:Cx}{st:Stmt}{rest:List Stmt}{t u:TS}{e:Expr}{te:TE}{pos:Pos}
def wi3:TS:=λD a H=>D.nx a H
def tSeq(t u:TS):TS:=λD a H=>t { D with nx:=u D } a H
theorem pss_nil:PSs X [] wi3:=λ_ _ a H _ I h=>wpAny_execs_nil ⟨a,H,I,h⟩
theorem zp0(h1:PS X st t)(h2:PSs X rest u):PSs X (st::rest) (tSeq t u):=by
 intro pins s a H D I h;refine wpAny_execs_cons (thn (h1 pins s a H { D with nx:=u D } I h) λf s1 q=>?_);cases f with
 |next=>obtain⟨j,H',z,q⟩:=q;exact h2 pins s1 j H' D z q
 |ret v=>exact q
 |brk=>exact q
 |cont=>exact q
theorem yj9(h1:PS X st t):PSs X [st] t:=by
 intro pins s a H D I h;refine wpAny_execs_cons (thn (h1 pins s a H D I h) λf s1 q=>?_);cases f with
 |next=>exact wpAny_execs_nil q
 |ret v=>exact q
 |brk=>exact q
 |cont=>exact q
theorem Inv.quiet{pins:List (Addr×Obj)}(I:Inv X pins a H s):interactive X.env=false:=by simp[interactive,I.ok.kind]
def wi4(te:TE):TS:=λD a H=>te a H λ_ H1=>D.nx a H1
theorem yi4(z:PE X e te)(hs:swapsWith e none pos.line X.env=pure false:=by rfl):PS X (.Expr e pos) (wi4 te):=by intro pins s a H D I h;exact wpAny_Expr_any (thn (z pins s a H _ I h) λv s1 ⟨x,H1,G,N,j⟩=>⟨a,H1,G,j⟩) I.quiet hs
def tRet(te:TE):TS:=λD a H=>te a H D.rt
theorem zt4(G:PE X e te):PS X (.Return (some e) pos) (tRet te):=by intro pins s a H D I h;exact wpAny_Return_some (thn (G pins s a H _ I h) λv s1 ⟨x,H1,N,j,z⟩=>⟨x,a,H1,N,j,z⟩)
def tIfS(c:TT)(t u:TS):TS:=λD a H=>c a H λb H1=>if b=true then t D a H1 else u D a H1
theorem xf6(hc:PT X c tc)(ha:PSs X a t)(N:PSs X b u):PS X (.If c a b pos) (tIfS tc t u):=by
 intro pins s e H D I h;refine wpAny_If (thn (hc pins s e H _ I h) λd s1 j=>?_);obtain⟨H1,G,z⟩:=j;cases d with
 |true=>exact ha pins s1 e H1 D G z
 |false=>exact N pins s1 e H1 D G z
def wv4:TS:=λ_ _ _=>False
theorem ps_never:PS X st wv4:=λ_ _ _ _ _ _ h=>h.elim
end
abbrev TG:=V->St->Hp->(St->Hp->Prop)->Prop
abbrev TGs:=List V->St->Hp->(St->Hp->Prop)->Prop
def PG(X:Cx)(target:Expr)(t:TG):Prop:=
 ∀(pins:List (Addr×Obj))(s:Shared)(a:St)(H:Hp)(v:V)(u:Value)(Q:St->Hp->Prop),Inv X pins a H s->RelV v u->t v a H Q->
  wpAny (model X.prog X.w) X.A (assign target X.env u) (λ_ s'=>∃σ' H',Inv X pins σ' H' s'/\Q σ' H') X.xe s
def PGs(X:Cx)(ts:List Expr)(t:TGs):Prop:=
 ∀(pins:List (Addr×Obj))(s:Shared)(a:St)(H:Hp)(vs:List V)(us:List Value)(Q:St->Hp->Prop),Inv X pins a H s->Vals vs us->t vs a H Q->
  wpAny (model X.prog X.w) X.A (assignInOrder ((assignEach ts X.env).map (·.2)) us) (λ_ s'=>∃σ' H',Inv X pins σ' H' s'/\Q σ' H') X.xe s
abbrev TSet:=V->V->V->Hp->(Hp->Prop)->Prop
def PSet(X:Cx)(t:TSet):Prop:=
 ∀(pins:List (Addr×Obj))(s:Shared)(a:St)(H:Hp)(o i v:V)(ov iv u:Value)(Q:Hp->Prop),Inv X pins a H s->RelV o ov->RelV i iv->RelV v u->t o i v H Q->
  wpAny (model X.prog X.w) X.A (setItem ov iv u) (λ_ s'=>∃H',Inv X pins a H' s'/\Q H') X.xe s
abbrev TIp:=V->V->Hp->VK->Prop
def PIp(X:Cx)(op:Operator)(t:TIp):Prop:=
 ∀(pins:List (Addr×Obj))(s:Shared)(a:St)(H:Hp)(x y:V)(v u:Value)(Q:VK),Inv X pins a H s->RelV x v->RelV y u->t x y H Q->
  wpAny (model X.prog X.w) X.A (inplaceOp op v u) (EP X pins a Q) X.xe s
section
variable {X:Cx}{pos:Pos}
def G6(i:Nat):TG:=λv a H Q=>Q (a.set i (some v)) H
theorem w4{i:Nat}(G:X.N.Nodup)(hi:X.N[i]? =some x)(j:Loc X.env.scope x)(z:X.fn x=true\/X.env.scope.names.lookup x=some .local:=by first|exact .inl rfl|exact .inr rfl|assumption):PG X (.Name x pos) (G6 i):=by intro pins s a H v u Q I r h;exact wpAny_assign_Name (M4 I G hi j r (λs' O=>⟨_,H,O,h⟩) z)
def gNil:TGs:=λvs a H Q=>vs=[]/\Q a H
def wo0(t:TG)(u:TGs):TGs:=λvs a H Q=>∃v r,vs=v::r/\t v a H λσ' H'=>u r σ' H' Q
theorem U8:PGs X [] gNil:=by intro pins s a H vs us Q I r h;obtain⟨e,h⟩:=h;subst e;cases r;exact assignInOrder_nil ⟨a,H,I,h⟩
theorem m9(h1:PG X e t)(h2:PGs X es u)
  (hs:(assignEach (e::es) X.env).map (·.2)=assign e X.env::(assignEach es X.env).map (·.2):=by rfl):PGs X (e::es) (wo0 t u):=by
 intro pins s a H vs us Q I r h;obtain⟨v,U,e1,h⟩:=h;subst e1;cases r with
 |cons r G=>rw[hs];refine assignInOrder_cons (thn (h1 pins s a H _ _ _ I r h) λ_ s1 j=>?_);obtain⟨z,H1,O,N⟩:=j;exact h2 pins s1 z H1 _ _ Q O G N
def gTup(K:W.Frag)(n:Nat)(t:TGs):TG:=λv b H Q=>∃a xs,v= .ref a/\SqT K H a xs/\xs.length=n/\t xs b H Q
theorem L0{k:Nat}{n:Nat}(hc:X.calm=true)(h:PGs X es t)
  (hn:(assignEach es X.env).length=n:=by rfl) (j:(assignEach es X.env).findIdx? (·.1)=none:=by rfl):PG X (.Tuple es k pos) (gTup X.K n t):=by
 intro pins s c H v u Q I r hw;obtain⟨a,xs,e1,N,O,hw⟩:=hw;subst e1;cases r;obtain⟨its,z,ht,Y⟩:=I.tuple N;refine assign_Tuple_tuple (I.ok.hd hc) ht (by simp[hn,<-O,z.length]) j λh' G=>?_;have U:Inv X pins c H { s with heap:=h' }:=I.kept (t':=s.toks) λb o e=>G b o (bv (aS e)) e;exact h pins _ c H xs _ Q U (by simpa using z) hw
def gSub(to ti:TE)(t:TSet):TG:=λv a H Q=>to a H λo H1=>ti a H1 λi H2=>t o i v H2 λH3=>Q a H3
theorem zz8(ho:PE X o to)(hi:PE X i N)(hs:PSet X t)
  (ha:∀v,assign (.Subscript o i pos) X.env v=(do
   let z ← holding [v] (eval o X.env)
   let G ← holding [v,z] (eval i X.env)
   standAt pos
   holding [v,z,G] (setItem z G v)
   release [v,z,G] []):=by intro _;rfl):PG X (.Subscript o i pos) (gSub to N t):=by
 intro pins s a H v u Q I r h;rw[ha];refine aF (cS (thn (ho pins s a H _ I h) λz s1 j=>?_));obtain⟨x,H1,I1,O,Z⟩:=j;refine aF (cS (thn (hi pins s1 a H1 _ I1 Z) λG s2 j=>?_));obtain⟨y,H2,I2,r2,Y⟩:=j;refine aF (wpAny_standAt (aF (cS (thn (hs pins s2 a H2 x y v z G u _ I2 O r2 r Y) λ_ s3 j=>?_))));obtain⟨H3,I3,U⟩:=j;exact wpAny_release ⟨a,H3,I3,U⟩
def tAsg(te:TE)(g:TG):TS:=λD a H=>te a H λx H1=>g x a H1 D.nx
theorem M9(O:PE X e te)(N:PG X tg g)(hs:swapsWithSole [tg] e pos.line X.env=pure false:=by rfl)(hw:swappedStores [tg] e X.env=pure none:=by rfl)
  (h1:(assignEach [tg] X.env).map (·.2)=[assign tg X.env]:=by rfl):PS X (.Assign [tg] e pos) (tAsg te g):=by
 intro pins s a H D I h;refine wpAny_Assign_stores (thn (O pins s a H _ I h) λv s1 j=>?_) hs hw;obtain⟨x,H1,U,z,G⟩:=j;rw[h1];exact thn (N pins s1 a H1 x v _ U z G) λ_ s2 q=>q
theorem yi3{i:Nat}{pos':Pos}(Z:X.N.Nodup)(hi:X.N[i]? =some x)(O:Loc X.env.scope x)(Y:PE X e te)(hs:swapsWith e (some (.Name x pos')) pos.line X.env=pure false:=by rfl)(U:X.fn x=true\/X.env.scope.names.lookup x=some .local:=by first|exact .inl rfl|exact .inr rfl|assumption):
  PS X (.Assign [.Name x pos'] e pos) (tAsg te (G6 i)):=by
 intro pins s a H D I h;refine wpAny_Assign_Name (thn (Y pins s a H _ I h) λv s1 j=>?_) hs;obtain⟨y,H1,I1,z,G⟩:=j;exact M4 I1 Z hi O z (λs2 I2=>⟨_,H1,I2,G⟩) U
def tPar(i j:Nat)(ta:TA):TS:=λD a H=>ta a H λvs H1=>∃v w,vs=[v,w]/\D.nx ((a.set i (some v)).set j (some w)) H1
theorem wt2{i j:Nat}{kt k2 z}(hc:X.calm=true)(hN:X.N.Nodup)(hi:X.N[i]? =some x)(hj:X.N[j]? =some y)(a2:i≠j)
  (hx:X.env.scope.names.lookup x=some .local) (hy:X.env.scope.names.lookup y=some .local) (ha:PA X [a,b] ta)
  (hw:swappedStores [.Tuple [.Name x px,.Name y py] kt pt] (.Tuple [a,b] k2 z) X.env=pure (some [x,y]))
  (hs:swapsWithSole [.Tuple [.Name x px,.Name y py] kt pt] (.Tuple [a,b] k2 z) pos.line X.env=pure false:=by rfl):
  PS X (.Assign [.Tuple [.Name x px,.Name y py] kt pt] (.Tuple [a,b] k2 z) pos) (tPar i j ta):=by
 intro pins s c H D I h;rw[exec_Assign_arm];refine aF (wpAny_standAt ?_);rw[hs];refine aF (aH ?_);rw[aI aC];refine aF (Tuple_ (thn (ha _ pins s c H _ I h) λus s1 U=>?_));obtain⟨vs,H1,I1,r1,Z⟩:=U;obtain⟨v,w,e1,Z⟩:=Z;subst e1;obtain⟨O,G,rfl,rv,Y⟩:∃O G,us=[O,G]/\RelV v O/\RelV w G:=by
  cases r1 with
  |cons p q=>
   cases q with
   |cons p' q'=>cases q';exact⟨_,_,rfl,p,p'⟩
 refine bY ?_ (by show 2<=sizeLine;decide);have I2:Inv X pins c H1 { s1 with heap:=s1.heap.push { cls:=.type "tuple",data:=.seq [O,G].toArray } }:=I1.kept (t':=s1.toks) λb o e=>aG _ e;rw[hw];refine aF (aH ?_);show wpAny (model X.prog X.w) X.A (do rule "assign.swapped-stores";let items ← unpackItems (.ref s1.heap.objs.size) 2 none;assignInOrder [λv=>bindName X.env y v,λv=>bindName X.env x v] items.reverse;pure Flow.next) _ _ _;refine aF (cB (aF (unpackItems_tuple (items:=#[O,G]) (I.ok.hd hc) (IsTup.new s1.heap _) λh' a1=>?_)));have I3:=I2.kept (h':=h') (t':=s1.toks) λb o e=>a1 b o (bv (aS e)) e;show wpAny _ _ (assignInOrder [λv=>bindName X.env y v,λv=>bindName X.env x v] [G,O] >>= λ_=>pure Flow.next) _ _ _;refine aF (assignInOrder_cons (wpAny_bindName (M4 I3 hN hj (.inl hy) Y (λs2 I4=>?_) (.inr hy))));refine assignInOrder_cons (wpAny_bindName (M4 I4 hN hi (.inl hx) rv (λs3 I5=>assignInOrder_nil (aH ?_)) (.inr hx)));rw[set_comm _ _ (dU a2)]at I5;exact⟨_,H1,I5,Z⟩
def tAug(i:Nat)(te:TE)(ti:TIp):TS:=λD a H=>∃x,a[i]? =some (some x)/\te a H λy H1=>ti x y H1 λz H2=>D.nx (a.set i (some z)) H2
theorem xn6{i:Nat}{pos':Pos}(hN:X.N.Nodup)(hi:X.N[i]? =some x)(hx:Loc X.env.scope x)(he:PE X e te)(ho:PIp X op ti)(hf:X.fn x=true\/X.env.scope.names.lookup x=some .local:=by first|exact .inl rfl|exact .inr rfl|assumption):
  PS X (.AugAssign (.Name x pos') op e pos) (tAug i te ti):=by
 intro pins s a H D I h;obtain⟨v,e1,h⟩:=h;obtain⟨m,hn,hl⟩:=I.loc;have Z:Vis X.env.scope x:=by rcases hx with k|k;exact .inl k;exact .inr (.inl k)
 obtain⟨u,r,l⟩:=hl i x v hi e1 Z;refine wpAny_AugAssign_Name ?_;have go:wpAny (model X.prog X.w) X.A (eval e X.env) (λw Y=>wpAny (model X.prog X.w) X.A (inplaceOp op u w) (λr U=>wpAny (model X.prog X.w) X.A (storeName X.env x r) (λ_=>SP X pins D .next) X.xe U) X.xe Y) X.xe s:=by refine thn (he pins s a H _ I h) λw s1 j=>?_;obtain⟨y,H1,I1,r1,q1⟩:=j;refine thn (ho pins s1 a H1 v y u w _ I1 r r1 q1) λz s2 j=>?_;obtain⟨zv,H2,I2,r2,q2⟩:=j;exact M4 I2 hN hi hx r2 (λs3 I3=>⟨_,H2,I3,q2⟩) hf
 rcases l with⟨G,hm⟩|⟨G,c,hc,O⟩
 .exact wpAny_loadName_local I.ok.kind G hn hm go
 .rcases G with G|G
  .exact wpAny_loadName_cell I.ok.kind G hc O go
  .rcases hx with k|k
   .have:X.env.scope.names.lookup x=some .free:=G;rw[k]at this;cases this
   .have:X.env.scope.names.lookup x=some .free:=G;rw[k]at this;cases this
def ipI(f:Int->Int->Int):TIp:=λx y H Q=>∃i j,x= .int i/\y= .int j/\Q (.int (f i j)) H
theorem wp9:PIp X .Add (ipI λi j=>i+j):=by intro pins s a H x y v u Q I z r2 h;obtain⟨i,j,e1,e2,q⟩:=h;subst e1;subst e2;obtain⟨t,rfl⟩:=z;obtain⟨t',rfl⟩:=r2;exact iadd_int ⟨.int _,H,I.tok _,⟨_,rfl⟩,q⟩
theorem wp8:PIp X .Sub (ipI λi j=>i-j):=by intro pins s a H x y v u Q I z r2 h;obtain⟨i,j,e1,e2,q⟩:=h;subst e1;subst e2;obtain⟨t,rfl⟩:=z;obtain⟨t',rfl⟩:=r2;exact isub_int ⟨.int _,H,I.tok _,⟨_,rfl⟩,q⟩
def wv3(c:TT)(tb:TS):TS:=λD a H=>∃W:Nat->St->Hp->Prop,(∃m,W m a H)/\∀m a H,W m a H->
 c a H λb H1=>if b=true then ∃N:St->Hp->Prop,(∀σ' H',N σ' H'->∃m',m'<m/\W m' σ' H')/\tb { D with nx:=N,ct:=N,bk:=D.nx } a H1 else D.nx a H1
theorem xv6{body:List Stmt}(hp:PassesOwn (model X.prog X.w) X.A X.env X.xe)(hc:PT X c tc)(hb:PSs X body tb):PS X (.While c body [] pos) (wv3 tc tb):=by
 intro pins s a H D I h;obtain⟨W,⟨m0,w0⟩,turn⟩:=h;refine wpAny_While (codeAny_whileLoop (λn s'=>∃G H',Inv X pins G H' s'/\W n G H') ?_ m0 ⟨a,H,I,w0⟩);rintro n s1 ⟨z,H1,I1,w1⟩;refine dn hp (thn (hc pins s1 z H1 _ I1 (turn n z H1 w1)) λb s2 O=>?_);obtain⟨H2,I2,Z⟩:=O;cases b with
 |true=>
  obtain⟨N,hN,Z⟩:=Z;rw[aJ rfl];refine dn hp (thn (hb pins s2 z H2 _ I2 Z) λf s3 Y=>?_);cases f with
  |next=>obtain⟨j,U,I3,n3⟩:=Y;obtain⟨m',hm,w3⟩:=hN j U n3;exact⟨m',hm,j,U,I3,w3⟩
  |cont=>obtain⟨j,U,I3,n3⟩:=Y;obtain⟨m',hm,w3⟩:=hN j U n3;exact⟨m',hm,j,U,I3,w3⟩
  |brk=>exact Y
  |ret v=>exact Y
 |false=>rw[aI bf];exact wpAny_execs_nil ⟨z,H2,I2,Z⟩
end
structure It where
 go:Nat->Hp->Prop
 yld:Nat->Hp->V->Hp->Prop
 stop:Nat->Hp->Prop
def FpOk(X:Cx)(pins:List (Addr×Obj))(H:Hp)(b:Addr):Prop:=
 H b=none/\b≠X.env.locals/\b∉X.fs/\(b∈X.ex\/X.s₀.heap.objs.size<=b)/\(∀x c,X.env.cells.lookup x=some c->c≠b)/\∀p∈X.pn++pins,p.1≠b
theorem Inv.fpOk{X:Cx}{pins:List (Addr×Obj)}(I:Inv X pins a H s)(j:s.heap.objs.size<=b)(hn:H' b=none):FpOk X pins H' b:=by
 refine⟨hn,cM (bd I.lt j),I.nofs j,.inr (bE I.sz j),λx c e z=>?_,λp hp z=>?_⟩
 .obtain⟨v,q⟩:=I.cell x c e;exact aZ (bd q.lt (by rw[z];exact j)) (bP _)
 .exact aZ (bd (aS (I.pin p hp).1) (by rw[z];exact j)) (bP _)
structure TurnC(cx:Cx->Prop)(P:Program)(w:World)(K:W.Frag)(tg:Expr)(J:It)(fp:List Addr)(it:Addr)(tn:Nat->Heap->Prop):Prop where
 mem:it∈fp
 obj:∀i h,tn i h->∀b∈fp,∃o,h.get? b=some o/\∀v,o.data≠ .cell v
 keep:∀i h h',tn i h->(∀b∈fp,∀o,h.get? b=some o->h'.get? b=some o)->tn i h'
 item:∀(X:Cx),X.prog=P->X.w=w->X.K=K->cx X->∀(i:Nat)(pins:List (Addr×Obj))(s:Shared)(σ:St)(H:Hp)(E:Value->Shared->Prop),Inv X pins σ H s->(∀b∈fp,FpOk X pins H b)->tn i s.heap->J.go i H->
  wpAny (model P w) X.A (pyNext (.ref it)) (λr s1=>∃u,r=some u/\
   wpAny (model P w) X.A (letOwnedTupleGo tg (.ref it) u) (λ_ s2=>∃x H',Inv X pins σ H' s2/\RelV x u/\J.yld i H x H'/\tn (i+1) s2.heap/\∀b∈fp,H' b=none) E s1) E s
 done:∀(X:Cx),X.prog=P->X.w=w->X.K=K->cx X->∀(i:Nat)(pins:List (Addr×Obj))(s:Shared)(σ:St)(H:Hp)(E:Value->Shared->Prop),Inv X pins σ H s->(∀b∈fp,FpOk X pins H b)->tn i s.heap->J.stop i H->
  wpAny (model P w) X.A (pyNext (.ref it)) (λr s1=>r=none/\Inv X pins σ H s1) E s
 self:∀(A:Around)(i:Nat)(s:Shared)(Q:Value->Shared->Prop)(E:Value->Shared->Prop),tn i s.heap->Q (.ref it) s->wpAny (model P w) A (pyIter (.ref it)) Q E s
abbrev Turn(P:Program)(w:World)(K:W.Frag)(tg:Expr)(J:It)(fp:List Addr)(it:Addr)(tn:Nat->Heap->Prop):Prop:=TurnC (λX=>X.calm=true) P w K tg J fp it tn
abbrev TI:=St->Hp->(It->Hp->Prop)->Prop
def PIE(X:Cx)(pins:List (Addr×Obj))(a:St)(tg:Expr)(R:It->Hp->Prop)(itv:Value)(s2:Shared):Prop:=
 ∃(it:Addr)(fp:List Addr)(tn:Nat->Heap->Prop)(J:It)(H':Hp),itv= .ref it/\Inv X pins a H' s2/\Turn X.prog X.w X.K tg J fp it tn/\tn 0 s2.heap/\(∀b∈fp,FpOk X pins H' b)/\R J H'
def PI(X:Cx)(tg iter:Expr)(wi:TI):Prop:=
 ∀(pins:List (Addr×Obj))(s:Shared)(a:St)(H:Hp)(R:It->Hp->Prop),Inv X pins a H s->wi a H R->
  wpAny (model X.prog X.w) X.A (eval iter X.env) (λv s1=>wpAny (model X.prog X.w) X.A (pyIter v) (PIE X pins a tg R) X.xe s1) X.xe s
theorem xq1{E:Value->Shared->Prop}{Q:Unit->Shared->Prop}(z:s.heap.get? it=some o)(hc:o.cls= .type n)(hd:o.data= .fields vs)
  (hn:["enumerate","zip","dict_itemiterator","dict_reverseitemiterator","odict_iterator","itertools.zip_longest","itertools.pairwise"].contains n=false) (j:Q () s):wpAny M A (letOwnedTupleGo tg (.ref it) u) Q E s:=by
 unfold letOwnedTupleGo;cases tg <;> first
  |exact aH j
  | (cases u <;> first
    |exact aH j
    | (refine aF (wpAny_load z ?_)
       rw[hc,hd];show wpAny M A (if (["enumerate","zip","dict_itemiterator","dict_reverseitemiterator","odict_iterator","itertools.zip_longest","itertools.pairwise"].contains n&&vs[0]? ==some (rawInt _))=true then _ else _) Q E s;rw[aI (by intro h;rw[hn,Bool.false_and]at h;cases h)];exact aH j))
noncomputable def Itl(K:W.Frag)(a:Addr):It:=
 ⟨λi H=>∃xs x,SqL K H a xs/\xs[i]? =some x,λi H x H'=>H'=H/\∀xs,SqL K H a xs->xs[i]? =some x,λi H=>∃xs,SqL K H a xs/\xs.length<=i⟩
noncomputable def Itr(lo:Int)(n:Nat):It:=⟨λi _=>i<n,λi H x H'=>H'=H/\x= .int (lo+i),λi _=>n<=i⟩
theorem yk2{P:Program}{w:World}{K:W.Frag}{tg:Expr}(a it:Addr):Turn P w K tg (Itl K a) [it] it (λi h=>h.IsListIter it a i) where
 mem:=by simp
 obj:=λi h st b j=>by
  have e:b=it:=by simpa using j
  subst e;obtain⟨o,e,c,d⟩:=st;exact⟨o,e,λv z=>by rw[d]at z;cases z⟩
 keep:=λi h h' st k=>st.at λo e=>k it aD o e
 item:=by intro X Z hw hK hc i pins s f H E I N st Y;subst Z hw hK;obtain⟨xs,x,G,U⟩:=Y;obtain⟨its,O,p,hz⟩:=I.list G;obtain⟨u,hu,ru⟩:=O.get U;obtain⟨f0,f1,f2,f3,f4,f5⟩:=N it aD;refine wpAny_pyNext_list_item st p.isList (x:=u) (by simpa using hu) λh' st' sb=>?_;have I1:Inv X pins f H { s with heap:=h' }:=I.turned (t':=s.toks) (λb o j e=>(sb.2 b j).trans e) f0 f1 f3 f4 f5;obtain⟨o,e,c,d⟩:=id st';exact⟨u,rfl,xq1 (s:={ s with heap:=h' }) e c d aC ⟨x,H,I1,ru,⟨rfl,λys hy=>by rw[I.list_inj hy G];exact U⟩,st',λb j=>(N b j).1⟩⟩
 done:=by intro X Z hw hK hc i pins s f H E I N st Y;subst Z hw hK;obtain⟨xs,G,U⟩:=Y;obtain⟨its,O,p,hz⟩:=I.list G;obtain⟨f0,f1,f2,f3,f4,f5⟩:=N it aD;have hl:=O.length;exact wpAny_pyNext_list_end (I.ok.hd hc) st p.isList (by simp;lia) λh' eb=>⟨rfl,I.turned (t':=s.toks) (λb o j e=>eb b o j e) f0 f1 f3 f4 f5⟩
 self:=λ_ _ _ _ _ st h=>wpAny_pyIter_listiter st h
theorem yr6{P:Program}{w:World}{K:PySem.W.Frag}{tg:Expr}(it:Addr)(lo:Int)(n:Nat):Turn P w K tg (Itr lo n) [it] it (λi h=>IsRangeIter h it (lo+(i:Nat)*1) ((n:Int)-(i:Nat)) 1) where
 mem:=by simp
 obj:=λi h st b j=>by
  have e:b=it:=by simpa using j
  subst e;exact⟨_,st,λv z=>by have z':Data.fields _=Data.cell v:=z;cases z'⟩
 keep:=λi h h' st k=>k it aD _ st
 item:=by intro X O hw U hc i pins s a H E I G st N;subst O hw U;obtain⟨f0,f1,f2,f3,Z,Y⟩:=G it aD;have W:=Walks.range (prog:=X.prog) (w:=X.w) (I.ok.hd hc) it lo 1 n;refine W.item i s _ _ N st λv h' tk hv st' kk=>?_;obtain⟨t,rfl⟩:=hv;have I1:Inv X pins a H { s with heap:=h',toks:=tk }:=I.turned (λb o j e=>kk b o (by simpa using j) e) f0 f1 f3 Z Y;refine⟨_,rfl,xq1 (s:={ s with heap:=h',toks:=tk }) (n:="range_iterator") st' rfl rfl aC ⟨.int (lo+i),H,I1,⟨t,?_⟩,⟨rfl,rfl⟩,st',λb j=>(G b j).1⟩⟩;rw[Int.mul_one]
 done:=by intro X O hw U hc i pins s a H E I G st N;subst O hw U;obtain⟨f0,f1,f2,f3,Z,Y⟩:=G it aD;exact wpAny_pyNext_range_end (I.ok.hd hc) st (by have:n<=i:=N;lia) λh' eb=>⟨rfl,I.turned (t':=s.toks) (λb o j e=>eb b o j e) f0 f1 f3 Z Y⟩
 self:=λ_ _ _ _ _ st h=>wpAny_pyIter_rangeiter st h
section
variable {X:Cx}{tg:Expr}
def we0(K:W.Frag)(tl:TE):TI:=λb H R=>tl b H λx H1=>∃a,x= .ref a/\(∃xs,SqL K H1 a xs)/\R (Itl K a) H1
theorem xe2{tl:TE}(U:PE X l tl):PI X tg l (we0 X.K tl):=by
 intro pins s c H R I h;refine thn (U pins s c H _ I h) λv s1 j=>?_;obtain⟨x,H1,z,G,N⟩:=j;obtain⟨a,e,⟨xs,O⟩,q⟩:=N;subst e;cases G;obtain⟨its,Z,p,hz⟩:=z.list O;refine dZ p.isList ?_;refine⟨s1.heap.objs.size,[s1.heap.objs.size],_,_,H1,rfl,z.kept (t':=s1.toks) λb o e=>aG _ e,yk2 a _,⟨_,aX _ rfl,rfl,rfl⟩,λb Y=>?_,q⟩;have e:b=s1.heap.objs.size:=by simpa using Y
 subst e;exact z.fpOk (aN _) (z.hok.fresh (aN _))
theorem yw5{pins:List (Addr×Obj)}{R:It->Hp->Prop}{E:Value->Shared->Prop}{lo hi:Int}{tk:Nat}(I:Inv X pins a H s)(h1:-(2^62)<=lo)(h2:lo<2^62)(N:-(2^62)<=hi)(G:hi<2^62)
  (q:R (Itr lo (hi-lo).toNat) H):wpAny (model X.prog X.w) X.A (pyIter (.ref s.heap.objs.size)) (PIE X pins a tg R) E { s with heap:=s.heap.push { cls:=.type "range",data:=.fields #[.int lo t,.int hi u,.int 1 v] },toks:=tk }:=by
 refine wpAny_pyIter_range (IsRange.new ..) (small_one h1 h2 N G) ?_;have j:Inv X pins a H { s with heap:=s.heap.push { cls:=.type "range",data:=.fields #[.int lo t,.int hi u,.int 1 v] },toks:=tk }:=I.kept λb o e=>aG _ e;refine⟨(s.heap.push { cls:=.type "range",data:=.fields #[.int lo t,.int hi u,.int 1 v] }).objs.size,[(s.heap.push { cls:=.type "range",data:=.fields #[.int lo t,.int hi u,.int 1 v] }).objs.size],_,_,H,rfl,
  j.kept (t':=tk) λb o e=>aG _ e,yr6 _ lo (hi-lo).toNat,?_,λb z=>?_,q⟩
 .have e1:lo+((0:Nat):Int)*1=lo:=by simp
  have e2:(((hi-lo).toNat:Nat):Int)-((0:Nat):Int)=Builtin.Range.rangeSize lo hi 1:=by rw[rangeSize_one];split <;> lia
  show IsRangeIter _ _ (lo+((0:Nat):Int)*1) ((((hi-lo).toNat:Nat):Int)-((0:Nat):Int)) 1;rw[e1,e2];exact aX _ rfl
 .have e:b=(s.heap.push { cls:=.type "range",data:=.fields #[.int lo t,.int hi u,.int 1 v] }).objs.size:=by simpa using z
  subst e;exact j.fpOk (aN _) (j.hok.fresh (aN _))
def wf9(ta:TA):TI:=λa H R=>ta a H λvs H1=>∃j:Int,vs=[.int j]/\ -(2^62)<=j/\j<2^62/\R (Itr 0 j.toNat) H1
def wf8(ta:TA):TI:=λa H R=>ta a H λvs H1=>∃i j:Int,vs=[.int i,.int j]/\(-(2^62)<=i/\i<2^62/\ -(2^62)<=j/\j<2^62)/\R (Itr i (j-i).toNat) H1
theorem yh3{p pos:Pos}(Y:Gl X "range")(hm:X.mg "range"=none)(ha:PA X [a] ta)(hs:starEach [a] X.env=[(false,eval a X.env)]:=by rfl):PI X tg (.Call (.Name "range" p) [a] [] pos) (wf9 ta):=by
 intro pins s b H R I h;refine Call_ (O4 I Y hm boot_range (bQ (thn (ha pos pins s b H _ I h) λus s1 z=>?_) hs rfl));obtain⟨vs,H1,Z,O,G⟩:=z;obtain⟨j,e,G,U,q⟩:=G;subst e;cases O with
 |cons r N=>cases N;obtain⟨t,rfl⟩:=r;exact call_range_1 (yw5 Z aA aA G U (by simpa using q))
theorem yh2{p pos:Pos}(hg:Gl X "range")(hm:X.mg "range"=none)(ha:PA X [a,b] ta)(hs:starEach [a,b] X.env=[(false,eval a X.env),(false,eval b X.env)]:=by rfl)(z:starEach [b] X.env=[(false,eval b X.env)]:=by rfl):
  PI X tg (.Call (.Name "range" p) [a,b] [] pos) (wf8 ta):=by
 intro pins s c H R I h;refine Call_ (O4 I hg hm boot_range (bQ (thn (ha pos pins s c H _ I h) λus s1 G=>?_) (by rw[hs,z]) (by rw[z];rfl)));obtain⟨vs,H1,I1,U,O⟩:=G;obtain⟨i,j,e,⟨O,q2,q3,Z⟩,q⟩:=O;subst e;cases U with
 |cons r N=>
  cases N with
  |cons Y N=>cases N;obtain⟨t,rfl⟩:=r;obtain⟨t',rfl⟩:=Y;exact call_range_2 (yw5 I1 O q2 q3 Z q)
def tFor(wi:TI)(g:TG)(tb:TS):TS:=λD a H=>wi a H λJ H1=>∃W:Nat->Nat->St->Hp->Prop,(∃m,W 0 m a H1)/\∀i m a H,W i m a H->
 (J.stop i H/\D.nx a H)\/(J.go i H/\∃N:St->Hp->Prop,(∀σ' H',N σ' H'->∃m',m'<m/\W (i+1) m' σ' H')/\∀x H',J.yld i H x H'->g x a H' λσ2 H2=>tb { D with nx:=N,ct:=N,bk:=D.nx } σ2 H2)
noncomputable def zi6(fp:List Addr)(h:Heap):List (Addr×Obj):=fp.filterMap λb=>(h.get? b).map λo=>(b,o)
theorem P2(j:b∈fp)(e:h.get? b=some o):(b,o)∈zi6 fp h:=List.mem_filterMap.mpr ⟨b,j,by rw[e];rfl⟩
theorem yg9{p:Addr×Obj}(hp:p∈zi6 fp h):p.1∈fp/\h.get? p.1=some p.2:=by
 obtain⟨b,j,e⟩:=List.mem_filterMap.mp hp;cases q:h.get? b with
 |none=>rw[q]at e;cases e
 |some o=>rw[q]at e;have z:(b,o)=p:=bn e;subst z;exact⟨j,q⟩
theorem Inv.pinned{pins:List (Addr×Obj)}(I:Inv X pins a H s)(O:∀b∈fp,FpOk X pins H b)(N:∀b∈fp,∃o,s.heap.get? b=some o/\∀v,o.data≠ .cell v):Inv X (pins++zi6 fp s.heap) a H s:=
 I.pins_of λp hp=>(bA.mp hp).elim (λz=>I.pin p (bD _ z)) λz=>by obtain⟨j,e⟩:=yg9 z;obtain⟨Z,Y,U,_⟩:=O p.1 j;obtain⟨o,G,d⟩:=N p.1 j;rw[e]at G;cases G;exact⟨e,Z,Y,U,d⟩
theorem Inv.unpinned{pins pl:List (Addr×Obj)}(I:Inv X (pins++pl) a H s):Inv X pins a H s:=I.pins_of λp hp=>I.pin p (bD _ (dS _ hp))
theorem xn5{iter:Expr}{body:List Stmt}{pos:Pos}(hp:PassesOwn (model X.prog X.w) X.A X.env X.xe)(hc:X.calm=true)(hi:PI X tg iter wi)(hg:PG X tg g)(Y:PSs X body tb)
  (hs:∀x,foldedSetIterable iter X.env x=pure x:=by intro _;rfl):PS X (.For tg iter body [] pos) (tFor wi g tb):=by
 intro pins s a H D I h;refine wpAny_For (thn (hi pins s a H _ I h) λv s1 h1=>thn h1 λa8 s2 h2=>?_) hs;obtain⟨it,fp,tn,J,H2,e,I2,T,a5,f2,W,⟨m0,w0⟩,turn⟩:=h2;subst e;have O:∀{H':Hp},(∀b∈fp,H' b=none)->∀b∈fp,FpOk X pins H' b:=λhn b Y=>⟨hn b Y,(f2 b Y).2⟩;refine codeAny_forLoop_any (λn s'=>∃i G H',Inv X pins G H' s'/\tn i s'.heap/\(∀b∈fp,H' b=none)/\W i n G H') ?_ m0 ⟨0,a,H2,I2,a5,λb Y=>(f2 b Y).1,w0⟩;rintro n s3 ⟨i,z,H3,I3,a2,a3,w3⟩;rcases turn i n z H3 w3 with⟨stop,qn⟩|⟨go,N,hN,step⟩
 .refine dn hp (thn (T.done X rfl rfl rfl hc i pins s3 z H3 X.xe I3 (O a3) a2 stop) λr s4 ⟨hr,I4⟩=>?_);subst hr;exact wpAny_execs_nil ⟨z,H3,I4,qn⟩
 .refine dn hp (thn (T.item X rfl rfl rfl hc i pins s3 z H3 X.xe I3 (O a3) a2 go) λr s4 ⟨u,hr,h4⟩=>?_);subst hr;refine dn hp (thn h4 λ_ s5 U=>?_);obtain⟨x,H5,I5,r5,y5,a1,a6⟩:=U;have a7:=I5.pinned (O a6) (T.obj _ _ a1);refine dn hp (thn (hg _ s5 z H5 x u _ a7 r5 (step x H5 y5)) λ_ s6 U=>?_);obtain⟨a4,H6,I6,q6⟩:=U;refine dn hp (thn (Y _ s6 a4 H6 _ I6 q6) λf s7 q7=>?_);have again:∀{j:St}{H7:Hp},Inv X (pins++zi6 fp s5.heap) j H7 s7->N j H7->∃m,m<n/\∃i G H',Inv X pins G H' s7/\tn i s7.heap/\(∀b∈fp,H' b=none)/\W i m G H':=λ{j H7} Z n7=>by obtain⟨m',hm,w7⟩:=hN j H7 n7;refine⟨m',hm,i+1,j,H7,Z.unpinned,T.keep _ _ _ a1 λb Y o e=>(Z.pin (b,o) (bD _ (bD _ (P2 Y e)))).1,λb Y=>?_,w7⟩;obtain⟨o,e,d⟩:=T.obj _ _ a1 b Y;exact(Z.pin (b,o) (bD _ (bD _ (P2 Y e)))).2.1
  cases f with
  |next=>obtain⟨j,H7,Z,n7⟩:=q7;exact again Z n7
  |cont=>obtain⟨j,H7,Z,n7⟩:=q7;exact again Z n7
  |brk=>obtain⟨j,H7,Z,q7⟩:=q7;exact⟨j,H7,Z.unpinned,q7⟩
  |ret v=>obtain⟨x7,j,H7,Z,r7,q7⟩:=q7;exact⟨x7,j,H7,Z.unpinned,r7,q7⟩
end
abbrev R2:=V->V->Hp->VK->Prop
def OpR(X:Cx)(f:Value->Value->Sem Value)(r:R2):Prop:=
 ∀(pins:List (Addr×Obj))(s:Shared)(a:St)(H:Hp)(x y:V)(v u:Value)(Q:VK),Inv X pins a H s->RelV x v->RelV y u->r x y H Q->
  wpAny (model X.prog X.w) X.A (f v u) (EP X pins a Q) X.xe s
def UnR(X:Cx)(f:Value->Sem Value)(r:V->Hp->VK->Prop):Prop:=
 ∀(pins:List (Addr×Obj))(s:Shared)(a:St)(H:Hp)(x:V)(v:Value)(Q:VK),Inv X pins a H s->RelV x v->r x H Q->
  wpAny (model X.prog X.w) X.A (f v) (EP X pins a Q) X.xe s
def J8(X:Cx)(f:Value)(r:List V->Hp->VK->Prop):Prop:=
 ∀(pins:List (Addr×Obj))(s:Shared)(a:St)(H:Hp)(xs:List V)(us:List Value)(Q:VK),Inv X pins a H s->Vals xs us->r xs H Q->
  wpAny (model X.prog X.w) X.A (call f us) (EP X pins a Q) X.xe s
def TruR(X:Cx)(r:V->Hp->(Bool->Hp->Prop)->Prop):Prop:=
 ∀(pins:List (Addr×Obj))(s:Shared)(a:St)(H:Hp)(x:V)(v:Value)(Q:Bool->Hp->Prop),Inv X pins a H s->RelV x v->r x H Q->
  wpAny (model X.prog X.w) X.A (truthy v) (TP X pins a Q) X.xe s
def tOp(r:R2)(ta tb:TE):TE:=λa H Q=>ta a H λx H1=>tb a H1 λy H2=>r x y H2 Q
def tUn(r:V->Hp->VK->Prop)(ta:TE):TE:=λa H Q=>ta a H λx H1=>r x H1 Q
def rI(C:Int->Int->Prop)(g:Int->Int->V):R2:=λx y H Q=>∃i j,x= .int i/\y= .int j/\C i j/\Q (g i j) H
def rI0(g:Int->Int->V):R2:=λx y H Q=>∃i j,x= .int i/\y= .int j/\Q (g i j) H
def rU(g:Int->V):V->Hp->VK->Prop:=λx H Q=>∃i,x= .int i/\Q (g i) H
section
variable {X:Cx}{a b c:Expr}{ta tb tc:TE}{pos:Pos}
theorem binT(ha:PE X a ta)(Z:PE X b tb){pins:List (Addr×Obj)}{c:St}{R:V->V->Hp->Prop}(I:Inv X pins c H s)
  (h:ta c H λx H1=>tb c H1 λy H2=>R x y H2) {Q:Value->Shared->Prop} {f:Value->Value->Sem Value}
  (Y:∀v u s2 x y H2,Inv X pins c H2 s2->RelV x v->RelV y u->R x y H2->wpAny (model X.prog X.w) X.A (f v u) Q X.xe s2):
  wpAny (model X.prog X.w) X.A (eval a X.env) (λv G=>wpAny (model X.prog X.w) X.A (eval b X.env) (λu z=>wpAny (model X.prog X.w) X.A (f v u) Q X.xe z) X.xe G) X.xe s:=by
 refine thn (ha pins s c H _ I h) λv s1 j=>?_;obtain⟨x,H1,I1,N,U⟩:=j;refine thn (Z pins s1 c H1 _ I1 U) λu s2 j=>?_;obtain⟨y,H2,I2,r2,O⟩:=j;exact Y v u s2 x y H2 I2 N r2 O
theorem xu1(G:OpR X (binaryOp op) r)(ha:PE X a ta)(N:PE X b tb):PE X (.BinOp a op b pos) (tOp r ta tb):=by intro pins s c H Q I h;exact wpAny_BinOp (binT ha N I h λv u s2 x y H2 O z j q=>G pins s2 c H2 x y v u Q O z j q)
theorem wh2{r:V->Hp->VK->Prop}(G:UnR X (unaryOp op) r)(ha:PE X a ta):PE X (.UnaryOp op a pos) (tUn r ta):=by intro pins s b H Q I h;exact UnaryOp_ (thn (ha pins s b H _ I h) λv s1 ⟨x,H1,N,j,z⟩=>G pins s1 b H1 x v Q N j z)
theorem opI{f:Value->Value->Sem Value}{C:Int->Int->Prop}{g:Int->Int->Int}
  (rule:∀(i j:Int)(t u:Tok)(s:Shared)(Q:Value->Shared->Prop)(E:Value->Shared->Prop),C i j->Q (.int (g i j) s.toks) { s with toks:=s.toks+1 }->wpAny (model X.prog X.w) X.A (f (.int i t) (.int j u)) Q E s):
  OpR X f (rI C λi j=>.int (g i j)):=by
 intro pins s a H x y v u Q I G z h;obtain⟨i,j,rfl,rfl,hc,q⟩:=h;obtain⟨t,rfl⟩:=G;obtain⟨t',rfl⟩:=z;exact rule i j t t' s _ _ hc ⟨.int (g i j),H,I.tok _,⟨_,rfl⟩,q⟩
theorem opI0{f:Value->Value->Sem Value}{g:Int->Int->Int}
  (rule:∀(i j:Int)(t u:Tok)(s:Shared)(Q:Value->Shared->Prop)(E:Value->Shared->Prop),Q (.int (g i j) s.toks) { s with toks:=s.toks+1 }->wpAny (model X.prog X.w) X.A (f (.int i t) (.int j u)) Q E s):
  OpR X f (rI0 λi j=>.int (g i j)):=by
 intro pins s a H x y v u Q I G z h;obtain⟨i,j,rfl,rfl,q⟩:=h;obtain⟨t,rfl⟩:=G;obtain⟨t',rfl⟩:=z;exact rule i j t t' s _ _ ⟨.int (g i j),H,I.tok _,⟨_,rfl⟩,q⟩
theorem opB0{f:Value->Value->Sem Value}{g:Int->Int->Bool}
  (rule:∀(i j:Int)(t u:Tok)(s:Shared)(Q:Value->Shared->Prop)(E:Value->Shared->Prop),Q (.bool (g i j)) s->wpAny (model X.prog X.w) X.A (f (.int i t) (.int j u)) Q E s):
  OpR X f (rI0 λi j=>.bl (g i j)):=by
 intro pins s a H x y v u Q I G z h;obtain⟨i,j,rfl,rfl,q⟩:=h;obtain⟨t,rfl⟩:=G;obtain⟨t',rfl⟩:=z;exact rule i j t t' s _ _ ⟨.bl (g i j),H,I,rfl,q⟩
def CDiv(i j:Int):Prop:=0<j/\j<1073741824
def CPow(i j:Int):Prop:=0<=j/\j<=1000000/\i.natAbs<2^64
def CMul(i j:Int):Prop:=(-(2^64)<i/\i<2^64)\/(-(2^64)<j/\j<2^64)
theorem CMul.ok{i j:Int}(h:CMul i j):IntMulOk i j:=by
 rcases h with⟨h1,h2⟩|⟨h1,h2⟩
 .exact .of_left (intBits_le_64 h1 h2)
 .exact .of_right (intBits_le_64 h1 h2)
theorem yv0:OpR X (binaryOp .Add) (rI0 λi j=>.int (i+j)):=opI0 λ_ _ _ _ _ _ _ q=>add_int q
theorem xm3:OpR X (binaryOp .Sub) (rI0 λi j=>.int (i-j)):=opI0 λ_ _ _ _ _ _ _ q=>sub_int q
theorem xm4:OpR X (binaryOp .Mult) (rI CMul λi j=>.int (i*j)):=opI λ_ _ _ _ _ _ _ hc q=>mul_int q hc.ok
theorem xd9:OpR X (binaryOp .FloorDiv) (rI CDiv λi j=>.int (i / j)):=opI λi j _ _ _ _ _ hc q=>by have h1:(0:Int)<j:=hc.1;have h2:j<1073741824:=hc.2;exact floordiv_int aB (by rw[Int.fdiv_eq_ediv_of_nonneg i aB];exact q) (.inl (PyProof.noPylong_small aB))
theorem ws8:OpR X (binaryOp .Mod) (rI (λ_ j=>0<j) λi j=>.int (i % j)):=opI λi j _ _ _ _ _ hc q=>by have h1:(0:Int)<j:=hc;exact mod_int' aA (by rw[Int.fmod_eq_emod_of_nonneg i aA];exact q)
theorem ws7:OpR X (binaryOp .Pow) (rI CPow λi j=>.int (i^j.toNat)):=opI λ_ _ _ _ _ _ _ hc q=>pow_int_small hc.1 hc.2.1 hc.2.2 q
theorem unI{f:Value->Sem Value}{g:Int->Int}
  (rule:∀(i:Int)(t:Tok)(s:Shared)(Q:Value->Shared->Prop)(E:Value->Shared->Prop),Q (.int (g i) s.toks) { s with toks:=s.toks+1 }->wpAny (model X.prog X.w) X.A (f (.int i t)) Q E s):
  UnR X f (rU λi=>.int (g i)):=by
 intro pins s a H x v Q I j h;obtain⟨i,rfl,q⟩:=h;obtain⟨t,rfl⟩:=j;exact rule i t s _ _ ⟨.int (g i),H,I.tok _,⟨_,rfl⟩,q⟩
theorem ww5:UnR X (unaryOp .USub) (rU λi=>.int (-i)):=unI λ_ _ _ _ _ q=>neg_int q
end
noncomputable def scal:V->V->Bool
 | .non,.non=>true| .non,.int _=>true| .int _,.non=>true| .non,.bl _=>true| .bl _,.non=>true| .non,.str _=>true| .str _,.non=>true
 | .int _,.int _=>true| .bl _,.bl _=>true| .str _,.str _=>true| .byt _,.byt _=>true
 | .int _,.str _=>true| .str _,.int _=>true| .bl _,.str _=>true| .str _,.bl _=>true
 |_,_=>false
def rEq:R2:=λx y H Q=>scal x y=true/\Q (.bl (decide (x=y))) H
def rNe:R2:=λx y H Q=>scal x y=true/\Q (.bl (!decide (x=y))) H
theorem yz6{i j:Int}:decide (V.int i=V.int j)=(i==j):=by rw[eH];simp
theorem yc8{i j:Bool}:decide (V.bl i=V.bl j)=(i==j):=by rw[eH];simp
theorem yz5:decide (V.str i=V.str j)=(i==j):=by rw[eH];simp
theorem yc7:decide (V.byt i=V.byt j)=(i.toList==j.toList):=by rw[eH];cases i;cases j;simp
section
variable {X:Cx}{a b c:Expr}{ta tb tc:TE}{pos:Pos}
theorem k7{pins:List (Addr×Obj)}{a:St}{k j:Bool}(I:Inv X pins a H s)(q:Q (.bl k) H)(e:k=j):EP X pins a Q (.bool j) s:=by subst e;exact⟨.bl k,H,I,rfl,q⟩
theorem N3:OpR X (compareOp .Eq) rEq:=by
 intro pins s a H x y v u Q I G z h;obtain⟨hs,q⟩:=h;cases x with
 |non=>
  cases G;cases y with
  |non=>cases z;exact PySem.EqNone.eq_none_none (k7 I q aD)
  |bl j=>cases z;exact PySem.EqNone.eq_none_bool (k7 I q aD)
  |int j=>obtain⟨t',rfl⟩:=z;exact PySem.EqNone.eq_none_int (k7 I q aD)
  |str j=>obtain⟨t',rfl⟩:=z;exact PySem.EqNone.eq_none_str (k7 I q aD)
  |_=>exact aZ (show false=true from hs) bf
 |bl i=>
  cases G;cases y with
  |non=>cases z;exact PySem.EqNone.eq_bool_none (k7 I q aD)
  |bl j=>cases z;exact eq_bool (k7 I q yc8)
  |str j=>obtain⟨t',rfl⟩:=z;exact PySem.EqMixed.eq_bool_str (k7 I q aD)
  |_=>exact aZ (show false=true from hs) bf
 |int i=>
  obtain⟨t,rfl⟩:=G;cases y with
  |non=>cases z;exact PySem.EqNone.eq_int_none (k7 I q aD)
  |int j=>obtain⟨t',rfl⟩:=z;exact eq_int (k7 I q yz6)
  |str j=>obtain⟨t',rfl⟩:=z;exact PySem.EqMixed.eq_int_str (k7 I q aD)
  |_=>exact aZ (show false=true from hs) bf
 |str i=>
  obtain⟨t,rfl⟩:=G;cases y with
  |non=>cases z;exact PySem.EqNone.eq_str_none (k7 I q aD)
  |bl j=>cases z;exact PySem.EqMixed.eq_str_bool (k7 I q aD)
  |int j=>obtain⟨t',rfl⟩:=z;exact PySem.EqMixed.eq_str_int (k7 I q aD)
  |str j=>obtain⟨t',rfl⟩:=z;exact eq_str (k7 I q yz5)
  |_=>exact aZ (show false=true from hs) bf
 |byt i=>
  obtain⟨t,rfl⟩:=G;cases y with
  |byt j=>obtain⟨t',rfl⟩:=z;exact W.eq_bytes (k7 I q yc7)
  |_=>exact aZ (show false=true from hs) bf
 |_=>cases y <;> exact aZ (show false=true from hs) bf
theorem wh7:OpR X (compareOp .NotEq) rNe:=by
 intro pins s a H x y v u Q I G z h;obtain⟨hs,q⟩:=h;cases x with
 |non=>
  cases G;cases y with
  |non=>cases z;exact PySem.EqNone.ne_none_none (k7 I q aD)
  |bl j=>cases z;exact PySem.EqNone.ne_none_bool (k7 I q aD)
  |int j=>obtain⟨t',rfl⟩:=z;exact PySem.EqNone.ne_none_int (k7 I q aD)
  |str j=>obtain⟨t',rfl⟩:=z;exact PySem.EqNone.ne_none_str (k7 I q aD)
  |_=>exact aZ (show false=true from hs) bf
 |bl i=>
  cases G;cases y with
  |non=>cases z;exact PySem.EqNone.ne_bool_none (k7 I q aD)
  |bl j=>cases z;exact ne_bool (k7 I q (bi not yc8))
  |str j=>obtain⟨t',rfl⟩:=z;exact PySem.EqMixed.ne_bool_str (k7 I q aD)
  |_=>exact aZ (show false=true from hs) bf
 |int i=>
  obtain⟨t,rfl⟩:=G;cases y with
  |non=>cases z;exact PySem.EqNone.ne_int_none (k7 I q aD)
  |int j=>obtain⟨t',rfl⟩:=z;exact ne_int (k7 I q (bi not yz6))
  |str j=>obtain⟨t',rfl⟩:=z;exact PySem.EqMixed.ne_int_str (k7 I q aD)
  |_=>exact aZ (show false=true from hs) bf
 |str i=>
  obtain⟨t,rfl⟩:=G;cases y with
  |non=>cases z;exact PySem.EqNone.ne_str_none (k7 I q aD)
  |bl j=>cases z;exact PySem.EqMixed.ne_str_bool (k7 I q aD)
  |int j=>obtain⟨t',rfl⟩:=z;exact PySem.EqMixed.ne_str_int (k7 I q aD)
  |str j=>obtain⟨t',rfl⟩:=z;exact ne_str (k7 I q (bi not yz5))
  |_=>exact aZ (show false=true from hs) bf
 |byt i=>
  obtain⟨t,rfl⟩:=G;cases y with
  |byt j=>obtain⟨t',rfl⟩:=z;exact W.ne_bytes (k7 I q (bi not yc7))
  |_=>exact aZ (show false=true from hs) bf
 |_=>cases y <;> exact aZ (show false=true from hs) bf
theorem L6:OpR X (compareOp .Lt) (rI0 λi j=>.bl (decide (i<j))):=opB0 λ_ _ _ _ _ _ _ q=>lt_int q
theorem zb1:OpR X (compareOp .Gt) (rI0 λi j=>.bl (decide (j<i))):=opB0 λ_ _ _ _ _ _ _ q=>gt_int q
theorem D7:OpR X (compareOp .GtE) (rI0 λi j=>.bl (decide (j<=i))):=opB0 λ_ _ _ _ _ _ _ q=>ge_int q
theorem ws9:OpR X (compareOp .Is) (λx y H Q=>y= .non/\Q (.bl (decide (x= .non))) H):=by
 intro pins s a H x y v u Q I j z h;obtain⟨rfl,q⟩:=h;cases z;refine is_none_gen (k7 I q ?_);cases x <;> first
  | (cases j;rfl)
  | (obtain⟨t,rfl⟩:=j;rfl)
theorem xd8:OpR X (compareOp .IsNot) (λx y H Q=>y= .non/\Q (.bl (!decide (x= .non))) H):=by
 intro pins s a H x y v u Q I j z h;obtain⟨rfl,q⟩:=h;cases z;refine isnot_none_gen (k7 I q ?_);cases x <;> first
  | (cases j;rfl)
  | (obtain⟨t,rfl⟩:=j;rfl)
theorem OpR.or{f:Value->Value->Sem Value}(h:OpR X f r)(h':OpR X f G):OpR X f (λx y H Q=>r x y H Q\/G x y H Q):=by
 intro pins s a H x y v u Q I z j q;rcases q with q|q
 .exact h pins s a H x y v u Q I z j q
 .exact h' pins s a H x y v u Q I z j q
theorem w6(b:Expr)(h:op≠ .In:=by decide)(h2:op≠ .NotIn:=by decide):behindInMarks op b=false:=by
 have e1:(op==CmpOp.In)=false:=by cases op <;> first|rfl|exact aZ rfl h
 have e2:(op==CmpOp.NotIn)=false:=by cases op <;> first|rfl|exact aZ rfl h2
 cases b <;> simp[behindInMarks,e1,e2]
theorem zc8(G:OpR X (compareOp op) r)(ha:PE X a ta)(N:PE X b tb)(hm:behindInMarks op b=false):PE X (.Compare a [op] [b] pos) (tOp r ta tb):=by intro pins s c H Q I h;exact wpAny_Compare1 (binT ha N I h λv u s2 x y H2 O z j q=>G pins s2 c H2 x y v u Q O z j q) hm
def wi1(t:TE):TT:=λa H Q=>t a H λx H'=>∃k,x= .bl k/\Q k H'
theorem zc4(Y:OpR X (compareOp op) r)(ha:PE X a ta)(Z:PE X b tb)(hm:behindInMarks op b=false):PT X (.Compare a [op] [b] pos) (wi1 (tOp r ta tb)):=by
 intro pins s d H Q I h;refine wpAny_isTrue_Compare1 (thn (ha pins s d H _ I h) λv s1 ⟨x,H1,I1,G,U⟩=>thn (Z pins s1 d H1 _ I1 U) λu s2 ⟨y,H2,I2,r2,O⟩=>
  thn (Y pins s2 d H2 x y v u _ I2 G r2 O) λc s3 ⟨z,H3,I3,j,k,e,N⟩=>?_) hm
 subst e;cases j;exact wpAny_truthy_bool ⟨H3,I3,N⟩
def TruV(K:W.Frag)(x:V)(H:Hp)(k:Bool):Prop:=
 match x with
 | .non=>k=false
 | .bl b=>k=b
 | .int i=>k=(i != 0)
 | .str y=>y.length<=sizeLine/\k=((y.length:Int) != 0)
 | .byt y=>y.size<=sizeLine/\k=((y.size:Int) != 0)
 | .ref p=>(∃xs,SqL K H p xs/\k= !xs.isEmpty)\/(∃xs,SqT K H p xs/\k= !xs.isEmpty)\/∃kvs,H p=some (.dK kvs)/\k= !kvs.isEmpty
 |_=>False
theorem yp6{a:Type}{kvs:List (a×V)}{vs:List (a×Value)}(r:KV kvs vs):(!vs.isEmpty)= !kvs.isEmpty:=by cases r <;> rfl
theorem zs2{its:List Value}(r:Vals xs its):(!its.toArray.isEmpty)= !xs.isEmpty:=by cases r <;> simp
theorem zg6:(sizeLine:Nat)<2^63:=by rw[sizeLine_eq];decide
theorem ww8:TruR X (λx H Q=>∃k,TruV X.K x H k/\Q k H):=by
 intro pins s a H x v Q I G h;obtain⟨k,e,q⟩:=h;have Z:=zg6;have hs:sizeLine=16777216:=sizeLine_eq;cases x with
 |non=>cases G;have j:k=false:=e;subst j;exact truthy_none ⟨H,I,q⟩
 |bl b=>cases G;have j:k=b:=e;subst j;exact wpAny_truthy_bool ⟨H,I,q⟩
 |int i=>obtain⟨t,rfl⟩:=G;have j:k=(i != 0):=e;subst j;exact PySem.P.truthy_int ⟨H,I,q⟩
 |str y=>obtain⟨t,rfl⟩:=G;obtain⟨U,j⟩:y.length<=sizeLine/\k=((y.length:Int) != 0):=e;subst j;exact PySem.P.truthy_str aA ⟨H,I.tok _,q⟩
 |byt y=>obtain⟨t,rfl⟩:=G;obtain⟨U,j⟩:y.size<=sizeLine/\k=((y.size:Int) != 0):=e;subst j;exact W.truthy_bytes aA ⟨H,I.tok _,q⟩
 |ref p=>
  cases G;have j:(∃xs,SqL X.K H p xs/\k= !xs.isEmpty)\/(∃xs,SqT X.K H p xs/\k= !xs.isEmpty)\/∃kvs,H p=some (.dK kvs)/\k= !kvs.isEmpty:=e;rcases j with⟨xs,N,j⟩|⟨xs,N,j⟩|⟨kvs,N,j⟩
  .subst j;obtain⟨its,r,pl,O⟩:=I.list N;have z:=r.length;exact wpAny_truthy_list pl.isList (by simp only[size_toArray];lia) ⟨H,I.tok _,by rw[zs2 r];exact q⟩
  .subst j;obtain⟨its,r,pl,O⟩:=I.tuple N;have z:=r.length;exact truthy_tuple pl (by simp only[size_toArray];lia) ⟨H,I.tok _,by rw[zs2 r];exact q⟩
  .subst j;obtain⟨O,Y,vs,r,m⟩:kvs.length<=sizeLine/\(p==sysModules)=false/\∃vs,KV kvs vs/\s.heap.DictOf (zb7 X.prog X.w) p vs:=I.hok p _ N;have z:kvs.length=vs.length:=Paired.length r;exact wpAny_truthy_dict Y m aA ⟨H,I.tok _,by rw[yp6 r];exact q⟩
 |_=>exact(show False from e).elim
theorem xw9(ha:PE X a ta)(N:∀j,isTrue a X.env j=(do let v ← j;standAt a.pos;holding [v] (truthy v))):
  PT X a (λb H Q=>ta b H λx H'=>∃k,TruV X.K x H' k/\Q k H'):=by
 intro pins s b H Q I h;exact isTrue_plain (thn (ha pins s b H _ I h) λv s1 ⟨x,H1,O,z,G⟩=>ww8 pins s1 b H1 x v Q O z G) (N _)
theorem A9(r:Vals [x] us):∃u,us=[u]/\RelV x u:=by
 cases r with
 |cons j r2=>cases r2;exact⟨_,rfl,j⟩
theorem xj8(r:Vals [x,y] us):∃u j,us=[u,j]/\RelV x u/\RelV y j:=by
 cases r with
 |cons N r2=>
  cases r2 with
  |cons G z=>cases z;exact⟨_,_,rfl,N,G⟩
theorem yt9:J8 X (.builtin "abs") (λxs H Q=>∃i,xs=[.int i]/\Q (.int (if i<0 then -i else i)) H):=by intro pins s a H xs us Q I r h;obtain⟨i,rfl,q⟩:=h;obtain⟨u,rfl,t,rfl⟩:=A9 r;exact call_abs_int λu tk=>⟨.int (if i<0 then -i else i),H,I.tok _,⟨_,rfl⟩,q⟩
theorem ya2(hc:X.calm=true):J8 X (.builtin "max") (λxs H Q=>∃i j,xs=[.int i,.int j]/\Q (.int (if j>i then j else i)) H):=by
 intro pins s a H xs us Q I r h;obtain⟨i,j,rfl,q⟩:=h;obtain⟨u,G,rfl,⟨t,rfl⟩,⟨t',rfl⟩⟩:=xj8 r;refine max_two_ints (I.ok.hd hc) λh' tk k=>⟨_,H,I.kept k,?_,q⟩;by_cases z:j>i
 .rw[aJ z,aJ z];exact⟨_,rfl⟩
 .rw[aI z,aI z];exact⟨_,rfl⟩
theorem ya1(hc:X.calm=true):J8 X (.builtin "min") (λxs H Q=>∃i j,xs=[.int i,.int j]/\Q (.int (if j<i then j else i)) H):=by
 intro pins s a H xs us Q I r h;obtain⟨i,j,rfl,q⟩:=h;obtain⟨u,G,rfl,⟨t,rfl⟩,⟨t',rfl⟩⟩:=xj8 r;refine min_two_ints (I.ok.hd hc) λh' tk k=>⟨_,H,I.kept k,?_,q⟩;by_cases z:j<i
 .rw[aJ z,aJ z];exact⟨_,rfl⟩
 .rw[aI z,aI z];exact⟨_,rfl⟩
theorem ze5:J8 X (.type "int") (λxs H Q=>(∃i,xs=[.int i]/\Q (.int i) H)\/∃k,xs=[.bl k]/\Q (.int (if k then 1 else 0)) H):=by
 intro pins s a H xs us Q I r h;rcases h with⟨i,rfl,q⟩|⟨k,rfl,q⟩
 .obtain⟨u,rfl,t,rfl⟩:=A9 r;exact call_int_int ⟨.int i,H,I,⟨_,rfl⟩,q⟩
 .obtain⟨u,rfl,r1⟩:=A9 r;cases r1;exact call_int_bool ⟨.int (if k then 1 else 0),H,I.tok _,⟨_,rfl⟩,q⟩
end
structure ObjM(h:Heap)(x dx C:Addr)(mA:Str->Option Value):Prop where
 obj:h.get? x=some (W.instObj C dx)
 ns:h.Ns1 dx mA
 ne:dx≠x
theorem ye5{h:Heap}{dx:Addr}{mA:Str->Option Value}(n:h.Ns1 dx mA):∃od,h.get? dx=some od/\∀name,W.lookIn name od=some (mA name):=by
 obtain⟨o,es,ep,N,hd,O,_,hm⟩:=n;refine⟨o,N,λname=>?_⟩;have e:=hm name;unfold nsFind findBy at e;rw[<-Array.find?_toList]at e;unfold W.lookIn;rw[hd];dsimp only;split
 .rename_i y q;rw[q]at e;exact bi some e
 .rename_i q;rw[q]at e;have a:es.toList.any (·.refKey)=false:=by rw[any_eq_false];intro y G;obtain⟨z,t,j⟩:=O y (Array.mem_toList_iff.mp G);simp[DictEntry.refKey,j]
  have U:¬ es.toList.any (·.refKey)=true:=by rw[a];exact bf
  rw[aI U];exact bi some e
theorem ObjM.look{mA:Str->Option Value}(I:ObjM h x dx C mA):∃od,W.InstAt h x (W.instObj C dx) C (some od)/\∀name,W.lookIn name od=some (mA name):=
 let ⟨od,j,z⟩:=ye5 I.ns
 ⟨od,⟨I.obj,rfl,rfl,j⟩,z⟩
section
variable {prog:Program}{w:World}{A:Around}{E:Value->Shared->Prop}{s:Shared}{K:W.Frag}{x dx C f:Addr}{mA:Str->Option Value}{name:Str}{v:Value}
end
section
variable {P:Program}{w:World}{H H':Hp}{h h':Heap}{a C dx:Addr}{fs fs':List (Str×V)}
theorem xb4(hok:HOk P w H h)(e:H a=some (.ins C dx fs)):∃mA,ObjM h a dx C mA/\(∀f,RelO (fs.lookup f) (mA f))/\PySem.Within mA (fs.map (·.1))/\fs.length<=1000/\H dx=some (.own a):=by obtain⟨d,z,ne,ob,mA,n,r,q⟩:=(show ObjOk P w H h a (.ins C dx fs)from hok a _ e);exact⟨mA,⟨ob,n,ne⟩,r,q,z,d⟩
end
structure Cls(K:W.Frag)(C:Addr):Prop where
 pg:W.plainGet K C Str.empty=true
 hd:W.hasDictIn K C=true
 po:W.plainOver K C=true
 sa:W.findIn K (.ref C) "__setattr__"=some (some (.builtin "object.__setattr__"))
theorem Cls.get{K:W.Frag}(c:Cls K C)(f:Str):W.plainGet K C f=true:=c.pg
structure Con(K:W.Frag)(C:Addr)(f:Str)(v:V)(u:Value):Prop where
 at_:W.findIn K (.ref C) f=some (some u)
 rel:RelV v u
 get:W.specialIn K u "__get__"=some none
 cp:W.copiedNames.contains f=false
structure Meth(K:W.Frag)(C:Addr)(m:Str)(f:Addr):Prop where
 at_:W.findIn K (.ref C) m=some (some (.ref f))
 fn:W.isFn K (.ref f)=true
 kp:W.keepIn K (.ref f)=true
section
variable {X:Cx}{pins:List (Addr×Obj)}{b:St}{H:Hp}{s:Shared}{a C dx:Addr}{fs:List (Str×V)}{f:Str}{v:V}{A:Around}{E:Value->Shared->Prop}
end
section
variable {X:Cx}{o e value:Expr}{f:Str}{pos pos' tpos:Pos}{ta tv:TE}
end
section
variable {X:Cx}{pins:List (Addr×Obj)}{d:St}{H:Hp}{s:Shared}{A:Around}{E:Value->Shared->Prop}{Q:Value->Shared->Prop}{c:Value}{b:Bool}
inductive TyOf (K:W.Frag)(H:Hp):V->Value->Prop where
 |non:TyOf K H .non (.type "NoneType")
 |bl (x:Bool):TyOf K H (.bl x) (.type "bool")
 |int (i:Int):TyOf K H (.int i) (.type "int")
 |str (x:Str):TyOf K H (.str x) (.type "str")
 |flt (x:UInt64):TyOf K H (.flt x) (.type "float")
 |lst {a:Addr} {xs:List V} (e:H a=some (.lst xs)):TyOf K H (.ref a) (.type "list")
 |frz {a:Addr} {o:Obj} {xs:List V} (e:H a=some (.frz o (.lst xs))):TyOf K H (.ref a) (.type "list")
 |tup {a:Addr} {xs:List V} (e:H a=some (.tup xs)):TyOf K H (.ref a) (.type "tuple")
 |dK {a:Addr} {kvs:List (Key×V)} (e:H a=some (.dK kvs)):TyOf K H (.ref a) (.type "dict")
 |dT {a:Addr} {kvs:List (List Key×V)} (e:H a=some (.dT kvs)):TyOf K H (.ref a) (.type "dict")
 |ins {a C dx:Addr} {fs:List (Str×V)} (e:H a=some (.ins C dx fs)) (cl:Cls K C) (ha:W.findIn K (.ref C) "__class__"=some (some (.builtin "object.__class__")))
   (hn:W.specialIn K (.builtin "object.__class__") "__get__"=some (some (.builtin "getset_descriptor.__get__"))) (htk:W.takesIn K (.builtin "object.__class__")=some true)
   (hm:W.mroIn K C (.type "object")=some true):TyOf K H (.ref a) (.ref C)
theorem K3(I:Inv X pins d H s)(j:RelV x u)(ty:TyOf X.K H x t)(e:W.kitOne X.K t c=some b)(h:∀tk,Q (.bool b) { s with toks:=tk }):
  wpAny (model X.prog X.w) A (call (.builtin "isinstance") [u,c]) Q E s:=by
 cases ty with
 |non=>cases (show u=Value.none from j);exact dg W.kitx_none I.kIn True.intro e (λz=>nomatch z) h
 |bl y=>cases (show u=Value.bool y from j);exact dg W.kitx_bool I.kIn True.intro e (λz=>nomatch z) h
 |int i=>obtain⟨t,q⟩:=(show ∃t,u=Value.int i t from j);cases q;exact dg W.kitx_int I.kIn True.intro e (λz=>nomatch z) h
 |str y=>obtain⟨t,q⟩:=(show ∃t,u=Value.str y t from j);cases q;exact dg W.kitx_str I.kIn True.intro e (λz=>nomatch z) h
 |flt y=>obtain⟨t,q⟩:=(show ∃t,u=Value.float y t from j);cases q;exact dg W.kitx_float I.kIn True.intro e (λz=>nomatch z) h
 |@lst a xs ea=>cases (show u=Value.ref a from j);obtain⟨_,_,n,_,h1⟩:=(show ObjOk X.prog X.w H s.heap a (.lst xs)from I.hok a _ ea);exact dg W.kitx_list I.kIn ⟨_,h1,rfl⟩ e (λz=>nomatch z) h
 |@frz a ob xs ea=>cases (show u=Value.ref a from j);obtain⟨_,_,_,n,_,h1⟩:=(show ObjOk X.prog X.w H s.heap a (.frz ob (.lst xs))from I.hok a _ ea);exact dg W.kitx_list I.kIn ⟨_,h1,rfl⟩ e (λz=>nomatch z) h
 |@tup a xs ea=>cases (show u=Value.ref a from j);obtain⟨_,_,_,p⟩:=(show ObjOk X.prog X.w H s.heap a (.tup xs)from I.hok a _ ea);obtain⟨o,h1,h2,_⟩:=p;exact dg W.kitx_tuple I.kIn ⟨o,h1,h2⟩ e (λz=>nomatch z) h
 |@dK a kvs ea=>cases (show u=Value.ref a from j);obtain⟨_,_,vs,_,p⟩:=(show ObjOk X.prog X.w H s.heap a (.dK kvs)from I.hok a _ ea);obtain⟨o,es,ep,h1,h2,_⟩:=p;exact dg W.kitx_dict I.kIn ⟨o,h1,h2.1⟩ e (λz=>nomatch z) h
 |@dT a kvs ea=>cases (show u=Value.ref a from j);obtain⟨_,_,xs,_,o,es,ep,h1,h2,_⟩:=(show ObjOk X.prog X.w H s.heap a (.dT kvs)from I.hok a _ ea);exact dg W.kitx_dict I.kIn ⟨o,h1,h2.1⟩ e (λz=>nomatch z) h
 |@ins a C dx fs ea cl ha hn htk hm=>cases (show u=Value.ref a from j);obtain⟨mA,O,_⟩:=xb4 I.hok ea;obtain⟨od,J,_⟩:=O.look;exact dg (W.kitx_own (cl.get _) cl.hd ha hn htk hm) I.kIn J e (λz=>nomatch z) h
end
structure Room(k:Nat)(A:Around):Prop where
 hd:A.handled=none
 dp:A.depth+3*k+5<recursionLimit
 un:A.units+16*k+200<cLine
theorem Room.mono{j k:Nat}(r:Room k A)(h:j<=k):Room j A:=⟨r.hd,by have:=r.dp;lia,by have:=r.un;lia⟩
theorem Room.deeper{k:Nat}(r:Room (k+1) A)(env:Env):Room k (A.deeper env):=
 ⟨r.hd,by have:=r.dp;show A.depth+1+3*k+5<_;lia,by have:=r.un;show A.units+3+16*k+200<_;lia⟩
theorem Room.depth{k:Nat}(r:Room k A):A.depth<recursionLimit:=by have:=r.dp;omega
theorem Room.units{k:Nat}(r:Room k A):A.units+64<cLine:=by have:=r.un;lia
def tNil:TA:=λ_ H Q=>Q [] H
def wi5(ta:TE)(tr:TA):TA:=λa H Q=>ta a H λx H1=>tr a H1 λxs H2=>Q (x::xs) H2
section
variable {X:Cx}{e:Expr}{es:List Expr}{te:TE}{t:TA}{pos:Pos}
theorem pa_nil:PA X [] tNil:=λ_ _ _ _ H Q I h=>Calls.spliced_nil ⟨[],H,I,.nil,h⟩
theorem Y6(ha:PE X e te)(hr:PA X es t)(hs:starEach (e::es) X.env=(false,eval e X.env)::starEach es X.env:=by rfl):PA X (e::es) (wi5 te t):=by intro pos pins s a H Q I h;rw[hs];show wpAny _ _ (spliced ((false,eval e X.env)::backTo pos (starEach es X.env))) _ _ s;refine Calls.spliced_cons (thn (ha pins s a H _ I h) λu s1 j=>?_);obtain⟨x,H1,U,z,N⟩:=j;exact thn (hr pos pins s1 a H1 _ U N) λus s2 ⟨xs,H2,O,r2,G⟩=>⟨x::xs,H2,O,.cons z r2,G⟩
def tTup(t:TA):TE:=λa H Q=>t a H λxs H1=>xs.length<=sizeLine/\∀p,H1 p=none->Q (.ref p) (upd H1 p (.tup xs))
def tLst(t:TA):TE:=λa H Q=>t a H λxs H1=>xs.length<=sizeLine/\∀p,H1 p=none->Q (.ref p) (upd H1 p (.lst xs))
theorem wt6{G}(h:PA X es t):PE X (.Tuple es G pos) (tTup t):=by intro pins s a H Q I N;refine wpAny_Tuple_spliced (thn (h pos pins s a H _ I N) λus s1 ⟨xs,H1,j,r,z,q⟩=>⟨by rw[<-r.length];exact z,?_⟩);have O:H1 s1.heap.objs.size=none:=j.hok.fresh (aN _);refine⟨.ref s1.heap.objs.size,upd H1 s1.heap.objs.size (.tup xs),j.laid (t':=s1.toks) (λb u e=>aG _ e) (aN _) ?_,rfl,q _ O⟩;exact⟨z,us,r,⟨_,aX _ rfl,rfl,_,rfl⟩⟩
theorem xn8(h:PA X es t):PE X (.List es pos) (tLst t):=by intro pins s a H Q I G;refine wpAny_List_spliced (thn (h pos pins s a H _ I G) λus s1 ⟨xs,H1,j,r,z,q⟩=>⟨by rw[<-r.length];exact z,?_⟩);have N:H1 s1.heap.objs.size=none:=j.hok.fresh (aN _);refine⟨.ref s1.heap.objs.size,upd H1 s1.heap.objs.size (.lst xs),j.laid (t':=s1.toks) (λb u e=>aG _ e) (aN _) ?_,rfl,q _ N⟩;exact⟨z,us,0,r,aX _ rfl⟩
end
abbrev Sp:=List V->Hp->VK->XK->Prop
abbrev CXT:=List Env->Hp->Shared->XK->Value->Shared->Prop
structure Env0(P:Program)(w:World)(K:W.Frag)(mg:Str->Option Value)(base:Heap)(A:Around)(outer:List Env)(s:Shared)(H:Hp):Prop where
 frames:A.frames=some outer
 mod:Mod K mg base
 bs:∀b o,base.get? b=some o->s.heap.get? b=some o/\H b=none
 bsz:base.objs.size<=s.heap.objs.size
 funs:s.heap.FunFrames base outer
 frf:∀b∈frs outer,H b=none
 hok:HOk P w H s.heap
 bare:AllBare s.gens
def CE(outer:List Env)(P:Program)(w:World)(H:Hp)(s:Shared)(Q:VK)(u:Value)(s':Shared):Prop:=
 ∃v H',s'.os=s.os/\AllBare s'.gens/\Un (frs outer) [] H H' s.heap s'.heap/\HOk P w H' s'.heap/\RelV v u/\Q v H'
def CR(CX:CXT)(outer:List Env)(P:Program)(w:World)(H:Hp)(s:Shared)(Q:VK)(E:XK)(r:Result)(s':Shared):Prop:=
 match r with
 | .ok (.ret u)=>CE outer P w H s Q u s'
 | .ok _=>False
 | .error e=>CX outer H s E e s'
structure FnOk(P:Program)(w:World)(K:W.Frag)(mg:Str->Option Value)(base:Heap)(CX:CXT)(k:Nat)(f:Addr)(fd:FuncData)(ps:List Str)(sp:Sp):Prop where
 len:∀vs H Q E,sp vs H Q E->vs.length=ps.length
 run:∀(A:Around)(outer:List Env)(s:Shared)(H:Hp)(args:Args)(us:List Value)(vs:List V)(Q:VK)(E:XK),Room k A->Env0 P w K mg base A outer s H->BindsTo s fd args (ps.zip us)->Vals vs us->sp vs H Q E->
  codeAny (model P w) A (.call (.ref f) args) (CR CX outer P w H s Q E) s
theorem FnOk.mono{P:Program}{K:W.Frag}{mg:Str->Option Value}{base:Heap}{j k:Nat}(F:FnOk P w K mg base CX j f fd ps sp)(h:j<=k):
  FnOk P w K mg base CX k f fd ps sp:=⟨F.len,λA outer s H args us vs Q E hr=>F.run A outer s H args us vs Q E (hr.mono h)⟩
theorem FnOk.imp{P:Program}{K:W.Frag}{mg:Str->Option Value}{base:Heap}{k:Nat}(F:FnOk P w K mg base CX k f fd ps sp)
  (h:∀vs H Q E,j vs H Q E->sp vs H Q E):FnOk P w K mg base CX k f fd ps j:=
 ⟨λvs H Q E q=>F.len vs H Q E (h _ _ _ _ q),λA outer s H args us vs Q E hr G N z hs=>F.run A outer s H args us vs Q E hr G N z (h _ _ _ _ hs)⟩
section
variable {X:Cx}{pins:List (Addr×Obj)}{a:St}{H:Hp}{s s':Shared}
theorem Inv.env0(I:Inv X pins a H s):Env0 X.prog X.w X.K X.mg X.base X.A X.stack s H:=
 ⟨I.ok.frames,I.ok.mod,I.bs,bE I.ok.bsz I.sz,I.stack,I.stkFree,I.hok,I.bare⟩
theorem Inv.after(I:Inv X pins a H s)(h:CE X.stack X.prog X.w H s Q u s'):EP X pins a Q u s':=by obtain⟨v,H',os,bare,un,hok,r,q⟩:=h;obtain⟨hh,g,d,t,j⟩:=s';obtain rfl:j=s.os:=os;exact⟨v,H',I.call (h':=hh) (g':=g) (d':=d) (t':=t) (ch:=[]) un hok bare (λb z=>aZ z aD),r,q⟩
end
def yr9(sp:Sp)(dvs:List V)(E:XK)(t:TA):TE:=λa H Q=>t a H λvs H1=>sp (vs++dvs) H1 Q E
def Binds(K:W.Frag)(fd:FuncData)(ps:List Str)(ds:List Value):Prop:=
 ∀(s:Shared)(us:List Value),K.In s.heap->(us++ds).length=ps.length->BindsTo s fd ⟨us,[]⟩ (ps.zip (us++ds))
theorem Binds.all{K:W.Frag}(h:∀us:List Value,us.length=ps.length->bindArgs fd ⟨us,[]⟩=pure (ps.zip us)):Binds K fd ps []:=λs us _ j=>by rw[append_nil]at j ⊢;exact .of_eq (h us j)
def xy2(CX:CXT)(X:Cx)(E:XK):Prop:=∀(pins:List (Addr×Obj))(a:St)(H:Hp)(s:Shared)(e:Value)(s':Shared),Inv X pins a H s->CX X.stack H s E e s'->X.xe e s'
section
variable {X:Cx}{CX:CXT}{k:Nat}{f C:Addr}{fd:FuncData}{ps:List Str}{sp:Sp}{dvs:List V}{ds:List Value}{E:XK}{x m:Str}{p pos apos:Pos}{e o:Expr}{es:List Expr}{ta:TE}{t:TA}
theorem wu3{pins:List (Addr×Obj)}(F:FnOk X.prog X.w X.K X.mg X.base CX k f fd ps sp)(hr:Room k X.A)(N:Binds X.K fd ps ds)(hd:Vals dvs ds)(z:xy2 CX X E)
  (I:Inv X pins a H s) (r:Vals vs us) (h:sp (vs++dvs) H Q E):wpAny (model X.prog X.w) X.A (call (.ref f) us) (EP X pins a Q) X.xe s:=by
 have r2:Vals (vs++dvs) (us++ds):=r.append hd;have G:(us++ds).length=ps.length:=by rw[<-r2.length];exact F.len _ _ _ _ h
 refine wpAny_call (codeAny_mono (F.run X.A X.stack s H ⟨us,[]⟩ (us++ds) (vs++dvs) Q E hr I.env0 (N s us I.kIn G) r2 h) λr s' j=>?_);cases r with
 |error e=>exact z pins a H s e s' I j
 |ok fl=>
  cases fl with
  |ret u=>exact I.after j
  |next=>exact False.elim j
  |brk=>exact False.elim j
  |cont=>exact False.elim j
theorem xe5(F:FnOk X.prog X.w X.K X.mg X.base CX k f fd ps sp)(hr:Room k X.A)(U:Gl X x)(hm:X.mg x=some (.ref f))(O:W.keepIn X.K (.ref f)=true)(Z:Binds X.K fd ps ds)(hd:Vals dvs ds)(N:xy2 CX X E)
  (ha:PA X (e::es) t) (z:(x==("__debug__":Str))=false:=by decide) (Y:starEach (e::es) X.env=(false,eval e X.env)::starEach es X.env:=by rfl) (j:(backTo pos (starEach es X.env)).any (·.1)=false:=by rfl):
  PE X (.Call (.Name x p) (e::es) [] pos) (yr9 sp dvs E t):=by
 intro pins s a H Q I h;refine wpAny_Call_Name_kw (xb0 I U hm ?_ z);refine W.callWith_K (h₀:=X.base) I.ok.mod.kin O (thn (ha pos pins s a H _ I h) λus s1 ⟨vs,H1,G,r,q⟩=>⟨G.kIn,?_⟩) Y j;exact wu3 F hr Z hd N G r q
structure Mk(K:W.Frag)(C f:Addr):Prop where
 makes:W.makesIn K C=true
 init:W.findIn K (.ref C) "__init__"=some (some (.ref f))
 fn:W.isFn K (.ref f)=true
 kp:W.keepIn K (.ref C)=true
end
section
variable {X:Cx}{CX:CXT}{k:Nat}{f C:Addr}{fd:FuncData}{ps ks:List Str}{sp:Sp}{E:XK}{x m:Str}{p pos apos kpos:Pos}{e o:Expr}{es:List Expr}{kws:List Keyword}{te ta:TE}{t tk:TA}{nm:Option Str}
structure KBinds(K:W.Frag)(fd:FuncData)(ps ks:List Str)(g:List Value->List Value->List Value)(gV:List V->List V->List V):Prop where
 to:∀(s:Shared)(us ws:List Value),K.In s.heap->(g us ws).length=ps.length->BindsTo s fd ⟨us,ks.zip ws⟩ (ps.zip (g us ws))
 rel:∀{vs:List V}{us:List Value}{zs:List V}{ws:List Value},Vals vs us->Vals zs ws->Vals (gV vs zs) (g us ws)
variable {g:List Value->List Value->List Value}{gV:List V->List V->List V}
end
structure FnScope(N P:List Str)(sc:Scope):Prop where
 kind:sc.kind= .function
 co:sc.isCoroutine=false
 gen:sc.isGenerator=false
 nd:N.Nodup
 pre:N.take P.length=P
 par:∀x∈P,sc.names.lookup x=some .local\/sc.names.lookup x=some .cell
 nofree:∀y∈sc.names,y.2≠ .free
theorem ze7{kindOf:Str->Option NameKind}{x:Str}:∀{binds:List (Str×Value)}{m:Str->Option Value},(∀v,(x,v)∉binds)->bindL kindOf binds m x=m x
 |[],_,_=>rfl
 | (n,v)::r,m,h=>by
  unfold bindL;rw[ze7 λw hw=>h w (bt _ hw)];split
  .have:x≠n:=by rintro rfl;exact h v bV
   simp[this]
  .rfl
theorem ze9{kindOf:Str->Option NameKind}{x:Str}:∀{binds:List (Str×Value)}{m:Str->Option Value},(∀v,(x,v)∉binds)->bindC kindOf binds m x=m x
 |[],_,_=>rfl
 | (n,v)::r,m,h=>by
  unfold bindC;rw[ze9 λw hw=>h w (bt _ hw)];split
  .rfl
  .have:x≠n:=by rintro rfl;exact h v bV
   simp[this]
theorem ze8{kindOf:Str->Option NameKind}{x:Str}{v:Value}:∀{P:List Str}{vs:List Value}{i:Nat}{m:Str->Option Value},P.Nodup->P[i]? =some x->vs[i]? =some v->kindOf x=some .local->
  bindL kindOf (P.zip vs) m x=some v
 |[],_,_,_,_,h,_,_=>by simp at h
 |_::_,[],_,_,_,_,h,_=>by simp at h
 |p::P,w::vs,0,m,nd,h1,h2,hk=>by simp at h1 h2;subst h1;subst h2;show bindL kindOf ((p,w)::P.zip vs) m p=_;unfold bindL;rw[ze7 λv j=>(bC.mp nd).1 (of_mem_zip j).1,aJ hk];simp
 |p::P,w::vs,i+1,m,nd,h1,h2,hk=>by show bindL kindOf ((p,w)::P.zip vs) m x=_;unfold bindL;exact ze8 (i:=i) (bC.mp nd).2 (by simpa using h1) (by simpa using h2) hk
theorem zd0{kindOf:Str->Option NameKind}{x:Str}{v:Value}:∀{P:List Str}{vs:List Value}{i:Nat}{m:Str->Option Value},P.Nodup->P[i]? =some x->vs[i]? =some v->kindOf x≠some .local->
  bindC kindOf (P.zip vs) m x=some v
 |[],_,_,_,_,h,_,_=>by simp at h
 |_::_,[],_,_,_,_,h,_=>by simp at h
 |p::P,w::vs,0,m,nd,h1,h2,hk=>by simp at h1 h2;subst h1;subst h2;show bindC kindOf ((p,w)::P.zip vs) m p=_;unfold bindC;rw[ze9 λv j=>(bC.mp nd).1 (of_mem_zip j).1,aI hk];simp
 |p::P,w::vs,i+1,m,nd,h1,h2,hk=>by show bindC kindOf ((p,w)::P.zip vs) m x=_;unfold bindC;exact zd0 (i:=i) (bC.mp nd).2 (by simpa using h1) (by simpa using h2) hk
def W9(N:List Str)(vs:List V):St:=vs.map some++List.replicate (N.length-vs.length) none
noncomputable def cxOf(CX:CXT)(P:Program)(w:World)(K:W.Frag)(mg:Str->Option Value)(base:Heap)(N:List Str)(qual:Str)(scope:Scope)(f:Addr)(cd:Value)(A:Around)(outer:List Env)(s:Shared)(H:Hp)(E:XK):Cx where
 prog:=P
 w:=w
 K:=K
 mg:=mg
 base:=base
 A:=A.deeper (envOfC qual scope s.heap.objs.size f cd)
 N:=N
 s₀:=s
 H₀:=H
 env:=envOfC qual scope s.heap.objs.size f cd
 outer:=outer
 stack:=envOfC qual scope s.heap.objs.size f cd::outer
 ex:=[]
 calm:=true
 fn:=λ_=>true
 pn:=[]
 xe:=λe s'=>wpAny (model P w) (A.deeper (envOfC qual scope s.heap.objs.size f cd)) (leaving (envOfC qual scope s.heap.objs.size f cd) e) (λ_ s''=>CX outer H s E e s'') (λe' s''=>CX outer H s E e' s'') s'
theorem yt7{sc:Scope}{n:Nat}{x:Str}(h:sc.names.lookup x=some .cell):∃c,(cellsFrom n sc.names []).lookup x=some c:=by have q:=W.cellsFrom_some sc.names n [] (.inl h);exact Option.isSome_iff_exists.mp q
theorem yd4{P:Program}{K:W.Frag}{mg:Str->Option Value}{base:Heap}{qual:Str}{scope:Scope}{outer:List Env}
  (S:FnScope N ps scope) (hd:A.handled=none) (j:Env0 P w K mg base A outer s H) (hl:vs.length=ps.length) (r:Vals vs us)
  (x:InCallC s s.heap.objs.size (bindL (envOfC qual scope s.heap.objs.size f Y).kindOf (ps.zip us) λ_=>none) (cellsFrom (s.heap.objs.size+1) scope.names []) (bindC (envOfC qual scope s.heap.objs.size f Y).kindOf (ps.zip us) λ_=>none) s1):
  Inv (cxOf CX P w K mg base N qual scope f Y A outer s H E) [] (W9 N vs) H s1:=by
 have a1:ps.length<=N.length:=by have:=bi List.length S.pre;rw[cO]at this;lia
 obtain⟨h1,tk,rfl,hk⟩:=x.done;have G:∀b:Addr,b∉(cxOf CX P w K mg base N qual scope f Y A outer s H E).ex:=λb z=>aZ (show b∈([]:List Addr)from z) aD;refine⟨⟨j.mod,S.kind,rfl,rfl,aN _,λy z c h1 h2=>?_,λy O=>?_,λy c _ h=>?_,λ_=>hd,Around.frames_deeper j.frames,.inr ⟨rfl,rfl⟩,λb z=>aZ z (G b),j.bs,j.bsz,λb _ _=>G b,λb z=>aZ z (G b),j.funs,j.frf⟩,
  rfl,j.bare,Un.kept hk,⟨_,x.toInCall.ns,λi y v h1 h2 h3=>?_⟩,λy c h=>⟨_,x.cell y c h⟩,j.hok.fresh (aN _),λy c h=>?_,λp hp=>aZ (show p∈([]:List (Addr×Obj))from hp) aD,j.hok.kept hk,?_⟩
 .exact name_of_addr x.apart (cR h1) (cR h2)
 .have O:scope.names.lookup y=some .cell\/scope.names.lookup y=some .free:=O;rcases O with O|O
  .exact yt7 O
  .exact aZ rfl (S.nofree _ (cR O))
 .exact dk (x.above y c (cR h))
 .have hi:i<vs.length:=by
   unfold W9 at h2;by_cases hi:i<vs.length
   .exact hi
   .rw[cr (by simpa using hi)]at h2;rw[dX]at h2;split at h2 <;> cases h2
  have ha:vs[i]? =some v:=by
   unfold W9 at h2;rw[bT (by simpa using hi),bF]at h2;cases e:vs[i]? with
   |none=>rw[e]at h2;cases h2
   |some a=>rw[e]at h2;cases h2;rfl
  obtain⟨u,Z,rv⟩:=r.get ha;have hp:ps[i]? =some y:=by rw[<-S.pre,getElem?_take_of_lt aA];exact h1
  have U:ps.Nodup:=by rw[<-S.pre];exact S.nd.sublist (take_sublist _ _)
  refine⟨u,rv,?_⟩;rcases S.par y (dR hp)with k|k
  .exact .inl ⟨k,ze8 U hp Z k⟩
  .obtain⟨c,e⟩:=yt7 (n:=s.heap.objs.size+1) k;refine .inr ⟨.inl k,c,e,?_⟩;have q:=x.cell y c e;rw[zd0 U hp Z (by show scope.names.lookup y≠_;rw[k];decide)]at q;exact q
 .exact j.hok.fresh (dk (x.above y c (cR h)))
 .unfold W9;show _=N.length;rw[bL,aW,length_replicate];lia
theorem we4{P:Program}{K:W.Frag}{mg:Str->Option Value}{base:Heap}{k:Nat}{name qual:Str}{params:Arguments}{body:List Stmt}{scope:Scope}{dV kV doc pm cdv ct oc:Value}
  {osl:Array (Option Value)}   (lk:K.lookup f=some ⟨oc,od,.func (W.fnOf name qual params body scope dV kV doc pm an cdv ct),osl⟩) (a1:W.codeIn K cdv qual=true) (S:FnScope N ps scope)
  (len:∀vs H Q E,sp vs H Q E->vs.length=ps.length)
  (G:∀(A:Around)(outer:List Env)(s:Shared)(H:Hp)(vs:List V)(Q:VK)(E:XK),Room k (A.deeper (envOfC qual scope s.heap.objs.size f cdv))->sp vs H Q E->
   ∃t,PSs (cxOf CX P w K mg base N qual scope f cdv A outer s H E) body t/\t { nx:=λ_ H'=>Q .non H',rt:=Q } (W9 N vs) H):
  FnOk P w K mg base CX (k+1) f (W.fnOf name qual params body scope dV kV doc pm an cdv ct) ps sp:=by
 refine⟨len,λA outer s H args us vs Q E hr U hb r O=>?_⟩;have hl:=len _ _ _ _ O;have KX:K.In s.heap:=U.mod.kin.keeps λb o e=>(U.bs b o e).1;have Z:s.heap.NoLimit:=U.mod.nolimit.keeps λb o e=>(U.bs b o e).1;have z:∀y∈ps.zip us,scope.names.lookup y.1=some .local\/(scope.names.lookup y.1=some .cell/\((cellsFrom (s.heap.objs.size+1) scope.names []).lookup y.1).isSome=true):=λ⟨n,v⟩ hy=>by
  rcases S.par n (of_mem_zip hy).1 with q|q
  .exact .inl q
  .exact .inr ⟨q,W.cellsFrom_some _ _ _ (.inl q)⟩
 refine codeAny_call_function hr.depth (KX _ _ lk) rfl S.co S.gen rfl (W.codeRec_of KX a1) (hb _ _ _ _ ?_);refine wpAny_newFunctionEnv_cells S.kind z λenv he s1 x=>?_;subst he;refine⟨Z.keeps x.toInCall.keep,codeAny_func ?_⟩;obtain⟨t,ht,hq⟩:=G A outer s H vs Q E (hr.deeper _) O;have I:Inv (cxOf CX P w K mg base N qual scope f cdv A outer s H E) [] (W9 N vs) H s1:=yd4 S hr.hd U hl r x;refine dA (ht [] s1 (W9 N vs) H _ I hq) (λfl s' hs=>?_) λe s' hs=>hs;have fin:∀{j:St}{H':Hp}{v:V}{u:Value},Inv (cxOf CX P w K mg base N qual scope f cdv A outer s H E) [] j H' s'->RelV v u->Q v H'->CE outer P w H s Q u s':=
  λ{j H' v u} J Y q=>⟨v,H',J.os,J.bare,J.base,J.hok,Y,q⟩
 cases fl with
 |ret u=>obtain⟨v,j,H',J,Y,q⟩:=hs;exact fin J Y q
 |next=>obtain⟨j,H',J,q⟩:=hs;exact fin (v:=V.non) (u:=Value.none) J rfl q
 |brk=>obtain⟨_,_,_,q⟩:=hs;exact False.elim q
 |cont=>obtain⟨_,_,_,q⟩:=hs;exact False.elim q
section
variable {X:Cx}{x:Str}{p pos:Pos}{e:Expr}{es:List Expr}{t:TA}{id T:String}{r:List V->Hp->VK->Prop}
def tCB(r:List V->Hp->VK->Prop)(t:TA):TE:=λa H Q=>t a H λvs H1=>r vs H1 Q
theorem Y1(hc:J8 X (.builtin id) r)(U:Gl X x)(hm:X.mg x=none)(O:bootBuiltins x=some (.builtin id))(ha:PA X (e::es) t)(hn:x≠"__name__":=by decide)(z:(x==("__debug__":Str))=false:=by decide)
  (Y:starEach (e::es) X.env=(false,eval e X.env)::starEach es X.env:=by rfl) (j:(backTo pos (starEach es X.env)).any (·.1)=false:=by rfl):PE X (.Call (.Name x p) (e::es) [] pos) (tCB r t):=by
 intro pins s a H Q I h;refine wpAny_Call_Name_kw (O4 I U hm O ?_ hn z);exact PyProof.Rows.callWith_builtin1 (thn (ha pos pins s a H _ I h) λus s1 ⟨vs,H1,Z,G,N⟩=>hc pins s1 a H1 vs us Q Z G N) Y j
theorem L3(hc:J8 X (.type T) r)(U:Gl X x)(hm:X.mg x=none)(O:bootBuiltins x=some (.type T))(ha:PA X (e::es) t)(hn:x≠"__name__":=by decide)(z:(x==("__debug__":Str))=false:=by decide)
  (Y:starEach (e::es) X.env=(false,eval e X.env)::starEach es X.env:=by rfl) (j:(backTo pos (starEach es X.env)).any (·.1)=false:=by rfl):PE X (.Call (.Name x p) (e::es) [] pos) (tCB r t):=by
 intro pins s a H Q I h;refine wpAny_Call_Name_kw (O4 I U hm O ?_ hn z);exact bQ (thn (ha pos pins s a H _ I h) λus s1 ⟨vs,H1,Z,G,N⟩=>hc pins s1 a H1 vs us Q Z G N) Y j
end
end L2
namespace HT
open PySem PyProof.Rows
theorem rcLt_int(A:Around)(s:Shared)(a:Int)(t:Tok)(c:Int)(u:Tok)(prog:Program)(w:World)(E:Value->Shared->Prop)(Q:Value->Shared->Prop)(h:Q (.bool (decide (a<c))) s):
  wpAny (model prog w) A (richCompare .Lt (.int a t) (.int c u)) Q E s:=
 (PyProof.Rows.lt_int h:wpAny (model prog w) A (compareOp .Lt (.int a t) (.int c u)) Q E s)
section
open PySem.SeqAt
open PySem.AutoSeq1 (wpAny_loadPart')
open PySem.MeetsSeq PySem.MeetsSeq2 PySem.MeetsSeq3
end
section
variable {prog:Program}{w:World}{A:Around}{E:Value->Shared->Prop}{s:Shared}
noncomputable def sIx(n d:Nat):Option Int->Nat
 |none=>d
 |some v=>if v<0 then (v+(n:Int)).toNat else min v.toNat n
theorem sIx_none(n d:Nat):sIx n d none=d:=rfl
theorem sIx_nat(n d k:Nat):sIx n d (some (k:Int))=min k n:=by show (if (k:Int)<0 then ((k:Int)+(n:Int)).toNat else min (k:Int).toNat n)=min k n;rw[aI aA,bB]
end
end HT
namespace L2
open List
open PySem PySem.Spec PyProof.Rows
abbrev TO:=St->Hp->(Option Int->Hp->Prop)->Prop
def PO(X:Cx)(e:Option Expr)(t:TO):Prop:=
 ∀(pins:List (Addr×Obj))(s:Shared)(a:St)(H:Hp)(Q:Option Int->Hp->Prop),Inv X pins a H s->t a H Q->
  wpAny (model X.prog X.w) X.A (evalPart e X.env) (λu s'=>∃o H',Inv X pins a H' s'/\IsPart u o/\Q o H') X.xe s
def xi4:TO:=λ_ H Q=>Q none H
def wi2(t:TE):TO:=λa H Q=>t a H λx H1=>∃i,x= .int i/\Q (some i) H1
section
variable {X:Cx}{e:Expr}{te:TE}{lo hi:Option Expr}{tl th:TO}{pos p2:Pos}
theorem xf9:PO X none xi4:=by intro pins s a H Q I h;rw[evalPart_none];exact aH ⟨none,H,I,.none,h⟩
theorem xf8(h:PE X e te):PO X (some e) (wi2 te):=by intro pins s a H Q I hw;rw[evalPart_some];refine thn (h pins s a H _ I hw) λu s1 j=>?_;obtain⟨x,H1,N,z,G⟩:=j;obtain⟨i,rfl,q⟩:=G;obtain⟨t,rfl⟩:=z;exact⟨some i,H1,N,.int i t,q⟩
def SlR(X:Cx)(r:V->Option Int->Option Int->Hp->VK->Prop):Prop:=
 ∀(pins:List (Addr×Obj))(s:Shared)(a:St)(H:Hp)(x:V)(v vl vu:Value)(lo hi:Option Int)(sl:Addr)(Q:VK),Inv X pins a H s->RelV x v->s.heap.IsSliceOf sl vl vu .none->IsPart vl lo->IsPart vu hi->r x lo hi H Q->
  ∃T id,typeLookup (.type T) "__getitem__"=pure (some (.builtin id))/\s.TypeIs v T/\wpAny (model X.prog X.w) X.A (getItem v (.ref sl)) (EP X pins a Q) X.xe s
def tSl(r:V->Option Int->Option Int->Hp->VK->Prop)(te:TE)(tl th:TO):TE:=λa H Q=>te a H λx H1=>tl a H1 λl H2=>th a H2 λu H3=>r x l u H3 Q
theorem xu0{r:V->Option Int->Option Int->Hp->VK->Prop}(hr:SlR X r)(he:PE X e te)(hl:PO X lo tl)(hu:PO X hi th):PE X (.Subscript e (.Slice lo hi none p2) pos) (tSl r te tl th):=by intro pins s a H Q I h;refine Subscript_ (thn (he pins s a H _ I h) λv s1 j=>?_);obtain⟨x,H1,I1,U,q1⟩:=j;refine wpAny_Slice (thn (hl pins s1 a H1 _ I1 q1) λN s2 ⟨l,H2,I2,pl,Z⟩=>thn (hu pins s2 a H2 _ I2 Z) λG z j=>?_);obtain⟨u,O,I3,pu,Y⟩:=j;rw[evalPart_none];refine aH ?_;have I4:Inv X pins a O { z with heap:=z.heap.push { cls:=.type "slice",data:=.fields #[N,G,.none] } }:=I3.kept (t':=z.toks) λb ob q=>aG _ q;obtain⟨T,id,hT,ht,hg⟩:=hr pins { z with heap:=z.heap.push { cls:=.type "slice",data:=.fields #[N,G,.none] } } a O x v N G l u z.heap.objs.size Q I4 U (Heap.IsSliceOf.new ..) pl pu Y;show wpAny (model X.prog X.w) X.A (subscriptTail e (.Slice lo hi none p2) v (.ref z.heap.objs.size)) (EP X pins a Q) X.xe { z with heap:=z.heap.push { cls:=.type "slice",data:=.fields #[N,G,.none] } };exact tail_any (ops:=[.ref z.heap.objs.size,v]) ht hT hg (by with_unfolding_all rfl)
def cutV(xs:List V)(lo hi:Option Int):List V:=(xs.drop (HT.sIx xs.length 0 lo)).take (HT.sIx xs.length xs.length hi-HT.sIx xs.length 0 lo)
theorem yz7(xs:List V)(lo hi:Option Int):(cutV xs lo hi).length<=xs.length:=by unfold cutV;rw[cO,length_drop];omega
end
noncomputable def ixN(n:Nat)(i:Int):Option Nat:=if 0<=i then (if i<n then some i.toNat else none)else if -(n:Int)<=i then some (i+n).toNat else none
def atI{α:Type}(xs:List α)(i:Int):Option α:=(ixN xs.length i).bind λj=>xs[j]?
theorem za9{n:Nat}{i:Int}{j:Nat}(h:ixN n i=some j):seqIndex? i n=some j/\j<n/\ -(n:Int)<=i/\i<n:=by
 unfold ixN at h;by_cases z:0<=i
 .rw[aJ z]at h;by_cases h1:i<n
  .rw[aJ h1]at h;have e:i.toNat=j:=bn h;exact⟨by rw[seqIndex_of z h1,e],aA,aA,h1⟩
  .rw[aI h1]at h;cases h
 .rw[aI z]at h;by_cases h1:-(n:Int)<=i
  .rw[aJ h1]at h;have e:(i+n).toNat=j:=bn h;exact⟨by rw[seqIndex_neg aA h1,e],aA,h1,aA⟩
  .rw[aI h1]at h;cases h
theorem xz1{z:Type}{xs:List z}{i:Int}{v:z}(h:atI xs i=some v):∃j,seqIndex? i xs.length=some j/\xs[j]? =some v/\j<xs.length/\ -(xs.length:Int)<=i/\i<xs.length:=by
 unfold atI at h;cases e:ixN xs.length i with
 |none=>rw[e]at h;cases h
 |some j=>rw[e]at h;obtain⟨h1,h2,N,G⟩:=za9 e;exact⟨j,h1,h,h2,N,G⟩
theorem atI_last{j:Type}(xs:List j)(v:j):atI (xs++[v]) (-1)=some v:=by
 have z:(xs++[v]).length=xs.length+1:=by simp
 have e:ixN (xs++[v]).length (-1)=some xs.length:=by unfold ixN;rw[z,aI aC,aJ aA];congr 1;lia
 unfold atI;rw[e];show (xs++[v])[xs.length]? =some v;simp
def zk5(b:Expr):Prop:=∀o i,subscripted b false o i=operate [o,i] (getItem o i)
def IxR(X:Cx)(r:R2):Prop:=
 ∀(value slice:Expr)(pins:List (Addr×Obj))(s:Shared)(a:St)(H:Hp)(x y:V)(v u:Value)(Q:VK),Inv X pins a H s->RelV x v->RelV y u->r x y H Q->
  subscripted slice false v u=operate [v,u] (getItem v u)->wpAny (model X.prog X.w) X.A (subscriptTail value slice v u) (EP X pins a Q) X.xe s
def MtR(X:Cx)(id:String)(r:V->List V->Hp->VK->Prop):Prop:=
 ∀(pins:List (Addr×Obj))(s:Shared)(a:St)(H:Hp)(x:V)(xs:List V)(v:Value)(us:List Value)(Q:VK),Inv X pins a H s->RelV x v->Vals xs us->r x xs H Q->
  wpAny (model X.prog X.w) X.A (call (.builtin id) (v::us)) (EP X pins a Q) X.xe s
section
variable {X:Cx}{a b:Expr}{ta tb:TE}{pos:Pos}
theorem xu2(hr:IxR X r)(ha:PE X a ta)(G:PE X b tb)(hs:zk5 b):PE X (.Subscript a b pos) (tOp r ta tb):=by intro pins s c H Q I h;exact Subscript_ (binT ha G I h λv u s2 x y H2 N z j q=>hr a b pins s2 c H2 x y v u Q N z j q (hs _ _))
def rIxL(K:W.Frag):R2:=λx y H Q=>∃p xs i v,x= .ref p/\y= .int i/\SqL K H p xs/\atI xs i=some v/\Q v H
def rIxT(K:W.Frag):R2:=λx y H Q=>∃p xs i v,x= .ref p/\y= .int i/\SqT K H p xs/\atI xs i=some v/\Q v H
theorem za8:IxR X (rIxL X.K):=by
 intro value G pins s a H x y v u Q I Z Y h hs;obtain⟨p,xs,i,z,rfl,rfl,hq,he,q⟩:=h;cases Z;obtain⟨t,rfl⟩:=Y;obtain⟨its,r,pl,hz⟩:=I.list hq;obtain⟨j,h1,h2,h3,h4,h5⟩:=xz1 he;obtain⟨w,U,N⟩:=r.get h2;have hl:=r.length;have hn:=zg6;have fin:EP X pins a Q w s:=⟨z,H,I,N,q⟩;by_cases O:0<=i
 .have hj:i.toNat=j:=by rw[seqIndex_of O h5]at h1;exact bn h1
  exact item_listR pl.isList O aA (by rw[hj];simpa using U) fin hs
 .have hj:(i+(its.toArray.size:Int)).toNat=j:=by rw[seqIndex_neg aA h4]at h1;rw[cg,<-hl];exact bn h1
  exact subscriptTail_builtinR (x:=w) pl.isList.typeIs slot_list_getitem.lookup
   (wpAny_getItem_list_neg (Q:=λr s'=>r=w/\EP X pins a Q r s') pl.isList aA (by rw[cg] <;> lia) aA (by rw[hj];simpa using U) ⟨rfl,fin⟩) hs
theorem wp6:IxR X (rIxT X.K):=by
 intro value G pins s a H x y v u Q I U O h hs;obtain⟨p,xs,i,z,rfl,rfl,Y,he,q⟩:=h;cases U;obtain⟨t,rfl⟩:=O;obtain⟨its,r,pl,hz⟩:=I.tuple Y;obtain⟨j,h1,h2,h3,h4,h5⟩:=xz1 he;obtain⟨w,ew,N⟩:=r.get h2;have Z:=r.length;have hn:=zg6;have fin:EP X pins a Q w s:=⟨z,H,I,N,q⟩;exact subscriptTail_builtinR (x:=w) pl.typeIs slot_tuple_getitem.lookup
  (getItem_tuple (j:=j) (Q:=λr s'=>r=w/\EP X pins a Q r s') pl aA aA (by rw[cg,<-Z];exact h1) (by simpa using ew) ⟨rfl,fin⟩) hs
theorem yp0(its:List Value)(n j:Nat)(u:Value):Obj.mapSeq (·.setIfInBounds j u) { cls:=.type "list",data:=.seq its.toArray n }={ cls:=.type "list",data:=.seq (its.set j u).toArray n }:=by simp[Obj.mapSeq]
theorem Inv.lst{pins:List (Addr×Obj)}{a:St}(I:Inv X pins a H s)(h:H p=some (.lst xs)):
  ∃(its:List Value)(n:Nat),Vals xs its/\s.heap.get? p=some { cls:=.type "list",data:=.seq its.toArray n }/\xs.length<=sizeLine:=by
 obtain⟨z,its,n,r,e⟩:=I.hok p _ h;exact⟨its,n,r,e,z⟩
theorem Inv.lstUpd{pins:List (Addr×Obj)}{a:St}{its its':List Value}{n n':Nat}{f:Obj->Obj}(I:Inv X pins a H s)(h:H p=some (.lst xs))
  (G:s.heap.get? p=some { cls:=.type "list",data:=.seq its.toArray n }) (j:f { cls:=.type "list",data:=.seq its.toArray n }={ cls:=.type "list",data:=.seq its'.toArray n' }) (r:Vals ys its') (z:ys.length<=sizeLine) (t:Nat):
  Inv X pins a (upd H p (.lst ys)) { s with heap:=s.heap.update p f,toks:=t }:=by
 have e:(s.heap.update p f).get? p=some { cls:=.type "list",data:=.seq its'.toArray n' }:=by rw[bK f G (by rw[j] <;> rfl),j]
 refine I.write (x:=p) (e:=p) (by rw[h];trivial) (.inl rfl) (λb u N q=>(ck _ _ (dU N)).trans q) ⟨_,e⟩ ?_;exact⟨z,its',n',r,e⟩
def xw7:V->V->V->Hp->(Hp->Prop)->Prop:=λo i v H Q=>∃p xs k j,o= .ref p/\i= .int k/\H p=some (.lst xs)/\ixN xs.length k=some j/\Q (upd H p (.lst (xs.set j v)))
theorem U4:PSet X xw7:=by
 intro pins s a H o i v ov iv u Q I ro ri Z h;obtain⟨p,xs,k,j,rfl,rfl,hp,hj,q⟩:=h;cases ro;obtain⟨t,rfl⟩:=ri;obtain⟨its,n,r,z,hz⟩:=I.lst hp;obtain⟨h1,h2,O,N⟩:=za9 hj;have G:=r.length;have hn:=zg6;have Y:Inv X pins a (upd H p (.lst (xs.set j v))) { s with heap:=s.heap.update p (Obj.mapSeq (·.setIfInBounds j u)) }:=
  I.lstUpd hp z (yp0 its n j u) (r.set Z j) (by rw[length_set];exact hz) s.toks
 by_cases U:0<=k
 .have hk:k.toNat=j:=by rw[seqIndex_of U N]at h1;exact bn h1
  exact W.ki_setAt z U aA (by rw[cg,<-G];exact N) (by rw[hk];exact⟨_,Y,q⟩)
 .have hk:(k+(its.toArray.size:Int)).toNat=j:=by rw[seqIndex_neg aA O]at h1;rw[cg,<-G];exact bn h1
  exact W.ki_setBack z aA (by rw[cg,<-G];exact O) aA (by rw[hk];exact⟨_,Y,q⟩)
theorem zj7(lo hi:Option Int)(n:Nat):(sliceBounds lo hi none n).1=((HT.sIx n 0 lo:Nat):Int)/\(sliceBounds lo hi none n).2.1=((HT.sIx n n hi:Nat):Int)/\(sliceBounds lo hi none n).2.2=1:=by
 refine⟨?_,?_,rfl⟩
 .cases lo with
  |none=>simp[sliceBounds,HT.sIx]
  |some i=>
   simp only[sliceBounds,HT.sIx,Option.getD_none,show (1:Int)>0 by decide,if_true];by_cases h:i<0
   .simp only[h,if_true] <;> lia
   .simp only[h,if_false] <;> lia
 .cases hi with
  |none=>simp[sliceBounds,HT.sIx]
  |some i=>
   simp only[sliceBounds,HT.sIx,Option.getD_none,show (1:Int)>0 by decide,if_true];by_cases h:i<0
   .simp only[h,if_true] <;> lia
   .simp only[h,if_false] <;> lia
theorem zq3(its:List Value)(lo hi:Option Int):slicePick its.toArray lo hi none=((its.drop (HT.sIx its.length 0 lo)).take (HT.sIx its.length its.length hi-HT.sIx its.length 0 lo)).toArray:=by obtain⟨h1,h2,j⟩:=zj7 lo hi its.toArray.size;unfold slicePick;rw[h1,h2,j];simp only[sliceRange_one,pick_run,size_toArray] <;> rfl
def rSlL(K:W.Frag):V->Option Int->Option Int->Hp->VK->Prop:=λx lo hi H Q=>∃a xs,x= .ref a/\SqL K H a xs/\∀p,H p=none->Q (.ref p) (upd H p (.lst (cutV xs lo hi)))
theorem xh2:SlR X (rSlL X.K):=by intro pins s c H x v Y U lo hi sl Q I z hs pl G h;obtain⟨a,xs,rfl,O,q⟩:=h;cases z;obtain⟨its,r,ht,N⟩:=I.list O;have j:=r.length;refine⟨"list",_,slot_list_getitem.lookup,ht.isList.typeIs,?_⟩;refine wpAny_getItem_list_slice ht.isList hs pl G .none aD ?_ (by rw[cg] <;> lia);rw[zq3,<-j];refine⟨.ref s.heap.objs.size,_,I.laid (t':=s.toks) (o:=.lst (cutV xs lo hi)) (λb ob q=>aG _ q) (aN _) ?_,rfl,q _ (I.hok.fresh (aN _))⟩;exact⟨bE (yz7 xs lo hi) N,_,0,(r.drop (HT.sIx xs.length 0 lo)).take (HT.sIx xs.length xs.length hi-HT.sIx xs.length 0 lo),aX _ rfl⟩
theorem ze4:J8 X (.builtin "len") (λxs H Q=>∃p ys,xs=[.ref p]/\(SqL X.K H p ys\/SqT X.K H p ys)/\Q (.int ys.length) H):=by
 intro pins s a H xs us Q I r h;obtain⟨p,ys,rfl,z,q⟩:=h;obtain⟨u,rfl,G⟩:=A9 r;cases G;have hn:=zg6;rcases z with z|z
 .obtain⟨its,r',pl,hz⟩:=I.list z;have j:=r'.length;exact Calls.call_len_list pl.isList (by simp only[size_toArray] <;> lia) ⟨.int ys.length,H,I.tok _,⟨s.toks+1,by rw[cg,j]⟩,q⟩
 .obtain⟨its,r',pl,hz⟩:=I.tuple z;have j:=r'.length;exact len_tuple pl (by simp only[size_toArray] <;> lia) ⟨.int ys.length,H,I.tok _,⟨s.toks+1,by rw[cg,j]⟩,q⟩
theorem ze3:J8 X (.type "list") (λxs H Q=>∃p ys,xs=[.ref p]/\(SqL X.K H p ys\/SqT X.K H p ys)/\∀l,H l=none->Q (.ref l) (upd H l (.lst ys))):=by
 intro pins s a H xs us Q I r h;obtain⟨p,ys,rfl,N,q⟩:=h;obtain⟨u,rfl,Y⟩:=A9 r;cases Y;have fin:∀(its:List Value),Vals ys its->ys.length<=sizeLine->∀(h':Heap)(z:Nat),(∀b o',s.heap.get? b=some o'->h'.get? b=some o')->
   h'.get? s.heap.objs.size=some { cls:=.type "list",dict:=none,data:=.seq its.toArray z,slots:=#[] }->EP X pins a Q (.ref s.heap.objs.size) { s with heap:=h' }:=λits j G h' z kp e=>
  ⟨.ref s.heap.objs.size,_,I.laid (t':=s.toks) kp (aN _) (show ObjOk X.prog X.w _ h' _ (.lst ys)from⟨G,its,z,j,e⟩),rfl,q _ (I.hok.fresh (aN _))⟩
 rcases N with N|N
 .obtain⟨its,j,pl,G⟩:=I.list N;have O:=j.length;obtain⟨o,U,hc,n,hd⟩:=pl.isList;exact call_list_seq p (.inl rfl) U hc hd (λh' z kp e=>fin its j G h' z kp e) (by simp only[size_toArray] <;> lia)
 .obtain⟨its,j,pl,G⟩:=I.tuple N;have O:=j.length;obtain⟨o,U,hc,n,hd⟩:=pl;exact call_list_seq p (.inr rfl) U hc hd (λh' z kp e=>fin its j G h' z kp e) (by simp only[size_toArray] <;> lia)
def tyV(K:W.Frag)(T:String)(x:V)(H:Hp):Prop:=match x with
 | .str _=>T="str"
 | .int _=>T="int"
 | .ref p=>(T="list"/\∃xs,SqL K H p xs)\/(T="tuple"/\∃o,K.lookup p=some o/\o.cls= .type "tuple"/\o.dict=none)\/
   (T="dict"/\((∃kvs,H p=some (.dK kvs))\/∃kvs,H p=some (.dT kvs)))\/(T="set"/\∃S n,H p=some (.set S n))
 |_=>False
theorem ww6{pins:List (Addr×Obj)}{b:St}{T:String}(I:Inv X pins b H s)(r:RelV x v)(ty:tyV X.K T x H):
  s.TypeIs v T/\∀a,v= .ref a->∃ob,s.heap.get? a=some ob/\ob.dict=none:=by
 cases x with
 |str z=>obtain⟨t,rfl⟩:=r;cases (show T="str" from ty);exact⟨typeIs_str s z t,λ_ e=>nomatch e⟩
 |int i=>obtain⟨t,rfl⟩:=r;cases (show T="int" from ty);exact⟨typeIs_int s i t,λ_ e=>nomatch e⟩
 |ref p=>
  cases r;rcases ty with⟨rfl,xs,G⟩|⟨rfl,o,j,hc,hd⟩|⟨rfl,j⟩|⟨rfl,S,n,j⟩
  .obtain⟨its,_,pl,_⟩:=I.list G;refine⟨pl.isList.typeIs,λa e=>?_⟩;cases e;obtain⟨o,n,e,c,hd,_⟩:=pl;exact⟨o,e,hd⟩
  .refine⟨⟨o,I.kIn p o j,hc⟩,λa e=>?_⟩;cases e;exact⟨o,I.kIn _ o j,hd⟩
  .have z:∃o,s.heap.get? p=some o/\o.ExactDict:=by
    rcases j with⟨kvs,j⟩|⟨kvs,j⟩
    .obtain⟨_,_,_,_,o,_,_,e,ex,_⟩:=I.hok p _ j;exact⟨o,e,ex⟩
    .obtain⟨_,_,_,_,o,_,_,e,ex,_⟩:=I.hok p _ j;exact⟨o,e,ex⟩
   obtain⟨o,e,ex⟩:=z;refine⟨⟨o,e,ex.1⟩,λa e2=>?_⟩;cases e2;exact⟨o,e,ex.2.1⟩
  .obtain⟨o,_,_,_,e,ex,_⟩:=I.hok p _ j;refine⟨⟨o,e,ex.1⟩,λa e2=>?_⟩;cases e2;exact⟨o,e,ex.2.1⟩
 |_=>exact False.elim ty
def tBM(K:W.Frag)(T:String)(r:V->List V->Hp->VK->Prop)(to:TE)(t:TA):TE:=λa H Q=>to a H λx H1=>tyV K T x H1/\t a H1 λxs H2=>r x xs H2 Q
variable {o e:Expr}{es:List Expr}{to:TE}{t:TA}{name:Str}{apos cpos:Pos}{T id:String}{r:V->List V->Hp->VK->Prop}
theorem wh3(pa:PlainAttrs T)(slot:Slot T name id)(U:typeOf (.builtin id)=pure (.type "method_descriptor"))(hm:MtR X id r)(ho:PE X o to)(ha:PA X (e::es) t)
  (G:attributeBase o name X.env (eval o X.env)=eval o X.env:=by rfl)
  (O:((backTo cpos (starEach (e::es) X.env)).all (λx=>!x.1)&&(backToKw cpos (keywordEach [] X.env)).all (λx=>x.1.isSome)
   &&decide ((e::es).length+([]:List Keyword).length+(if ([]:List Keyword).isEmpty then 0 else 1)<30))=true:=by rfl)
  (z:(apos.endLine==cpos.line)=true:=by rfl) (hs:starEach (e::es) X.env=(false,eval e X.env)::starEach es X.env:=by rfl) (j:(backTo cpos (starEach es X.env)).any (·.1)=false:=by rfl):
  PE X (.Call (.Attribute o name apos) (e::es) [] cpos) (tBM X.K T r to t):=by
 intro pins s a H Q I h;refine wpAny_Call_method_late G O z rfl (thn (ho pins s a H _ I h) λv s1 N=>?_);obtain⟨x,H1,I1,Y,ty,q1⟩:=N;obtain⟨h1,h2⟩:=ww6 I1 Y ty;refine⟨T,id,pa,slot,U,h1,h2,?_⟩;have Z:=ha cpos pins s1 a H1 _ I1 q1;rw[hs]at Z ⊢;refine Calls.callWith_builtin (by show (false || (backTo cpos (starEach es X.env)).any (·.1))=false;rw[j] <;> rfl) (Calls.evalArgs_plain ?_);exact thn Z λus s2 ⟨vs,H2,I2,r2,q2⟩=>hm pins s2 a H2 x vs v us Q I2 Y r2 q2
end
def MtM(X:Cx)(id:String)(r:V->List V->Hp->VK->Prop):Prop:=
 ∀(pins:List (Addr×Obj))(s:Shared)(a:St)(H:Hp)(x:V)(xs:List V)(v:Value)(us:List Value)(Q:VK),Inv X pins a H s->RelV x v->Vals xs us->r x xs H Q->
  wpAny (model X.prog X.w) X.A (call (.builtin id) (v::us)) (EP X pins a Q) X.xe s
theorem Vals.one:∀{x:V}{us:List Value},Vals [x] us->∃u,us=[u]/\RelV x u
 |_,_,.cons r .nil=>⟨_,rfl,r⟩
theorem Vals.rep{xs:List V}{us:List Value}(h:Vals xs us):∀k:Nat,Vals (List.replicate k xs).flatten (List.replicate k us).flatten
 |0=>.nil
 |k+1=>by rw[cE,cE,dG,dG];exact Vals.append h (Vals.rep h k)
theorem zf1(its:List Value):∀(k:Nat)(acc:List Value),
  List.foldl (λz j=>z++j) acc.toArray (List.replicate k its.toArray)=(acc++(List.replicate k its).flatten).toArray
 |0,acc=>by simp
 |k+1,acc=>by
  have e:acc.toArray++its.toArray=(acc++its).toArray:=by simp
  have e2:(acc++its)++(List.replicate k its).flatten=acc++(List.replicate (k+1) its).flatten:=by rw[cE,dG,dI]
  rw[<-e2,<-zf1 its k (acc++its),<-e,cE,foldl_cons]
section
variable {X:Cx}{pins:List (Addr×Obj)}{a:St}{H:Hp}{s:Shared}{l b:Addr}{xs ys zs:List V}
theorem Inv.lset{its its':List Value}{n:Nat}{f:Array Value->Array Value}{t':Nat}(I:Inv X pins a H s)(U:H l=some (.lst xs))
  (e:s.heap.get? l=some { cls:=.type "list",data:=.seq its.toArray n }) (N:f its.toArray=its'.toArray) (z:Vals ys its') (j:ys.length<=sizeLine):
  Inv X pins a (upd H l (.lst ys)) { s with heap:=s.heap.update l (Obj.mapSeq f),toks:=t' }:=by
 have q:=PySem.IsL.update e f;rw[N]at q;refine I.write (x:=l) (e:=l) (by rw[U];exact trivial) (.inl rfl) (λb' u O G=>(ck s.heap (Obj.mapSeq f) (dU O)).trans G) ⟨_,q⟩ ?_;exact⟨j,its',_,z,q⟩
theorem Inv.lnew{its:List Value}{t':Nat}(I:Inv X pins a H s)(z:Vals ys its)(j:ys.length<=sizeLine):
  Inv X pins a (upd H s.heap.objs.size (.lst ys)) { s with heap:=s.heap.push { cls:=.type "list",data:=.seq its.toArray },toks:=t' }:=
 I.laid (λ_ _ q=>aG _ q) (aN _) ⟨j,its,0,z,aX _ rfl⟩
theorem Inv.fresh(I:Inv X pins a H s):H s.heap.objs.size=none:=I.hok.fresh (aN _)
theorem Inv.lstM(I:Inv X pins a H s)(j:H l=some (.lst xs)):xs.length<=sizeLine/\∃(its:List Value)(n:Nat),Vals xs its/\xs.length=its.length/\s.heap.get? l=some { cls:=.type "list",data:=.seq its.toArray n }:=by obtain⟨z,its,n,r,e⟩:=I.hok l _ j;exact⟨z,its,n,r,r.length,e⟩
theorem xt3{n:Nat}(h:n<=sizeLine):Builtin.List.listTooLong n=false:=by unfold Builtin.List.listTooLong;exact aQ aA
end
section
variable {X:Cx}
def zc3:V->List V->Hp->VK->Prop:=λx vs H Q=>∃l xs y,x= .ref l/\vs=[y]/\H l=some (.lst xs)/\xs.length<sizeLine/\Q .non (upd H l (.lst (xs++[y])))
theorem zh6:MtM X "list.append" zc3:=by intro pins s a H x vs v us Q I G N h;obtain⟨l,xs,y,rfl,rfl,j,U,q⟩:=h;cases G;obtain⟨u,rfl,O⟩:=N.one;obtain⟨z,its,n,r,Y,e⟩:=I.lstM j;refine call_meets F.slot_list_append ⟨_,e,rfl⟩ F.entry_list_append (F.args_list_append_2 _ _) (PySem.list_append l its.toArray n u (by rw[cg];lia)) ⟨e,?_⟩;refine⟨.non,_,I.lset (its':=its++[u]) j e aD (r.append (.cons O .nil)) ?_,rfl,q⟩;rw[bL,length_singleton];lia
def rRep:R2:=λx y H Q=>∃l k xs,x= .ref l/\y= .int k/\H l=some (.lst xs)/\ -(2^63)<=k/\k<2^63/\xs.length*k.toNat<=sizeLine/\
 ∀p,H p=none->Q (.ref p) (upd H p (.lst (List.replicate k.toNat xs).flatten))
theorem xc9{j:Type}(xs:List j)(k:Nat):(List.replicate k xs).flatten.length=k*xs.length:=by
 induction k with
 |zero=>simp
 |succ k z=>rw[cE,dG,bL,z,Nat.succ_mul,Nat.add_comm]
theorem ws6:OpR X (binaryOp .Mult) rRep:=by
 intro pins s b H x y v u Q I rx ry h;obtain⟨l,k,xs,rfl,rfl,hH,h1,h2,hz,q⟩:=h;cases rx;obtain⟨t,rfl⟩:=ry;obtain⟨z,its,n,r,hl,e⟩:=I.lstM hH;have N:its.toArray.size*k.toNat<=sizeLine:=by rw[cg,<-hl];exact hz
 have Y:¬ its.toArray.size*k.toNat>(2^63-1) / 8:=by
  have:(sizeLine:Nat)<=(2^63-1) / 8:=by decide
  lia
 have O:¬ (!Builtin.List.listFitsIndex k)=true:=by rw[fitsIndex_both h1 h2];exact bf
 have j:¬ Builtin.List.listTooLong (its.toArray.size*k.toNat)=true:=by rw[xt3 N];exact bf
 have G:List.foldl (λx1 Z=>x1++Z) #[] (List.replicate (if its.toArray.isEmpty=true then 0 else k.toNat) its.toArray)=(List.replicate k.toNat its).flatten.toArray:=by
  have f0:∀m:Nat,List.foldl (λx1 Z=>x1++Z) #[] (List.replicate m its.toArray)=(List.replicate m its).flatten.toArray:=λm=>by have:=zf1 its m [];rw[dC]at this;exact this
  rw[f0];cases its with
  |nil=>simp
  |cons a r'=>rw[aI aD]
 refine wpAny_binaryOp_repeat_ref (T:="list") (U:="int") aC ⟨_,e,rfl⟩ (λs'=>typeIs_int s' k t) noFill_list_mul F.fills_int_mul F.slot_int_rmul repeat_list F.slot_int_index.lookup
  (call_meets F.slot_int_rmul (typeIs_int s k t) F.entry_int_rmul (F.args_int_rmul_2 _ _) (int___rmul___int_list k t l its.toArray n)
   ⟨e,rfl,⟨_,e,rfl⟩,call_meets F.slot_list_mul ⟨_,e,rfl⟩ F.entry_list_mul (F.args_list_mul_2 _ _) (AutoListH.list___mul___list_int_3 l its.toArray n k t O Y j) ⟨e,?_⟩⟩)
 rw[G];exact⟨.ref _,_,I.lnew (t':=s.toks) (r.rep k.toNat) (by rw[xc9,Nat.mul_comm];exact hz),rfl,q _ I.fresh⟩
end
section
variable {prog:Program}{w:World}{A:Around}{E:Value->Shared->Prop}{s:Shared}
end
section
variable {X:Cx}
end
end L2
namespace Att
open PySem PySem.W PySem.Calls PyProof.Rows
theorem zx1{P:Params}:∀(ns:List Int)(vs:List Value),WellAll P h vs (ns.map WData.int)->IntsAre vs ns:=by
 intro ns;induction ns with
 |nil=>intro vs w;rw[List.map_nil]at w;cases w;exact .nil
 |cons n ns j=>
  intro vs w;rw[List.map_cons]at w;cases w with
  |cons a b=>cases a;exact .cons _ _ (j _ b)
theorem yk8{l:OpenLaw}{n:Nat}(hn:l.most=some n){P:Params}{h:Heap}{args:List WData}{j:List Value}
  (z:l.row.toRowW.claim.pre args=true) (Y:WellAll P h j args):
  ∃a vs ns,j=[Value.ref a]/\args=[WData.list (ns.map WData.int)]/\h.get? a=some { cls:=.type "list",data:=.seq vs.toArray }/\IntsAre vs ns/\ns.length<=n:=by
 have Z:WShape.hasAll [] args [.list .int]=true:=(pre_splitW z).1;have hc:l.pre.holds [] { args:=args }=true:=(pre_splitW z).2;obtain⟨d,r,rfl,h1,h2⟩:=hasAllW_cons Z;obtain rfl:=hasAllW_nil h2;obtain⟨xs,rfl,h3⟩:=hasW_list h1;obtain⟨ns,rfl⟩:=items_int h3;have G:ns.length<=n:=by
  unfold OpenLaw.pre at hc;have U:(WTm.not (.lt (.lit (.int (n:Int))) (.len (.arg 0)))).holds [] { args:=[.list (ns.map .int)] }=true:=by have U:=(holds_andW hc).1;rw[hn]at U;exact U
  have O:=condW_of U (w_not (w_lt w_lit (w_len_list (w_arg rfl))));rw[List.length_map]at O;refine Nat.le_of_not_lt λq=>?_;have q':(n:Int)<((ns.length:Nat):Int):=aB
  first
   | (rw[aV q']at O;exact aZ O aC)
   | (simp at O;omega)
 cases Y with
 |cons w1 w2=>
  cases w2;cases w1 with
  |list ho N=>exact⟨_,_,ns,rfl,rfl,ho,zx1 ns _ N,G⟩
theorem yi5(l:OpenLaw)(args:List WData):l.row.toRowW.claim.post args (.bool true) args=true:=
 postW_of (r:=l.row.toRowW) (X:=(true==true))
  (show WShape.has [] (.bool true) .bool=true by first|rfl|decide|simp[WShape.has,WShape.arms,WShape.armsAll])
  (show (WTm.eq .res (.lit (.bool true))).value [] { args:=args,res:=some (.bool true),after:=args }=some (.bool (true==true))from w_eq_bool (w_res rfl) w_lit) rfl
theorem attach_call{l:OpenLaw}{n:Nat}{q:Program}{z:List Str}{XP:(Str->Option Value)->Heap->Prop}{YP:World->Heap->Prop}{d:DefRec}
  (hn:l.most=some n) (a3:d.params.defaults=[])
  (call:∀(w:World)(s₀ j:Shared)(mg mb:Str->Option Value)(fa:Addr)(o:Obj)(pm cd doc:Value)(a:Addr)(vs:List Value)(ns:List Int),
   Ground q z [] XP w s₀ mg mb j.heap->YP w j.heap->
   j.heap.get? fa=some o->o.data= .func (docDef d.name d.params d.body d.scope pm cd doc)->j.heap.CodeRec cd d.name->mg d.name=some (.ref fa)->
   j.heap.get? a=some { cls:=.type "list",data:=.seq vs.toArray }->IntsAre vs ns->ns.length<=n->j.gens=#[]->
   codeAny (model l.prog w) callerA (.call (.ref fa) ⟨[.ref a],[]⟩) (λr s'=>r= .ok (.ret (.bool true))/\OldK j.heap s'.heap/\s'.os=j.os/\AllBare s'.gens) j):
  WalkO q z XP YP l.row.toRowW d [] (λf vs=>PySem.call f vs):=by
 intro w s₀ j mg mb G Y fa o pm cd doc dV kV ho hd a4 hD a2 hg args a5 as O a6 a7 a1 a8;obtain rfl:dV= .none:=Dflts.none hD a3;obtain rfl:kV= .none:=Dflts.noKw hD;obtain⟨a,vs,ns,rfl,rfl,U,N,Z⟩:=yk8 hn O a1;refine enter_call (codeAny_mono (call w s₀ j mg mb fa o pm cd doc a vs ns G Y ho (fd_plain hd) a4 a2 U N Z hg) λr s' hq=>?_);obtain⟨rfl,h2,h3,h4⟩:=hq;exact⟨.inl ⟨.bool true,.bool true,[],rfl,λ_=>rfl,.bool true,yi5 l _,λ_=>⟨List.Pairwise.nil,λ_ hm=>(nomatch hm)⟩⟩,h2,h3,h4⟩
section
variable {prog:Program}{w:World}{A:Around}{E:Value->Shared->Prop}{s:Shared}{K:Frag}
end
end Att
namespace L2
open List
open PySem PySem.Spec PyProof.Rows
theorem zj0:∀{vs:List Value}{ns:List Int},IntsAre vs ns->Vals (ns.map V.int) vs
 |_,_,.nil=>.nil
 |_,_,.cons n t h=>.cons ⟨t,rfl⟩ (zj0 h)
def Only(H:Hp):Prop:=∀b,H b=none\/∃o xs,H b=some (.frz o (.lst xs))
theorem xr0{P:Program}{K:W.Frag}{mg mb:Str->Option Value}{k:Nat}
  (KX:K.In j.heap) (a3:j.heap.Ns mainGlobals mg) (N:j.heap.Ns builtinsNs mb) (a8:∀x:Str,x≠"__name__"->mb x=bootBuiltins x) (a4:j.heap.NoLimit) (hg:j.gens=#[])
  (ha:j.heap.get? a=some { cls:=.type "list",data:=.seq vs.toArray }) (hi:IntsAre vs ns) (hl:ns.length<=sizeLine) (hr:Room k callerA)
  (F:∀base:Heap,K.In base->base.Ns mainGlobals mg->FnOk P w K mg base CX k fa fd [x] sp) (Y:∀(s:Shared)(u:Value),BindsTo s fd ⟨[u],[]⟩ [(x,u)])
  (a7:∀H:Hp,Only H->SqL K H a (ns.map V.int)->sp [.ref a] H (λv _=>v= .bl true) λ_ _ _=>False)
  (a9:∀H e s',CX [] H j (λ_ _ _=>False) e s'->False):
  codeAny (model P w) callerA (.call (.ref fa) ⟨[.ref a],[]⟩) (λr s'=>r= .ok (.ret (.bool true))/\OldK j.heap s'.heap/\s'.os=j.os/\AllBare s'.gens) j:=by
 have rv:=zj0 hi;have a1:=hi.length;have U:∀H:Hp,Only H->SqL K H a (ns.map V.int)->HOk P w H j.heap->(∀b,H b≠none->b=a)->(H a≠none->K.lookup a=none)->
   codeAny (model P w) callerA (.call (.ref fa) ⟨[.ref a],[]⟩) (λr s'=>r= .ok (.ret (.bool true))/\OldK j.heap s'.heap/\s'.os=j.os/\AllBare s'.gens) j:=by
  intro H hO hS hok hA hK;have G:∀{b:Addr}{o:Obj},j.heap.get? b=some o->H b=none->(hidT j.heap H).get? b=some o:=λe n=>xq0 e n;have a6:∀{b:Addr}{o:Obj}{es:Array DictEntry}{ep:Nat},j.heap.get? b=some o->o.data= .dict es ep->H b=none:=λ{b o es ep} e d=>by
   cases q:H b with
   |none=>rfl
   |some u=>have e':b=a:=hA b (by rw[q];simp);subst e';rw[ha]at e;cases e;have d':Data.seq vs.toArray _=Data.dict es ep:=d;cases d'
  have O:∀{b:Addr}{m:Str->Option Value},j.heap.Ns b m->(hidT j.heap H).Ns b m:=λ{b m} ⟨o,es,ep,e,d,r⟩=>⟨o,es,ep,G e (a6 e d),d,r⟩;have a5:K.In (hidT j.heap H):=λb o e=>G (KX b o e) (by
   cases q:H b with
   |none=>rfl
   |some u=>have e':b=a:=hA b (by rw[q];simp);subst e';rw[hK (by rw[q];simp)]at e;cases e)
  have hM:Mod K mg (hidT j.heap H):=⟨a5,O a3,⟨mb,O N,a8⟩,let ⟨mc,h1,h2⟩:=a4;⟨mc,O h1,h2⟩⟩;have e0:Env0 P w K mg (hidT j.heap H) callerA [] j H:=⟨rfl,hM,λb o e=>xc0 e,Nat.le_of_eq (yd8 _ _),trivial,λb N=>aZ (show b∈([]:List Addr)from N) aD,hok,.of_eq hg⟩;refine codeAny_mono ((F _ a5 (O a3)).run callerA [] j H ⟨[.ref a],[]⟩ [.ref a] [.ref a] _ _ hr e0 (Y j (.ref a)) (.cons rfl .nil) (a7 H hO hS)) λr s' h=>?_;cases r with
  |error e=>exact(a9 H e s' h).elim
  |ok fl=>
   cases fl with
   |next=>exact False.elim h
   |brk=>exact False.elim h
   |cont=>exact False.elim h
   |ret u=>
    obtain⟨v,H',os,bare,un,a2,r',q⟩:=h;have q':v= .bl true:=q;subst q';obtain rfl:u=Value.bool true:=r';refine⟨rfl,OldK.of_keep λb o e=>?_,os,bare⟩;cases q:H b with
    |none=>exact un.keep b o e q (by intro z;exact aZ (show b∈([]:List Addr)from z) aD) aD
    |some u=>
     rcases hO b with z|⟨ob,xs,z⟩
     .rw[q]at z;cases z
     .have z2:=un.frzs b ob _ z;obtain⟨e1,_⟩:=hok b _ z;obtain⟨e2,_⟩:=a2 b _ z2;rw[e]at e1;cases e1;exact e2
 cases hk:K.lookup a with
 |some o=>have e:=KX a o hk;rw[ha]at e;cases e;refine U (λ_=>none) (λ_=>.inl rfl) (.inr ⟨_,vs.toArray,_,hk,rfl,rfl,rfl,by rw[cg,a1];exact hl,by simpa using rv⟩) (λb u z=>by have Z:(none:Option HO)=some u:=z;cases Z) (λb z=>aZ rfl z) λz=>aZ rfl z
 |none=>
  refine U (λb=>if b=a then some (.frz { cls:=.type "list",data:=.seq vs.toArray } (.lst (ns.map V.int)))else none) (λb=>?_) (.inl (.inr ⟨{ cls:=.type "list",data:=.seq vs.toArray },aJ rfl⟩)) (λb u z=>?_) (λb z=>?_) λ_=>hk
  .by_cases N:b=a
   .exact .inr ⟨_,_,aJ N⟩
   .exact .inl (aI N)
  .by_cases N:b=a
   .have Z:=(aJ N).symm.trans z;cases Z;subst N;exact⟨ha,by rw[aW];exact hl,vs,_,rv,ha⟩
   .have Z:=(aI N).symm.trans z;cases Z
  .by_cases N:b=a
   .exact N
   .exact aZ (aI N) z
theorem walk_of{l:W.OpenLaw}{n k:Nat}{q:Program}{z:List Str}{XP:(Str->Option Value)->Heap->Prop}{YP:World->Heap->Prop}{d:DefRec}{K:Params->W.Frag}{CX:World->CXT}{sp:World->Sp}{x:Str}
  (hn:l.most=some n) (a2:n<=sizeLine) (a4:d.params.defaults=[]) (hr:Room k callerA)
  (hY:∀(w:World)(h:Heap),YP w h->(K w.params).In h)
  (F:∀(w:World)(mg:Str->Option Value)(Z:Addr)(h:Heap),(K w.params).In h->h.Ns mainGlobals mg->mg d.name=some (.ref Z)->
   ∃fd:FuncData,(∀(s:Shared)(u:Value),BindsTo s fd ⟨[u],[]⟩ [(x,u)])/\
    ∀base:Heap,(K w.params).In base->base.Ns mainGlobals mg->FnOk l.prog w (K w.params) mg base (CX w) k Z fd [x] (sp w))
  (a1:∀(w:World)(H:Hp)(a:Addr)(ns:List Int),ns.length<=n->Only H->SqL (K w.params) H a (ns.map V.int)->sp w [.ref a] H (λv _=>v= .bl true) λ_ _ _=>False)
  (a5:∀(w:World)(H:Hp)(s:Shared)(e:Value)(s':Shared),CX w [] H s (λ_ _ _=>False) e s'->False):
  W.WalkO q z XP YP l.row.toRowW d [] (λf vs=>PySem.call f vs):=by
 refine Att.attach_call hn a4 λw s₀ O mg mb Z o pm cd doc a vs ns G Y ho hd a6 a3 U N j hg=>?_;have KX:=hY w _ Y;obtain⟨fd,hb,hF⟩:=F w mg Z _ KX G.T.g a3;exact xr0 KX G.T.g G.T.b G.T.builtins G.T.nolimit hg U N (bE j a2) hr hF hb (λH hO hS=>a1 w H a ns j hO hS) λH e s'=>a5 w H O e s'
noncomputable def T9(s:Stmt):Arguments:=match s with
 | .FunctionDef _ a _ _ _ _ _ _ _ _=>a
 |_=>{ posonlyargs:=[],args:=[],vararg:=none,kwonlyargs:=[],kw_defaults:=[],kwarg:=none,defaults:=[] }
noncomputable def Y0(s:Stmt):List Stmt:=match s with
 | .FunctionDef _ _ b _ _ _ _ _ _ _=>b
 |_=>[]
noncomputable def y9(s:Stmt):Scope:=match s with
 | .FunctionDef _ _ _ _ _ _ sc _ _ _=>sc
 |_=>{ kind:=.function,names:=[],isGenerator:=false,isCoroutine:=false }
abbrev CX0:CXT:=λ_ _ _ _ _ _=>False
abbrev E0:XK:=λ_ _ _=>False
theorem wh5{X:Cx}:xy2 CX0 X E0:=λ_ _ _ _ _ _ _ h=>h.elim
structure Fun(K:W.Frag)(x qual:Str)(st:Stmt)(f:Addr)(fd:FuncData):Prop where
 ex:∃(oc:Value)(od:Option Addr)(kV doc pm:Value)(an:Option Addr)(cdv ct:Value)(osl:Array (Option Value)),
  fd=W.fnOf x qual (T9 st) (Y0 st) (y9 st) .none kV doc pm an cdv ct/\K.lookup f=some ⟨oc,od,.func fd,osl⟩/\W.codeIn K cdv qual=true
 kp:W.keepIn K (.ref f)=true
section
variable {P:Program}{w:World}{K:W.Frag}{mg:Str->Option Value}{base:Heap}
theorem Fun.ok{x qual:Str}{st:Stmt}{k:Nat}(F:Fun K x qual st f fd)(S:FnScope N ps (y9 st))(len:∀vs H Q E,sp vs H Q E->vs.length=ps.length)
  (j:∀(cdv:Value)(A:Around)(outer:List Env)(s:Shared)(H:Hp)(vs:List V)(Q:VK)(E:XK),Room k (A.deeper (envOfC qual (y9 st) s.heap.objs.size f cdv))->sp vs H Q E->
   ∃t,PSs (cxOf CX0 P w K mg base N qual (y9 st) f cdv A outer s H E).nox (Y0 st) t/\t { nx:=λ_ H'=>Q .non H',rt:=Q } (W9 N vs) H):FnOk P w K mg base CX0 (k+1) f fd ps sp:=by
 obtain⟨oc,od,kV,doc,pm,an,cdv,ct,osl,rfl,O,G⟩:=F.ex;refine we4 O G S len λA outer s H vs Q E hr z=>?_;obtain⟨t,h,q⟩:=j cdv A outer s H vs Q E hr z;exact⟨t,h.nox,q⟩
theorem Fun.binds{x qual:Str}{st:Stmt}(F:Fun K x qual st f fd)
  (h:∀(kV doc pm:Value)(an:Option Addr)(cdv ct:Value)(us:List Value),us.length=ps.length->bindArgs (W.fnOf x qual (T9 st) (Y0 st) (y9 st) .none kV doc pm an cdv ct) ⟨us,[]⟩=pure (ps.zip us)):Binds K fd ps []:=by
 obtain⟨oc,od,kV,doc,pm,an,cdv,ct,osl,rfl,z,j⟩:=F.ex;exact .all (h kV doc pm an cdv ct)
theorem yc0{x qual:Str}{st:Stmt}{osl:Array (Option Value)}{kV doc pm cdv ct:Value}(l:K.lookup f=some ⟨oc,od,.func (W.fnOf x qual (T9 st) (Y0 st) (y9 st) .none kV doc pm an cdv ct),osl⟩)
  (c:W.codeIn K cdv qual=true) (k:W.keepIn K (.ref f)=true):Fun K x qual st f (W.fnOf x qual (T9 st) (Y0 st) (y9 st) .none kV doc pm an cdv ct):=⟨⟨oc,od,kV,doc,pm,an,cdv,ct,osl,rfl,l,c⟩,k⟩
end
section
variable {X:Cx}
theorem pv(i:Nat){pos:Pos}(G:X.N[i]? =some x:=by rfl)(z:Vis X.env.scope x:=by first|exact Or.inl rfl|exact Or.inr (Or.inl rfl)|exact Or.inr (Or.inr rfl))(hd:(x==("__debug__":Str))=false:=by decide)
  (j:(x==("__classdict__":Str))=false:=by decide):PE X (.Name x pos) (tVar i):=wt5 G z hd j
end
theorem iteF{A B:Prop}(h:B):if false=true then A else B:=by rw[aI bf];exact h
theorem iteT{A B:Prop}(h:A):if true=true then A else B:=by rw[aJ rfl];exact h
def Same(H H':Hp):Prop:=∀b o,H b=some o->H' b=some o
theorem Same.refl(H:Hp):Same H H:=λ_ _ h=>h
theorem Same.trans(a:Same H H1)(b:Same H1 H2):Same H H2:=λc o h=>b c o (a c o h)
theorem Same.free(e:Same H H')(h:H' l=Option.none):H l=Option.none:=by
 cases q:H l with
 |none=>rfl
 |some o=>rw[e l o q]at h;cases h
theorem Same.seq{K:W.Frag}(e:Same H H')(h:SqL K H a xs):SqL K H' a xs:=by
 rcases h with (h|⟨o,h⟩)|h
 .exact .inl (.inl (e _ _ h))
 .exact .inl (.inr ⟨o,e _ _ h⟩)
 .exact .inr h
noncomputable def clOf(cells:List (Str×Addr)):List (Str×NameKind)->List (Str×Addr)->List (Str×Addr)
 |[],cs=>cs
 | (n,k)::r,cs=>if k= .free then (match cells.lookup n with |some c=>clOf cells r ((n,c)::cs)|none=>clOf cells r cs)else clOf cells r cs
theorem N9{env:Env}:∀(names:List (Str×NameKind))(z:List (Str×Addr)),(∀x∈names,x.2= .free->∃c,env.cells.lookup x.1=some c)->
  (forIn names z λx r=>if (x.2==NameKind.free)=true then do let c ← cellOf env x.1;pure (ForInStep.yield ((x.1,c)::r))else pure (ForInStep.yield r):Sem (List (Str×Addr)))=pure (clOf env.cells names z)
 |[],z,_=>rfl
 | (n,k)::r,z,h=>by
  have hr:∀x∈r,x.2= .free->∃c,env.cells.lookup x.1=some c:=λx N=>h x (bt _ N);rw[forIn_cons];by_cases G:k= .free
  .subst G;obtain⟨c,hc⟩:=h (n,.free) bV rfl;have j:env.cells.lookup n=some c:=hc;have e:cellOf env n=pure c:=by unfold cellOf;rw[j]
   simp only[beq_self_eq_true,if_true,e,pure_bind];rw[N9 r _ hr];simp only[clOf,if_true,j]
  .have hb:(k==NameKind.free)=false:=by simpa using G
   simp only[hb,Bool.false_eq_true,if_false,pure_bind];rw[N9 r z hr];simp only[clOf,G,if_false]
theorem zw1{env:Env}{scope:Scope}(h:∀x∈scope.names,x.2= .free->∃c,env.cells.lookup x.1=some c):closureFor scope env=pure (clOf env.cells scope.names []):=by
 have q:=N9 (env:=env) scope.names [] h;simp only[closureFor];refine Eq.trans ?_ q;have e:∀(m:Sem (List (Str×Addr))),(m >>= λj=>pure j)=m:=λm=>by simp
 first| (rw[e];rfl)|rfl|simp
theorem B7{cells:List (Str×Addr)}{x:Str}{c:Addr}:∀(names:List (Str×NameKind))(j:List (Str×Addr)),(∀y d,j.lookup y=some d->cells.lookup y=some d)->(clOf cells names j).lookup x=some c->cells.lookup x=some c
 |[],j,h,e=>h x c e
 | (n,k)::r,j,h,e=>by
  unfold clOf at e;split at e
  .split at e
   .rename_i d hd;refine B7 r _ (λy d' q=>?_) e;rw[lookup_cons]at q;split at q
    .rename_i hy;have:y=n:=by simpa using hy
     subst this;cases q;exact hd
    .exact h y d' q
   .exact B7 r j h e
  .exact B7 r j h e
theorem K9{cells:List (Str×Addr)}{x:Str}:∀(names:List (Str×NameKind))(j:List (Str×Addr)),(j.lookup x).isSome=true->((clOf cells names j).lookup x).isSome=true
 |[],j,h=>h
 | (n,k)::r,j,h=>by
  unfold clOf;split
  .split
   .refine K9 r _ ?_;rw[lookup_cons];split
    .rfl
    .exact h
   .exact K9 r j h
  .exact K9 r j h
theorem J0{cells:List (Str×Addr)}{x:Str}{c:Addr}(hc:cells.lookup x=some c):∀(names:List (Str×NameKind))(j:List (Str×Addr)),(x,NameKind.free)∈names->((clOf cells names j).lookup x).isSome=true
 |[],j,h=>aZ h aD
 | (n,k)::r,j,h=>by
  unfold clOf;rcases ba.mp h with e|h
  .cases e;rw[aJ rfl,hc];refine K9 r _ ?_;simp[lookup_cons]
  .split
   .split
    .exact J0 hc r _ h
    .exact J0 hc r j h
   .exact J0 hc r j h
theorem X2{env:Env}:∀{names:List (Str×NameKind)}{x:Str},names.lookup x=some .free->
  (names.map λ(n,k)=>if (k==NameKind.free&&env.scope.kind== .function&&env.kindOf n==some .cell)then (n,NameKind.cell)else (n,k)).lookup x=some .cell\/
  (names.map λ(n,k)=>if (k==NameKind.free&&env.scope.kind== .function&&env.kindOf n==some .cell)then (n,NameKind.cell)else (n,k)).lookup x=some .free
 |[],_,h=>by simp at h
 | (n,k)::r,x,h=>by
  have j:=@X2 env r x;show List.lookup x ((if (k==NameKind.free&&env.scope.kind== .function&&env.kindOf n==some .cell)=true then (n,NameKind.cell)else (n,k))::_)=_\/List.lookup x ((if (k==NameKind.free&&env.scope.kind== .function&&env.kindOf n==some .cell)=true then (n,NameKind.cell)else (n,k))::_)=_;by_cases hc:(k==NameKind.free&&env.scope.kind== .function&&env.kindOf n==some .cell)=true
  .rw[aJ hc];cases hx:x==n with
   |true=>left;simp only[lookup_cons,hx]
   |false=>simp only[lookup_cons,hx]at h ⊢;exact j h
  .rw[aI hc];cases hx:x==n with
   |true=>right;simp only[lookup_cons,hx]at h ⊢;exact h
   |false=>simp only[lookup_cons,hx]at h ⊢;exact j h
theorem S5{env:Env}:∀{names:List (Str×NameKind)}{x:Str}{k:NameKind},(∀y∈names,y.2≠ .cell)->
  (names.map λ(n,k)=>if (k==NameKind.free&&env.scope.kind== .function&&env.kindOf n==some .cell)then (n,NameKind.cell)else (n,k)).lookup x=some k->(k= .cell\/k= .free)->(x,NameKind.free)∈names
 |[],_,_,_,h,_=>by simp at h
 | (n,G)::r,x,k,hc0,h,z=>by
  have N:=@S5 env r x k (λy O=>hc0 y (bt _ O));have h:List.lookup x ((if (G==NameKind.free&&env.scope.kind== .function&&env.kindOf n==some .cell)=true then (n,NameKind.cell)else (n,G))::_)=_:=h;by_cases hc:(G==NameKind.free&&env.scope.kind== .function&&env.kindOf n==some .cell)=true
  .rw[aJ hc]at h;have U:G= .free:=by have:=hc;simp only[Bool.and_eq_true]at this;simpa using this.1.1
   cases hx:x==n with
   |true=>
    have j:x=n:=by simpa using hx
    subst j;subst U;exact bV
   |false=>simp only[lookup_cons,hx]at h;exact bt _ (N h z)
  .rw[aI hc]at h;cases hx:x==n with
   |true=>
    have j:x=n:=by simpa using hx
    subst j;simp only[lookup_cons,hx]at h;have e:G=k:=bn h;subst e;rcases z with z|z
    .exact aZ z (hc0 _ bV)
    .subst z;exact bV
   |false=>simp only[lookup_cons,hx]at h;exact bt _ (N h z)
structure Blk(X:Cx)(sc:Scope)(N:List Str)(src:List (Option Nat)):Prop where
 kind:sc.kind= .function
 nocell:∀y∈sc.names,y.2≠ .cell
 names:∀y∈sc.names,y.2= .local->sc.names.lookup y.1=some .local
 free:∀y∈sc.names,y.2= .free->X.env.kindOf y.1=some .cell\/X.env.kindOf y.1=some .free
 fv:∀(j i:Nat),src[j]? =some (some i)->∃x,N[j]? =some x/\X.N[i]? =some x/\sc.names.lookup x=some .free
 len:src.length=N.length
def blk0(src:List (Option Nat))(a:St):St:=src.map λo=>o.bind λi=>(a[i]?).join
def W7(X:Cx)(sc:Scope)(C:Addr)(N:List Str)(fp:List Addr)(s:Shared)(H:Hp):Cx where
 prog:=X.prog
 w:=X.w
 K:=X.K
 mg:=X.mg
 base:=X.base
 A:=X.A
 N:=N
 s₀:=s
 H₀:=H
 env:=compEnvC sc (clOf X.env.cells sc.names []) C X.env
 outer:=X.stack
 stack:=X.stack
 ex:=fp
 fn:=λ_=>false
 calm:=X.calm
 pn:=[]
 xe:=λ_ _=>False
section
variable {X:Cx}{pins:List (Addr×Obj)}{a:St}{H:Hp}{s:Shared}
theorem Blk.cl{src:List (Option Nat)}(B:Blk X sc N src)(ok:X.Ok):closureFor sc X.env=pure (clOf X.env.cells sc.names []):=
 zw1 λx j z=>ok.has x.1 (B.free x j z)
theorem D0{sc:Scope}{x:Str}{c:Addr}(h:(clOf X.env.cells sc.names []).lookup x=some c):X.env.cells.lookup x=some c:=
 B7 sc.names [] (λy d e=>by simp at e) h
theorem ya3{src:List (Option Nat)}{D C:Addr}{t:Nat}{m:Str->Option Value}
  (B:Blk X sc N src) (I:Inv X pins a H s) (Z:∀b∈fp,FpOk X pins H b) (a3:∀b∈fp,∃o,s.heap.get? b=some o)
  (Y:∀b o,s.heap.get? b=some o->U.get? b=some o) (hD:s.heap.objs.size<=D) (a7:U.get? D=some { cls:=.type "list",data:=.seq #[] 0 })
  (hn:U.Ns C m) (hC:s.heap.objs.size<=C) (a8:D≠C):
  Inv (W7 X sc C N fp s H) [] (blk0 src a) (upd H D (.lst [])) { s with heap:=U,toks:=t }:=by
 have a5:H D=none:=I.hok.fresh hD;have a6:H C=none:=I.hok.fresh hC;have new:ObjOk X.prog X.w (upd H D (.lst [])) U D (.lst []):=⟨aY _,[],0,.nil,a7⟩;have cC:∀x c,X.env.cells.lookup x=some c->c≠C:=λx c e z=>by obtain⟨v,q⟩:=I.cell x c e;exact aZ (bd q.lt (by rw[z];exact hC)) (bP _)
 have cD:∀x c,X.env.cells.lookup x=some c->c≠D:=λx c e z=>by obtain⟨v,q⟩:=I.cell x c e;exact aZ (bd q.lt (by rw[z];exact hD)) (bP _)
 refine⟨⟨I.ok.mod,?_,I.ok.glob,I.ok.blt,hC,λx y c h1 h2=>?_,λx G=>?_,λx c h _=>(by cases h),I.ok.hd,I.ok.frames,.inl rfl,λb j=>⟨?_,λx c e=>?_⟩,I.bs,bE I.ok.bsz I.sz,λb o e j=>?_,λb j z=>?_,I.stack,I.stkFree⟩,
  rfl,I.bare,Un.laid Y hD a5,⟨m,hn,λi x v e1 e2 e3=>?_⟩,λx c e=>?_,?_,λx c e=>?_,λp hp=>?_,I.hok.laid Y hD new,?_⟩
 .show (relabel sc X.env).kind=_;exact B.kind
 .exact I.ok.inj x y c (D0 h1) (D0 h2)
 .have hx':(∃k,(relabel sc X.env).names.lookup x=some k/\(k= .cell\/k= .free)):=by
   rcases G with G|G
   .exact⟨_,G,.inl rfl⟩
   .exact⟨_,G,.inr rfl⟩
  obtain⟨k,e,a2⟩:=hx';have hm:=S5 B.nocell e a2;obtain⟨c,a4⟩:=I.ok.has x (B.free _ hm rfl);exact Option.isSome_iff_exists.mp (J0 a4 sc.names [] hm)
 .obtain⟨o,e⟩:=a3 b j;exact bv (bd (aS e) hC)
 .exact(Z b j).2.2.2.2.1 x c (D0 e)
 .rcases (Z b j).2.2.2.1 with z|z
  .exact I.ok.noex b o e z
  .exact aZ (bd (aS e) (bE I.ok.bsz z)) (bP _)
 .rcases ba.mp (I.stkSub b z)with z|z
  .exact(Z b j).2.1 z
  .exact(Z b j).2.2.1 z
 .have e2':∃k,src[i]? =some (some k)/\a[k]? =some (some v):=by
   unfold blk0 at e2;rw[bF]at e2;cases q:src[i]? with
   |none=>rw[q]at e2;cases e2
   |some o=>
    rw[q]at e2;cases o with
    |none=>cases e2
    |some k=>
     refine⟨k,rfl,?_⟩;have e2:(a[k]?).join=some v:=bn e2;cases qq:a[k]? with
     |none=>rw[qq]at e2;cases e2
     |some z=>rw[qq]at e2;exact bi some e2
  obtain⟨k,ek,ev⟩:=e2';obtain⟨x',n1,n2,n3⟩:=B.fv i k ek;have:x'=x:=by have e1:N[i]? =some x:=e1;rw[n1]at e1;exact bn e1
  subst this;obtain⟨m0,a9,a1⟩:=I.loc;have O:=B.free (x',.free) (cR n3) rfl;obtain⟨u,r,l⟩:=a1 k x' v n2 ev (by rcases O with z|z;exact .inr (.inl z);exact .inr (.inr z));refine⟨u,r,.inr ⟨?_,?_⟩⟩
  .exact X2 n3
  .rcases l with⟨l,_⟩|⟨_,c,ec,z⟩
   .rcases O with q|q <;> (rw[q]at l;cases l)
   .obtain⟨c',ec'⟩:=Option.isSome_iff_exists.mp (J0 ec sc.names [] (cR n3));have:=D0 ec';rw[ec]at this;cases this;obtain⟨o,ho,hd⟩:=z;exact⟨c,ec',o,Y c o ho,hd⟩
 .obtain⟨v,o,ho,hd⟩:=I.cell x c (D0 e);exact⟨v,o,Y c o ho,hd⟩
 .show upd H D _ C=none;rw[x9 (dU a8)];exact a6
 .rw[x9 (cD x c (D0 e))];exact I.freeC x c (D0 e)
 .exact aZ (show p∈([]:List (Addr×Obj))++[]from hp) aD
 .show (blk0 src a).length=N.length;unfold blk0;rw[aW];exact B.len
end
abbrev noE:Value->Shared->Prop:=λ_ _=>False
theorem toE{j:Type}{t:Sem j}{Q z:j->Shared->Prop}{E:Value->Shared->Prop}(h:wpAny M A t Q noE s)(G:∀a s,Q a s->z a s):wpAny M A t z E s:=
 dA h G λ_ _ x=>x.elim
noncomputable abbrev zf7(ifs:List Expr)(env:Env):Sem Bool:=forIn ifs true λc r=>if r=true then do let ok ← isTrue c env (eval c env);pure (ForInStep.yield ok)else pure (ForInStep.yield r)
theorem zf8{prog:Program}{R:Result->Shared->Prop}{a4 j iter:Expr}{scope:Scope}{pos:Pos}{it acc:Value}{env:Env}(I:Nat->Shared->Prop)
  (turn:∀n s,I n s->wpAny (model prog w) A (pyNext it) (λr N=>match r with
   |none=>R (.ok .next) N
   |some v=>wpAny (model prog w) A (letOwnedTupleGo j it v) (λ_ G=>wpAny (model prog w) A (assign j env v) (λ_ Y=>
     wpAny (model prog w) A (zf7 a2 env) (λok z=>
      if ok=true then wpAny (model prog w) A (eval a4 env) (λx U=>
       wpAny (model prog w) A (call (.builtin "list.append") [acc,x]) (λ_ O=>∃m,m<n/\I m O) noE U) noE z
      else ∃m,m<n/\I m z) noE Y) noE G) noE N) noE s)
  (n:Nat) (h:I n s):
  codeAny (model prog w) A (.compLoop (.ListComp a4 [⟨j,iter,a2,0⟩] scope pos) 0 it acc env) R s:=by
 refine codeAny_loop rfl I (λn s hI=>?_) n h;show wpAny _ A ((compTurn (.ListComp a4 [⟨j,iter,a2,0⟩] scope pos) 0 it acc env).onRaise (λx=>do noteFrame x env;theTreesLotGoes x)) _ _ s;refine wpAny_noted ?_;rw[compTurn_list];refine aF (wpAny_standAt (aF (toE (turn n s hI) (λr N a1=>?_))));cases r with
 |none=>exact aH a1
 |some v=>
  refine aF (toE a1 λ_ G a3=>?_);refine aF (toE a3 (λ_ Y a7=>aF (toE a7 (λok z Z=>?_))));cases ok with
  |false=>exact aH ⟨rfl,Z⟩
  |true=>exact aF (aF (toE Z (λx U a6=>aF (toE a6 (λ_ O a5=>aH (aH ⟨rfl,a5⟩))))))
def PTs(X:Cx)(ifs:List Expr)(t:TT):Prop:=
 ∀(pins:List (Addr×Obj))(s:Shared)(a:St)(H:Hp)(Q:Bool->Hp->Prop),Inv X pins a H s->t a H Q->wpAny (model X.prog X.w) X.A (zf7 ifs X.env) (TP X pins a Q) X.xe s
def tYes:TT:=λ_ H Q=>Q true H
theorem xf2{X:Cx}:PTs X [] tYes:=λpins s a H Q I h=>aH ⟨H,I,h⟩
theorem xf1{X:Cx}(h:PT X c t):PTs X [c] t:=λpins s a H Q I q=>wpAny_tests_one (h pins s a H Q I q)
def zc1(src:List (Option Nat))(wi:TI)(g:TG)(tc:TT)(te:TE):TE:=λa H Q=>wi a H λJ H1=>∀D,H1 D=none->∃W:Nat->Nat->St->Hp->Prop,(∃m,W 0 m (blk0 src a) (upd H1 D (.lst [])))/\∀i m σ' H',W i m σ' H'->
 (J.stop i H'/\Q (.ref D) H')\/(J.go i H'/\∃N:St->Hp->Prop,(∀σ2 H2,N σ2 H2->∃m',m'<m/\W (i+1) m' σ2 H2)/\∀x H2,J.yld i H' x H2->g x σ' H2 λσ3 H3=>tc σ3 H3 λb H4=>
  if b=true then te σ3 H4 λy H5=>∃xs,H5 D=some (.lst xs)/\xs.length<sizeLine/\N σ3 (upd H5 D (.lst (xs++[y])))else N σ3 H4)
section
variable {X:Cx}
theorem zs6{sc:Scope}{N:List Str}{src:List (Option Nat)}{tg ac iter:Expr}{aa:List Expr}{pos:Pos}{g:TG}{tc:TT}{te:TE}{cx:Cx->Prop}(B:Blk X sc N src)(hc:∀C fp s H,cx (W7 X sc C N fp s H))
  (hg:∀C fp s H,PG (W7 X sc C N fp s H) tg g) (ht:∀C fp s H,PTs (W7 X sc C N fp s H) aa tc) (he:∀C fp s H,PE (W7 X sc C N fp s H) ac te)
  {pins:List (Addr×Obj)} {a:St} {H:Hp} {s:Shared} {it:Addr} {fp:List Addr} {tn:Nat->Heap->Prop} {J:It} {Q:VK} {E:Value->Shared->Prop}
  (I:Inv X pins a H s) (T:TurnC cx X.prog X.w X.K tg J fp it tn) (st:tn 0 s.heap) (hf:∀b∈fp,FpOk X pins H b)
  (hW:∀D,H D=none->∃W:Nat->Nat->St->Hp->Prop,(∃m,W 0 m (blk0 src a) (upd H D (.lst [])))/\∀i m a1 H',W i m a1 H'->
   (J.stop i H'/\Q (.ref D) H')\/(J.go i H'/\∃N:St->Hp->Prop,(∀ad H2,N ad H2->∃m',m'<m/\W (i+1) m' ad H2)/\∀x H2,J.yld i H' x H2->g x a1 H2 λY H3=>tc Y H3 λb H4=>
    if b=true then te Y H4 λy H5=>∃xs,H5 D=some (.lst xs)/\xs.length<sizeLine/\N Y (upd H5 D (.lst (xs++[y])))else N Y H4))
  {RR:Value->Addr->Result->Shared->Prop}
  (ao:∀D C H' s' m',Inv X pins a H' s'->s'.heap.Ns C m'->H' C=none->s.heap.objs.size<=C->Q (.ref D) H'->RR (.ref D) C (.ok .next) s'):
  wpAny (model X.prog X.w) X.A (newList []) (λacc a2=>wpAny (model X.prog X.w) X.A (newFunctionEnv sc X.env.globals (clOf X.env.cells sc.names []) [] X.env.qual none .none (some X.env)) (λa7 ae=>
   codeAny (model X.prog X.w) X.A (.compStart (.ListComp ac [⟨tg,iter,aa,0⟩] sc pos) 0 (.ref it) acc { a7 with scope:=relabel sc X.env }) (RR acc a7.locals) ae) E a2) E s:=by
 refine bY (wpAny_newFunctionEnv B.nocell (by intro y hy;simp at hy) (λU Z G=>?_) B.kind);dsimp only at Z G ⊢;generalize ab:s.heap.push { cls:=.type "list",dict:=none,data:=.seq ([]:List Value).toArray }=H2 at Z G ⊢;have hC:H2.objs.size=s.heap.objs.size+1:=by rw[<-ab,cw]
 have aj:s.heap.objs.size≠H2.objs.size:=by rw[hC];exact bv (ci _)
 have a6:s.heap.objs.size<=H2.objs.size:=by rw[hC];exact Nat.le_succ _
 have below:∀b,b<s.heap.objs.size->b≠H2.objs.size:=λb O=>by rw[hC];exact bv (bN O)
 have old:∀b o,s.heap.get? b=some o->U.get? b=some o:=λb o e=>G.extBut b o (below b (aS e)) (aG _ (ab ▸ aG _ e));have ai:U.get? s.heap.objs.size=some { cls:=.type "list",data:=.seq #[] 0 }:=G.extBut _ _ aj (aG _ (ab ▸ aX _ rfl));have ah:∀b∈fp,∃o,s.heap.get? b=some o:=λb O=>by obtain⟨o,e,_⟩:=T.obj _ _ st b O;exact⟨o,e⟩
 have ag:tn 0 U:=T.keep _ _ _ st λb _ o e=>old b o e;obtain⟨W,⟨m0,w0⟩,turn⟩:=hW s.heap.objs.size I.fresh;have I1:=ya3 (t:=s.toks+([]:List (Str×Value)).length) B I hf ah old (aN _) ai Z a6 aj;have a4:∀{H':Hp},(∀b∈fp,H' b=none)->∀b∈fp,FpOk (W7 X sc H2.objs.size N fp s H) [] H' b:=λ{H'} hn b O=>by obtain⟨f0,f1,f2,f3,f4,f5⟩:=hf b O;refine⟨hn b O,I1.ok.exf b O |>.1,I1.ok.exfs b O,.inl O,λx c e=>f4 x c (D0 e),λp hp=>aZ (show p∈([]:List (Addr×Obj))++[]from hp) aD⟩
 have an:∀b∈fp,b≠s.heap.objs.size:=λb O z=>by obtain⟨o,e⟩:=ah b O;exact aZ (aS e) (by rw[z];exact bP _)
 have a5:∀a2:Shared,a2={ s with heap:=U,toks:=s.toks+([]:List (Str×Value)).length }->
   codeAny (model X.prog X.w) X.A (.compLoop (.ListComp ac [⟨tg,iter,aa,0⟩] sc pos) 0 (.ref it) (.ref s.heap.objs.size) (compEnvC sc (clOf X.env.cells sc.names []) H2.objs.size X.env))
    (RR (.ref s.heap.objs.size) H2.objs.size) a2:=by
  rintro a2 rfl;refine zf8 (λn s'=>∃i a1 H',Inv (W7 X sc H2.objs.size N fp s H) [] a1 H' s'/\tn i s'.heap/\(∀b∈fp,H' b=none)/\W i n a1 H') ?_ m0
   ⟨0,_,_,I1,ag,λb O=>by rw[x9 (an b O)];exact(hf b O).1,w0⟩
  rintro n s3 ⟨i,Y,H3,I3,af,ak,w3⟩;rcases turn i n Y H3 w3 with⟨stop,qn⟩|⟨go,N',ap,step⟩
  .refine thn (T.done (W7 X sc H2.objs.size N fp s H) rfl rfl rfl (hc _ _ _ _) i [] s3 Y H3 noE I3 (a4 ak) af stop) λr s4 ⟨hr,I4⟩=>?_;subst hr;obtain⟨m4,am,_⟩:=id I4.loc;refine ao _ _ H3 s4 m4 ?_ am I4.free a6 qn;exact I.call' (ch:=fp) I4.os I4.base I4.hok I4.bare λb O=>⟨(hf b O).2.2.2.1,(hf b O).2.1,(hf b O).2.2.2.2.1,(hf b O).2.2.2.2.2⟩
  .refine thn (T.item (W7 X sc H2.objs.size N fp s H) rfl rfl rfl (hc _ _ _ _) i [] s3 Y H3 noE I3 (a4 ak) af go) λr s4 ⟨u,hr,h4⟩=>?_;subst hr;refine thn h4 λ_ s5 j=>?_;obtain⟨x,H5,I5,r5,y5,a9,ar⟩:=j;have as:=I5.pinned (a4 ar) (T.obj _ _ a9);have again:∀{s7:Shared}{a3:St}{H7:Hp},Inv (W7 X sc H2.objs.size N fp s H) ([]++zi6 fp s5.heap) a3 H7 s7->N' a3 H7->∃m,m<n/\∃i a1 H',Inv (W7 X sc H2.objs.size N fp s H) [] a1 H' s7/\tn i s7.heap/\(∀b∈fp,H' b=none)/\W i m a1 H':=λ{s7 a3 H7} I7 n7=>by obtain⟨m',hm,w7⟩:=ap a3 H7 n7;refine⟨m',hm,i+1,a3,H7,I7.unpinned,T.keep _ _ _ a9 λb O o e=>(I7.pin (b,o) (bD _ (bD _ (P2 O e)))).1,λb O=>?_,w7⟩;obtain⟨o,e,d⟩:=T.obj _ _ a9 b O;exact(I7.pin (b,o) (bD _ (bD _ (P2 O e)))).2.1
   refine thn (hg _ _ _ _ _ s5 Y H5 x u _ as r5 (step x H5 y5)) λ_ s6 j=>?_;obtain⟨a8,H6,I6,q6⟩:=j;refine thn (ht _ _ _ _ _ s6 a8 H6 _ I6 q6) λok s7 j=>?_;obtain⟨H7,I7,q7⟩:=j;cases ok with
   |false=>rw[aI bf]at q7 ⊢;exact again I7 q7
   |true=>rw[aJ rfl]at q7 ⊢;refine thn (he _ _ _ _ _ s7 a8 H7 _ I7 q7) λy s8 j=>?_;obtain⟨v8,H8,I8,r8,q8⟩:=j;obtain⟨xs,aq,al,n8⟩:=q8;refine thn (zh6 _ s8 a8 H8 (.ref s.heap.objs.size) [v8] (.ref s.heap.objs.size) [y] (λ_ H9=>H9=upd H8 s.heap.objs.size (.lst (xs++[v8]))) I8 rfl (.cons r8 .nil) ⟨_,xs,v8,rfl,rfl,aq,al,rfl⟩) λ_ s9 j=>?_;obtain⟨v9,H9,I9,r9,q9⟩:=j;subst q9;exact again I9 n8
 refine codeAny_compStart_list (a5 _ rfl) (toE (T.self X.A 0 { s with heap:=U,toks:=s.toks+([]:List (Str×Value)).length } (λv s'=>v= .ref it/\s'={ s with heap:=U,toks:=s.toks+([]:List (Str×Value)).length }) noE ag ⟨rfl,rfl⟩) λv s' j=>?_);obtain⟨e1,e2⟩:=j;subst e1;subst e2;exact a5 _ rfl
theorem Inv.letGo{pins:List (Addr×Obj)}(I:Inv X pins a H s)(j:∃G H0,Inv X pins G H0 O)(N:O.heap.objs.size<=C)(hn:H C=none)(hs:Heap.SameBut C s.heap h'):Inv X pins a H { s with heap:=h' }:=by
 obtain⟨G,H0,j⟩:=j;refine I.turned (t':=s.toks) (it:=C) (λb o U e=>(hs.2 b U).trans e) hn (cM (bd j.lt N)) (.inr (bE j.sz N)) (λx c e z=>?_) λp hp z=>?_
 .obtain⟨v,q⟩:=j.cell x c e;exact aZ (bd q.lt (by rw[z];exact N)) (bP _)
 .exact aZ (bd (aS (j.pin p hp).1) (by rw[z];exact N)) (bP _)
theorem xe4{src:List (Option Nat)}{tg U iter:Expr}{pos:Pos}(B:Blk X sc N src)(hc:X.calm=true)
  (hi:PI X tg iter wi) (hg:∀C fp s H,PG (W7 X sc C N fp s H) tg g) (ht:∀C fp s H,PTs (W7 X sc C N fp s H) j tc) (he:∀C fp s H,PE (W7 X sc C N fp s H) U te)
  (hs:∀x,foldedSetIterable iter X.env x=pure x:=by intro _;rfl):
  PE X (.ListComp U [⟨tg,iter,j,0⟩] sc pos) (zc1 src wi g tc te):=by
 intro pins s a H Q I h;rw[eval_ListComp];refine wpAny_comprehension_free (use:=none) rfl hs (B.cl I.ok) B.kind B.names (dA (hi pins s a H _ I h) (λxv a2 G=>dA G (λa3 a1 z=>?_) λ_ _ e=>e) λ_ _ e=>e);obtain⟨it,fp,tn,J,H2,rfl,I2,T,Y,f2,hW⟩:=z;refine zs6 (RR:=λacc C=>compPost (model X.prog X.w) X.A X.xe none (EP X pins a Q) acc C) (Q:=Q) B (λ_ _ _ _=>hc) hg ht he I2 T Y f2 hW ?_;intro D C H' s' m' I' hn hC Z q;exact⟨m',hn,λa4 O=>⟨.ref D,H',I'.letGo ⟨_,_,I2⟩ Z hC O,rfl,q⟩⟩
theorem zc6{i:Nat}{src:List (Option Nat)}{tg G iter:Expr}{pos O:Pos}(hN:X.N.Nodup)(a7:X.N[i]? =some y)(hx:Loc X.env.scope y)
  (B:Blk X sc N src) (hc:X.calm=true)
  (hi:PI X tg iter wi) (hg:∀C fp s H,PG (W7 X sc C N fp s H) tg g) (ht:∀C fp s H,PTs (W7 X sc C N fp s H) j tc) (he:∀C fp s H,PE (W7 X sc C N fp s H) G te)
  (a5:swapsWith (.ListComp G [⟨tg,iter,j,0⟩] sc pos) (some (.Name y Y)) O.line X.env=pure true:=by rfl)
  (hs:∀x,foldedSetIterable iter X.env x=pure x:=by intro _;rfl) (hf:X.fn y=true\/X.env.scope.names.lookup y=some .local:=by first|exact .inl rfl|exact .inr rfl|assumption):
  PS X (.Assign [.Name y Y] (.ListComp G [⟨tg,iter,j,0⟩] sc pos) O) (tAsg (zc1 src wi g tc te) (G6 i)):=by
 intro pins s b H Dn I h;rw[exec_Assign_Name_used _ _ _ _ a5];refine aF (wpAny_standAt (aF ?_));show wpAny _ _ (do let _ ← comprehension (.ListComp G [⟨tg,iter,j,0⟩] sc pos) sc X.env _ (newList []) false (eval iter X.env) (some (assign (.Name y Y) X.env))) _ _ s;refine aF (dA (wpAny_comprehension_free (use:=some (assign (.Name y Y) X.env)) (Q:=λ_ s'=>SP X pins Dn .next s') rfl hs (B.cl I.ok) B.kind B.names
  (dA (hi pins s b H _ I h) (λxv ab a1=>dA a1 (λad aa Z=>?_) λ_ _ e=>e) λ_ _ e=>e)) (λ_ s' hq=>aH (aH hq)) λ_ _ e=>e)
 obtain⟨it,fp,tn,J,H2,rfl,I2,T,a4,f2,hW⟩:=Z;refine zs6 (RR:=λacc C=>compPost (model X.prog X.w) X.A X.xe (some (assign (.Name y Y) X.env)) (λ_ s'=>SP X pins Dn .next s') acc C) (Q:=λx H1=>G6 i x b H1 Dn.nx) B (λ_ _ _ _=>hc) hg ht he I2 T a4 f2 hW ?_;intro D C H' s' m' I' hn hC U q;show wpAny _ _ (assign (.Name y Y) X.env (.ref D)) _ _ _;refine wpAny_assign_Name (zj4 I' hN a7 hx (v:=.ref D) rfl (λac a9 a3=>?_) hf);obtain⟨a,a6,ha⟩:=a3;have a8:C≠a:=λz=>by
  rcases ha with ha|ha
  .have:=I2.lt;rw[<-ha,<-z]at this;exact aZ (bd this U) (bP _)
  .obtain⟨v,qv⟩:=I2.cell y a ha;exact aZ (bd qv.lt (by rw[<-z];exact U)) (bP _)
 exact⟨m',hn.sameBut a6 a8,λae a2=>⟨_,H',a9.letGo ⟨_,_,I2⟩ U hC a2,q⟩⟩
end
section
variable {X:Cx}{pins:List (Addr×Obj)}{a:St}{H:Hp}{s:Shared}{h':Heap}
theorem Inv.turnedL{t':Nat}{fp:List Addr}(I:Inv X pins a H s)(k:∀b o,b∉fp->s.heap.get? b=some o->h'.get? b=some o)(j:∀b∈fp,FpOk X pins H b):Inv X pins a H { s with heap:=h',toks:=t' }:=by
 have G:∀b u,H b=some u->b∉fp:=λb u e z=>by rw[(j b z).1]at e;cases e
 refine I.step (g':=s.gens) (d':=s.drawn) (ch:=fp) (λb N=>⟨(j b N).2.2.2.1,(j b N).2.1,(j b N).2.2.2.2.1,(j b N).2.2.2.2.2⟩) (λb o _ _ hc e _=>k b o hc e) (λb o _ _ hc e _=>⟨o.slots,k b o hc e⟩) (λ_ _ _ _ n=>n)
  (λb o hc e=>⟨o,k b o hc e⟩) (λ_ _ e=>e) (λ_ _ _ e=>e) (λb ps e=>⟨#[],by rw[e];simp⟩) (λm hm=>?_) (λb u e=>?_) I.bare
 .obtain⟨o,es,ep,ho,r⟩:=hm;exact⟨o,es,ep,k _ o (λz=>(j _ z).2.1 rfl) ho,r⟩
 .refine(I.hok b u e).stay (λc v hc q=>k c v ?_ q) (λ_ q=>q) λ_ _ q=>q;rcases hc with z|z
  .rw[z];exact G b u e
  .exact G c _ z
theorem Inv.turnedN{t':Nat}{fp:List Addr}{T:Addr}{o:HO}(I:Inv X pins a H s)(k:∀b o,b∉fp->s.heap.get? b=some o->h'.get? b=some o)(G:∀b∈fp,FpOk X pins H b)(hT:s.heap.objs.size<=T)
  (new:ObjOk X.prog X.w (upd H T o) h' T o):Inv X pins a (upd H T o) { s with heap:=h',toks:=t' }:=by
 have hn:H T=none:=I.hok.fresh hT;have ne:∀b u,s.heap.get? b=some u->b≠T:=λb u e z=>aZ (bd (aS e) (by rw[z];exact hT)) (bP _);have N:∀b u,H b=some u->b∉fp:=λb u e z=>by rw[(G b z).1]at e;cases e
 refine I.step (g':=s.gens) (d':=s.drawn) (ch:=fp) (λb j=>⟨(G b j).2.2.2.1,(G b j).2.1,(G b j).2.2.2.2.1,(G b j).2.2.2.2.2⟩) (λb o _ _ hc e _=>k b o hc e) (λb o _ _ hc e _=>⟨o.slots,k b o hc e⟩) (λb o _ e n=>by rw[x9 (ne b o e)];exact n)
  (λb o hc e=>⟨o,k b o hc e⟩) (λb xs e=>by rw[x9 (h7 e hn)];exact e) (λb _ _ e=>by rw[x9 (h7 e hn)];exact e) (λb ps e=>⟨#[],by rw[x9 (h7 e hn),e];simp⟩) (λm hm=>?_) (λb u e=>?_) I.bare
 .obtain⟨o,es,ep,ho,r⟩:=hm;exact⟨o,es,ep,k _ o (λz=>(G _ z).2.1 rfl) ho,r⟩
 .by_cases j:b=T
  .subst j;rw[x8]at e;cases e;exact new
  .rw[x9 j]at e;refine(I.hok b u e).stay (λc v hc q=>k c v ?_ q) (λc q=>by rw[x9 (h7 q hn)];exact q) λc xs q=>by rw[x9 (h7 q hn)];exact q
   rcases hc with z|z
   .rw[z];exact N b u e
   .exact N c _ z
end
def Itz2(K:W.Frag)(l1 l2:Addr):It:=
 ⟨λi H=>∃xs ys x y,SqL K H l1 xs/\SqL K H l2 ys/\xs[i]? =some x/\ys[i]? =some y,
  λi H v H'=>∃t x y,v= .ref t/\H t=none/\H'=upd H t (.tup [x,y])/\(∀xs,SqL K H l1 xs->xs[i]? =some x)/\(∀ys,SqL K H l2 ys->ys[i]? =some y),
  λi H=>∃xs ys,SqL K H l1 xs/\SqL K H l2 ys/\(xs.length<=i\/ys.length<=i)⟩
structure Zip2(z TI TO i1 i2:Addr):Prop where
 TIz:TI≠z
 TOz:TO≠z
 i1z:i1≠z
 i2z:i2≠z
 TITO:TI≠TO
 TIi1:TI≠i1
 TIi2:TI≠i2
 TOi1:TO≠i1
 TOi2:TO≠i2
 i12:i1≠i2
theorem V1{h:Heap}{a b:Addr}{o u:Obj}(e:h.get? a=some o)(j:h.get? b=some u)(d:o.cls≠u.cls):a≠b:=by intro z;subst z;rw[e]at j;exact d (bi Obj.cls (bn j))
theorem d4(h:("list"==n)=false):Value.type "list"≠Value.type n:=λe=>by cases e;revert h;decide
theorem xy6(n:Nat):Zip2 (n+4) (n+2) (n+3) n (n+1):=by constructor <;> (show ((_:Nat)≠_);lia)
theorem zu4{z TI TO i1 i2 l1 l2:Addr}{k1 k2:Nat}(D:Zip2 z TI TO i1 i2)(hz:IsZip h z TI TO f0)(Z:IsPair h TO a b)(h1:h.IsListIter i1 l1 k1)(h2:h.IsListIter i2 l2 k2)
  (p1:h.IsList l1 Y) (p2:h.IsList l2 U):ZipApart z TI TO i1 i2 l1 l2:=by
 obtain⟨o1,e1,c1,_⟩:=h1;obtain⟨o2,e2,c2,_⟩:=h2;obtain⟨a2,G,O,_⟩:=p1;obtain⟨a1,j,N,_⟩:=p2;exact⟨D.TIz,D.TOz,D.i1z,D.i2z,D.TITO,D.TIi1,D.TIi2,D.TOi1,D.TOi2,D.i12,
  V1 G hz (by rw[O];exact d4 aC),V1 G Z (by rw[O];exact d4 aC),V1 G e1 (by rw[O,c1];decide),V1 G e2 (by rw[O,c2];decide),
  V1 j hz (by rw[N];exact d4 aC),V1 j Z (by rw[N];exact d4 aC),V1 j e1 (by rw[N,c1];decide),V1 j e2 (by rw[N,c2];decide)⟩
theorem yk1{P:Program}{w:World}{K:W.Frag}{es:List Expr}{tk:Nat}{tp:Pos}(z TI TO i1 i2 l1 l2:Addr)(D:Zip2 z TI TO i1 i2):
  Turn P w K (.Tuple es tk tp) (Itz2 K l1 l2) [z,TI,TO,i1,i2] z
   (λi h=>IsZip h z TI TO .none/\IsPair h TI (.ref i1) (.ref i2)/\(∃a b,IsPair h TO a b)/\h.IsListIter i1 l1 i/\h.IsListIter i2 l2 i) where
 mem:=by simp
 obj:=λi h st b hb=>by
  obtain⟨U,N,⟨a,c,j⟩,⟨o1,e1,_,d1⟩,⟨o2,e2,_,d2⟩⟩:=st;simp only[mem_cons,not_mem_nil,or_false]at hb;rcases hb with rfl|rfl|rfl|rfl|rfl
  .exact⟨_,U,λv q=>by cases q⟩
  .exact⟨_,N,λv q=>by cases q⟩
  .exact⟨_,j,λv q=>by cases q⟩
  .exact⟨_,e1,λv q=>by rw[d1]at q;cases q⟩
  .exact⟨_,e2,λv q=>by rw[d2]at q;cases q⟩
 keep:=λi h h' st k=>by obtain⟨U,N,⟨a,c,j⟩,h1,h2⟩:=st;exact⟨k z aD _ U,k TI aD _ N,⟨a,c,k TO aD _ j⟩,h1.at λo e=>k i1 aD o e,h2.at λo e=>k i2 aD o e⟩
 item:=by
  intro X hP hw hK hc i pins s d H E I hf st hg;subst hP hw hK;obtain⟨xs,ys,x,y,a7,Y,hx,hy⟩:=hg;obtain⟨ad,a9,p1,_⟩:=I.list a7;obtain⟨ac,a8,p2,_⟩:=I.list Y;obtain⟨u,hu,ru⟩:=a9.get hx;obtain⟨v,hv,ag⟩:=a8.get hy;obtain⟨U,N,⟨a,b,j⟩,h1,h2⟩:=st;have Z:=zu4 D U j h1 h2 p1.isList p2.isList;refine wpAny_pyNext_zip_item Z U N j h1 h2 p1.isList p2.isList (x:=u) (y:=v) (by simpa using hu) (by simpa using hv) λh' a1 a2 a3 a4 a5 a6 hk=>?_;refine⟨_,rfl,?_⟩;refine wpAny_letOwnedTupleGo_zip a1 λab af G=>?_;have ae:z<s.heap.objs.size:=aS U;have kk:∀c o,c∉[z,TI,TO,i1,i2]->s.heap.get? c=some o->ab.get? c=some o:=λc o hc e=>by simp only[mem_cons,not_mem_nil,or_false,not_or]at hc;exact G.extBut _ _ hc.1 (hk c o hc.1 hc.2.2.1 hc.2.2.2.1 hc.2.2.2.2 e)
  have hT:ab.get? s.heap.objs.size=some { cls:=.type "tuple",data:=.seq #[u,v] }:=G.extBut _ _ (cM ae) a5;have I2:Inv X pins d (upd H s.heap.objs.size (.tup [x,y])) { s with heap:=ab,toks:=s.toks }:=
   I.turnedN (T:=s.heap.objs.size) (o:=.tup [x,y]) kk hf (aN _) ⟨by show 2<=sizeLine;decide,[u,v],.cons ru (.cons ag .nil),⟨_,hT,rfl,_,rfl⟩⟩
  refine⟨.ref s.heap.objs.size,_,I2,rfl,⟨_,x,y,rfl,I.fresh,rfl,λzs O=>by rw[I.list_inj O a7];exact hx,λzs O=>by rw[I.list_inj O Y];exact hy⟩,
   ⟨af,G.extBut _ _ D.TIz (hk _ _ D.TIz D.TITO D.TIi1 D.TIi2 N),⟨_,_,G.extBut _ _ D.TOz a2⟩,a3.extBut G.extBut D.i1z,a4.extBut G.extBut D.i2z⟩,λc aa=>?_⟩
  have ah:c<s.heap.objs.size:=by
   obtain⟨o1,e1,_⟩:=h1;obtain⟨o2,e2,_⟩:=h2;simp only[mem_cons,not_mem_nil,or_false]at aa;rcases aa with rfl|rfl|rfl|rfl|rfl
   .exact ae
   .exact aS N
   .exact aS j
   .exact aS e1
   .exact aS e2
  rw[x9 (bv ah)];exact(hf c aa).1
 done:=by
  intro X hP hw hK hc i pins s d H E I hf st hg;subst hP hw hK;obtain⟨xs,ys,a7,Y,hl⟩:=hg;obtain⟨ad,a9,p1,_⟩:=I.list a7;obtain⟨ac,a8,p2,_⟩:=I.list Y;obtain⟨U,N,⟨a,b,j⟩,h1,h2⟩:=st;have Z:=zu4 D U j h1 h2 p1.isList p2.isList;have aj:=a9.length;have ai:=a8.length;refine wpAny_pyNext_zip_end (I.ok.hd hc) Z U N j h1 h2 p1.isList p2.isList (hl.elim (λq=>.inl (by simp;lia)) λq=>.inr (by simp;lia)) λh' hk=>⟨rfl,?_⟩;exact I.turnedL (t':=s.toks) (λc o hc e=>by simp only[mem_cons,not_mem_nil,or_false,not_or]at hc;exact hk c o hc.1 hc.2.2.1 hc.2.2.2.1 hc.2.2.2.2 e) hf
 self:=λ_ _ _ _ _ st h=>wpAny_pyIter_zip st.1 h
section
variable {X:Cx}
def wf7(K:W.Frag)(ta:TA):TI:=λc H R=>ta c H λvs H1=>∃a b xs ys,vs=[.ref a,.ref b]/\SqL K H1 a xs/\SqL K H1 b ys/\R (Itz2 K a b) H1
theorem xe1{p pos:Pos}{tk:Nat}(hg:Gl X "zip")(hm:X.mg "zip"=none)(ha:PA X [a,b] ta)(hs:starEach [a,b] X.env=[(false,eval a X.env),(false,eval b X.env)]:=by rfl)(j:starEach [b] X.env=[(false,eval b X.env)]:=by rfl):
  PI X (.Tuple es tk tp) (.Call (.Name "zip" p) [a,b] [] pos) (wf7 X.K ta):=by
 intro pins s c H R I h;refine Call_ (O4 I hg hm boot_zip (bQ (thn (ha pos pins s c H _ I h) λus s1 z=>?_) (by rw[hs,j]) (by rw[j];rfl)));obtain⟨vs,H1,N,r1,U⟩:=z;obtain⟨l1,l2,xs,ys,e,U,q2,q⟩:=U;subst e;cases r1 with
 |cons r O=>
  cases O with
  |cons r' O=>
   cases O;cases r;cases r';obtain⟨a4,a6,p1,_⟩:=N.list U;obtain⟨a3,a5,p2,_⟩:=N.list q2;refine call_zip_2 p1.isList p2.isList λh' hz a2 a1 Z Y a7 hk=>?_;have I2:Inv X pins c H1 { s1 with heap:=h',toks:=s1.toks }:=N.kept hk;refine wpAny_pyIter_zip (s:={ s1 with heap:=h' }) hz ?_;refine⟨_,[s1.heap.objs.size+4,s1.heap.objs.size+2,s1.heap.objs.size+3,s1.heap.objs.size,s1.heap.objs.size+1],_,_,H1,rfl,I2,yk1 _ _ _ _ _ l1 l2 (xy6 _),
    ⟨hz,a2,⟨_,_,a1⟩,Z,Y⟩,λb hb=>?_,q⟩
   have G:s1.heap.objs.size<=b:=by
    simp only[mem_cons,not_mem_nil,or_false]at hb;rcases hb with rfl|rfl|rfl|rfl|rfl
    .exact cj _ 4
    .exact cj _ 2
    .exact cj _ 3
    .exact aN _
    .exact cj _ 1
   exact N.fpOk G (N.hok.fresh G)
end
abbrev i5(h:Heap)(T:Addr)(a b c:Value):Prop:=h.get? T=some { cls:=.type "tuple",data:=.seq #[a,b,c] }
structure Zip3(z TI TO i1 i2 i3:Addr):Prop where
 TIz:TI≠z
 TOz:TO≠z
 i1z:i1≠z
 i2z:i2≠z
 i3z:i3≠z
 TITO:TI≠TO
 TIi1:TI≠i1
 TIi2:TI≠i2
 TIi3:TI≠i3
 TOi1:TO≠i1
 TOi2:TO≠i2
 TOi3:TO≠i3
 i12:i1≠i2
 i13:i1≠i3
 i23:i2≠i3
theorem xy5(n:Nat):Zip3 (n+5) (n+3) (n+4) n (n+1) (n+2):=by constructor <;> (show ((_:Nat)≠_);lia)
structure Apart3(z TO i1 i2 i3 l:Addr):Prop where
 lz:l≠z
 lTO:l≠TO
 l1:l≠i1
 l2:l≠i2
 l3:l≠i3
section
variable {prog:Program}{w:World}{A:Around}{E:Value->Shared->Prop}{s:Shared}
theorem d8{T:Addr}{k:Nat}{Q:Unit->Shared->Prop}(hT:i5 s.heap T a b c)
  (h:∀h',h'.get? T=some { cls:=.type "tuple",data:=.seq ((#[a,b,c]:Array Value).setIfInBounds k x) }->Heap.SameBut T s.heap h'->Q () { s with heap:=h' }):
  wpAny (model prog w) A (updateSeq T (·.setIfInBounds k x)) Q E s:=by
 refine dm hT rfl (h _ ?_ (bW ..));rw[bK _ hT rfl];simp[Obj.mapSeq]
theorem zw5{z TI TO i1 i2 i3 l1 l2 l3:Addr}{k1 k2 k3:Nat}{Q:Value->Shared->Prop}(D:Zip3 z TI TO i1 i2 i3)(A1:Apart3 z TO i1 i2 i3 l1)(A2:Apart3 z TO i1 i2 i3 l2)(A3:Apart3 z TO i1 i2 i3 l3)
  (hz:IsZip s.heap z TI TO .none) (b2:i5 s.heap TI (.ref i1) (.ref i2) (.ref i3)) (b1:i5 s.heap TO a b c)
  (h1:s.heap.IsListIter i1 l1 k1) (h2:s.heap.IsListIter i2 l2 k2) (h3:s.heap.IsListIter i3 l3 k3) (b0:s.heap.IsList l1 xs) (az:s.heap.IsList l2 ys) (ay:s.heap.IsList l3 zs) (hx:xs[k1]? =some x) (hy:ys[k2]? =some y) (hv:zs[k3]? =some v)
  (hQ:∀h',IsZip h' z TI TO (rawInt s.heap.objs.size)->i5 h' TO x y v->h'.IsListIter i1 l1 (k1+1)->h'.IsListIter i2 l2 (k2+1)->h'.IsListIter i3 l3 (k3+1)->i5 h' s.heap.objs.size x y v->h'.objs.size=s.heap.objs.size+1->
   (∀c o,c≠z->c≠TO->c≠i1->c≠i2->c≠i3->s.heap.get? c=some o->h'.get? c=some o)->Q (.ref s.heap.objs.size) { s with heap:=h' }):
  wpAny (model prog w) A (Builtin.«zip.__next__» ⟨[.ref z],[]⟩) (λfin s'=>∃v,fin= .done (.ret v)/\Q v s') E s:=by
 show wpAny _ _ (field (.ref z) 2 >>= _) _ _ _;refine aF (cZ hz rfl (x:=.bool false) rfl ?_);show wpAny _ _ (field (.ref z) 3 >>= _) _ _ _;refine aF (cZ hz rfl (x:=.ref TI) rfl ?_);refine aF (cv b2 rfl ?_);show wpAny _ _ (Builtin.SmallTypes.ownedTupleIsFree (.ref z) >>= _) _ _ _;refine aF ?_;unfold Builtin.SmallTypes.ownedTupleIsFree;refine aF (cZ hz rfl (x:=.none) rfl (aH ?_));simp only[if_true];refine aF (cB ?_);refine aF (cZ hz rfl (x:=.ref TO) rfl ?_);refine aF (cW hz aD λav a7 G=>?_);replace a7:IsZip av z TI TO .ellipsis:=a7;refine aF ?_;simp only[zipIdx_cons,zipIdx_nil,forIn_cons,forIn_nil];refine aF (aF (eE ?_));show wpAny _ _ (Builtin.SmallTypes.nextOf (.ref i1) >>= _) _ _ _;refine aF (di (h1.extBut G.extBut D.i1z) (b0.extBut G.extBut A1.lz) hx λau an O=>aH ?_);have ac:i5 au TO a b c:=O.extBut _ _ D.TOi1 (G.extBut _ _ D.TOz b1);refine aF (cv ac rfl ?_);refine aF (d8 ac λas a5 N=>?_);replace a5:i5 as TO x b c:=a5;refine aF (wpAny_letGo (aH ?_));refine aF (aF (eE ?_));show wpAny _ _ (Builtin.SmallTypes.nextOf (.ref i2) >>= _) _ _ _;refine aF (di (((h2.extBut G.extBut D.i2z).extBut O.extBut D.i12.symm).extBut N.extBut D.TOi2.symm)
  (((az.extBut G.extBut A2.lz).extBut O.extBut A2.l1).extBut N.extBut A2.lTO) hy λar al Y=>aH ?_)
 have ab:i5 ar TO x b c:=Y.extBut _ _ D.TOi2 a5;refine aF (cv ab rfl ?_);refine aF (d8 ab λaq a4 U=>?_);replace a4:i5 aq TO x y c:=a4;refine aF (wpAny_letGo (aH ?_));refine aF (aF (eE ?_));show wpAny _ _ (Builtin.SmallTypes.nextOf (.ref i3) >>= _) _ _ _;refine aF (di (((((h3.extBut G.extBut D.i3z).extBut O.extBut D.i13.symm).extBut N.extBut D.TOi3.symm).extBut Y.extBut D.i23.symm).extBut U.extBut D.TOi3.symm)
  (((((ay.extBut G.extBut A3.lz).extBut O.extBut A3.l1).extBut N.extBut A3.lTO).extBut Y.extBut A3.l2).extBut U.extBut A3.lTO) hv λap aj a1=>aH ?_)
 have aa:i5 ap TO x y c:=a1.extBut _ _ D.TOi3 a4;refine aF (cv aa rfl ?_);refine aF (d8 aa λj a2 Z=>?_);replace a2:i5 j TO x y v:=a2;refine aF (wpAny_letGo (aH (aH ?_)));refine aF (cv a2 rfl ?_);refine aF (wpAny_newTuple ?_);have ax:j.objs.size=s.heap.objs.size:=by rw[Z.1,a1.1,U.1,Y.1,N.1,O.1,G.1]
 have ad:IsZip j z TI TO .ellipsis:=Z.extBut _ _ D.TOz.symm (a1.extBut _ _ D.i3z.symm (U.extBut _ _ D.TOz.symm (Y.extBut _ _ D.i2z.symm (N.extBut _ _ D.TOz.symm (O.extBut _ _ D.i1z.symm a7)))));have ah:∀c o,c≠z->c≠TO->c≠i1->c≠i2->c≠i3->s.heap.get? c=some o->j.get? c=some o:=λc o c1 c2 c3 c4 c5 e=>
  Z.extBut _ _ c2 (a1.extBut _ _ c5 (U.extBut _ _ c2 (Y.extBut _ _ c4 (N.extBut _ _ c2 (O.extBut _ _ c3 (G.extBut _ _ c1 e))))))
 have am:j.IsListIter i1 l1 (k1+1):=((((an.extBut N.extBut D.TOi1.symm).extBut Y.extBut D.i12).extBut U.extBut D.TOi1.symm).extBut a1.extBut D.i13).extBut Z.extBut D.TOi1.symm;have ak:j.IsListIter i2 l2 (k2+1):=((al.extBut U.extBut D.TOi2.symm).extBut a1.extBut D.i23).extBut Z.extBut D.TOi2.symm;have ai:j.IsListIter i3 l3 (k3+1):=aj.extBut Z.extBut D.TOi3.symm;have af:z<j.objs.size:=aS ad;show wpAny _ _ (Builtin.SmallTypes.ownedTupleHandOut (.ref z) (.ref j.objs.size) >>= _) _ _ _;refine aF ?_;unfold Builtin.SmallTypes.ownedTupleHandOut;have ag:IsZip (j.push { cls:=.type "tuple",data:=.seq #[x,y,v] }) z TI TO .ellipsis:=aG _ ad;refine aF (cW ag aD λao a6 a8=>?_);replace a6:IsZip ao z TI TO (rawInt j.objs.size):=a6;refine cW a6 aD λh₀ a3 a9=>?_;replace a3:IsZip h₀ z TI TO (rawInt j.objs.size):=a3;have up:∀c o,c≠z->j.get? c=some o->h₀.get? c=some o:=λc o c1 e=>a9.extBut _ _ c1 (a8.extBut _ _ c1 (aG _ e));have ae:i5 h₀ j.objs.size x y v:=a9.extBut _ _ (cM af) (a8.extBut _ _ (cM af) (aX _ rfl));have aw:h₀.objs.size=j.objs.size+1:=by rw[a9.1,a8.1,cw]
 rw[ax]at a3 ae aw;refine aH ⟨_,rfl,?_⟩;show Q (.ref j.objs.size) _;rw[ax];exact hQ h₀ a3 (up _ _ D.TOz a2) (am.at λo e=>up _ o D.i1z e) (ak.at λo e=>up _ o D.i2z e) (ai.at λo e=>up _ o D.i3z e) ae aw λc o c1 c2 c3 c4 c5 e=>up c o c1 (ah c o c1 c2 c3 c4 c5 e)
theorem zr2{z TI TO i1 i2 i3 l1 l2 l3:Addr}{k1 k2 k3:Nat}{Q:Fin->Shared->Prop}(hh:A.handled=none)(D:Zip3 z TI TO i1 i2 i3)(A1:Apart3 z TO i1 i2 i3 l1)(A2:Apart3 z TO i1 i2 i3 l2)(A3:Apart3 z TO i1 i2 i3 l3)
  (hz:IsZip s.heap z TI TO .none) (ao:i5 s.heap TI (.ref i1) (.ref i2) (.ref i3)) (an:i5 s.heap TO a b c)
  (h1:s.heap.IsListIter i1 l1 k1) (h2:s.heap.IsListIter i2 l2 k2) (h3:s.heap.IsListIter i3 l3 k3) (ak:s.heap.IsList l1 xs) (aj:s.heap.IsList l2 ys) (am:s.heap.IsList l3 zs) (al:xs[k1]? =none\/ys[k2]? =none\/zs[k3]? =none)
  (hE:∀h' e,(∀c o,c≠z->c≠TO->c≠i1->c≠i2->c≠i3->s.heap.get? c=some o->h'.get? c=some o)->(∃o,h'.get? e=some o/\o.cls= .type "StopIteration")->E (.ref e) { s with heap:=h' }):
  wpAny (model prog w) A (Builtin.«zip.__next__» ⟨[.ref z],[]⟩) Q E s:=by
 show wpAny _ _ (field (.ref z) 2 >>= _) _ _ _;refine aF (cZ hz rfl (x:=.bool false) rfl ?_);show wpAny _ _ (field (.ref z) 3 >>= _) _ _ _;refine aF (cZ hz rfl (x:=.ref TI) rfl ?_);refine aF (cv ao rfl ?_);show wpAny _ _ (Builtin.SmallTypes.ownedTupleIsFree (.ref z) >>= _) _ _ _;refine aF ?_;unfold Builtin.SmallTypes.ownedTupleIsFree;refine aF (cZ hz rfl (x:=.none) rfl (aH ?_));simp only[if_true];refine aF (cB ?_);refine aF (cZ hz rfl (x:=.ref TO) rfl ?_);refine aF (cW hz aD λai Y G=>?_);replace Y:IsZip ai z TI TO .ellipsis:=Y;refine aF ?_;simp only[zipIdx_cons,zipIdx_nil,forIn_cons,forIn_nil];refine aF (aF (eE ?_));show wpAny _ _ (Builtin.SmallTypes.nextOf (.ref i1) >>= _) _ _ _;cases hx:xs[k1]? with
 |none=>
  refine aF (wpAny_nextOf_list_end hh (h1.extBut G.extBut D.i1z) (ak.extBut G.extBut A1.lz) hx λa9 e j he=>?_);obtain⟨oe,Z,a2⟩:=he;have ac:IsZip a9 z TI TO .ellipsis:=j _ _ D.i1z.symm Y;have af:e≠z:=λx=>by subst x;rw[ac]at Z;cases Z;simp at a2
  refine cW ac aD λa8 _ N=>hE a8 e (λc o c1 _ c3 _ _ x=>N.extBut _ _ c1 (j _ _ c3 (G.extBut _ _ c1 x))) ⟨oe,N.extBut _ _ af Z,a2⟩
 |some x=>
  refine aF (di (h1.extBut G.extBut D.i1z) (ak.extBut G.extBut A1.lz) hx λa9 aq j=>aH ?_);have a5:i5 a9 TO a b c:=j.extBut _ _ D.TOi1 (G.extBut _ _ D.TOz an);refine aF (cv a5 rfl ?_);refine aF (d8 a5 λa8 a1 N=>?_);replace a1:i5 a8 TO x b c:=a1;refine aF (wpAny_letGo (aH ?_));refine aF (aF (eE ?_));show wpAny _ _ (Builtin.SmallTypes.nextOf (.ref i2) >>= _) _ _ _;cases hy:ys[k2]? with
  |none=>
   refine aF (wpAny_nextOf_list_end hh (((h2.extBut G.extBut D.i2z).extBut j.extBut D.i12.symm).extBut N.extBut D.TOi2.symm)
    (((aj.extBut G.extBut A2.lz).extBut j.extBut A2.l1).extBut N.extBut A2.lTO) hy λa7 e O he=>?_)
   obtain⟨oe,Z,a2⟩:=he;have ab:IsZip a7 z TI TO .ellipsis:=O _ _ D.i2z.symm (N.extBut _ _ D.TOz.symm (j.extBut _ _ D.i1z.symm Y));have af:e≠z:=λx=>by subst x;rw[ab]at Z;cases Z;simp at a2
   refine cW ab aD λa6 _ U=>hE a6 e (λc o c1 c2 c3 c4 _ x=>U.extBut _ _ c1 (O _ _ c4 (N.extBut _ _ c2 (j.extBut _ _ c3 (G.extBut _ _ c1 x))))) ⟨oe,U.extBut _ _ af Z,a2⟩
  |some y=>
   have hv:zs[k3]? =none:=by
    rcases al with h|h|h
    .rw[hx]at h;cases h
    .rw[hy]at h;cases h
    .exact h
   refine aF (di (((h2.extBut G.extBut D.i2z).extBut j.extBut D.i12.symm).extBut N.extBut D.TOi2.symm)
    (((aj.extBut G.extBut A2.lz).extBut j.extBut A2.l1).extBut N.extBut A2.lTO) hy λa7 ap O=>aH ?_)
   have a4:i5 a7 TO x b c:=O.extBut _ _ D.TOi2 a1;refine aF (cv a4 rfl ?_);refine aF (d8 a4 λa6 a3 U=>?_);replace a3:i5 a6 TO x y c:=a3;refine aF (wpAny_letGo (aH ?_));refine aF (aF (eE ?_));show wpAny _ _ (Builtin.SmallTypes.nextOf (.ref i3) >>= _) _ _ _;refine aF (wpAny_nextOf_list_end hh (((((h3.extBut G.extBut D.i3z).extBut j.extBut D.i13.symm).extBut N.extBut D.TOi3.symm).extBut O.extBut D.i23.symm).extBut U.extBut D.TOi3.symm)
    (((((am.extBut G.extBut A3.lz).extBut j.extBut A3.l1).extBut N.extBut A3.lTO).extBut O.extBut A3.l2).extBut U.extBut A3.lTO) hv λah e ae he=>?_)
   obtain⟨oe,Z,a2⟩:=he;have aa:IsZip ah z TI TO .ellipsis:=ae _ _ D.i3z.symm (U.extBut _ _ D.TOz.symm (O.extBut _ _ D.i2z.symm (N.extBut _ _ D.TOz.symm (j.extBut _ _ D.i1z.symm Y))));have af:e≠z:=λx=>by subst x;rw[aa]at Z;cases Z;simp at a2
   refine cW aa aD λag _ ad=>hE ag e (λc o c1 c2 c3 c4 c5 x=>ad.extBut _ _ c1 (ae _ _ c5 (U.extBut _ _ c2 (O.extBut _ _ c4 (N.extBut _ _ c2 (j.extBut _ _ c3 (G.extBut _ _ c1 x))))))) ⟨oe,ad.extBut _ _ af Z,a2⟩
theorem D5{z TI TO i1 i2 i3 l1 l2 l3:Addr}{N G j:Nat}{Q:Option Value->Shared->Prop}(D:Zip3 z TI TO i1 i2 i3)(A1:Apart3 z TO i1 i2 i3 l1)(A2:Apart3 z TO i1 i2 i3 l2)(A3:Apart3 z TO i1 i2 i3 l3)
  (hz:IsZip s.heap z TI TO .none) (a9:i5 s.heap TI (.ref i1) (.ref i2) (.ref i3)) (Z:i5 s.heap TO a b c)
  (h1:s.heap.IsListIter i1 l1 N) (h2:s.heap.IsListIter i2 l2 G) (h3:s.heap.IsListIter i3 l3 j) (Y:s.heap.IsList l1 xs) (U:s.heap.IsList l2 ys) (O:s.heap.IsList l3 zs) (hx:xs[N]? =some x) (hy:ys[G]? =some y) (hv:zs[j]? =some v)
  (hQ:∀h',IsZip h' z TI TO (rawInt s.heap.objs.size)->i5 h' TO x y v->h'.IsListIter i1 l1 (N+1)->h'.IsListIter i2 l2 (G+1)->h'.IsListIter i3 l3 (j+1)->i5 h' s.heap.objs.size x y v->h'.objs.size=s.heap.objs.size+1->
   (∀c o,c≠z->c≠TO->c≠i1->c≠i2->c≠i3->s.heap.get? c=some o->h'.get? c=some o)->Q (some (.ref s.heap.objs.size)) { s with heap:=h' }):
  wpAny (model prog w) A (pyNext (.ref z)) Q E s:=by
 have hT:s.TypeIs (.ref z) "zip":=⟨_,hz,rfl⟩;unfold pyNext;exact aF (cT (ce (name:=Str.ofString "__next__") hT F.slot_zip_next
  (bM F.slot_zip_next hT F.entry_zip_next
   (zw5 D A1 A2 A3 hz a9 Z h1 h2 h3 Y U O hx hy hv λh' a1 a2 a3 a4 a5 a6 a7 a8=>aH (hQ h' a1 a2 a3 a4 a5 a6 a7 a8)) (F.args_zip_next_1 _))))
theorem zz5{z TI TO i1 i2 i3 l1 l2 l3:Addr}{k1 k2 Z:Nat}{Q:Option Value->Shared->Prop}(hh:A.handled=none)(D:Zip3 z TI TO i1 i2 i3)(A1:Apart3 z TO i1 i2 i3 l1)(A2:Apart3 z TO i1 i2 i3 l2)(A3:Apart3 z TO i1 i2 i3 l3)
  (hz:IsZip s.heap z TI TO .none) (Y:i5 s.heap TI (.ref i1) (.ref i2) (.ref i3)) (U:i5 s.heap TO a b c)
  (h1:s.heap.IsListIter i1 l1 k1) (h2:s.heap.IsListIter i2 l2 k2) (h3:s.heap.IsListIter i3 l3 Z) (O:s.heap.IsList l1 xs) (N:s.heap.IsList l2 ys) (G:s.heap.IsList l3 zs) (j:xs[k1]? =none\/ys[k2]? =none\/zs[Z]? =none)
  (hQ:∀h',(∀c o,c≠z->c≠TO->c≠i1->c≠i2->c≠i3->s.heap.get? c=some o->h'.get? c=some o)->Q none { s with heap:=h' }):wpAny (model prog w) A (pyNext (.ref z)) Q E s:=by
 have hT:s.TypeIs (.ref z) "zip":=⟨_,hz,rfl⟩;unfold pyNext;refine aF (cT (ce (name:=Str.ofString "__next__") hT F.slot_zip_next
  (bM F.slot_zip_next hT F.entry_zip_next (zr2 hh D A1 A2 A3 hz Y U h1 h2 h3 O N G j λh' e hk he=>?_) (F.args_zip_next_1 _))))
 obtain⟨o,ho,hc⟩:=he;refine aF (ez (T:="StopIteration") (b:=true) ⟨o,ho,hc⟩ isSubtype_stop ?_);exact aH (hQ _ hk)
noncomputable abbrev z3H1(h:Heap)(l1:Addr):Heap:=h.push { cls:=.type "list_iterator",data:=.fields #[.ref l1,.int 0 0] }
abbrev z3H2(h:Heap)(l1 l2:Addr):Heap:=(z3H1 h l1).push { cls:=.type "list_iterator",data:=.fields #[.ref l2,.int 0 0] }
abbrev z3H3(h:Heap)(l1 l2 l3:Addr):Heap:=(z3H2 h l1 l2).push { cls:=.type "list_iterator",data:=.fields #[.ref l3,.int 0 0] }
abbrev z3H4(h:Heap)(l1 l2 l3:Addr):Heap:=(z3H3 h l1 l2 l3).push { cls:=.type "tuple",data:=.seq #[.ref h.objs.size,.ref (z3H1 h l1).objs.size,.ref (z3H2 h l1 l2).objs.size] }
abbrev z3H5(h:Heap)(l1 l2 l3:Addr):Heap:=(z3H4 h l1 l2 l3).push { cls:=.type "tuple",data:=.seq #[.none,.none,.none] }
abbrev z3H6(h:Heap)(l1 l2 l3:Addr):Heap:=(z3H5 h l1 l2 l3).push { cls:=.type "zip",data:=.fields #[.none,.bool false,.bool false,.ref (z3H3 h l1 l2 l3).objs.size,.ref (z3H4 h l1 l2 l3).objs.size] }
theorem zw6(a b c:Value):checkTypeCall "zip" ⟨[a,b,c],[]⟩=pure ():=by kernel_rfl
theorem zo1(a b c:Value):checkBuiltinCall "zip.__new__" ⟨[.type "zip",a,b,c],[]⟩=pure ():=by kernel_rfl
theorem yy7(a b c d:Value):argsOk "object.__init__" ⟨[a,b,c,d],[]⟩:=by unfold argsOk;rw[signature?_of (id:="object.__init__") (n:=['_','_','t','i','n','i','_','_']) (o:=['t','c','e','j','b','o']) (by kernel_rfl) F.owner_object];kernel_rfl
set_option maxHeartbeats 8000000 in
theorem zv3(l1 l2 l3:Addr)(xs ys zs:Array Value):
  Meets (Builtin.«zip.__new__» ⟨[.type "zip",.ref l1,.ref l2,.ref l3],[]⟩) (λ_ R s=>s.heap.IsList l1 xs/\s.heap.IsList l2 ys/\s.heap.IsList l3 zs/\
   R (.ok (.ret (.ref (z3H5 s.heap l1 l2 l3).objs.size))) { s with heap:=z3H6 s.heap l1 l2 l3 }):=
 .of_wp λprog w A R s h=>by
  obtain⟨hp,g,d,tk,os⟩:=s;obtain⟨G,z,j,h⟩:=h;have Y:=sub_zip;have U:Heap.IsList (Shared.heap ⟨hp,g,d,tk,os⟩) l1 xs:=G;have O:Heap.IsList (Shared.heap ⟨hp.push { cls:=.type "list_iterator",data:=.fields #[.ref l1,.int 0 0] },g,d,tk,os⟩) l2 ys:=Heap.IsList.push z _;have N:Heap.IsList (Shared.heap ⟨(hp.push { cls:=.type "list_iterator",data:=.fields #[.ref l1,.int 0 0] }).push { cls:=.type "list_iterator",data:=.fields #[.ref l2,.int 0 0] },g,d,tk,os⟩) l3 zs:=Heap.IsList.push (Heap.IsList.push j _) _
  wp_walk using dZ U,dZ O,dZ N
  exact⟨_,rfl,h⟩
theorem yo5{Q:Value->Shared->Prop}(Y:s.heap.IsList l1 xs)(U:s.heap.IsList l2 ys)(O:s.heap.IsList l3 zs)
  (h:∀h',IsZip h' (s.heap.objs.size+5) (s.heap.objs.size+3) (s.heap.objs.size+4) .none->i5 h' (s.heap.objs.size+3) (.ref s.heap.objs.size) (.ref (s.heap.objs.size+1)) (.ref (s.heap.objs.size+2))->
   i5 h' (s.heap.objs.size+4) .none .none .none->h'.IsListIter s.heap.objs.size l1 0->h'.IsListIter (s.heap.objs.size+1) l2 0->h'.IsListIter (s.heap.objs.size+2) l3 0->
   (∀c o,s.heap.get? c=some o->h'.get? c=some o)->Q (.ref (s.heap.objs.size+5)) { s with heap:=h' }):
  wpAny (model prog w) A (call (.type "zip") [.ref l1,.ref l2,.ref l3]) Q E s:=by
 refine callType_new F.called_zip aC (zw6 _ _ _) (zo1 _ _ _) (λobj=>yy7 obj _ _ _) F.entry_zip_new
  (zv3 l1 l2 l3 xs ys zs) ⟨Y,U,O,?_⟩
 have N:(z3H1 s.heap l1).objs.size=s.heap.objs.size+1:=cw ..;have G:(z3H2 s.heap l1 l2).objs.size=s.heap.objs.size+2:=by rw[cw,N]
 have z:(z3H3 s.heap l1 l2 l3).objs.size=s.heap.objs.size+3:=by rw[cw,G]
 have j:(z3H4 s.heap l1 l2 l3).objs.size=s.heap.objs.size+4:=by rw[cw,z]
 have z5:(z3H5 s.heap l1 l2 l3).objs.size=s.heap.objs.size+5:=by rw[cw,j]
 have Z:(z3H6 s.heap l1 l2 l3).get? (z3H5 s.heap l1 l2 l3).objs.size=some _:=aX _ rfl;have g5:(z3H6 s.heap l1 l2 l3).get? (z3H4 s.heap l1 l2 l3).objs.size=some _:=aG _ (aX _ rfl);have g4:(z3H6 s.heap l1 l2 l3).get? (z3H3 s.heap l1 l2 l3).objs.size=some _:=aG _ (aG _ (aX _ rfl));have g3:(z3H6 s.heap l1 l2 l3).get? (z3H2 s.heap l1 l2).objs.size=some _:=aG _ (aG _ (aG _ (aX _ rfl)));have g2:(z3H6 s.heap l1 l2 l3).get? (z3H1 s.heap l1).objs.size=some _:=aG _ (aG _ (aG _ (aG _ (aX _ rfl))));have g1:(z3H6 s.heap l1 l2 l3).get? s.heap.objs.size=some _:=aG _ (aG _ (aG _ (aG _ (aG _ (aX _ rfl)))));show _/\_;rw[z,j,z5]at Z;rw[j]at g5;rw[N,G,z]at g4;rw[G]at g3;rw[N]at g2;rw[z5];exact⟨⟨_,Z,rfl⟩,h _ Z g4 g5 ⟨_,g1,rfl,rfl⟩ ⟨_,g2,rfl,rfl⟩ ⟨_,g3,rfl,rfl⟩ λc o x=>
  aG _ (aG _ (aG _ (aG _ (aG _ (aG _ x)))))⟩
end
def Itz3(K:W.Frag)(l1 l2 l3:Addr):It:=
 ⟨λi H=>∃xs ys zs x y z,SqL K H l1 xs/\SqL K H l2 ys/\SqL K H l3 zs/\xs[i]? =some x/\ys[i]? =some y/\zs[i]? =some z,
  λi H v H'=>∃t x y z,v= .ref t/\H t=none/\H'=upd H t (.tup [x,y,z])/\(∀xs,SqL K H l1 xs->xs[i]? =some x)/\(∀ys,SqL K H l2 ys->ys[i]? =some y)/\(∀zs,SqL K H l3 zs->zs[i]? =some z),
  λi H=>∃xs ys zs,SqL K H l1 xs/\SqL K H l2 ys/\SqL K H l3 zs/\(xs.length<=i\/ys.length<=i\/zs.length<=i)⟩
theorem U1{z TI TO i1 i2 i3 l m1 m2 N:Addr}{its:Array Value}{Y U O:Nat}(Z:IsZip h z TI TO f0)(G:i5 h TO a b c)(h1:h.IsListIter i1 m1 Y)(h2:h.IsListIter i2 m2 U)(h3:h.IsListIter i3 N O)
  (p:h.IsList l its):Apart3 z TO i1 i2 i3 l:=by
 obtain⟨o1,e1,c1,_⟩:=h1;obtain⟨o2,e2,c2,_⟩:=h2;obtain⟨o3,e3,c3,_⟩:=h3;obtain⟨po,j,pc,_⟩:=p;exact⟨V1 j Z (by rw[pc];exact d4 aC),V1 j G (by rw[pc];exact d4 aC),V1 j e1 (by rw[pc,c1];exact d4 aC),V1 j e2 (by rw[pc,c2];exact d4 aC),V1 j e3 (by rw[pc,c3];exact d4 aC)⟩
theorem yk0{P:Program}{w:World}{K:W.Frag}{es:List Expr}{tk:Nat}{tp:Pos}(z TI TO i1 i2 i3 l1 l2 l3:Addr)(D:Zip3 z TI TO i1 i2 i3):
  Turn P w K (.Tuple es tk tp) (Itz3 K l1 l2 l3) [z,TI,TO,i1,i2,i3] z
   (λi h=>IsZip h z TI TO .none/\i5 h TI (.ref i1) (.ref i2) (.ref i3)/\(∃a b c,i5 h TO a b c)/\h.IsListIter i1 l1 i/\h.IsListIter i2 l2 i/\h.IsListIter i3 l3 i) where
 mem:=by simp
 obj:=λi h st b hb=>by
  obtain⟨U,N,⟨a,c,d,j⟩,⟨o1,e1,_,d1⟩,⟨o2,e2,_,d2⟩,⟨o3,e3,_,d3⟩⟩:=st;simp only[mem_cons,not_mem_nil,or_false]at hb;rcases hb with rfl|rfl|rfl|rfl|rfl|rfl
  .exact⟨_,U,λv q=>by cases q⟩
  .exact⟨_,N,λv q=>by cases q⟩
  .exact⟨_,j,λv q=>by cases q⟩
  .exact⟨_,e1,λv q=>by rw[d1]at q;cases q⟩
  .exact⟨_,e2,λv q=>by rw[d2]at q;cases q⟩
  .exact⟨_,e3,λv q=>by rw[d3]at q;cases q⟩
 keep:=λi h h' st k=>by obtain⟨U,N,⟨a,c,d,j⟩,h1,h2,Y⟩:=st;exact⟨k z aD _ U,k TI aD _ N,⟨a,c,d,k TO aD _ j⟩,h1.at λo e=>k i1 aD o e,h2.at λo e=>k i2 aD o e,Y.at λo e=>k i3 aD o e⟩
 item:=by
  intro X hP hw hK hc i pins s f H E I hf st hg;subst hP hw hK;obtain⟨xs,ys,zs,x,y,v,a8,a7,Z,hx,hy,hv⟩:=hg;obtain⟨ag,ab,p1,_⟩:=I.list a8;obtain⟨af,aa,p2,_⟩:=I.list a7;obtain⟨ae,a9,p3,_⟩:=I.list Z;obtain⟨u1,ao,al⟩:=ab.get hx;obtain⟨u2,an,ak⟩:=aa.get hy;obtain⟨u3,am,aj⟩:=a9.get hv;obtain⟨U,N,⟨a,b,c,j⟩,h1,h2,Y⟩:=st;refine D5 D (U1 U j h1 h2 Y p1.isList) (U1 U j h1 h2 Y p2.isList) (U1 U j h1 h2 Y p3.isList) U N j h1 h2 Y p1.isList p2.isList p3.isList (x:=u1) (y:=u2) (v:=u3) (by simpa using ao) (by simpa using an) (by simpa using am) λh' a1 a2 a3 a4 aq a5 a6 hk=>?_;refine⟨_,rfl,?_⟩;refine wpAny_letOwnedTupleGo_zip a1 λad ai G=>?_;have ah:z<s.heap.objs.size:=aS U;have kk:∀c o,c∉[z,TI,TO,i1,i2,i3]->s.heap.get? c=some o->ad.get? c=some o:=λc o hc e=>by simp only[mem_cons,not_mem_nil,or_false,not_or]at hc;exact G.extBut _ _ hc.1 (hk c o hc.1 hc.2.2.1 hc.2.2.2.1 hc.2.2.2.2.1 hc.2.2.2.2.2 e)
  have hT:ad.get? s.heap.objs.size=some { cls:=.type "tuple",data:=.seq #[u1,u2,u3] }:=G.extBut _ _ (cM ah) a5;have I2:Inv X pins f (upd H s.heap.objs.size (.tup [x,y,v])) { s with heap:=ad,toks:=s.toks }:=
   I.turnedN (T:=s.heap.objs.size) (o:=.tup [x,y,v]) kk hf (aN _) ⟨by show 3<=sizeLine;decide,[u1,u2,u3],.cons al (.cons ak (.cons aj .nil)),⟨_,hT,rfl,_,rfl⟩⟩
  refine⟨.ref s.heap.objs.size,_,I2,rfl,⟨_,x,y,v,rfl,I.fresh,rfl,λzs O=>by rw[I.list_inj O a8];exact hx,λzs O=>by rw[I.list_inj O a7];exact hy,λzs O=>by rw[I.list_inj O Z];exact hv⟩,
   ⟨ai,G.extBut _ _ D.TIz (hk _ _ D.TIz D.TITO D.TIi1 D.TIi2 D.TIi3 N),⟨_,_,_,G.extBut _ _ D.TOz a2⟩,a3.extBut G.extBut D.i1z,a4.extBut G.extBut D.i2z,aq.extBut G.extBut D.i3z⟩,λc ac=>?_⟩
  have ap:c<s.heap.objs.size:=by
   obtain⟨o1,e1,_⟩:=h1;obtain⟨o2,e2,_⟩:=h2;obtain⟨o3,e3,_⟩:=Y;simp only[mem_cons,not_mem_nil,or_false]at ac;rcases ac with rfl|rfl|rfl|rfl|rfl|rfl
   .exact ah
   .exact aS N
   .exact aS j
   .exact aS e1
   .exact aS e2
   .exact aS e3
  rw[x9 (bv ap)];exact(hf c ac).1
 done:=by
  intro X hP hw hK hc i pins s f H E I hf st hg;subst hP hw hK;obtain⟨xs,ys,zs,a8,a7,Z,hl⟩:=hg;obtain⟨ag,ab,p1,_⟩:=I.list a8;obtain⟨af,aa,p2,_⟩:=I.list a7;obtain⟨ae,a9,p3,_⟩:=I.list Z;obtain⟨U,N,⟨a,b,c,j⟩,h1,h2,Y⟩:=st;have au:=ab.length;have as:=aa.length;have ar:=a9.length;refine zz5 (I.ok.hd hc) D (U1 U j h1 h2 Y p1.isList) (U1 U j h1 h2 Y p2.isList) (U1 U j h1 h2 Y p3.isList) U N j h1 h2 Y p1.isList p2.isList p3.isList ?_ λh' hk=>⟨rfl,?_⟩
  .rcases hl with q|q|q
   .exact .inl (by simp;lia)
   .exact .inr (.inl (by simp;lia))
   .exact .inr (.inr (by simp;lia))
  exact I.turnedL (t':=s.toks) (λc o hc e=>by simp only[mem_cons,not_mem_nil,or_false,not_or]at hc;exact hk c o hc.1 hc.2.2.1 hc.2.2.2.1 hc.2.2.2.2.1 hc.2.2.2.2.2 e) hf
 self:=λ_ _ _ _ _ st h=>wpAny_pyIter_zip st.1 h
section
variable {X:Cx}
def wf6(K:W.Frag)(ta:TA):TI:=λd H R=>ta d H λvs H1=>∃a b c xs ys zs,vs=[.ref a,.ref b,.ref c]/\SqL K H1 a xs/\SqL K H1 b ys/\SqL K H1 c zs/\R (Itz3 K a b c) H1
theorem xe0{p pos:Pos}{tk:Nat}(hg:Gl X "zip")(hm:X.mg "zip"=none)(ha:PA X [a,b,c] ta)(hs:starEach [a,b,c] X.env=(false,eval a X.env)::starEach [b,c] X.env:=by rfl)(Y:∀pos,((backTo pos (starEach [b,c] X.env)).any λx=>x.1)=false:=by intro _;rfl):
  PI X (.Tuple es tk tp) (.Call (.Name "zip" p) [a,b,c] [] pos) (wf6 X.K ta):=by
 intro pins s d H R I h;refine Call_ (O4 I hg hm boot_zip (bQ (thn (ha pos pins s d H _ I h) λus s1 G=>?_) hs (Y _)));obtain⟨vs,H1,j,r1,U⟩:=G;obtain⟨l1,l2,l3,xs,ys,zs,e,U,q2,q3,q⟩:=U;subst e;cases r1 with
 |cons r z=>
  cases z with
  |cons r' z=>
   cases z with
   |cons O z=>
   cases z;cases r;cases r';cases O;obtain⟨a7,aa,p1,_⟩:=j.list U;obtain⟨a6,a9,p2,_⟩:=j.list q2;obtain⟨a5,a8,p3,_⟩:=j.list q3;refine yo5 p1.isList p2.isList p3.isList λh' hz a4 a3 a2 a1 Z hk=>?_;have I2:Inv X pins d H1 { s1 with heap:=h',toks:=s1.toks }:=j.kept hk;refine wpAny_pyIter_zip (s:={ s1 with heap:=h' }) hz ?_;refine⟨_,[s1.heap.objs.size+5,s1.heap.objs.size+3,s1.heap.objs.size+4,s1.heap.objs.size,s1.heap.objs.size+1,s1.heap.objs.size+2],_,_,H1,rfl,I2,yk0 _ _ _ _ _ _ l1 l2 l3 (xy5 _),
    ⟨hz,a4,⟨_,_,_,a3⟩,a2,a1,Z⟩,λb hb=>?_,q⟩
   have N:s1.heap.objs.size<=b:=by
    simp only[mem_cons,not_mem_nil,or_false]at hb;rcases hb with rfl|rfl|rfl|rfl|rfl|rfl
    .exact cj _ 5
    .exact cj _ 3
    .exact cj _ 4
    .exact aN _
    .exact cj _ 1
    .exact cj _ 2
   exact j.fpOk N (j.hok.fresh N)
end
def Ite(K:W.Frag)(l:Addr):It:=
 ⟨λi H=>∃xs x,SqL K H l xs/\xs[i]? =some x,
  λi H v H'=>∃t x,v= .ref t/\H t=none/\H'=upd H t (.tup [.int i,x])/\(∀xs,SqL K H l xs->xs[i]? =some x),
  λi H=>∃xs,SqL K H l xs/\xs.length<=i⟩
theorem zj3{P:Program}{w:World}{K:W.Frag}{es:List Expr}{tk:Nat}{tp:Pos}(e it l:Addr)(a6:e≠it):
  Turn P w K (.Tuple es tk tp) (Ite K l) [e,it] e (λi h=>(∃old,IsEnum h e it (i:Nat) old)/\h.IsListIter it l i) where
 mem:=by simp
 obj:=λi h st b hb=>by
  obtain⟨⟨old,z⟩,⟨o1,e1,_,d1⟩⟩:=st;simp only[mem_cons,not_mem_nil,or_false]at hb;rcases hb with rfl|rfl
  .exact⟨_,z,λv q=>by cases q⟩
  .exact⟨_,e1,λv q=>by rw[d1]at q;cases q⟩
 keep:=λi h h' st k=>by obtain⟨⟨old,z⟩,h1⟩:=st;exact⟨⟨old,k e aD _ z⟩,h1.at λo q=>k it aD o q⟩
 item:=by
  intro X hP hw hK hc i pins s a H E I hf st hg;subst hP hw hK;obtain⟨xs,x,G,hx⟩:=hg;obtain⟨Y,N,p1,_⟩:=I.list G;obtain⟨u1,a9,a8⟩:=N.get hx;obtain⟨⟨old,z⟩,h1⟩:=st;refine wpAny_pyNext_enum_item z h1 p1.isList (x:=u1) (by simpa using a9) a6 λh' a1 a2 a3 a4 hk=>?_;refine⟨_,rfl,?_⟩;refine wpAny_letOwnedTupleGo_enum a1 λU a7 j=>?_;have a5:e<s.heap.objs.size:=aS z;have kk:∀c o,c∉[e,it]->s.heap.get? c=some o->U.get? c=some o:=λc o hc q=>by simp only[mem_cons,not_mem_nil,or_false,not_or]at hc;exact j.extBut _ _ hc.1 (hk c o hc.1 hc.2 q)
  have hT:U.get? s.heap.objs.size=some { cls:=.type "tuple",data:=.seq #[.int i s.toks,u1] }:=j.extBut _ _ (cM a5) a3;have I2:Inv X pins a (upd H s.heap.objs.size (.tup [.int i,x])) { s with heap:=U,toks:=s.toks+1 }:=
   I.turnedN (T:=s.heap.objs.size) (o:=.tup [.int i,x]) kk hf (aN _) ⟨by show 2<=sizeLine;decide,[.int i s.toks,u1],.cons ⟨_,rfl⟩ (.cons a8 .nil),⟨_,hT,rfl,_,rfl⟩⟩
  refine⟨.ref s.heap.objs.size,_,I2,rfl,⟨_,x,rfl,I.fresh,rfl,λzs Z=>by rw[I.list_inj Z G];exact hx⟩,
   ⟨⟨_,a7⟩,a2.extBut j.extBut a6.symm⟩,λc O=>?_⟩
  have aa:c<s.heap.objs.size:=by
   obtain⟨o1,e1,_⟩:=h1;simp only[mem_cons,not_mem_nil,or_false]at O;rcases O with rfl|rfl
   .exact a5
   .exact aS e1
  rw[x9 (bv aa)];exact(hf c O).1
 done:=by
  intro X hP hw hK hc i pins s a H E I hf st hg;subst hP hw hK;obtain⟨xs,G,hl⟩:=hg;obtain⟨Y,N,p1,_⟩:=I.list G;obtain⟨⟨old,z⟩,h1⟩:=st;have ab:=N.length;refine wpAny_pyNext_enum_end (I.ok.hd hc) z h1 p1.isList (by simp;lia) λh' hk=>⟨rfl,?_⟩;exact I.turnedL (t':=s.toks) (λc o hc q=>by simp only[mem_cons,not_mem_nil,or_false,not_or]at hc;exact hk c o hc.2 q) hf
 self:=λA i s Q E st h=>by obtain⟨⟨old,z⟩,h1⟩:=st;have hT:s.TypeIs (.ref e) "enumerate":=⟨_,z,rfl⟩;refine wpAny_pyIter_slot hT F.slot_enumerate_iter (bM F.slot_enumerate_iter hT F.entry_enumerate_iter ?_ (F.args_enumerate_iter_1 _));show wpAny _ _ (ret (.ref e)) _ _ s;exact aH ⟨_,rfl,"enumerate",_,hT,F.slot_enumerate_next.lookup,h⟩
section
variable {X:Cx}
def we1(K:W.Frag)(ta:TA):TI:=λb H R=>ta b H λvs H1=>∃a xs,vs=[.ref a]/\SqL K H1 a xs/\R (Ite K a) H1
theorem xe3{p pos:Pos}{tk:Nat}(hg:Gl X "enumerate")(hm:X.mg "enumerate"=none)(ha:PA X [a] ta)(hs:starEach [a] X.env=[(false,eval a X.env)]:=by rfl):
  PI X (.Tuple es tk tp) (.Call (.Name "enumerate" p) [a] [] pos) (we1 X.K ta):=by
 intro pins s c H R I h;refine Call_ (O4 I hg hm boot_enumerate (bQ (thn (ha pos pins s c H _ I h) λus s1 j=>?_) hs rfl));obtain⟨vs,H1,N,r1,O⟩:=j;obtain⟨l,xs,e,O,q⟩:=O;subst e;cases r1 with
 |cons r rr=>
  cases rr;cases r;obtain⟨Y,a1,p1,_⟩:=N.list O;refine call_enumerate_list p1.isList λh' U z a2 hk=>?_;have I2:Inv X pins c H1 { s1 with heap:=h',toks:=s1.toks }:=N.kept hk;have hT:({ s1 with heap:=h' }:Shared).TypeIs (.ref (s1.heap.objs.size+1)) "enumerate":=⟨_,U,rfl⟩;refine(zj3 (P:=X.prog) (w:=X.w) (K:=X.K) (es:=es) (tk:=tk) (tp:=tp) (s1.heap.objs.size+1) s1.heap.objs.size l (cM (ci _))).self X.A 0 { s1 with heap:=h' } _ _ ⟨⟨_,U⟩,z⟩ ?_;refine⟨_,[s1.heap.objs.size+1,s1.heap.objs.size],_,_,H1,rfl,I2,zj3 _ _ l (cM (ci _)),⟨⟨_,U⟩,z⟩,λb Z=>?_,q⟩;have G:s1.heap.objs.size<=b:=by
   simp only[mem_cons,not_mem_nil,or_false]at Z;rcases Z with rfl|rfl
   .exact Nat.le_succ _
   .exact aN _
  exact N.fpOk G (N.hok.fresh G)
end
def XAt(a C:Addr)(h:Heap):Prop:=∃o vs,h.get? a=some o/\o.cls= .ref C/\o.data= .fields vs/\vs[2]? =some .none
noncomputable def wx9(K:W.Frag)(C:Addr):Option Str:=match K.lookup C with
 |some ⟨_,_,.cls cd,_⟩=>some cd.name
 |_=>none
inductive D where
 |non|bl (b:Bool)|int (i:Int)|str (x:Str)|lst (ds:List D)|tup (ds:List D)|exc (c:Str)
 |ptr (a:Addr)|obj (c:Str) (ns:List Str) (ds:List D)
mutual
inductive Rep (K:W.Frag)(F:Hp):V->D->Prop
 |non:Rep K F .non .non
 |bl (b:Bool):Rep K F (.bl b) (.bl b)
 |int (i:Int):Rep K F (.int i) (.int i)
 |str (x:Str):Rep K F (.str x) (.str x)
 |lst {a:Addr} {xs:List V} {ds:List D}:SqL K F a xs->Reps K F xs ds->Rep K F (.ref a) (.lst ds)
 |tup {a:Addr} {xs:List V} {ds:List D}:SqT K F a xs->Reps K F xs ds->Rep K F (.ref a) (.tup ds)
 |exc {a C:Addr} {c:Str}:(W.nsIn K mainGlobals c=some (some (.ref C))/\wx9 K C=some c)->F a=some (.ext (XAt a C))->Rep K F (.ref a) (.exc c)
 |ptr (a:Addr):Rep K F (.ref a) (.ptr a)
 |obj {a dx C:Addr} {c:Str} {ns:List Str} {xs:List V} {ds:List D}:W.nsIn K mainGlobals c=some (some (.ref C))->ns.length=xs.length->F a=some (.ins C dx (ns.zip xs))->F dx=some (.own a)->Reps K F xs ds->Rep K F (.ref a) (.obj c ns ds)
inductive Reps (K:W.Frag)(F:Hp):List V->List D->Prop
 |nil:Reps K F [] []
 |cons {v:V} {d:D} {vs:List V} {ds:List D}:Rep K F v d->Reps K F vs ds->Reps K F (v::vs) (d::ds)
end
theorem Same.seqT{K:W.Frag}(e:Same H H')(h:SqT K H a xs):SqT K H' a xs:=by
 rcases h with (h|⟨o,h⟩)|h
 .exact .inl (.inl (e _ _ h))
 .exact .inl (.inr ⟨o,e _ _ h⟩)
 .exact .inr h
section
variable {K:W.Frag}{F F':Hp}
mutual
theorem Rep.mono(e:Same F F'):∀{v:V}{d:D},Rep K F v d->Rep K F' v d
 |_,_,.non=>.non
 |_,_,.bl b=>.bl b
 |_,_,.int i=>.int i
 |_,_,.str x=>.str x
 |_,_,.lst h r=>.lst (e.seq h) (Reps.mono e r)
 |_,_,.tup h r=>.tup (e.seqT h) (Reps.mono e r)
 |_,_,.exc h r=>.exc h (e _ _ r)
 |_,_,.ptr a=>.ptr a
 |_,_,.obj c l h h2 r=>.obj c l (e _ _ h) (e _ _ h2) (Reps.mono e r)
theorem Reps.mono(e:Same F F'):∀{vs:List V}{ds:List D},Reps K F vs ds->Reps K F' vs ds
 |_,_,.nil=>.nil
 |_,_,.cons h r=>.cons (Rep.mono e h) (Reps.mono e r)
end
theorem Reps.length:∀{vs:List V}{ds:List D},Reps K F vs ds->vs.length=ds.length
 |_,_,.nil=>rfl
 |_,_,.cons _ r=>bi (·+1) (Reps.length r)
theorem Reps.get:∀{vs:List V}{ds:List D}{i:Nat}{d:D},Reps K F vs ds->ds[i]? =some d->∃v,vs[i]? =some v/\Rep K F v d
 |_,_,_,_,.nil,e=>by simp at e
 |_,_,0,_,.cons h _,e=>by simp at e;subst e;exact⟨_,rfl,h⟩
 |_,_,i+1,d,.cons _ r,e=>by obtain⟨v,h1,h2⟩:=Reps.get (i:=i) (d:=d) r (by simpa using e);exact⟨v,by simpa using h1,h2⟩
theorem Reps.get':∀{vs:List V}{ds:List D}{i:Nat}{v:V},Reps K F vs ds->vs[i]? =some v->∃d,ds[i]? =some d/\Rep K F v d
 |_,_,_,_,.nil,e=>by simp at e
 |_,_,0,_,.cons h _,e=>by simp at e;subst e;exact⟨_,rfl,h⟩
 |_,_,i+1,d,.cons _ r,e=>by obtain⟨v,h1,h2⟩:=Reps.get' (i:=i) (v:=d) r (by simpa using e);exact⟨v,by simpa using h1,h2⟩
theorem Reps.append:∀{vs ws:List V}{ds es:List D},Reps K F vs ds->Reps K F ws es->Reps K F (vs++ws) (ds++es)
 |_,_,_,_,.nil,s=>s
 |_,_,_,_,.cons h r,s=>.cons h (Reps.append r s)
theorem Reps.take:∀{vs:List V}{ds:List D}(n:Nat),Reps K F vs ds->Reps K F (vs.take n) (ds.take n)
 |_,_,0,_=>.nil
 |_,_,_+1,.nil=>.nil
 |_,_,n+1,.cons h r=>.cons h (Reps.take n r)
theorem Reps.drop:∀{vs:List V}{ds:List D}(n:Nat),Reps K F vs ds->Reps K F (vs.drop n) (ds.drop n)
 |_,_,0,r=>r
 |_,_,_+1,.nil=>.nil
 |_,_,n+1,.cons _ r=>Reps.drop n r
theorem Reps.set{v:V}{d:D}(h:Rep K F v d):∀{vs:List V}{ds:List D}(i:Nat),Reps K F vs ds->Reps K F (vs.set i v) (ds.set i d)
 |_,_,_,.nil=>.nil
 |_,_,0,.cons _ r=>.cons h r
 |_,_,i+1,.cons q r=>.cons q (Reps.set h i r)
end
structure Ext(F H F' H':Hp):Prop where
 ff:Same F F'
 hh:Same H H'
 fh:Same F' H'
 new:∀b,F b=none->F' b≠none->H b=none
 nf:∀b o u,F' b=some (.frz o u)->F b=some (.frz o u)
theorem Ext.refl{F H:Hp}(h:Same F H):Ext F H F H:=⟨Same.refl _,Same.refl _,h,λb e n=>aZ e n,λ_ _ _ z=>z⟩
theorem Ext.trans{F H F1 H1 F2 H2:Hp}(a:Ext F H F1 H1)(b:Ext F1 H1 F2 H2):Ext F H F2 H2:=
 ⟨a.ff.trans b.ff,a.hh.trans b.hh,b.fh,λc e n=>by
  by_cases h:F1 c=none
  .exact a.hh.free (b.new c h n)
  .exact a.new c e h,λc o u z=>a.nf c o u (b.nf c o u z)⟩
theorem Same.put{F H:Hp}(h:Same F H)(hp:F p=none):Same F (upd H p o):=λb u e=>by rw[x9 (h7 e hp)];exact h b u e
theorem Same.put2{F H:Hp}(h:Same F H):Same (upd F p o) (upd H p o):=λb u e=>by
 by_cases j:b=p
 .subst j;rw[x8]at e ⊢;exact e
 .rw[x9 j]at e ⊢;exact h b u e
theorem Ext.laid{F H:Hp}(h:Same F H)(hp:H p=none)(G:∀a u,o≠ .frz a u:=by intro _ _ z;cases z):Ext F H (upd F p o) (upd H p o):=
 ⟨(Same.refl F).put (h.free hp),(Same.refl H).put hp,h.put2,λb e n=>by
  by_cases j:b=p
  .subst j;exact hp
  .rw[x9 j]at n;exact aZ e n,λb a u z=>by
  by_cases j:b=p
  .subst j;rw[x8]at z;exact aZ (bn z) (G a u)
  .rw[x9 j]at z;exact z⟩
theorem Ext.own{F H:Hp}(h:Same F H)(hp:H p=none):Ext F H F (upd H p o):=
 ⟨Same.refl F,(Same.refl H).put hp,h.put (h.free hp),λb e n=>aZ e n,λ_ _ _ z=>z⟩
theorem Ext.freeze{F H F' H':Hp}(a:Ext F H F' H')(G:F' p=none)(hp:H p=none)(O:H' p=some o)(N:∀a u,o≠ .frz a u:=by intro _ _ z;cases z):Ext F H (upd F' p o) H':=
 ⟨a.ff.put (a.ff.free G),a.hh,λb u e=>by
   by_cases j:b=p
   .subst j;rw[x8]at e;cases e;exact O
   .rw[x9 j]at e;exact a.fh b u e,λb e n=>by
   by_cases j:b=p
   .subst j;exact hp
   .rw[x9 j]at n;exact a.new b e n,λb c u z=>by
   by_cases j:b=p
   .subst j;rw[x8]at z;exact aZ (bn z) (N c u)
   .rw[x9 j]at z;exact a.nf b c u z⟩
inductive S where
 |sh (d:D)|own (ds:List D)|ob (p:Addr) (ds:List D)
noncomputable abbrev Ro:=List (Option S)
structure Rl(K:W.Frag)(F0 H0 F H:Hp)(σ:St)(ρ:Ro):Prop where
 ext:Ext F0 H0 F H
 len:σ.length=ρ.length
 sh:∀(i:Nat) d,ρ[i]? =some (some (.sh d))->∃v,σ[i]? =some (some v)/\Rep K F v d
 own:∀(i:Nat) ds,ρ[i]? =some (some (.own ds))->∃p xs,σ[i]? =some (some (.ref p))/\F p=none/\H p=some (.lst xs)/\Reps K F xs ds/\H0 p=none
 inj:∀(i j:Nat) p ds es,i≠j->ρ[i]? =some (some (.own ds))->ρ[j]? =some (some (.own es))->σ[i]? =some (some (.ref p))->σ[j]? =some (some (.ref p))->False
 ob:∀(i:Nat) p ds,ρ[i]? =some (some (.ob p ds))->σ[i]? =some (some (.ref p))/\F p=none/\H0 p=none/\∃xs,H p=some (.lst xs)/\Reps K F xs ds
 obn:∀(i j:Nat) p ds es,ρ[i]? =some (some (.ob p ds))->ρ[j]? =some (some (.own es))->σ[j]? =some (some (.ref p))->False
 ob1:∀(i j:Nat) p q ds es,ρ[i]? =some (some (.ob p ds))->ρ[j]? =some (some (.ob q es))->i=j
noncomputable def nob:Option S->Prop
 |some (.ob _ _)=>False
 |_=>True
theorem g9{a:Ro}{i j:Nat}{x:Option S}{p:Addr}{ds:List D}(e:(a.set i x)[j]? =some (some (.ob p ds)))(N:nob x:=by exact True.intro):i≠j/\a[j]? =some (some (.ob p ds)):=by
 by_cases G:i=j
 .subst G;rcases bq i a.length with z|z
  .rw[aR z]at e;cases e;exact N.elim
  .rw[bg (by simpa using z)]at e;cases e
 .rw[aU G]at e;exact⟨G,e⟩
section
variable {K:W.Frag}{F0 H0 F H F' H':Hp}{g:St}{f:Ro}
theorem Rl.fh(r:Rl K F0 H0 F H g f):Same F H:=r.ext.fh
theorem Rl.go(r:Rl K F0 H0 F H g f)(e:Ext F H F' H'):Rl K F0 H0 F' H' g f where
 ext:=r.ext.trans e
 len:=r.len
 sh:=λi d h=>let ⟨v,a,b⟩:=r.sh i d h;⟨v,a,b.mono e.ff⟩
 own:=λi ds h=>by
  obtain⟨p,xs,a,b,c,d,z⟩:=r.own i ds h;refine⟨p,xs,a,?_,e.hh _ _ c,d.mono e.ff,z⟩;cases q:F' p with
  |none=>rfl
  |some o=>have:=e.new p b (by rw[q];simp);rw[this]at c;cases c
 inj:=r.inj
 ob:=λi p ds h=>by
  obtain⟨a,b,c,xs,d,z⟩:=r.ob i p ds h;refine⟨a,?_,c,xs,e.hh _ _ d,z.mono e.ff⟩;cases q:F' p with
  |none=>rfl
  |some o=>have:=e.new p b (by rw[q];simp);rw[this]at d;cases d
 obn:=r.obn
 ob1:=r.ob1
theorem Rl.set(r:Rl K F0 H0 F H g f){i:Nat}{v:V}{d:D}(h:Rep K F v d):Rl K F0 H0 F H (g.set i (some v)) (f.set i (some (.sh d))) where
 ext:=r.ext
 len:=by simp[r.len]
 sh:=λj d' e=>by
  by_cases N:i=j
  .subst N;have G:i<f.length:=by
    rcases bq i f.length with z|z
    .exact z
    .rw[bg (by simpa using z)]at e;cases e
   rw[aR G]at e;cases e;exact⟨v,by rw[aR (by rw[r.len];exact G)],h⟩
  .rw[aU N]at e ⊢;exact r.sh j d' e
 own:=λj ds e=>by
  by_cases N:i=j
  .subst N;have G:i<f.length:=by
    rcases bq i f.length with z|z
    .exact z
    .rw[bg (by simpa using z)]at e;cases e
   rw[aR G]at e;cases e
  .rw[aU N]at e ⊢;exact r.own j ds e
 inj:=λj k p ds es U e1 e2 e3 Y=>by
  have Z:i≠j:=λz=>by
   subst z;have G:i<f.length:=by
    rcases bq i f.length with z|z
    .exact z
    .rw[bg (by simpa using z)]at e1;cases e1
   rw[aR G]at e1;cases e1
  have O:i≠k:=λz=>by
   subst z;have G:i<f.length:=by
    rcases bq i f.length with z|z
    .exact z
    .rw[bg (by simpa using z)]at e2;cases e2
   rw[aR G]at e2;cases e2
  rw[aU Z]at e1 e3;rw[aU O]at e2 Y;exact r.inj j k p ds es U e1 e2 e3 Y
 ob:=λj p ds e=>by obtain⟨n,e⟩:=g9 e;rw[aU n];exact r.ob j p ds e
 obn:=λj k p ds es e1 e2 e3=>by
  obtain⟨n,e1⟩:=g9 e1;have O:i≠k:=λz=>by
   subst z;have G:i<f.length:=by
    rcases bq i f.length with z|z
    .exact z
    .rw[bg (by simpa using z)]at e2;cases e2
   rw[aR G]at e2;cases e2
  rw[aU O]at e2 e3;exact r.obn j k p ds es e1 e2 e3
 ob1:=λj k p q ds es e1 e2=>r.ob1 j k p q ds es (g9 e1).2 (g9 e2).2
theorem Rl.setOwn(r:Rl K F0 H0 F H g f){i:Nat}{p:Addr}{xs:List V}{ds:List D}(hF:F p=none)(hH:H p=some (.lst xs))(h:Reps K F xs ds)(h0:H0 p=none)
  (fr:∀(j:Nat) es,i≠j->f[j]? =some (some (.own es))->g[j]? =some (some (.ref p))->False) (fo:∀(j:Nat) q es,f[j]? =some (some (.ob q es))->q≠p):Rl K F0 H0 F H (g.set i (some (.ref p))) (f.set i (some (.own ds))) where
 ext:=r.ext
 len:=by simp[r.len]
 sh:=λj d' e=>by
  by_cases Z:i=j
  .subst Z;have G:i<f.length:=by
    rcases bq i f.length with z|z
    .exact z
    .rw[bg (by simpa using z)]at e;cases e
   rw[aR G]at e;cases e
  .rw[aU Z]at e ⊢;exact r.sh j d' e
 own:=λj es e=>by
  by_cases Z:i=j
  .subst Z;have G:i<f.length:=by
    rcases bq i f.length with z|z
    .exact z
    .rw[bg (by simpa using z)]at e;cases e
   rw[aR G]at e;cases e;exact⟨p,xs,by rw[aR (by rw[r.len];exact G)],hF,hH,h,h0⟩
  .rw[aU Z]at e ⊢;exact r.own j es e
 inj:=λj k q es N U e1 e2 e3 O=>by
  by_cases n1:i=j
  .subst n1;rw[aU U]at e2 O;have G:i<g.length:=by
    rcases bq i g.length with z|z
    .exact z
    .rw[bg (by simpa using z)]at e3;cases e3
   rw[aR G]at e3;cases e3;exact fr k N U e2 O
  .rw[aU n1]at e1 e3;by_cases Y:i=k
   .subst Y;have G:i<g.length:=by
     rcases bq i g.length with z|z
     .exact z
     .rw[bg (by simpa using z)]at O;cases O
    rw[aR G]at O;cases O;exact fr j es n1 e1 e3
   .rw[aU Y]at e2 O;exact r.inj j k q es N U e1 e2 e3 O
 ob:=λj q es e=>by obtain⟨n,e⟩:=g9 e;rw[aU n];exact r.ob j q es e
 obn:=λj k q es N e1 e2 e3=>by
  obtain⟨n,e1⟩:=g9 e1;by_cases Y:i=k
  .subst Y;have G:i<g.length:=by
    rcases bq i g.length with z|z
    .exact z
    .rw[bg (by simpa using z)]at e3;cases e3
   rw[aR G]at e3;cases e3;exact fo j p es e1 rfl
  .rw[aU Y]at e2 e3;exact r.obn j k q es N e1 e2 e3
 ob1:=λj k p q ds es e1 e2=>r.ob1 j k p q ds es (g9 e1).2 (g9 e2).2
theorem Rl.freeze(r:Rl K F0 H0 F H g f){i:Nat}(h:f[i]? =some (some (.own ds))):∃F',Rl K F0 H0 F' H g (f.set i (some (.sh (.lst ds))))/\Same F F':=by
 obtain⟨p,xs,a,b,c,d,z⟩:=r.own i ds h;have N:i<f.length:=(bp.mp h).1;have e:Ext F0 H0 (upd F p (.lst xs)) H:=r.ext.freeze b z c;have ff:Same F (upd F p (.lst xs)):=(Same.refl F).put b;refine⟨upd F p (.lst xs),⟨e,by simp[r.len],λj d' q=>?_,λj es q=>?_,λj k q es G Y e1 e2 e3 e4=>?_,λj q es e1=>?_,λj k q es G e1 e2 e3=>?_,λj k q q' es G e1 e2=>r.ob1 j k q q' es G (g9 e1).2 (g9 e2).2⟩,ff⟩
 .by_cases hj:i=j
  .subst hj;rw[aR N]at q;cases q;exact⟨_,a,.lst (SqL.of x8) (d.mono ff)⟩
  .rw[aU hj]at q;obtain⟨v,v1,v2⟩:=r.sh j d' q;exact⟨v,v1,v2.mono ff⟩
 .by_cases hj:i=j
  .subst hj;rw[aR N]at q;cases q
  .rw[aU hj]at q;obtain⟨Z,O,a',b',c',d',z'⟩:=r.own j es q;have hp:Z≠p:=λw=>r.inj i j p ds es hj h q a (by rw[<-w];exact a');exact⟨Z,O,a',by rw[x9 hp];exact b',c',d'.mono ff,z'⟩
 .have n1:i≠j:=λw=>by subst w;rw[aR N]at e1;cases e1
  have U:i≠k:=λw=>by subst w;rw[aR N]at e2;cases e2
  rw[aU n1]at e1;rw[aU U]at e2;exact r.inj j k q es G Y e1 e2 e3 e4
 .obtain⟨n,e1⟩:=g9 e1;obtain⟨o1,o2,o3,zs,o4,o5⟩:=r.ob j q es e1;have hp:q≠p:=λw=>r.obn j i q es ds e1 h (by rw[w];exact a);exact⟨o1,by rw[x9 hp];exact o2,o3,zs,o4,o5.mono ff⟩
 .obtain⟨n,e1⟩:=g9 e1;have U:i≠k:=λw=>by subst w;rw[aR N]at e2;cases e2
  rw[aU U]at e2;exact r.obn j k q es G e1 e2 e3
theorem Rl.write(r:Rl K F0 H0 F H g f){i:Nat}(h:f[i]? =some (some (.own ds)))(hp:g[i]? =some (some (.ref p)))(hy:Reps K F ys es):
  Rl K F0 H0 F (upd H p (.lst ys)) g (f.set i (some (.own es))):=by
 obtain⟨p',a1,a,b,c,d,z⟩:=r.own i ds h;rw[hp]at a;cases a;have hl:i<f.length:=(bp.mp h).1;refine⟨⟨r.ext.ff,r.ext.hh.put z,r.ext.fh.put b,r.ext.new,r.ext.nf⟩,by simp[r.len],λj d' q=>?_,λj fs q=>?_,λj k q fs fs' O e1 e2 e3 e4=>?_,λj q fs e1=>?_,λj k q fs fs' e1 e2 e3=>?_,λj k q q' es Z e1 e2=>r.ob1 j k q q' es Z (g9 e1).2 (g9 e2).2⟩
 .by_cases hj:i=j
  .subst hj;rw[aR hl]at q;cases q
  .rw[aU hj]at q;exact r.sh j d' q
 .by_cases hj:i=j
  .subst hj;rw[aR hl]at q;cases q;exact⟨p,ys,hp,b,x8,hy,z⟩
  .rw[aU hj]at q;obtain⟨p2,N,a2,b2,c2,d2,z2⟩:=r.own j fs q;have G:p2≠p:=λw=>r.inj i j p ds fs hj h q hp (by rw[<-w];exact a2);exact⟨p2,N,a2,b2,by rw[x9 G];exact c2,d2,z2⟩
 .have back:∀(m:Nat) Y,(f.set i (some (S.own es)))[m]? =some (some (.own Y))->∃U,f[m]? =some (some (.own U)):=λm Y e=>by
   by_cases hm:i=m
   .subst hm;exact⟨ds,h⟩
   .rw[aU hm]at e;exact⟨Y,e⟩
  obtain⟨g1,e1⟩:=back j fs e1;obtain⟨g2,e2⟩:=back k fs' e2;exact r.inj j k q g1 g2 O e1 e2 e3 e4
 .obtain⟨n,e1⟩:=g9 e1;obtain⟨o1,o2,o3,zs,o4,o5⟩:=r.ob j q fs e1;have G:q≠p:=λw=>r.obn j i q fs ds e1 h (by rw[w];exact hp);exact⟨o1,o2,o3,zs,by rw[x9 G];exact o4,o5⟩
 .obtain⟨n,e1⟩:=g9 e1;by_cases n2:i=k
  .subst n2;exact r.obn j i q fs ds e1 h e3
  .rw[aU n2]at e2;exact r.obn j k q fs fs' e1 e2 e3
theorem Rl.writeB(r:Rl K F0 H0 F H g f){i:Nat}(h:f[i]? =some (some (.ob p ds)))(hy:Reps K F ys es):
  Rl K F0 H0 F (upd H p (.lst ys)) g (f.set i (some (.ob p es))):=by
 obtain⟨a,b,z,a3,c,d⟩:=r.ob i p ds h;have Z:i<f.length:=(bp.mp h).1;have G:∀(j:Nat) q fs,(f.set i (some (S.ob p es)))[j]? =some (some (.ob q fs))->j=i/\q=p/\fs=es:=λj q fs e=>by
  by_cases N:i=j
  .subst N;rw[aR Z]at e;cases e;exact⟨rfl,rfl,rfl⟩
  .rw[aU N]at e;exact aZ (r.ob1 i j p q ds fs h e) N
 have other:∀(j:Nat) fs,(f.set i (some (S.ob p es)))[j]? =some (some (.own fs))->i≠j/\f[j]? =some (some (.own fs)):=λj fs e=>by
  by_cases N:i=j
  .subst N;rw[aR Z]at e;cases e
  .rw[aU N]at e;exact⟨N,e⟩
 refine⟨⟨r.ext.ff,r.ext.hh.put z,r.ext.fh.put b,r.ext.new,r.ext.nf⟩,by simp[r.len],λj d' q=>?_,λj fs q=>?_,λj k q fs fs' a1 e1 e2 e3 O=>r.inj j k q fs fs' a1 (other j fs e1).2 (other k fs' e2).2 e3 O,λj q fs e1=>?_,λj k q fs fs' e1 e2 e3=>?_,λj k q q' fs fs' e1 e2=>?_⟩
 .by_cases N:i=j
  .subst N;rw[aR Z]at q;cases q
  .rw[aU N]at q;exact r.sh j d' q
 .obtain⟨n,e⟩:=other j fs q;obtain⟨p2,U,a2,b2,c2,d2,z2⟩:=r.own j fs e;have Y:p2≠p:=λw=>r.obn i j p ds fs h e (by rw[<-w];exact a2);exact⟨p2,U,a2,b2,by rw[x9 Y];exact c2,d2,z2⟩
 .obtain⟨e2,e3,O⟩:=G j q fs e1;subst e2 e3 O;exact⟨a,b,z,ys,x8,hy⟩
 .obtain⟨O,e5,_⟩:=G j q fs e1;subst O e5;exact r.obn j k q ds fs' h (other k fs' e2).2 e3
 .rw[(G j q fs e1).1,(G k q' fs' e2).1]
end
theorem Rep.n'{K:W.Frag}{F:Hp}(r:Rep K F x .non):x= .non:=by cases r;rfl
theorem Rep.b'{K:W.Frag}{F:Hp}{i:Bool}(r:Rep K F x (.bl i)):x= .bl i:=by cases r;rfl
theorem Rep.i'{K:W.Frag}{F:Hp}{i:Int}(r:Rep K F x (.int i)):x= .int i:=by cases r;rfl
theorem Rep.s'{K:W.Frag}{F:Hp}(r:Rep K F x (.str i)):x= .str i:=by cases r;rfl
theorem Rep.l'{K:W.Frag}{F:Hp}(r:Rep K F x (.lst ds)):∃a xs,x= .ref a/\SqL K F a xs/\Reps K F xs ds:=by cases r with |lst s r=>exact⟨_,_,rfl,s,r⟩
theorem Rep.t'{K:W.Frag}{F:Hp}(r:Rep K F x (.tup ds)):∃a xs,x= .ref a/\SqT K F a xs/\Reps K F xs ds:=by cases r with |tup s r=>exact⟨_,_,rfl,s,r⟩
abbrev ME:=Ro->Option D
abbrev ML:=Ro->Option (List D)
abbrev MB:=Ro->Option Bool
def TD(K:W.Frag)(m:ME):TE:=λb H Q=>∃F0 H0 F a d,Rl K F0 H0 F H b a/\m a=some d/\∀v F' H',Ext F H F' H'->Rep K F' v d->Q v H'
def TF(K:W.Frag)(m:ML):TE:=λb H Q=>∃F0 H0 F a ds,Rl K F0 H0 F H b a/\m a=some ds/\∀p xs F' H',Ext F H F' H'->H p=none->F' p=none->H' p=some (.lst xs)->Reps K F' xs ds->Q (.ref p) H'
def TB(K:W.Frag)(m:ML):TE:=λb H Q=>∃F0 H0 F a ds,Rl K F0 H0 F H b a/\m a=some ds/\∀p xs F' H',Ext F H F' H'->SqL K H' p xs->Reps K F' xs ds->Q (.ref p) H'
def TC(K:W.Frag)(c:MB):TT:=λd H Q=>∃F0 H0 F a b,Rl K F0 H0 F H d a/\c a=some b/\∀F' H',Ext F H F' H'->Q b H'
def TAs(K:W.Frag)(m:ML):TA:=λb H Q=>∃F0 H0 F a ds,Rl K F0 H0 F H b a/\m a=some ds/\∀vs F' H',Ext F H F' H'->Reps K F' vs ds->Q vs H'
def PD(X:Cx)(e:Expr)(m:ME):Prop:=PE X e (TD X.K m)
def PF(X:Cx)(e:Expr)(m:ML):Prop:=PE X e (TF X.K m)
def PB(X:Cx)(e:Expr)(m:ML):Prop:=PE X e (TB X.K m)
def PC'(X:Cx)(e:Expr)(c:MB):Prop:=PT X e (TC X.K c)
def PCw(X:Cx)(e:Expr)(c:MB):Prop:=PW X e (TC X.K c)
def PAs(X:Cx)(es:List Expr)(m:ML):Prop:=PA X es (TAs X.K m)
section
variable {X:Cx}{a b c e:Expr}{ma mb:ME}{pos:Pos}
theorem PE.imp(h:PE X e t)(i:∀a H Q,t' a H Q->t a H Q):PE X e t':=λpins s a H Q I q=>h pins s a H Q I (i a H Q q)
theorem PT.imp(h:PT X e t)(i:∀a H Q,t' a H Q->t a H Q):PT X e t':=λpins s a H Q I q=>h pins s a H Q I (i a H Q q)
theorem PW.imp(h:PW X e t)(i:∀a H Q,t' a H Q->t a H Q):PW X e t':=λw pins s a H Q I q=>h w pins s a H Q I (i a H Q q)
theorem PA.imp(h:PA X es t)(i:∀a H Q,t' a H Q->t a H Q):PA X es t':=λpos pins s a H Q I q=>h pos pins s a H Q I (i a H Q q)
noncomputable def mvar(i:Nat):ME:=λρ=>match ρ[i]? with |some (some (.sh d))=>some d|_=>none
noncomputable def bvar(i:Nat):ML:=λρ=>match ρ[i]? with |some (some (.sh (.lst ds)))=>some ds|some (some (.own ds))=>some ds|some (some (.ob _ ds))=>some ds|_=>none
def mc(d:D):ME:=λ_=>some d
theorem z6(i:Nat){pos:Pos}(h:PE X (.Name x pos) (tVar i)):PD X (.Name x pos) (mvar i):=h.imp λb H Q j=>by
 obtain⟨F0,H0,F,a,d,r,e,q⟩:=j;unfold mvar at e;split at e
 .rename_i h';cases e;obtain⟨v,e1,e2⟩:=r.sh i _ h';exact⟨v,e1,q v F H (.refl r.fh) e2⟩
 .cases e
theorem y8(i:Nat){pos:Pos}(h:PE X (.Name x pos) (tVar i)):PB X (.Name x pos) (bvar i):=h.imp λb H Q j=>by
 obtain⟨F0,H0,F,a,d,r,e,q⟩:=j;unfold bvar at e;split at e
 .rename_i ds h';cases e;obtain⟨v,e1,e2⟩:=r.sh i _ h';cases e2 with
  |lst s G=>exact⟨_,e1,q _ _ F H (.refl r.fh) (r.fh.seq s) G⟩
 .rename_i ds h';cases e;obtain⟨p,xs,e1,e2,e3,z,_⟩:=r.own i _ h';exact⟨_,e1,q _ _ F H (.refl r.fh) (SqL.of e3) z⟩
 .rename_i p ds h';cases e;obtain⟨e1,e2,_,xs,e3,z⟩:=r.ob i p _ h';exact⟨_,e1,q _ _ F H (.refl r.fh) (SqL.of e3) z⟩
 .cases e
theorem y4{i:Int}{j pos}:PD X (.Constant (.int i) j pos) (mc (.int i)):=pe_int.imp λb H Q z=>by obtain⟨F0,H0,F,a,d,r,e,q⟩:=z;cases e;exact q _ F H (.refl r.fh) (.int i)
theorem D6{b:Bool}{j pos}:PD X (.Constant (.bool b) j pos) (mc (.bl b)):=pe_bl.imp λc H Q z=>by obtain⟨F0,H0,F,a,d,r,e,q⟩:=z;cases e;exact q _ F H (.refl r.fh) (.bl b)
theorem yh8{j pos}:PD X (.Constant .none j pos) (mc .non):=pe_non.imp λb H Q z=>by obtain⟨F0,H0,F,a,d,r,e,q⟩:=z;cases e;exact q _ F H (.refl r.fh) .non
def mlst(m:ML):ME:=λa=>(m a).map .lst
noncomputable def k8(m:ME):ML:=λa=>match m a with |some (.lst ds)=>some ds|_=>none
theorem Z7(h:PF X e m):PD X e (mlst m):=h.imp λb H Q j=>by
 obtain⟨F0,H0,F,a,d,r,e,q⟩:=j;unfold mlst at e;cases hm:m a with
 |none=>rw[hm]at e;cases e
 |some ds=>rw[hm]at e;cases e;refine⟨F0,H0,F,a,ds,r,hm,λp xs F' H' x hp z N G=>?_⟩;exact q _ (upd F' p (.lst xs)) H' (x.freeze z hp N) (.lst (SqL.of x8) (G.mono ((Same.refl F').put z)))
theorem zp4(h:PD X e ma):PB X e (k8 ma):=h.imp λb H Q j=>by
 obtain⟨F0,H0,F,a,d,r,e,q⟩:=j;unfold k8 at e;split at e
 .rename_i ds hm;cases e;refine⟨F0,H0,F,a,_,r,hm,λv F' H' x z=>?_⟩;cases z with
  |lst s G=>exact q _ _ F' H' x (x.fh.seq s) G
 .cases e
theorem Z3(h:PF X e m):PB X e m:=h.imp λb H Q ⟨F0,H0,F,a,d,r,e,q⟩=>
 ⟨F0,H0,F,a,d,r,e,λp xs F' H' x hp G z j=>q p xs F' H' x (SqL.of z) j⟩
@[irreducible] noncomputable def m2(f:D->D->Option D)(x y:ME):ME:=λρ=>(x ρ).bind λd=>(y ρ).bind λe=>f d e
def OpD(K:W.Frag)(r:R2)(f:D->D->Option D):Prop:=∀(F H:Hp)(x y:V)(d e g:D)(Q:VK),Same F H->Rep K F x d->Rep K F y e->f d e=some g->(∀v F' H',Ext F H F' H'->Rep K F' v g->Q v H')->r x y H Q
theorem xc6{f:D->D->Option D}{a:Ro}(h:m2 f ma mb a=some g):∃d e,ma a=some d/\mb a=some e/\f d e=some g:=by
 unfold m2 at h;cases h1:ma a with
 |none=>rw[h1]at h;cases h
 |some d=>
  cases h2:mb a with
  |none=>rw[h1,h2]at h;cases h
  |some e=>rw[h1,h2]at h;exact⟨d,e,rfl,rfl,h⟩
theorem op_d{f:D->D->Option D}(U:OpD X.K r f){b:St}(h:TD X.K (m2 f ma mb) b H Q):tOp r (TD X.K ma) (TD X.K mb) b H Q:=by obtain⟨F0,H0,F,a,g,rl,e,q⟩:=h;obtain⟨d,G,h1,h2,Y⟩:=xc6 e;refine⟨F0,H0,F,a,d,rl,h1,λx F1 H1 z O=>⟨F0,H0,F1,a,G,rl.go z,h2,λy F2 H2 j r2=>?_⟩⟩;exact U F2 H2 x y d G g Q j.fh (O.mono j.ff) r2 Y λv F' H' N=>q v F' H' ((z.trans j).trans N)
theorem zc9{f:D->D->Option D}(j:OpR X (binaryOp op) r)(z:OpD X.K r f)(ha:PD X a ma)(G:PD X b mb):PD X (.BinOp a op b pos) (m2 f ma mb):=(xu1 j ha G).imp λ_ _ _ h=>op_d z h
theorem L5{f:D->D->Option D}(j:OpR X (compareOp op) r)(z:OpD X.K r f)(ha:PD X a ma)(G:PD X b mb)(hm:behindInMarks op b=false):PD X (.Compare a [op] [b] pos) (m2 f ma mb):=(zc8 j ha G hm).imp λ_ _ _ h=>op_d z h
noncomputable def w5(m:ME):MB:=λa=>match m a with |some (.bl b)=>some b|_=>none
theorem t7{f:D->D->Option D}(z:OpR X (compareOp op) r)(G:OpD X.K r f)(ha:PD X a ma)(N:PD X b mb)(hm:behindInMarks op b=false):PC' X (.Compare a [op] [b] pos) (w5 (m2 f ma mb)):=(zc4 z ha N hm).imp λd H Q j=>by
 obtain⟨F0,H0,F,c,g,rl,e,q⟩:=j;unfold w5 at e;split at e
 .rename_i k hk;cases e;refine op_d G ⟨F0,H0,F,c,.bl g,rl,hk,λv F' H' x r=>?_⟩;cases r;exact⟨_,rfl,q F' H' x⟩
 .cases e
noncomputable def int2(g:Int->Int->Option D):D->D->Option D
 | .int i,.int j=>g i j
 |_,_=>none
theorem yu6{g:Int->Int->Option D}{d e w:D}(h:int2 g d e=some w):∃i j,d= .int i/\e= .int j/\g i j=some w:=by
 cases d with
 |int i=>
  cases e with
  |int j=>exact⟨i,j,rfl,rfl,h⟩
  |_=>cases h
 |_=>cases h
theorem zp8{K:W.Frag}{g:Int->Int->V}{g':Int->Int->D}(G:∀F i j,Rep K F (g i j) (g' i j)):OpD K (rI0 g) (int2 λi j=>some (g' i j)):=by intro F H x y d e w Q s z r2 h q;obtain⟨i,j,rfl,rfl,h'⟩:=yu6 h;clear h;cases h';exact⟨i,j,z.i',r2.i',q _ F H (.refl s) (G F i j)⟩
theorem zh1{K:W.Frag}{C:Int->Int->Prop}{ok:Int->Int->Bool}{g:Int->Int->V}{g':Int->Int->D}(O:∀i j,ok i j=true->C i j)(N:∀F i j,Rep K F (g i j) (g' i j)):
  OpD K (rI C g) (int2 λi j=>if ok i j=true then some (g' i j)else none):=by
 intro F H x y d e w Q s G r2 h q;obtain⟨i,j,rfl,rfl,h'⟩:=yu6 h;clear h;by_cases z:ok i j=true
 .rw[aJ z]at h';cases h';exact⟨i,j,G.i',r2.i',O i j z,q _ F H (.refl s) (N F i j)⟩
 .rw[aI z]at h';cases h'
def subD:D->D->Option D:=int2 λi j=>some (.int (i-j))
noncomputable def L7(i j:Int):Bool:=(decide (-(2^64)<i)&&decide (i<2^64)) || (decide (-(2^64)<j)&&decide (j<2^64))
def mulD:D->D->Option D:=int2 λi j=>if L7 i j=true then some (.int (i*j))else none
noncomputable def zf3(_ j:Int):Bool:=decide (0<j)&&decide (j<1073741824)
def yp9:D->D->Option D:=int2 λi j=>if zf3 i j=true then some (.int (i / j))else none
noncomputable def zh9(_ j:Int):Bool:=decide (0<j)
def modD:D->D->Option D:=int2 λi j=>if zh9 i j=true then some (.int (i % j))else none
noncomputable def zi5(i j:Int):Bool:=decide (0<=j)&&decide (j<=1000000)&&decide (i.natAbs<2^64)
def powD:D->D->Option D:=int2 λi j=>if zi5 i j=true then some (.int (i^j.toNat))else none
def ltD:D->D->Option D:=int2 λi j=>some (.bl (decide (i<j)))
def leD:D->D->Option D:=int2 λi j=>some (.bl (decide (i<=j)))
def gtD:D->D->Option D:=int2 λi j=>some (.bl (decide (j<i)))
def geD:D->D->Option D:=int2 λi j=>some (.bl (decide (j<=i)))
theorem yg4{K:W.Frag}:OpD K (rI0 λi j=>.int (i-j)) subD:=zp8 λF i j=>.int _
theorem yg5{K:W.Frag}:OpD K (rI CMul λi j=>.int (i*j)) mulD:=zh1 (λi j h=>by unfold L7 at h;simp only[Bool.or_eq_true,Bool.and_eq_true,decide_eq_true_eq]at h;exact h) λF i j=>.int _
theorem xt0{K:W.Frag}:OpD K (rI CDiv λi j=>.int (i / j)) yp9:=zh1 (λi j h=>by unfold zf3 at h;simp only[Bool.and_eq_true,decide_eq_true_eq]at h;exact h) λF i j=>.int _
theorem xd4{K:W.Frag}:OpD K (rI (λ_ j=>0<j) λi j=>.int (i % j)) modD:=zh1 (λi j h=>of_decide_eq_true h) λF i j=>.int _
theorem xd2{K:W.Frag}:OpD K (rI CPow λi j=>.int (i^j.toNat)) powD:=zh1 (λi j h=>by unfold zi5 at h;simp only[Bool.and_eq_true,decide_eq_true_eq]at h;exact⟨h.1.1,h.1.2,h.2⟩) λF i j=>.int _
theorem X7{K:W.Frag}:OpD K (rI0 λi j=>.bl (decide (i<j))) ltD:=zp8 λF i j=>.bl _
theorem zy2{K:W.Frag}:OpD K (rI0 λi j=>.bl (decide (j<i))) gtD:=zp8 λF i j=>.bl _
theorem S6{K:W.Frag}:OpD K (rI0 λi j=>.bl (decide (j<=i))) geD:=zp8 λF i j=>.bl _
noncomputable def eqS:D->D->Option Bool
 | .non,.non=>some true| .non,.int _=>some false| .int _,.non=>some false| .non,.bl _=>some false| .bl _,.non=>some false| .non,.str _=>some false| .str _,.non=>some false
 | .int i,.int j=>some (i==j)| .bl i,.bl j=>some (i==j)| .str i,.str j=>some (i==j)
 | .int _,.str _=>some false| .str _,.int _=>some false| .bl _,.str _=>some false| .str _,.bl _=>some false
 |_,_=>none
def eqSD(d e:D):Option D:=(eqS d e).map .bl
def neSD(d e:D):Option D:=(eqS d e).map λb=>.bl (!b)
noncomputable def scV:D->V
 | .bl b=>.bl b| .int i=>.int i| .str x=>.str x|_=>.non
theorem yc6{d e:D}{k:Bool}(h:eqS d e=some k):scal (scV d) (scV e)=true/\decide (scV d=scV e)=k:=by
 cases d with
 |non=>cases e <;> cases h <;> exact⟨rfl,rfl⟩
 |bl i=>
  cases e <;> cases h
  .exact⟨rfl,rfl⟩
  .exact⟨rfl,yc8⟩
  .exact⟨rfl,rfl⟩
 |int i=>
  cases e <;> cases h
  .exact⟨rfl,rfl⟩
  .exact⟨rfl,yz6⟩
  .exact⟨rfl,rfl⟩
 |str i=>
  cases e <;> cases h
  .exact⟨rfl,rfl⟩
  .exact⟨rfl,rfl⟩
  .exact⟨rfl,rfl⟩
  .exact⟨rfl,yz5⟩
 |_=>cases h
theorem yo0{d e:D}{k:Bool}(h:eqS d e=some k){K:W.Frag}{F:Hp}(r:Rep K F x d):x=scV d:=by
 cases d with
 |non=>exact r.n'
 |bl i=>exact r.b'
 |int i=>exact r.i'
 |str i=>exact r.s'
 |_=>cases h
theorem yz3(d e:D)(k:Bool)(h:eqS d e=some k):∃j,eqS e d=some j:=by
 cases d with
 |non=>cases e <;> cases h <;> exact⟨_,rfl⟩
 |bl i=>cases e <;> cases h <;> exact⟨_,rfl⟩
 |int i=>cases e <;> cases h <;> exact⟨_,rfl⟩
 |str i=>cases e <;> cases h <;> exact⟨_,rfl⟩
 |_=>cases h
theorem c8{K:W.Frag}:OpD K rEq eqSD:=by
 intro F H x y d e w Q s z r2 h q;unfold eqSD at h;cases hk:eqS d e with
 |none=>rw[hk]at h;cases h
 |some k=>rw[hk]at h;cases h;obtain⟨G,j⟩:=yz3 d e k hk;obtain⟨h1,h2⟩:=yc6 hk;rw[yo0 hk z,yo0 j r2];refine⟨h1,?_⟩;rw[h2];exact q _ F H (.refl s) (.bl _)
theorem xd3{K:W.Frag}:OpD K rNe neSD:=by
 intro F H x y d e w Q s z r2 h q;unfold neSD at h;cases hk:eqS d e with
 |none=>rw[hk]at h;cases h
 |some k=>rw[hk]at h;cases h;obtain⟨G,j⟩:=yz3 d e k hk;obtain⟨h1,h2⟩:=yc6 hk;rw[yo0 hk z,yo0 j r2];refine⟨h1,?_⟩;rw[h2];exact q _ F H (.refl s) (.bl _)
noncomputable def m1(f:D->Option D)(x:ME):ME:=λa=>(x a).bind f
noncomputable def negD:D->Option D
 | .int i=>some (.int (-i))
 |_=>none
theorem xc7{f:D->Option D}{a:Ro}(h:m1 f ma a=some g):∃d,ma a=some d/\f d=some g:=by
 unfold m1 at h;cases h1:ma a with
 |none=>rw[h1]at h;cases h
 |some d=>rw[h1]at h;exact⟨d,rfl,h⟩
theorem E1(ha:PD X a ma):PD X (.UnaryOp .USub a pos) (m1 negD ma):=(wh2 ww5 ha).imp λc H Q j=>by
 obtain⟨F0,H0,F,b,g,rl,e,q⟩:=j;obtain⟨d,h1,h2⟩:=xc7 e;refine⟨F0,H0,F,b,d,rl,h1,λx F1 H1 z G=>?_⟩;cases G <;> first| (cases h2;done)|skip
 cases h2;exact⟨_,rfl,q _ F1 H1 z (.int _)⟩
noncomputable def mand(x y:ME):ME:=λa=>match x a with |some (.bl true)=>y a|some (.bl false)=>some (.bl false)|_=>none
theorem wt9{op}(h:PD X a ma):PD X (.BoolOp op [a] pos) ma:=wt7 h
theorem ws3{rest:List Expr}(ha:PD X a ma)(O:PD X (.BoolOp .And (b::rest) pos) mb):PD X (.BoolOp .And (a::b::rest) pos) (mand ma mb):=(wt8 ha O).imp λd H Q j=>by
 obtain⟨F0,H0,F,c,g,rl,e,q⟩:=j;unfold mand at e;split at e
 .rename_i h1;refine⟨F0,H0,F,c,_,rl,h1,λx F1 H1 z G=>?_⟩;cases G;refine⟨true,rfl,?_⟩;refine iteT ?_;exact⟨F0,H0,F1,c,g,rl.go z,e,λy F2 H2 N r2=>q y F2 H2 (z.trans N) r2⟩
 .rename_i h1;cases e;refine⟨F0,H0,F,c,_,rl,h1,λx F1 H1 z G=>?_⟩;cases G;refine⟨false,rfl,?_⟩;refine iteF ?_;exact q _ F1 H1 z (.bl _)
 .cases e
noncomputable def truD:D->Option Bool
 | .non=>some false
 | .bl b=>some b
 | .int i=>some (i != 0)
 | .str y=>if y.length<=sizeLine then some ((y.length:Int) != 0)else none
 | .lst ds=>some (!ds.isEmpty)
 | .tup ds=>some (!ds.isEmpty)
 | .exc _=>none
 | .ptr _=>none
 | .obj _ _ _=>none
def mtru(m:ME):MB:=λa=>(m a).bind truD
theorem E6{K:W.Frag}{F:Hp}(h:Reps K F vs ds):(!ds.isEmpty)= !vs.isEmpty:=by cases h <;> rfl
theorem O2(ha:PD X a ma)(U:∀j,isTrue a X.env j=(do let v ← j;standAt a.pos;holding [v] (truthy v)):=by intro _;rfl):PC' X a (mtru ma):=(xw9 ha U).imp λf H Q z=>by
 obtain⟨F0,H0,F,c,b,rl,e,q⟩:=z;unfold mtru at e;cases h1:ma c with
 |none=>rw[h1]at e;cases e
 |some d=>
  rw[h1]at e;refine⟨F0,H0,F,c,d,rl,h1,λx F1 H1 G O=>⟨b,?_,q F1 H1 G⟩⟩;cases O with
  |non=>cases e;rfl
  |bl=>cases e;rfl
  |int=>cases e;rfl
  |str x=>
   have e:(if x.length<=sizeLine then some ((x.length:Int) != 0)else none)=some b:=e;split at e
   .rename_i hz;cases e;exact⟨hz,rfl⟩
   .cases e
  |lst s N=>cases e;exact .inl ⟨_,G.fh.seq s,E6 N⟩
  |tup s N=>cases e;exact .inr (.inl ⟨_,G.fh.seqT s,E6 N⟩)
  |exc=>cases e
  |ptr=>cases e
  |obj=>cases e
variable {ca cb:MB}
noncomputable def cand(x y:MB):MB:=λa=>match x a with |some true=>y a|some false=>some false|none=>none
noncomputable def cor(x y:MB):MB:=λa=>match x a with |some true=>some true|some false=>y a|none=>none
def cnot(x:MB):MB:=λa=>(x a).map (!·)
theorem pc_w(h:PCw X a ca):PC' X a ca:=h.pt
theorem zq9(h:PC' X a ca):PCw X (.BoolOp .And [a] pos) ca:=yj5 h
theorem O0(h:PC' X a ca):PCw X (.BoolOp .Or [a] pos) ca:=wu9 h
theorem zp6{rest:List Expr}(ha:PC' X a ca)(N:PCw X (.BoolOp .And (b::rest) pos) cb):PCw X (.BoolOp .And (a::b::rest) pos) (cand ca cb):=(xn4 ha N).imp λd H Q j=>by
 obtain⟨F0,H0,F,c,g,rl,e,q⟩:=j;unfold cand at e;split at e
 .rename_i h1;refine⟨F0,H0,F,c,_,rl,h1,λF1 H1 z=>?_⟩;refine iteT ?_;exact⟨F0,H0,F1,c,g,rl.go z,e,λF2 H2 G=>q F2 H2 (z.trans G)⟩
 .rename_i h1;cases e;refine⟨F0,H0,F,c,_,rl,h1,λF1 H1 z=>?_⟩;refine iteF ?_;exact q F1 H1 z
 .cases e
theorem O1{rest:List Expr}(ha:PC' X a ca)(N:PCw X (.BoolOp .Or (b::rest) pos) cb):PCw X (.BoolOp .Or (a::b::rest) pos) (cor ca cb):=(wh1 ha N).imp λd H Q j=>by
 obtain⟨F0,H0,F,c,g,rl,e,q⟩:=j;unfold cor at e;split at e
 .rename_i h1;cases e;refine⟨F0,H0,F,c,_,rl,h1,λF1 H1 z=>?_⟩;refine iteT ?_;exact q F1 H1 z
 .rename_i h1;refine⟨F0,H0,F,c,_,rl,h1,λF1 H1 z=>?_⟩;refine iteF ?_;exact⟨F0,H0,F1,c,g,rl.go z,e,λF2 H2 G=>q F2 H2 (z.trans G)⟩
 .cases e
theorem zh0(ha:PC' X a ca):PC' X (.UnaryOp .Not a pos) (cnot ca):=(wt0 ha).imp λc H Q j=>by
 obtain⟨F0,H0,F,b,g,rl,e,q⟩:=j;unfold cnot at e;cases h1:ca b with
 |none=>rw[h1]at e;cases e
 |some k=>rw[h1]at e;cases e;exact⟨F0,H0,F,b,k,rl,h1,λF1 H1 z=>q F1 H1 z⟩
noncomputable def mite(c:MB)(x y:ME):ME:=λa=>match c a with |some true=>x a|some false=>y a|none=>none
theorem xm0(hc:PC' X c ca)(ha:PD X a ma)(N:PD X b mb):PD X (.IfExp c a b pos) (mite ca ma mb):=(xu3 hc ha N).imp λf H Q z=>by
 obtain⟨F0,H0,F,d,g,rl,e,q⟩:=z;unfold mite at e;split at e
 .rename_i h1;refine⟨F0,H0,F,d,_,rl,h1,λF1 H1 j=>?_⟩;refine iteT ?_;exact⟨F0,H0,F1,d,g,rl.go j,e,λv F2 H2 G=>q v F2 H2 (j.trans G)⟩
 .rename_i h1;refine⟨F0,H0,F,d,_,rl,h1,λF1 H1 j=>?_⟩;refine iteF ?_;exact⟨F0,H0,F1,d,g,rl.go j,e,λv F2 H2 G=>q v F2 H2 (j.trans G)⟩
 .cases e
def anil:ML:=λ_=>some []
@[irreducible] noncomputable def z7(x:ME)(r:ML):ML:=λρ=>(x ρ).bind λd=>(r ρ).bind λds=>some (d::ds)
theorem zr0{a:Ro}(h:z7 ma r a=some j):∃d ds,ma a=some d/\r a=some ds/\j=d::ds:=by
 unfold z7 at h;cases h1:ma a with
 |none=>rw[h1]at h;cases h
 |some d=>
  cases h2:r a with
  |none=>rw[h1,h2]at h;cases h
  |some ds=>rw[h1,h2]at h;cases h;exact⟨d,ds,rfl,rfl,rfl⟩
theorem y0:PAs X [] anil:=pa_nil.imp λb H Q j=>by obtain⟨F0,H0,F,a,g,rl,e,q⟩:=j;cases e;exact q [] F H (.refl rl.fh) .nil
theorem z0(ha:PD X a ma)(hr:PAs X es m)(hs:starEach (a::es) X.env=(false,eval a X.env)::starEach es X.env:=by rfl):PAs X (a::es) (z7 ma m):=(Y6 ha hr hs).imp λc H Q j=>by obtain⟨F0,H0,F,b,g,rl,e,q⟩:=j;obtain⟨d,ds,h1,h2,rfl⟩:=zr0 e;refine⟨F0,H0,F,b,d,rl,h1,λx F1 H1 G N=>⟨F0,H0,F1,b,ds,rl.go G,h2,λxs F2 H2 z r2=>?_⟩⟩;exact q _ F2 H2 (G.trans z) (.cons (N.mono z.ff) r2)
@[irreducible] noncomputable def v5(m:ML):ML:=λa=>match m a with |some ds=>if ds.length<=sizeLine then some ds else none|none=>none
theorem zt1{a:Ro}(h:v5 m a=some j):m a=some j/\j.length<=sizeLine:=by
 unfold v5 at h;cases h1:m a with
 |none=>rw[h1]at h;cases h
 |some ds=>
  rw[h1]at h;have h:(if ds.length<=sizeLine then some ds else none)=some j:=h;split at h
  .rename_i hz;cases h;exact⟨rfl,hz⟩
  .cases h
theorem m7(h:PAs X es m):PF X (.List es pos) (v5 m):=(xn8 h).imp λb H Q j=>by obtain⟨F0,H0,F,a,g,rl,e,q⟩:=j;obtain⟨h1,h2⟩:=zt1 e;refine⟨F0,H0,F,a,g,rl,h1,λvs F1 H1 z G=>⟨by rw[G.length];exact h2,λp hp=>?_⟩⟩;exact q p vs F1 _ (z.trans (Ext.own z.fh hp)) (z.hh.free hp) (z.fh.free hp) x8 G
def mtup(m:ML):ME:=λa=>(v5 m a).map .tup
theorem yh7{k:Nat}(h:PAs X es m):PD X (.Tuple es k pos) (mtup m):=(wt6 h).imp λb H Q j=>by
 obtain⟨F0,H0,F,a,g,rl,e,q⟩:=j;unfold mtup at e;cases h1:v5 m a with
 |none=>rw[h1]at e;cases e
 |some ds=>rw[h1]at e;cases e;obtain⟨h1,h2⟩:=zt1 h1;refine⟨F0,H0,F,a,ds,rl,h1,λvs F1 H1 z G=>⟨by rw[G.length];exact h2,λp hp=>?_⟩⟩;exact q _ _ _ (z.trans (Ext.laid z.fh hp)) (.tup (SqT.of x8) (G.mono ((Same.refl F1).put (z.fh.free hp))))
noncomputable def mlen(m:ML):ME:=λρ=>(m ρ).map λds=>.int ds.length
@[irreducible] def mix(m:ML)(i:ME):ME:=λa=>(m a).bind λds=>(i a).bind λ| .int k=>atI ds k|_=>none
theorem zk0{K:W.Frag}{F:Hp}{k:Int}(r:Reps K F vs ds)(h:atI ds k=some d):∃v,atI vs k=some v/\Rep K F v d:=by
 unfold atI at h ⊢;rw[r.length];cases q:ixN ds.length k with
 |none=>rw[q]at h;cases h
 |some j=>rw[q]at h;exact r.get h
theorem t8(ha:PB X a G)(U:PD X b mb)(hs:zk5 b:=by exact λ_ _=>rfl):PD X (.Subscript a b pos) (mix G mb):=(xu2 za8 ha U hs).imp λd H Q j=>by
 obtain⟨F0,H0,F,c,g,rl,e,q⟩:=j;unfold mix at e;cases h1:G c with
 |none=>rw[h1]at e;cases e
 |some ds=>
  cases h2:mb c with
  |none=>rw[h1,h2]at e;cases e
  |some i=>
   rw[h1,h2]at e;refine⟨F0,H0,F,c,ds,rl,h1,λp xs F1 H1 N s1 O=>⟨F0,H0,F1,c,i,rl.go N,h2,λy F2 H2 z r2=>?_⟩⟩;cases r2 <;> first| (cases e;done)|skip
   rename_i k;obtain⟨v,Z,Y⟩:=zk0 (O.mono z.ff) (show atI ds k=some g from e);exact⟨p,xs,k,v,rfl,rfl,z.hh.seq s1,Z,q v F2 H2 (N.trans z) Y⟩
theorem xq4{K:W.Frag}{F:Hp}(r:Reps K F vs ds)(lo hi:Option Int):Reps K F (cutV vs lo hi) ((ds.drop (HT.sIx ds.length 0 lo)).take (HT.sIx ds.length ds.length hi-HT.sIx ds.length 0 lo)):=by unfold cutV;rw[r.length];exact(r.drop _).take _
def cutL(ds:List D)(lo hi:Option Int):List D:=(ds.drop (HT.sIx ds.length 0 lo)).take (HT.sIx ds.length ds.length hi-HT.sIx ds.length 0 lo)
abbrev MO:=Ro->Option (Option Int)
def R8:MO:=λ_=>some none
noncomputable def j3(m:ME):MO:=λρ=>(m ρ).bind λ| .int i=>some (some i)|_=>none
def TOs(K:W.Frag)(m:MO):TO:=λb H Q=>∃F0 H0 F a i,Rl K F0 H0 F H b a/\m a=some i/\∀F' H',Ext F H F' H'->Q i H'
def POs(X:Cx)(e:Option Expr)(m:MO):Prop:=PO X e (TOs X.K m)
theorem PO.imp{e:Option Expr}(h:PO X e t)(i:∀a H Q,t' a H Q->t a H Q):PO X e t':=λpins s a H Q I q=>h pins s a H Q I (i a H Q q)
theorem U7:POs X none R8:=PO.imp xf9 λb H Q j=>by obtain⟨F0,H0,F,a,i,rl,e,q⟩:=j;cases e;exact q F H (.refl rl.fh)
theorem e9(h:PD X a ma):POs X (some a) (j3 ma):=PO.imp (xf8 h) λc H Q j=>by
 obtain⟨F0,H0,F,b,i,rl,e,q⟩:=j;unfold j3 at e;cases h1:ma b with
 |none=>rw[h1]at e;cases e
 |some d=>
  rw[h1]at e;refine⟨F0,H0,F,b,d,rl,h1,λv F1 H1 z G=>?_⟩;cases G <;> first| (cases e;done)|skip
  cases e;exact⟨_,rfl,q F1 H1 z⟩
@[irreducible] def mcut(m:ML)(lo hi:MO):ML:=λa=>(m a).bind λds=>(lo a).bind λl=>(hi a).bind λh=>some (cutL ds l h)
theorem wt4{lo hi:Option Expr}(ha:PB X a O)(hl:POs X lo l)(hh:POs X hi h)(hE:PE X e (tSl (rSlL X.K) (TB X.K O) (TOs X.K l) (TOs X.K h))):PF X e (mcut O l h):=hE.imp λc H Q G=>by
 obtain⟨F0,H0,F,b,g,rl,e,q⟩:=G;unfold mcut at e;cases h1:O b with
 |none=>rw[h1]at e;cases e
 |some ds=>
  cases h2:l b with
  |none=>rw[h1,h2]at e;cases e
  |some i=>
   cases h3:h b with
   |none=>rw[h1,h2,h3]at e;cases e
   |some j=>rw[h1,h2,h3]at e;cases e;refine⟨F0,H0,F,b,ds,rl,h1,λp xs F1 H1 U s1 Z=>⟨F0,H0,F1,b,i,rl.go U,h2,λF2 H2 N=>⟨F0,H0,F2,b,j,(rl.go U).go N,h3,λF3 H3 z=>?_⟩⟩⟩;refine⟨p,xs,rfl,z.hh.seq (N.hh.seq s1),λw hw=>?_⟩;have Y:=(U.trans N).trans z;exact q w _ F3 _ (Y.trans (Ext.own z.fh hw)) (Y.hh.free hw) (z.fh.free hw) x8 (xq4 (Z.mono (N.ff.trans z.ff)) i j)
end
theorem zg5(l:Addr)(items:Array Value)(n:Nat)(b:Addr)(j:Array Value)(N:Nat)(Z G:Option Addr)(sl z:Array (Option Value))(U:items.size+j.size<=sizeLine):
  Meets (Builtin.«list.__add__» ⟨[.ref l,.ref b],[]⟩) (λ_ R s=>s.heap.get? l=some { cls:=.type "list",dict:=Z,data:=.seq items n,slots:=sl }/\s.heap.get? b=some { cls:=.type "list",dict:=G,data:=.seq j N,slots:=z }/\R (.ok (.ret (Value.ref s.heap.objs.size))) { s with heap:=s.heap.push { cls:=Value.type "list",data:=Data.seq (items++j) },toks:=s.toks }):=
 .of_wp λprog w A R s h=>by obtain⟨hp,g,d,tk,os⟩:=s;obtain⟨O,Y,h⟩:=h;have f1:=AutoSeq1.idx_int;have f2:=AutoSeq1.sub_tuple_tuple;have f3:=AutoSeq1.sub_list_list;have f4:=AutoSeq1.sub_tuple_list;have f5:=AutoSeq1.sub_list_tuple;wp_walk using AutoSeq1.wpAny_loadPart' O,AutoSeq1.wpAny_loadPart' Y;exact⟨_,rfl,h⟩
section
variable {X:Cx}{a b c e:Expr}{ma mb:ME}{pos:Pos}
def wu8(K:W.Frag):R2:=λx y H Q=>∃l b xs zs,x= .ref l/\y= .ref b/\SqL K H l xs/\SqL K H b zs/\xs.length+zs.length<=sizeLine/\∀p,H p=none->Q (.ref p) (upd H p (.lst (xs++zs)))
theorem zy3:OpR X (binaryOp .Add) (wu8 X.K):=by
 intro pins s a H x y v u Q I Z Y h;obtain⟨l,b,xs,zs,rfl,rfl,hH,hB,hz,q⟩:=h;cases Z;cases Y;obtain⟨its,r,⟨⟨cl,dd,dt,sl⟩,n,e,hc,hd,hs⟩,z⟩:=I.list hH;obtain⟨j,r2,⟨⟨a3,a2,a1,U⟩,n2,e2,O,N,G⟩,z2⟩:=I.list hB;simp only at hc hd hs O N G;subst hc hd hs O N G;have l1:=r.length;have l2:=r2.length;refine concat_meets (T:="list") ⟨_,e,rfl⟩ ⟨_,e2,rfl⟩ PySem.noFill_list_add PySem.seq_list_add F.slot_list_add F.entry_list_add (F.args_list_add_2 _ _) (zg5 l its.toArray n b j.toArray n2 none none sl U (by rw[cg,cg];lia)) ⟨e,e2,?_⟩;have ea:its.toArray++j.toArray=(its++j).toArray:=by simp
 rw[ea];exact⟨.ref _,_,I.lnew (t':=s.toks) (r.append r2) (by rw[bL];lia),rfl,q _ I.fresh⟩
@[irreducible] noncomputable def mcat(x y:ML):ML:=λa=>(x a).bind λds=>(y a).bind λes=>if ds.length+es.length<=sizeLine then some (ds++es)else none
theorem yf7{a:Ro}(h:mcat x y a=some j):∃ds es,x a=some ds/\y a=some es/\ds.length+es.length<=sizeLine/\j=ds++es:=by
 unfold mcat at h;cases h1:x a with
 |none=>rw[h1]at h;cases h
 |some ds=>
  cases h2:y a with
  |none=>rw[h1,h2]at h;cases h
  |some es=>
   rw[h1,h2]at h;have h:(if ds.length+es.length<=sizeLine then some (ds++es)else none)=some j:=h;split at h
   .rename_i hz;cases h;exact⟨ds,es,rfl,rfl,hz,rfl⟩
   .cases h
theorem R7(ha:PB X a x)(Y:PB X b y):PF X (.BinOp a .Add b pos) (mcat x y):=(xu1 zy3 ha Y).imp λd H Q z=>by obtain⟨F0,H0,F,c,g,rl,e,q⟩:=z;obtain⟨ds,es,h1,h2,U,rfl⟩:=yf7 e;refine⟨F0,H0,F,c,ds,rl,h1,λp xs F1 H1 N s1 O=>⟨F0,H0,F1,c,es,rl.go N,h2,λp2 ys F2 H2 j s2 r2=>?_⟩⟩;refine⟨p,p2,xs,ys,rfl,rfl,j.hh.seq s1,s2,by rw[O.length,r2.length];exact U,λw hw=>?_⟩;have G:=N.trans j;exact q w _ F2 _ (G.trans (Ext.own j.fh hw)) (G.hh.free hw) (j.fh.free hw) x8 ((O.mono j.ff).append r2)
noncomputable def addD:D->D->Option D
 | .int i,.int j=>some (.int (i+j))
 | .lst ds,.lst es=>if ds.length+es.length<=sizeLine then some (.lst (ds++es))else none
 |_,_=>none
theorem zp9{K:W.Frag}:OpD K (λx y H Q=>(rI0 λi j=>V.int (i+j)) x y H Q\/wu8 K x y H Q) addD:=by
 intro F H x y d e w Q s Y r2 h q;cases d with
 |int i=>
  cases e with
  |int j=>cases h;exact .inl ⟨_,_,Y.i',r2.i',q _ F H (.refl s) (.int _)⟩
  |_=>cases h
 |lst G=>
  cases e with
  |lst z=>
   obtain⟨p1,a1,e1,s1,U⟩:=Y.l';obtain⟨p2,Z,e2,s2,O⟩:=r2.l';have h:(if G.length+z.length<=sizeLine then some (D.lst (G++z))else none)=some w:=h;by_cases N:G.length+z.length<=sizeLine
   .rw[aJ N]at h;cases h;refine .inr ⟨_,_,_,_,e1,e2,s.seq s1,s.seq s2,by rw[U.length,O.length];exact N,λp hp=>?_⟩;exact q _ _ _ (Ext.laid s hp) (.lst (SqL.of x8) ((U.append O).mono ((Same.refl F).put (s.free hp))))
   .rw[aI N]at h;cases h
  |_=>cases h
 |_=>cases h
theorem k9(ha:PD X a ma)(j:PD X b mb):PD X (.BinOp a .Add b pos) (m2 addD ma mb):=zc9 (OpR.or yv0 zy3) zp9 ha j
theorem f6(ha:PD X a ma)(j:PD X b mb):PD X (.BinOp a .Sub b pos) (m2 subD ma mb):=zc9 xm3 yg4 ha j
theorem zt5(ha:PD X a ma)(j:PD X b mb):PD X (.BinOp a .Mult b pos) (m2 mulD ma mb):=zc9 xm4 yg5 ha j
theorem yg0(ha:PD X a ma)(j:PD X b mb):PD X (.BinOp a .FloorDiv b pos) (m2 yp9 ma mb):=zc9 xd9 xt0 ha j
theorem E2(ha:PD X a ma)(j:PD X b mb):PD X (.BinOp a .Mod b pos) (m2 modD ma mb):=zc9 ws8 xd4 ha j
theorem zy0(ha:PD X a ma)(j:PD X b mb):PD X (.BinOp a .Pow b pos) (m2 powD ma mb):=zc9 ws7 xd2 ha j
@[irreducible] noncomputable def m6(f:List D->Option D)(m:ML):ME:=λρ=>(m ρ).bind f
def xy4(K:W.Frag)(r:List V->Hp->VK->Prop)(f:List D->Option D):Prop:=∀(F H:Hp)(vs:List V)(ds:List D)(g:D)(Q:VK),Same F H->Reps K F vs ds->f ds=some g->(∀v F' H',Ext F H F' H'->Rep K F' v g->Q v H')->r vs H Q
theorem yt8{r:List V->Hp->VK->Prop}{f:List D->Option D}(N:xy4 X.K r f){b:St}(h:TD X.K (m6 f m) b H Q):tCB r (TAs X.K m) b H Q:=by
 obtain⟨F0,H0,F,a,g,rl,e,q⟩:=h;unfold m6 at e;cases h1:m a with
 |none=>rw[h1]at e;cases e
 |some ds=>rw[h1]at e;exact⟨F0,H0,F,a,ds,rl,h1,λvs F1 H1 j G=>N F1 H1 vs ds g Q j.fh G e λv F' H' z=>q v F' H' (j.trans z)⟩
theorem u9{e:Expr}(O:Gl X "len")(hm:X.mg "len"=none)(ha:PB X e m)(hs:starEach (e::[]) X.env=(false,eval e X.env)::starEach [] X.env:=by rfl)(U:starEach [e] X.env=(false,eval e X.env)::starEach [] X.env:=by rfl)(z:(backTo pos (starEach [] X.env)).any (·.1)=false:=by rfl):PD X (.Call (.Name "len" p) [e] [] pos) (mlen m):=
 (Y1 ze4 O hm PySem.boot_len (Y6 ha pa_nil hs) aC aC U z).imp λb H Q j=>by
  obtain⟨F0,H0,F,a,g,rl,e,q⟩:=j;unfold mlen at e;cases h1:m a with
  |none=>rw[h1]at e;cases e
  |some ds=>rw[h1]at e;cases e;refine⟨F0,H0,F,a,ds,rl,h1,λp xs F1 H1 G s1 N=>⟨p,xs,rfl,.inl s1,?_⟩⟩;rw[N.length];exact q _ F1 H1 G (.int _)
noncomputable def absF:List D->Option D
 |[.int i]=>some (.int (if i<0 then -i else i))
 |_=>none
theorem ze1{K:W.Frag}:xy4 K (λxs H Q=>∃i,xs=[.int i]/\Q (.int (if i<0 then -i else i)) H) absF:=by
 intro F H vs ds g Q s r h q;cases r with
 |nil=>cases h
 |cons r j=>
  cases j with
  |cons _ _=>revert h;unfold absF;intro h;split at h <;> simp_all
  |nil=>
   cases r with
   |int i=>cases h;exact⟨_,rfl,q _ F H (.refl s) (.int _)⟩
   |_=>cases h
theorem zi9{e:Expr}(z:Gl X "abs")(hm:X.mg "abs"=none)(ha:PAs X [e] m)(G:starEach [e] X.env=(false,eval e X.env)::starEach [] X.env:=by rfl)(j:(backTo pos (starEach [] X.env)).any (·.1)=false:=by rfl):PD X (.Call (.Name "abs" p) [e] [] pos) (m6 absF m):=
 (Y1 yt9 z hm PyProof.Rows.boot_abs ha aC aC G j).imp λ_ _ _ h=>yt8 ze1 h
noncomputable def two2(k:Int->Int->Int):List D->Option D
 |[.int i,.int j]=>some (.int (k i j))
 |_=>none
theorem xx1{k:Int->Int->Int}(h:two2 k ds=some g):∃i j,ds=[.int i,.int j]/\g= .int (k i j):=by
 cases ds with
 |nil=>cases h
 |cons d ds=>
  cases ds with
  |nil=>cases d <;> cases h
  |cons e ds=>
   cases ds with
   |cons f ds=>cases d <;> first| (cases h;done)| (cases e <;> cases h)
   |nil=>
    cases d with
    |int i=>
     cases e with
     |int j=>cases h;exact⟨i,j,rfl,rfl⟩
     |_=>cases h
    |_=>cases h
theorem zf9{K:W.Frag}{k:Int->Int->Int}:xy4 K (λxs H Q=>∃i j,xs=[.int i,.int j]/\Q (.int (k i j)) H) (two2 k):=by
 intro F H vs ds g Q s r h q;obtain⟨i,j,rfl,rfl⟩:=xx1 h;cases r with
 |cons r z=>
  cases z with
  |cons r2 z=>cases z;rw[r.i',r2.i'];exact⟨_,_,rfl,q _ F H (.refl s) (.int _)⟩
def V5:List D->Option D:=two2 λi j=>if j>i then j else i
def zb8:List D->Option D:=two2 λi j=>if j<i then j else i
theorem G5(hc:X.calm=true)(G:Gl X "max")(hm:X.mg "max"=none)(ha:PAs X [x,y] m)(N:starEach [x,y] X.env=(false,eval x X.env)::starEach [y] X.env:=by rfl)(z:(backTo pos (starEach [y] X.env)).any (·.1)=false:=by rfl):PD X (.Call (.Name "max" p) [x,y] [] pos) (m6 V5 m):=
 (Y1 (ya2 hc) G hm PyProof.Rows.boot_max ha aC aC N z).imp λ_ _ _ h=>yt8 (zf9 (k:=λi j=>if j>i then j else i)) h
theorem yh9(hc:X.calm=true)(G:Gl X "min")(hm:X.mg "min"=none)(ha:PAs X [x,y] m)(N:starEach [x,y] X.env=(false,eval x X.env)::starEach [y] X.env:=by rfl)(z:(backTo pos (starEach [y] X.env)).any (·.1)=false:=by rfl):PD X (.Call (.Name "min" p) [x,y] [] pos) (m6 zb8 m):=
 (Y1 (ya1 hc) G hm PyProof.Rows.boot_min ha aC aC N z).imp λ_ _ _ h=>yt8 (zf9 (k:=λi j=>if j<i then j else i)) h
noncomputable def intF:List D->Option D
 |[.int i]=>some (.int i)
 |[.bl k]=>some (.int (if k then 1 else 0))
 |_=>none
theorem ze0{K:W.Frag}:xy4 K (λxs H Q=>(∃i,xs=[.int i]/\Q (.int i) H)\/∃k,xs=[.bl k]/\Q (.int (if k then 1 else 0)) H) intF:=by
 intro F H vs ds g Q s r h q;cases r with
 |nil=>cases h
 |cons r j=>
  cases j with
  |cons _ _=>revert h;unfold intF;intro h;split at h <;> simp_all
  |nil=>
   cases r with
   |int i=>cases h;exact .inl ⟨_,rfl,q _ F H (.refl s) (.int _)⟩
   |bl i=>cases h;exact .inr ⟨_,rfl,q _ F H (.refl s) (.int _)⟩
   |_=>cases h
theorem zp5{e:Expr}(G:Gl X "int")(hm:X.mg "int"=none)(ha:PAs X [e] m)(z:bootBuiltins "int"=some (.type "int"))(N:starEach [e] X.env=(false,eval e X.env)::starEach [] X.env:=by rfl)(j:(backTo pos (starEach [] X.env)).any (·.1)=false:=by rfl):PD X (.Call (.Name "int" p) [e] [] pos) (m6 intF m):=
 (L3 ze5 G hm z ha aC aC N j).imp λ_ _ _ h=>yt8 ze0 h
theorem yh5{e:Expr}(U:Gl X "list")(hm:X.mg "list"=none)(ha:PB X e m)(O:bootBuiltins "list"=some (.type "list"))(hs:starEach (e::[]) X.env=(false,eval e X.env)::starEach [] X.env:=by rfl)(G:(backTo pos (starEach [] X.env)).any (·.1)=false:=by rfl):PF X (.Call (.Name "list" p) [e] [] pos) m:=
 (L3 ze3 U hm O (Y6 ha pa_nil hs) aC aC hs G).imp λb H Q j=>by obtain⟨F0,H0,F,a,ds,rl,e,q⟩:=j;refine⟨F0,H0,F,a,ds,rl,e,λp xs F1 H1 z s1 N=>⟨p,xs,rfl,.inl s1,λw hw=>?_⟩⟩;exact q w _ F1 _ (z.trans (Ext.own z.fh hw)) (z.hh.free hw) (z.fh.free hw) x8 N
end
inductive Out where
 |nx (ρ:Ro)|bk (ρ:Ro)|ct (ρ:Ro)|rt (d:D)|rf (ds:List D)|rp (d:D) (ds:List D)|rg (d:D) (p:Addr) (r:List D)|rgf (ds:List D) (p:Addr) (r:List D)
abbrev MS:=Ro->Option Out
def okO(K:W.Frag)(F0 H0 Fb:Hp)(Dn:Ends):Out->Prop
 | .nx a=>∀F H b,Rl K F0 H0 F H b a->Same Fb F->Dn.nx b H
 | .bk a=>∀F H b,Rl K F0 H0 F H b a->Same Fb F->Dn.bk b H
 | .ct a=>∀F H b,Rl K F0 H0 F H b a->Same Fb F->Dn.ct b H
 | .rt d=>∀v F H,Ext F0 H0 F H->Rep K F v d->Dn.rt v H
 | .rf ds=>∀p xs F H,Ext F0 H0 F H->H0 p=none->F p=none->H p=some (.lst xs)->Reps K F xs ds->Dn.rt (.ref p) H
 | .rp d ds=>∀t v p xs F H,Ext F0 H0 F H->H0 t=none->H0 p=none->t≠p->F t=none->F p=none->H t=some (.tup [v,.ref p])->H p=some (.lst xs)->Rep K F v d->Reps K F xs ds->Dn.rt (.ref t) H
 | .rg d p r=>∀v F H xs,Ext F0 H0 F H->Rep K F v d->F p=none->H p=some (.lst xs)->Reps K F xs r->Dn.rt v H
 | .rgf ds p r=>∀q ys F H xs,Ext F0 H0 F H->H0 q=none->F q=none->q≠p->H q=some (.lst ys)->Reps K F ys ds->F p=none->H p=some (.lst xs)->Reps K F xs r->Dn.rt (.ref q) H
def TSd(K:W.Frag)(m:MS):TS:=λDn b H=>∃F0 H0 F a o,Rl K F0 H0 F H b a/\m a=some o/\okO K F0 H0 F Dn o
theorem okO.mono{K:W.Frag}{F0 H0 z j:Hp}{Dn:Ends}(s:Same z j):∀{o:Out},okO K F0 H0 z Dn o->okO K F0 H0 j Dn o
 | .nx _,h=>λF H a rl q=>h F H a rl (s.trans q)
 | .bk _,h=>λF H a rl q=>h F H a rl (s.trans q)
 | .ct _,h=>λF H a rl q=>h F H a rl (s.trans q)
 | .rt _,h=>h
 | .rf _,h=>h
 | .rp _ _,h=>h
 | .rg _ _ _,h=>h
 | .rgf _ _ _,h=>h
def PSd(X:Cx)(st:Stmt)(m:MS):Prop:=PS X st (TSd X.K m)
def PSsd(X:Cx)(st:List Stmt)(m:MS):Prop:=PSs X st (TSd X.K m)
section
variable {X:Cx}{a b c e:Expr}{ma mb:ME}{pos:Pos}{st:Stmt}{rest:List Stmt}{m1 m2':MS}
theorem PS.imp(h:PS X st t)(i:∀D a H,t' D a H->t D a H):PS X st t':=λpins s a H D I q=>h pins s a H D I (i D a H q)
theorem PSs.imp{sts:List Stmt}(h:PSs X sts t)(i:∀D a H,t' D a H->t D a H):PSs X sts t':=λpins s a H D I q=>h pins s a H D I (i D a H q)
def f7:MS:=λa=>some (.nx a)
noncomputable def mseq(x y:MS):MS:=λa=>match x a with |some (.nx ρ')=>y ρ'|o=>o
theorem u0:PSsd X [] f7:=pss_nil.imp λD b H j=>by obtain⟨F0,H0,F,a,o,rl,e,ok⟩:=j;cases e;exact ok F H b rl (Same.refl _)
theorem z9(h1:PSd X st m1)(h2:PSsd X rest m2'):PSsd X (st::rest) (mseq m1 m2'):=(zp0 h1 h2).imp λD b H j=>by
 obtain⟨F0,H0,F,a,o,rl,e,ok⟩:=j;unfold mseq at e;cases h:m1 a with
 |none=>rw[h]at e;cases e
 |some O=>
  rw[h]at e;cases O with
  |nx ρ1=>exact⟨F0,H0,F,a,_,rl,h,λF' H' G z N=>⟨F0,H0,F',ρ1,o,z,e,ok.mono N⟩⟩
  |bk ρ1=>cases e;exact⟨F0,H0,F,a,_,rl,h,ok⟩
  |ct ρ1=>cases e;exact⟨F0,H0,F,a,_,rl,h,ok⟩
  |rt d=>cases e;exact⟨F0,H0,F,a,_,rl,h,ok⟩
  |rf d=>cases e;exact⟨F0,H0,F,a,_,rl,h,ok⟩
  |rp d ds=>cases e;exact⟨F0,H0,F,a,_,rl,h,ok⟩
  |rg d p r=>cases e;exact⟨F0,H0,F,a,_,rl,h,ok⟩
  |rgf d p r=>cases e;exact⟨F0,H0,F,a,_,rl,h,ok⟩
theorem y6(h1:PSd X st m1):PSsd X [st] m1:=yj9 h1
noncomputable def mif(c:MB)(x y:MS):MS:=λa=>match c a with |some true=>x a|some false=>y a|none=>none
theorem j7(hc:PC' X c ca)(O:PSsd X x mx)(N:PSsd X y G):PSd X (.If c x y pos) (mif ca mx G):=(xf6 hc O N).imp λD b H z=>by
 obtain⟨F0,H0,F,a,o,rl,e,ok⟩:=z;unfold mif at e;split at e
 .rename_i h1;refine⟨F0,H0,F,a,_,rl,h1,λF1 H1 j=>iteT ⟨F0,H0,F1,a,o,rl.go j,e,ok.mono j.ff⟩⟩
 .rename_i h1;refine⟨F0,H0,F,a,_,rl,h1,λF1 H1 j=>iteF ⟨F0,H0,F1,a,o,rl.go j,e,ok.mono j.ff⟩⟩
 .cases e
def yv6:MS:=λ_=>none
theorem zi4:PSd X st yv6:=ps_never.imp λD b H j=>by obtain⟨F0,H0,F,a,o,rl,e,ok⟩:=j;cases e
noncomputable def mset(i:Nat)(x:ME):MS:=λa=>(x a).map λd=>.nx (a.set i (some (.sh d)))
noncomputable def W4(i:Nat)(x:ML):MS:=λa=>(x a).map λds=>.nx (a.set i (some (.own ds)))
theorem wm2{i:Nat}(h:PS X st (tAsg t (G6 i)))(ht:∀b H Q,TD X.K ma b H Q->t b H Q):PSd X st (mset i ma):=h.imp λD b H j=>by
 obtain⟨F0,H0,F,a,o,rl,e,ok⟩:=j;unfold mset at e;cases h1:ma a with
 |none=>rw[h1]at e;cases e
 |some d=>rw[h1]at e;cases e;exact ht _ _ _ ⟨F0,H0,F,a,d,rl,h1,λv F1 H1 z G=>ok F1 H1 _ ((rl.go z).set G) z.ff⟩
theorem we6{i:Nat}(h:PS X st (tAsg t (G6 i)))(ht:∀b H Q,TF X.K mf b H Q->t b H Q):PSd X st (W4 i mf):=h.imp λD b H G=>by
 obtain⟨F0,H0,F,a,o,rl,e,ok⟩:=G;unfold W4 at e;cases h1:mf a with
 |none=>rw[h1]at e;cases e
 |some ds=>
  rw[h1]at e;cases e;refine ht _ _ _ ⟨F0,H0,F,a,ds,rl,h1,λp xs F1 H1 N hp Y U O=>ok F1 H1 _ ?_ N.ff⟩;refine(rl.go N).setOwn Y U O (rl.ext.hh.free hp) (λj es Z e1 e2=>?_) λj q es e1 z=>?_
  .obtain⟨q,ys,a1,a2,a3,_⟩:=rl.own j es e1;rw[a1]at e2;cases e2;rw[hp]at a3;cases a3
  .obtain⟨_,_,_,ys,a3,_⟩:=rl.ob j q es e1;rw[z,hp]at a3;cases a3
theorem v6{i:Nat}{pos':Pos}(O:X.N.Nodup)(hi:X.N[i]? =some x)(j:Loc X.env.scope x)(G:PD X e ma)(hs:swapsWith e (some (.Name x pos')) pos.line X.env=pure false:=by rfl)(z:X.fn x=true\/X.env.scope.names.lookup x=some .local:=by first|exact .inl rfl|exact .inr rfl|assumption):
  PSd X (.Assign [.Name x pos'] e pos) (mset i ma):=wm2 (yi3 O hi j G hs z) λ_ _ _ h=>h
theorem c6{i:Nat}{pos':Pos}(O:X.N.Nodup)(hi:X.N[i]? =some x)(j:Loc X.env.scope x)(G:PF X e mf)(hs:swapsWith e (some (.Name x pos')) pos.line X.env=pure false:=by rfl)(z:X.fn x=true\/X.env.scope.names.lookup x=some .local:=by first|exact .inl rfl|exact .inr rfl|assumption):
  PSd X (.Assign [.Name x pos'] e pos) (W4 i mf):=we6 (yi3 O hi j G hs z) λ_ _ _ h=>h
noncomputable def maug(i:Nat)(x:ME):MS:=λa=>match a[i]? with |some (some (.sh (.int k)))=>(x a).bind (λd=>match d with | .int j=>some (.nx (a.set i (some (.sh (.int (k+j))))))|_=>none)|_=>none
theorem zc5{i:Nat}{pos':Pos}(Z:X.N.Nodup)(hi:X.N[i]? =some x)(O:Loc X.env.scope x)(Y:PD X e ma)(U:X.fn x=true\/X.env.scope.names.lookup x=some .local:=by first|exact .inl rfl|exact .inr rfl|assumption):
  PSd X (.AugAssign (.Name x pos') .Add e pos) (maug i ma):=(xn6 Z hi O Y wp9 U).imp λD b H j=>by
 obtain⟨F0,H0,F,a,o,rl,e,ok⟩:=j;unfold maug at e;split at e
 .rename_i k h1;obtain⟨v,e1,e2⟩:=rl.sh i _ h1;cases e2;cases h2:ma a with
  |none=>rw[h2]at e;cases e
  |some d=>
   rw[h2]at e;refine⟨_,e1,F0,H0,F,a,d,rl,h2,λy F1 H1 z G=>?_⟩;cases G <;> first| (cases e;done)|skip
   cases e;exact⟨_,_,rfl,rfl,ok F1 H1 _ ((rl.go z).set (.int _)) z.ff⟩
 .cases e
noncomputable def zb9(x:ME):MS:=λa=>(x a).map λ_=>.nx a
theorem yw7(G:PD X e ma)(hs:swapsWith e none pos.line X.env=pure false:=by rfl):PSd X (.Expr e pos) (zb9 ma):=(yi4 G hs).imp λD b H j=>by
 obtain⟨F0,H0,F,a,o,rl,e,ok⟩:=j;unfold zb9 at e;cases h1:ma a with
 |none=>rw[h1]at e;cases e
 |some d=>rw[h1]at e;cases e;exact⟨F0,H0,F,a,d,rl,h1,λv F1 H1 z N=>ok F1 H1 _ (rl.go z) z.ff⟩
def mret(x:ME):MS:=λa=>(x a).map .rt
def zv2(x:ML):MS:=λa=>(x a).map .rf
noncomputable def L9(i:Nat):MS:=λa=>match a[i]? with |some (some (.own ds))=>some (.rf ds)|some (some (.sh d))=>some (.rt d)|_=>none
theorem k5(N:PD X e ma):PSd X (.Return (some e) pos) (mret ma):=(zt4 N).imp λD b H j=>by
 obtain⟨F0,H0,F,a,o,rl,e,ok⟩:=j;unfold mret at e;cases h1:ma a with
 |none=>rw[h1]at e;cases e
 |some d=>rw[h1]at e;cases e;exact⟨F0,H0,F,a,d,rl,h1,λv F1 H1 z G=>ok v F1 H1 (rl.ext.trans z) G⟩
theorem C4(N:PF X e mf):PSd X (.Return (some e) pos) (zv2 mf):=(zt4 N).imp λD b H j=>by
 obtain⟨F0,H0,F,a,o,rl,e,ok⟩:=j;unfold zv2 at e;cases h1:mf a with
 |none=>rw[h1]at e;cases e
 |some ds=>rw[h1]at e;cases e;exact⟨F0,H0,F,a,ds,rl,h1,λp xs F1 H1 z hp U O G=>ok p xs F1 H1 (rl.ext.trans z) (rl.ext.hh.free hp) U O G⟩
theorem U6(i:Nat){pos':Pos}(h:PE X (.Name x pos') (tVar i)):PSd X (.Return (some (.Name x pos')) pos) (L9 i):=(zt4 h).imp λD b H j=>by
 obtain⟨F0,H0,F,a,o,rl,e,ok⟩:=j;unfold L9 at e;split at e
 .rename_i ds h1;cases e;obtain⟨p,xs,e1,e2,e3,G,z⟩:=rl.own i _ h1;exact⟨_,e1,ok p xs F H rl.ext z e2 e3 G⟩
 .rename_i d h1;cases e;obtain⟨v,e1,e2⟩:=rl.sh i _ h1;exact⟨_,e1,ok v F H rl.ext e2⟩
 .cases e
noncomputable def mapp(i:Nat)(x:ME):MS:=λa=>match a[i]? with |some (some (.own ds))=>(x a).bind λd=>if ds.length<sizeLine then some (.nx (a.set i (some (.own (ds++[d])))))else none|_=>none
theorem Z6{i:Nat}{e:Expr}{G apos cpos:Pos}(hv:PE X (.Name x G) (tVar i))(he:PD X e ma)
  (Y:∀t,PA X [e] t->PE X (.Call (.Attribute (.Name x G) "append" apos) [e] [] cpos) (tBM X.K "list" zc3 (tVar i) t)) (Z:PAs X [e] (z7 ma anil)) (hs:swapsWith (.Call (.Attribute (.Name x G) "append" apos) [e] [] cpos) none pos.line X.env=pure false:=by rfl):
  PSd X (.Expr (.Call (.Attribute (.Name x G) "append" apos) [e] [] cpos) pos) (mapp i ma):=(yi4 (Y _ Z) hs).imp λD b H j=>by
 obtain⟨F0,H0,F,a,o,rl,e,ok⟩:=j;unfold mapp at e;split at e
 .rename_i ds h1;obtain⟨p,xs,e1,e2,e3,N,e5⟩:=rl.own i _ h1;cases h2:ma a with
  |none=>rw[h2]at e;cases e
  |some d=>
   rw[h2]at e;have e:(if ds.length<sizeLine then some (Out.nx (a.set i (some (.own (ds++[d])))))else none)=some o:=e;split at e
   .rename_i hz;cases e;refine⟨_,e1,.inl ⟨rfl,_,SqL.of e3⟩,F0,H0,F,a,[d],rl,by unfold z7 anil;rw[h2];rfl,λvs F1 H1 z U=>?_⟩;cases U with
    |cons r O=>cases O;have hp:H1 p=some (.lst xs):=z.hh _ _ e3;exact⟨p,xs,_,rfl,rfl,hp,by rw[N.length];exact hz,ok F1 _ b ((rl.go z).write h1 e1 ((N.mono z.ff).append (.cons r .nil))) z.ff⟩
   .cases e
 .cases e
def R0(i:Nat)(ix v:ME):MS:=λa=>(v a).bind λd=>match a[i]? with
 |some (some (.own ds))=>(ix a).bind (λx=>match x with | .int k=>(ixN ds.length k).map λj=>.nx (a.set i (some (.own (ds.set j d))))|_=>none)
 |some (some (.ob p ds))=>(ix a).bind (λx=>match x with | .int k=>(ixN ds.length k).map λj=>.nx (a.set i (some (.ob p (ds.set j d))))|_=>none)
 |_=>none
theorem R6{i:Nat}(hE:PS X st (tAsg (TD X.K mb) (gSub (tVar i) (TD X.K ma) xw7))):PSd X st (R0 i ma mb):=hE.imp λD b H U=>by
 obtain⟨F0,H0,F,a,o,rl,e,ok⟩:=U;unfold R0 at e;cases h1:mb a with
 |none=>rw[h1]at e;cases e
 |some d=>
  rw[h1]at e;refine⟨F0,H0,F,a,d,rl,h1,λy F1 H1 N r1=>?_⟩;dsimp only[Option.bind]at e;split at e
  .rename_i ds h2;obtain⟨p,xs,e1,e2,e3,Y,e5⟩:=(rl.go N).own i _ h2;cases h3:ma a with
   |none=>rw[h3]at e;cases e
   |some Z=>
    rw[h3]at e;refine⟨_,e1,F0,H0,F1,a,Z,rl.go N,h3,λz F2 H2 G r2=>?_⟩;cases r2 <;> first| (cases e;done)|skip
    rename_i k;have e:(ixN ds.length k).map (λj=>Out.nx (a.set i (some (.own (ds.set j d)))))=some o:=e;cases h4:ixN ds.length k with
    |none=>rw[h4]at e;cases e
    |some j=>rw[h4]at e;cases e;have O:=(rl.go N).go G;refine⟨p,xs,k,j,rfl,rfl,G.hh _ _ e3,by rw[Y.length];exact h4,ok F2 _ b (O.write h2 e1 (Reps.set (r1.mono G.ff) j (Y.mono G.ff))) (N.ff.trans G.ff)⟩
  .rename_i p ds h2;obtain⟨e1,e2,e5,xs,e3,Y⟩:=(rl.go N).ob i p _ h2;cases h3:ma a with
   |none=>rw[h3]at e;cases e
   |some Z=>
    rw[h3]at e;refine⟨_,e1,F0,H0,F1,a,Z,rl.go N,h3,λz F2 H2 G r2=>?_⟩;cases r2 <;> first| (cases e;done)|skip
    rename_i k;have e:(ixN ds.length k).map (λj=>Out.nx (a.set i (some (.ob p (ds.set j d)))))=some o:=e;cases h4:ixN ds.length k with
    |none=>rw[h4]at e;cases e
    |some j=>rw[h4]at e;cases e;have O:=(rl.go N).go G;refine⟨p,xs,k,j,rfl,rfl,G.hh _ _ e3,by rw[Y.length];exact h4,ok F2 _ b (O.writeB h2 (Reps.set (r1.mono G.ff) j (Y.mono G.ff))) (N.ff.trans G.ff)⟩
  .cases e
noncomputable def Q2(i:Nat)(m:MS):MS:=λa=>match a[i]? with |some (some (.own ds))=>m (a.set i (some (.sh (.lst ds))))|_=>m a
theorem N2(i:Nat){sts:List Stmt}(h:PSsd X sts m):PSsd X sts (Q2 i m):=h.imp λD b H j=>by
 obtain⟨F0,H0,F,a,o,rl,e,ok⟩:=j;unfold Q2 at e;split at e
 .rename_i ds h1;obtain⟨F',z,G⟩:=rl.freeze h1;exact⟨F0,H0,F',_,o,z,e,ok.mono G⟩
 .exact⟨F0,H0,F,a,o,rl,e,ok⟩
inductive Tg where
 |nm (i:Nat)|tp (is:List Nat)|nt (i:Nat) (is:List Nat)
def zz2:List Nat->List D->Ro->Option Ro
 |[],[],a=>some a
 |i::is,d::ds,a=>zz2 is ds (a.set i (some (.sh d)))
 |_,_,_=>none
def tgD:Tg->D->Ro->Option Ro
 | .nm i,d,a=>some (a.set i (some (.sh d)))
 | .tp is,.tup ds,a=>zz2 is ds a
 | .nt i is,.tup [d,.tup ds],a=>zz2 is ds (a.set i (some (.sh d)))
 |_,_,_=>none
def TGd(K:W.Frag)(g:Tg):TG:=λv b H Q=>∃F0 H0 F a d ρ',Rl K F0 H0 F H b a/\Rep K F v d/\tgD g d a=some ρ'/\∀F' H' σ',Rl K F0 H0 F' H' σ' ρ'->Ext F H F' H'->Q σ' H'
def PGd(X:Cx)(tg:Expr)(g:Tg):Prop:=PG X tg (TGd X.K g)
theorem PG.imp(h:PG X tg t)(i:∀v a H Q,t' v a H Q->t v a H Q):PG X tg t':=λpins s a H v u Q I r q=>h pins s a H v u Q I r (i v a H Q q)
theorem t5{i:Nat}{pos:Pos}(h:PG X (.Name x pos) (G6 i)):PGd X (.Name x pos) (.nm i):=PG.imp h λv b H Q j=>by obtain⟨F0,H0,F,a,d,ρ',rl,r,e,q⟩:=j;cases e;exact q F H _ (rl.set r) (.refl rl.fh)
def gAll:List Nat->TGs
 |[]=>gNil
 |i::is=>wo0 (G6 i) (gAll is)
theorem yd9{K:W.Frag}{F0 H0 F H:Hp}{Q:St->Hp->Prop}:∀(is:List Nat)(vs:List V)(ds:List D)(b:St)(a ρ':Ro),Rl K F0 H0 F H b a->Reps K F vs ds->zz2 is ds a=some ρ'->(∀j,Rl K F0 H0 F H j ρ'->Q j H)->gAll is vs b H Q
 |[],_,[],b,a,ρ',rl,r,e,q=>by cases r;cases e;exact⟨rfl,q b rl⟩
 |[],_,_::_,_,_,_,_,_,e,_=>by cases e
 |_::_,_,[],_,_,_,_,_,e,_=>by cases e
 |i::is,_,d::ds,b,a,ρ',rl,r,e,q=>by
  cases r with
  |cons r z=>exact⟨_,_,rfl,yd9 is _ ds _ _ ρ' (rl.set r) z e q⟩
theorem zt2:∀(is:List Nat)(ds:List D)(a ρ':Ro),zz2 is ds a=some ρ'->ds.length=is.length
 |[],[],_,_,_=>rfl
 |[],_::_,_,_,e=>by cases e
 |_::_,[],_,_,e=>by cases e
 |_::is,_::ds,a,ρ',e=>bi (·+1) (zt2 is ds _ ρ' e)
theorem U9{k n:Nat}{is:List Nat}{pos:Pos}(h:PG X (.Tuple es k pos) (gTup X.K n (gAll is)))(hn:is.length=n:=by rfl):PGd X (.Tuple es k pos) (.tp is):=PG.imp h λv b H Q j=>by
 obtain⟨F0,H0,F,a,d,ρ',rl,r,e,q⟩:=j;cases r with
 |tup s t=>exact⟨_,_,rfl,rl.fh.seqT s,by rw[t.length,zt2 _ _ _ _ e,hn],yd9 is _ _ b a ρ' rl t e λz G=>q F H z G (.refl rl.fh)⟩
 |_=>cases e
def masg(g:Tg)(x:ME):MS:=λa=>(x a).bind λd=>(tgD g d a).map .nx
theorem yi2(h:PS X st (tAsg (TD X.K ma) (TGd X.K g))):PSd X st (masg g ma):=h.imp λD b H j=>by
 obtain⟨F0,H0,F,a,o,rl,e,ok⟩:=j;unfold masg at e;cases h1:ma a with
 |none=>rw[h1]at e;cases e
 |some d=>
  rw[h1]at e;have e:(tgD g d a).map Out.nx=some o:=e;cases h2:tgD g d a with
  |none=>rw[h2]at e;cases e
  |some ρ'=>rw[h2]at e;cases e;exact⟨F0,H0,F,a,d,rl,h1,λv F1 H1 N U=>⟨F0,H0,F1,a,d,ρ',rl.go N,U,h2,λF' H' z G O=>ok F' H' z G (N.ff.trans O.ff)⟩⟩
structure ItD(K:W.Frag)(F:Hp)(J:It)(its:List D):Prop where
 go:∀(i:Nat) F1 H1,Same F F1->Same F1 H1->i<its.length->J.go i H1
 yld:∀(i:Nat) F1 H1 x H2 d,Same F F1->Same F1 H1->its[i]? =some d->J.yld i H1 x H2->∃F2,Ext F1 H1 F2 H2/\Rep K F2 x d
 stop:∀F1 H1,Same F F1->Same F1 H1->J.stop its.length H1
def TId(K:W.Frag)(mi:ML):TI:=λb H R=>∃F0 H0 F a its,Rl K F0 H0 F H b a/\mi a=some its/\∀J F' H',Ext F H F' H'->ItD K F' J its->R J H'
def PId(X:Cx)(tg iter:Expr)(mi:ML):Prop:=PI X tg iter (TId X.K mi)
theorem PI.imp(h:PI X tg it t)(i:∀a H R,t' a H R->t a H R):PI X tg it t':=λpins s a H R I q=>h pins s a H R I (i a H R q)
theorem xr5{K:W.Frag}{F:Hp}{p:Addr}{xs:List V}{ds:List D}(s:SqL K F p xs)(r:Reps K F xs ds):ItD K F (Itl K p) ds where
 go:=λi F1 H1 a b hi=>by obtain⟨v,e,_⟩:=r.get (aK hi);exact⟨xs,v,b.seq (a.seq s),e⟩
 yld:=λi F1 H1 x H2 d a b e y=>by obtain⟨rfl,y⟩:=y;obtain⟨v,e1,e2⟩:=r.get e;have:=y xs (b.seq (a.seq s));rw[e1]at this;cases this;exact⟨F1,.refl b,e2.mono a⟩
 stop:=λF1 H1 a b=>⟨xs,b.seq (a.seq s),by rw[r.length];exact aN _⟩
theorem W1(hd:PD X e ma):PId X tg e (k8 ma):=PI.imp (xe2 hd) λb H R j=>by
 obtain⟨F0,H0,F,a,its,rl,e,q⟩:=j;unfold k8 at e;split at e
 .rename_i ds h1;cases e;refine⟨F0,H0,F,a,_,rl,h1,λv F1 H1 z G=>?_⟩;cases G with
  |lst s t=>exact⟨_,rfl,⟨_,z.fh.seq s⟩,q _ F1 H1 z (xr5 s t)⟩
 .cases e
noncomputable def R5(lo:Int)(n:Nat):List D:=(List.range n).map λ(i:Nat)=>D.int (lo+(i:Int))
theorem M8(lo:Int)(n:Nat):(R5 lo n).length=n:=by unfold R5;simp
theorem zg7{K:W.Frag}{F:Hp}{lo:Int}{n:Nat}:ItD K F (Itr lo n) (R5 lo n) where
 go:=λi F1 H1 a b hi=>by rw[M8]at hi;exact hi
 yld:=λi F1 H1 x H2 d a b e y=>by
  obtain⟨rfl,rfl⟩:=y;unfold R5 at e;rw[bF]at e;have hi:i<n:=by
   rcases bq i n with h|h
   .exact h
   .rw[bg (by simpa using h)]at e;cases e
  rw[db hi]at e;cases e;exact⟨F1,.refl b,.int _⟩
 stop:=λF1 H1 a b=>by rw[M8];exact aN n
noncomputable def okR(j:Int):Bool:=decide (-(2^62)<=j)&&decide (j<2^62)
def rng1:List D->Option (List D)
 |[.int j]=>if okR j=true then some (R5 0 j.toNat)else none
 |_=>none
def rng2:List D->Option (List D)
 |[.int i,.int j]=>if (okR i&&okR j)=true then some (R5 i (j-i).toNat)else none
 |_=>none
@[irreducible] noncomputable def m5(f:List D->Option (List D))(m:ML):ML:=λa=>(m a).bind f
theorem Z8{f:List D->Option (List D)}{a:Ro}(h:m5 f m a=some j):∃ds,m a=some ds/\f ds=some j:=by
 unfold m5 at h;cases h1:m a with
 |none=>rw[h1]at h;cases h
 |some ds=>rw[h1]at h;exact⟨ds,rfl,h⟩
theorem V0{tg a:Expr}{p pos:Pos}(U:Gl X "range")(hm:X.mg "range"=none)(ha:PAs X [a] m)(hs:starEach [a] X.env=[(false,eval a X.env)]:=by rfl):PId X tg (.Call (.Name "range" p) [a] [] pos) (m5 rng1 m):=PI.imp (yh3 U hm ha hs) λc H R z=>by
 obtain⟨F0,H0,F,b,its,rl,e,q⟩:=z;obtain⟨ds,h1,h2⟩:=Z8 e;refine⟨F0,H0,F,b,ds,rl,h1,λvs F1 H1 G O=>?_⟩;unfold rng1 at h2;split at h2
 .rename_i j;split at h2
  .rename_i hk;cases h2;unfold okR at hk;simp only[Bool.and_eq_true,decide_eq_true_eq]at hk;cases O with
   |cons r N=>cases N;cases r;exact⟨j,rfl,hk.1,hk.2,q _ F1 H1 G zg7⟩
  .cases h2
 .cases h2
theorem c9{tg a b:Expr}{p pos:Pos}(Y:Gl X "range")(hm:X.mg "range"=none)(ha:PAs X [a,b] m)(hs:starEach [a,b] X.env=[(false,eval a X.env),(false,eval b X.env)]:=by rfl)(N:starEach [b] X.env=[(false,eval b X.env)]:=by rfl):PId X tg (.Call (.Name "range" p) [a,b] [] pos) (m5 rng2 m):=PI.imp (yh2 Y hm ha hs N) λd H R z=>by
 obtain⟨F0,H0,F,c,its,rl,e,q⟩:=z;obtain⟨ds,h1,h2⟩:=Z8 e;refine⟨F0,H0,F,c,ds,rl,h1,λvs F1 H1 O U=>?_⟩;unfold rng2 at h2;split at h2
 .rename_i i j;split at h2
  .rename_i hk;cases h2;unfold okR at hk;simp only[Bool.and_eq_true,decide_eq_true_eq]at hk;cases U with
   |cons r G=>
    cases G with
    |cons r2 G=>cases G;cases r;cases r2;exact⟨i,j,rfl,⟨hk.1.1,hk.1.2,hk.2.1,hk.2.2⟩,q _ F1 H1 O zg7⟩
  .cases h2
 .cases h2
noncomputable def zip2:List D->Option (List D)
 |[.lst ds,.lst es]=>some (List.zipWith (λd e=>.tup [d,e]) ds es)
 |_=>none
theorem xr4{K:W.Frag}{F:Hp}{p q:Addr}{xs ys:List V}{ds es:List D}(s:SqL K F p xs)(r:Reps K F xs ds)(s':SqL K F q ys)(G:Reps K F ys es):ItD K F (Itz2 K p q) (List.zipWith (λd e=>D.tup [d,e]) ds es) where
 go:=λi F1 H1 a b hi=>by rw[length_zipWith]at hi;obtain⟨v,e,_⟩:=r.get (aK (show i<ds.length by lia));obtain⟨w,U,_⟩:=G.get (aK (show i<es.length by lia));exact⟨xs,ys,v,w,b.seq (a.seq s),b.seq (a.seq s'),e,U⟩
 yld:=λi F1 H1 x H2 d a b e y=>by obtain⟨t,u,v,rfl,ht,rfl,z,j⟩:=y;have z:=z xs (b.seq (a.seq s));have j:=j ys (b.seq (a.seq s'));obtain⟨Z,e1,O⟩:=r.get' z;obtain⟨Y,e2,r2⟩:=G.get' j;rw[getElem?_zipWith,e1,e2]at e;cases e;refine⟨upd F1 t (.tup [u,v]),Ext.laid b ht,.tup (SqT.of x8) ?_⟩;have N:Same F (upd F1 t (.tup [u,v])):=a.trans ((Same.refl F1).put (b.free ht));exact .cons (O.mono N) (.cons (r2.mono N) .nil)
 stop:=λF1 H1 a b=>⟨xs,ys,b.seq (a.seq s),b.seq (a.seq s'),by rw[r.length,G.length,length_zipWith];lia⟩
theorem yw8{tk:Nat}{a b:Expr}{p pos:Pos}(Y:Gl X "zip")(hm:X.mg "zip"=none)(ha:PAs X [a,b] m)(hs:starEach [a,b] X.env=[(false,eval a X.env),(false,eval b X.env)]:=by rfl)(N:starEach [b] X.env=[(false,eval b X.env)]:=by rfl):PId X (.Tuple es tk tp) (.Call (.Name "zip" p) [a,b] [] pos) (m5 zip2 m):=PI.imp (xe1 Y hm ha hs N) λd H R j=>by
 obtain⟨F0,H0,F,c,its,rl,e,q⟩:=j;obtain⟨ds,h1,h2⟩:=Z8 e;refine⟨F0,H0,F,c,ds,rl,h1,λvs F1 H1 z U=>?_⟩;unfold zip2 at h2;split at h2
 .cases h2;cases U with
  |cons r G=>
   cases G with
   |cons r2 G=>
    cases G;cases r with
    |lst s t=>
     cases r2 with
     |lst s2 O=>exact⟨_,_,_,_,rfl,z.fh.seq s,z.fh.seq s2,q _ F1 H1 z (xr4 s t s2 O)⟩
 .cases h2
noncomputable def D2:List D->List D->List D->List D
 |d::ds,e::es,f::fs=>.tup [d,e,f]::D2 ds es fs
 |_,_,_=>[]
theorem R3:∀ds es fs,(D2 ds es fs).length=min ds.length (min es.length fs.length)
 |[],_,_=>by simp[D2]
 |_::_,[],_=>by simp[D2]
 |_::_,_::_,[]=>by simp[D2]
 |_::ds,_::es,_::fs=>by simp only[D2,length_cons,R3 ds es fs];lia
theorem zk8:∀ds es fs (i:Nat) d e f,ds[i]? =some d->es[i]? =some e->fs[i]? =some f->(D2 ds es fs)[i]? =some (.tup [d,e,f])
 |[],_,_,_,_,_,_,h,_,_=>by simp at h
 |_::_,[],_,_,_,_,_,_,h,_=>by simp at h
 |_::_,_::_,[],_,_,_,_,_,_,h=>by simp at h
 |_::ds,_::es,_::fs,0,d,e,f,h1,h2,h3=>by simp at h1 h2 h3;subst h1 h2 h3;rfl
 |_::ds,_::es,_::fs,i+1,d,e,f,h1,h2,h3=>by have:=zk8 ds es fs i d e f (by simpa using h1) (by simpa using h2) (by simpa using h3);simpa[D2]using this
def zip3:List D->Option (List D)
 |[.lst ds,.lst es,.lst fs]=>some (D2 ds es fs)
 |_=>none
theorem xr3{K:W.Frag}{F:Hp}{p q o:Addr}{xs ys zs:List V}{ds es fs:List D}(s:SqL K F p xs)(r:Reps K F xs ds)(s':SqL K F q ys)(U:Reps K F ys es)(j:SqL K F o zs)(z:Reps K F zs fs):ItD K F (Itz3 K p q o) (D2 ds es fs) where
 go:=λi F1 H1 a b hi=>by rw[R3]at hi;obtain⟨v,e,_⟩:=r.get (aK (show i<ds.length by lia));obtain⟨w,e',_⟩:=U.get (aK (show i<es.length by lia));obtain⟨u,Z,_⟩:=z.get (aK (show i<fs.length by lia));exact⟨xs,ys,zs,v,w,u,b.seq (a.seq s),b.seq (a.seq s'),b.seq (a.seq j),e,e',Z⟩
 yld:=λi F1 H1 x H2 d a b e y=>by obtain⟨t,u,v,w,rfl,ht,rfl,O,N,G⟩:=y;have O:=O xs (b.seq (a.seq s));have N:=N ys (b.seq (a.seq s'));have G:=G zs (b.seq (a.seq j));obtain⟨d1,e1,r1⟩:=r.get' O;obtain⟨d2,e2,r2⟩:=U.get' N;obtain⟨d3,e3,r3⟩:=z.get' G;rw[zk8 _ _ _ i d1 d2 d3 e1 e2 e3]at e;cases e;refine⟨upd F1 t (.tup [u,v,w]),Ext.laid b ht,.tup (SqT.of x8) ?_⟩;have Y:Same F (upd F1 t (.tup [u,v,w])):=a.trans ((Same.refl F1).put (b.free ht));exact .cons (r1.mono Y) (.cons (r2.mono Y) (.cons (r3.mono Y) .nil))
 stop:=λF1 H1 a b=>⟨xs,ys,zs,b.seq (a.seq s),b.seq (a.seq s'),b.seq (a.seq j),by rw[r.length,U.length,z.length,R3];lia⟩
theorem xv7{tk:Nat}{a b c:Expr}{p pos:Pos}(hg:Gl X "zip")(hm:X.mg "zip"=none)(ha:PAs X [a,b,c] m)(hs:starEach [a,b,c] X.env=(false,eval a X.env)::starEach [b,c] X.env:=by rfl)(N:∀pos,((backTo pos (starEach [b,c] X.env)).any λx=>x.1)=false:=by intro _;rfl):PId X (.Tuple es tk tp) (.Call (.Name "zip" p) [a,b,c] [] pos) (m5 zip3 m):=PI.imp (xe0 hg hm ha hs N) λf H R z=>by
 obtain⟨F0,H0,F,d,its,rl,e,q⟩:=z;obtain⟨ds,h1,h2⟩:=Z8 e;refine⟨F0,H0,F,d,ds,rl,h1,λvs F1 H1 G Z=>?_⟩;unfold zip3 at h2;split at h2
 .cases h2;cases Z with
  |cons r j=>
   cases j with
   |cons r2 j=>
    cases j with
    |cons Y j=>
    cases j;cases r with
    |lst s t=>
     cases r2 with
     |lst s2 U=>
      cases Y with
      |lst O t3=>exact⟨_,_,_,_,_,_,rfl,G.fh.seq s,G.fh.seq s2,G.fh.seq O,q _ F1 H1 G (xr3 s t s2 U O t3)⟩
 .cases h2
noncomputable def N7:Nat->List D->List D
 |_,[]=>[]
 |i,d::ds=>.tup [.int i,d]::N7 (i+1) ds
theorem Q5:∀i ds,(N7 i ds).length=ds.length
 |_,[]=>rfl
 |i,_::ds=>by simp[N7,Q5 (i+1) ds]
theorem zf5:∀(k:Nat) ds (i:Nat) d,ds[i]? =some d->(N7 k ds)[i]? =some (.tup [.int ((k+i:Nat):Int),d])
 |_,[],_,_,h=>by simp at h
 |k,_::ds,0,d,h=>by simp at h;subst h;rfl
 |k,_::ds,i+1,d,h=>by have:=zf5 (k+1) ds i d (by simpa using h);have e:k+1+i=k+(i+1):=aA;rw[e]at this;simpa[N7]using this
def zx8:List D->Option (List D)
 |[.lst ds]=>some (N7 0 ds)
 |_=>none
theorem xr6{K:W.Frag}{F:Hp}{p:Addr}{xs:List V}{ds:List D}(s:SqL K F p xs)(r:Reps K F xs ds):ItD K F (Ite K p) (N7 0 ds) where
 go:=λi F1 H1 a b hi=>by rw[Q5]at hi;obtain⟨v,e,_⟩:=r.get (aK hi);exact⟨xs,v,b.seq (a.seq s),e⟩
 yld:=λi F1 H1 x H2 d a b e y=>by obtain⟨t,u,rfl,ht,rfl,j⟩:=y;have j:=j xs (b.seq (a.seq s));obtain⟨N,e1,z⟩:=r.get' j;rw[zf5 0 ds i N e1,cF]at e;cases e;refine⟨upd F1 t (.tup [.int i,u]),Ext.laid b ht,.tup (SqT.of x8) ?_⟩;have G:Same F (upd F1 t (.tup [.int i,u])):=a.trans ((Same.refl F1).put (b.free ht));exact .cons (.int _) (.cons (z.mono G) .nil)
 stop:=λF1 H1 a b=>⟨xs,b.seq (a.seq s),by rw[r.length,Q5];exact aN _⟩
theorem C5{tk:Nat}{a:Expr}{p pos:Pos}(O:Gl X "enumerate")(hm:X.mg "enumerate"=none)(ha:PAs X [a] m)(hs:starEach [a] X.env=[(false,eval a X.env)]:=by rfl):PId X (.Tuple es tk tp) (.Call (.Name "enumerate" p) [a] [] pos) (m5 zx8 m):=PI.imp (xe3 O hm ha hs) λc H R j=>by
 obtain⟨F0,H0,F,b,its,rl,e,q⟩:=j;obtain⟨ds,h1,h2⟩:=Z8 e;refine⟨F0,H0,F,b,ds,rl,h1,λvs F1 H1 z N=>?_⟩;unfold zx8 at h2;split at h2
 .cases h2;cases N with
  |cons r G=>
   cases G;cases r with
   |lst s t=>exact⟨_,_,rfl,z.fh.seq s,q _ F1 H1 z (xr6 s t)⟩
 .cases h2
end
def forD(g:Tg)(body:MS):List D->MS
 |[],a=>some (.nx a)
 |d::ds,a=>match tgD g d a with
  |some ρ1=>match body ρ1 with
   |some (.nx ρ2)=>forD g body ds ρ2
   |some (.ct ρ2)=>forD g body ds ρ2
   |some (.bk ρ2)=>some (.nx ρ2)
   |o=>o
  |none=>none
def mfor(mi:ML)(g:Tg)(body:MS):MS:=λa=>(mi a).bind λits=>forD g body its a
theorem B0{j:Type}{xs:List j}{i:Nat}{d:j}(h:xs[i]? =some d):xs.drop i=d::xs.drop (i+1):=by obtain⟨z,e⟩:=bp.mp h;rw[dE z,e]
section
variable {X:Cx}{a b c e:Expr}{ma mb:ME}{pos:Pos}{st:Stmt}{rest:List Stmt}
theorem e7{tg iter:Expr}{body:List Stmt}{mb:MS}(hp:PassesOwn (model X.prog X.w) X.A X.env X.xe)(hc:X.calm=true)(hi:PId X tg iter mi)(hg:PGd X tg g)(hb:PSsd X body mb)
  (hs:∀x,foldedSetIterable iter X.env x=pure x:=by intro _;rfl):PSd X (.For tg iter body [] pos) (mfor mi g mb):=(xn5 hp hc hi hg hb hs).imp λDn b H a1=>by
 obtain⟨F0,H0,F,a,o,rl,e,ok⟩:=a1;unfold mfor at e;cases h1:mi a with
 |none=>rw[h1]at e;cases e
 |some its=>
  rw[h1]at e;have e:forD g mb its a=some o:=e;refine⟨F0,H0,F,a,its,rl,h1,λJ F1 H1 x1 I=>?_⟩;refine⟨λi m U H'=>∃F' ρ',Rl X.K F0 H0 F' H' U ρ'/\Same F1 F'/\i<=its.length/\m=its.length-i/\forD g mb (its.drop i) ρ'=some o,⟨_,F1,a,rl.go x1,Same.refl _,aY _,rfl,e⟩,?_⟩;rintro i m U H' ⟨F',ρ',N,sf,a5,rfl,j⟩;by_cases Y:i<its.length
  .right;have hd:=aK Y;refine⟨I.go i F' H' sf N.fh Y,λZ H2=>∃F2 z,Rl X.K F0 H0 F2 H2 Z z/\Same F1 F2/\forD g mb (its.drop (i+1)) z=some o,?_,λx H2 y=>?_⟩
   .rintro Z H2 ⟨F2,z,rl2,sf2,e2⟩;exact⟨its.length-(i+1),aB,F2,z,rl2,sf2,Y,rfl,e2⟩
   .obtain⟨F2,x2,r2⟩:=I.yld i F' H' x H2 _ sf N.fh hd y;rw[B0 hd]at j;unfold forD at j;cases h2:tgD g its[i] ρ' with
    |none=>simp only[h2]at j;cases j
    |some ρ1=>
     simp only[h2]at j;refine⟨F0,H0,F2,ρ',_,ρ1,N.go x2,r2,h2,λF3 H3 a4 a3 x3=>?_⟩;have s3:Same F1 F3:=(sf.trans x2.ff).trans x3.ff;cases h3:mb ρ1 with
     |none=>simp only[h3]at j;cases j
     |some o1=>
      simp only[h3]at j;refine⟨F0,H0,F3,ρ1,o1,a3,h3,?_⟩;cases o1 with
      |nx z=>exact λF4 H4 O G s4=>⟨F4,z,G,s3.trans s4,j⟩
      |ct z=>exact λF4 H4 O G s4=>⟨F4,z,G,s3.trans s4,j⟩
      |bk z=>cases j;exact λF4 H4 O G s4=>ok F4 H4 O G ((x1.ff.trans s3).trans s4)
      |rt d=>cases j;exact ok
      |rf d=>cases j;exact ok
      |rp d ds=>cases j;exact ok
      |rg d p r=>cases j;exact ok
      |rgf d p r=>cases j;exact ok
  .left;have a2:i=its.length:=aB;subst a2;rw[drop_length]at j;have j:some (Out.nx ρ')=some o:=j;cases j;exact⟨I.stop F' H' sf N.fh,ok F' H' U N (x1.ff.trans sf)⟩
end
noncomputable def G8(src:List (Option Nat))(a:Ro):Ro:=src.map λo=>o.bind λi=>match a[i]? with |some (some (.sh d))=>some (.sh d)|_=>none
def X3(g:Tg)(c:MB)(elt:ME):List D->Ro->List D->Option (List D)
 |[],_,acc=>some acc
 |d::ds,a,acc=>match tgD g d a with
  |some ρ1=>match c ρ1 with
   |some true=>match elt ρ1 with
    |some x=>if acc.length<sizeLine then X3 g c elt ds ρ1 (acc++[x])else none
    |none=>none
   |some false=>X3 g c elt ds ρ1 acc
   |none=>none
  |none=>none
@[irreducible] def d6(src:List (Option Nat))(mi:ML)(g:Tg)(c:MB)(elt:ME):ML:=λa=>(mi a).bind λits=>X3 g c elt its (G8 src a) []
def NoOwn(a:Ro):Prop:=∀(i:Nat) ds,a[i]? ≠some (some (.own ds))/\∀p,a[i]? ≠some (some (.ob p ds))
theorem NoOwn.set(h:NoOwn a)(i:Nat)(d:D):NoOwn (a.set i (some (.sh d))):=λj ds=>⟨λe=>by
 by_cases G:i=j
 .subst G;have N:i<a.length:=by
   rcases bq i a.length with z|z
   .exact z
   .rw[bg (by simpa using z)]at e;cases e
  rw[aR N]at e;cases e
 .rw[aU G]at e;exact(h j ds).1 e,λp e=>(h j ds).2 p (g9 e).2⟩
theorem NoOwn.all:∀(is:List Nat)(ds:List D){a ρ':Ro},NoOwn a->zz2 is ds a=some ρ'->NoOwn ρ'
 |[],[],a,ρ',h,e=>by cases e;exact h
 |[],_::_,_,_,_,e=>by cases e
 |_::_,[],_,_,_,e=>by cases e
 |i::is,d::ds,a,ρ',h,e=>NoOwn.all is ds (h.set i d) e
theorem NoOwn.tg(h:NoOwn a)(e:tgD g d a=some ρ'):NoOwn ρ':=by
 cases g with
 |nm i=>cases e;exact h.set i d
 |tp is=>cases d <;> first| (cases e;done)|exact NoOwn.all is _ h e
 |nt i is=>
  cases d with
  |tup ds=>
   match ds,e with
   |[d,.tup ds],e=>exact NoOwn.all is _ (h.set i d) e
  |_=>cases e
theorem Rl.blk{K:W.Frag}{F0 H0 F H:Hp}(r:Rl K F0 H0 F H b a)(src:List (Option Nat)):Rl K F H F H (blk0 src b) (G8 src a)/\NoOwn (G8 src a):=by
 have N:∀(i:Nat) x,(G8 src a)[i]? =some (some x)->∃d,x=S.sh d:=λi x e=>by
  unfold G8 at e;rw[bF]at e;cases h:src[i]? with
  |none=>rw[h]at e;cases e
  |some o=>
   rw[h]at e;cases o with
   |none=>cases e
   |some k=>
    simp only[Option.map_some,Option.bind_some]at e;split at e
    .cases e;exact⟨_,rfl⟩
    .cases e
 have G:NoOwn (G8 src a):=λi ds=>⟨λe=>(by obtain⟨d,z⟩:=N i _ e;cases z),λp e=>(by obtain⟨d,z⟩:=N i _ e;cases z)⟩;refine⟨⟨.refl r.fh,by unfold blk0 G8;simp,λi d e=>?_,λi ds e=>aZ e (G i ds).1,λi j p ds es _ e=>aZ e (G i ds).1,λi p ds e=>aZ e ((G i ds).2 p),λi j p ds es e=>aZ e ((G i ds).2 p),λi j p q ds es e=>aZ e ((G i ds).2 p)⟩,G⟩;unfold G8 at e;unfold blk0;rw[bF]at e ⊢;cases h:src[i]? with
 |none=>rw[h]at e;cases e
 |some o=>
  rw[h]at e;cases o with
  |none=>cases e
  |some k=>
   simp only[Option.map_some,Option.bind_some]at e ⊢;split at e
   .rename_i d' h';cases e;obtain⟨v,e1,e2⟩:=r.sh k _ h';exact⟨v,by rw[e1];rfl,e2⟩
   .cases e
theorem Rl.other{K:W.Frag}{F0 H0 F H:Hp}(r:Rl K F0 H0 F H b a)(j:NoOwn a)(G:H0 p=none)(z:F p=none):Rl K F0 H0 F (upd H p o) b a:=
 ⟨⟨r.ext.ff,r.ext.hh.put G,r.ext.fh.put z,r.ext.new,r.ext.nf⟩,r.len,r.sh,λi ds e=>aZ e (j i ds).1,r.inj,λi p ds e=>aZ e ((j i ds).2 p),r.obn,r.ob1⟩
theorem Rl.rebase{K:W.Frag}{F1 F H:Hp}(r:Rl K F1 (upd F1 p (.lst xs)) F H g f)(G:F p=none)(N:F1 p=none):Rl K F1 (upd F1 p (.lst ys)) F (upd H p (.lst ys)) g f:=by
 have ne:∀q,upd F1 p (.lst xs) q=none->q≠p:=λq z w=>by rw[w,x8]at z;cases z
 refine⟨⟨r.ext.ff,λb u e=>?_,r.fh.put G,λb e n=>?_,r.ext.nf⟩,r.len,r.sh,λi ds e=>?_,r.inj,λi q ds e=>?_,r.obn,r.ob1⟩
 .by_cases hb:b=p
  .subst hb;rw[x8]at e ⊢;exact e
  .rw[x9 hb]at e ⊢;exact r.ext.hh b u (by rw[x9 hb];exact e)
 .have hb:b≠p:=λw=>by rw[w,G]at n;exact n rfl
  rw[x9 hb];exact e
 .obtain⟨q,zs,a,b,c,d,z⟩:=r.own i ds e;have j:=ne q z;rw[x9 j]at z;exact⟨q,zs,a,b,by rw[x9 j];exact c,d,by rw[x9 j];exact z⟩
 .obtain⟨a,b,z,zs,c,d⟩:=r.ob i q ds e;have j:=ne q z;rw[x9 j]at z;exact⟨a,b,by rw[x9 j];exact z,zs,by rw[x9 j];exact c,d⟩
theorem Ext.acc{F H F' H':Hp}(x:Ext F H F' H')(hp:H p=none)(j:F' p=none):Ext F H F' (upd H' p o):=⟨x.ff,x.hh.put hp,x.fh.put j,x.new,x.nf⟩
theorem Ext.stay(N:Ext F' H' G O)(z:F' p=none)(j:H' p=some o):G p=none:=by
 cases qq:G p with
 |none=>rfl
 |some u=>have:=N.new p z (by rw[qq];simp);rw[this]at j;cases j
theorem Rl.noB{K:W.Frag}{F H:Hp}(r:Rl K F H F H c a)(j:NoOwn a)(hp:H p=none):Rl K F (upd F p (.lst [])) F (upd H p (.lst [])) c a:=
 ⟨⟨Same.refl F,r.fh.put2,r.fh.put (r.fh.free hp),λb e n=>aZ e n,λ_ _ _ z=>z⟩,r.len,r.sh,λi ds e=>aZ e (j i ds).1,r.inj,λi p ds e=>aZ e ((j i ds).2 p),r.obn,r.ob1⟩
theorem yo2{ds acc out:List D}(h:X3 g c j (d::ds) a acc=some out):∃ρ1,tgD g d a=some ρ1/\((c ρ1=some false/\X3 g c j ds ρ1 acc=some out)\/∃x,c ρ1=some true/\j ρ1=some x/\acc.length<sizeLine/\X3 g c j ds ρ1 (acc++[x])=some out):=by
 rw[X3]at h;cases h2:tgD g d a with
 |none=>rw[h2]at h;cases h
 |some ρ1=>
  rw[h2]at h;simp only at h;refine⟨ρ1,rfl,?_⟩;cases h3:c ρ1 with
  |none=>rw[h3]at h;cases h
  |some k=>
   rw[h3]at h;cases k with
   |false=>exact .inl ⟨rfl,h⟩
   |true=>
    simp only at h;cases h4:j ρ1 with
    |none=>rw[h4]at h;cases h
    |some x=>
     rw[h4]at h;simp only at h;by_cases z:acc.length<sizeLine
     .rw[aJ z]at h;exact .inr ⟨x,rfl,rfl,z,h⟩
     .rw[aI z]at h;cases h
theorem yb4{K:PySem.W.Frag}{src:List (Option Nat)}{g:Tg}{c:MB}{a6:ME}{its out:List D}{F1 H1:Hp}{a:St}{a7:Ro}{p:Addr}{J:It}{Q:VK}(f1:Same F1 H1)(hp:H1 p=none)(rb:Rl K F1 (upd F1 p (.lst [])) F1 (upd H1 p (.lst [])) (blk0 src a) a7)(I:ItD K F1 J its)(e:X3 g c a6 its a7 []=some out)
  (q:∀xs F' H',Ext F1 H1 F' H'->F' p=none->H' p=some (.lst xs)->Reps K F' xs out->Q (.ref p) H'):
  ∃W:Nat->Nat->St->Hp->Prop,(∃m,W 0 m (blk0 src a) (upd H1 p (.lst [])))/\∀i m O H',W i m O H'->
   (J.stop i H'/\Q (.ref p) H')\/(J.go i H'/\∃N:St->Hp->Prop,(∀G H2,N G H2->∃m',m'<m/\W (i+1) m' G H2)/\∀x H2,J.yld i H' x H2->TGd K g x O H2 λz H3=>TC K c z H3 λb H4=>
    if b=true then TD K a6 z H4 λy H5=>∃xs,H5 p=some (.lst xs)/\xs.length<sizeLine/\N z (upd H5 p (.lst (xs++[y])))else N z H4):=by
 have a8:F1 p=none:=f1.free hp;refine⟨λi m O H'=>∃F' ρ' acc xs,Rl K F1 (upd F1 p (.lst xs)) F' H' O ρ'/\Ext F1 H1 F' H'/\H' p=some (.lst xs)/\F' p=none/\Reps K F' xs acc/\i<=its.length/\m=its.length-i/\X3 g c a6 (its.drop i) ρ' acc=some out,
  ⟨_,F1,a7,[],[],rb,(Ext.refl f1).acc hp a8,x8,a8,.nil,aY _,rfl,e⟩,?_⟩
 clear rb e;rintro i m O H' ⟨F',ρ',acc,xs,a5,xe,a1,a9,ra,ac,rfl,e'⟩;by_cases Z:i<its.length
 .right;have hd:=aK Z;refine⟨I.go i F' H' xe.ff a5.fh Z,λG H2=>∃F2 a2 j U,Rl K F1 (upd F1 p (.lst U)) F2 H2 G a2/\Ext F1 H1 F2 H2/\H2 p=some (.lst U)/\F2 p=none/\Reps K F2 U j/\X3 g c a6 (its.drop (i+1)) a2 j=some out,?_,λx H2 y=>?_⟩
  .rintro G H2 ⟨F2,a2,j,U,b1,b2,b3,b4,b5,b6⟩;exact⟨its.length-(i+1),Nat.sub_lt_sub_left Z (ci i),F2,a2,j,U,b1,b2,b3,b4,b5,Z,rfl,b6⟩
  .obtain⟨F2,x2,r2⟩:=I.yld i F' H' x H2 _ xe.ff a5.fh hd y;rw[B0 hd]at e';obtain⟨ρ1,h2,e3⟩:=yo2 e';clear e' I q y hd;refine⟨F1,_,F2,ρ',_,ρ1,a5.go x2,r2,h2,λF3 H3 z Y x3=>?_⟩;have aa:=x2.trans x3;rcases e3 with⟨h3,e4⟩|⟨d,h3,h4,hz,e4⟩
   .refine⟨F1,_,F3,ρ1,false,Y,h3,λF4 H4 x4=>?_⟩;have a4:=aa.trans x4;exact iteF ⟨F4,ρ1,acc,xs,Y.go x4,xe.trans a4,a4.hh _ _ a1,a4.stay a9 a1,ra.mono a4.ff,e4⟩
   .refine⟨F1,_,F3,ρ1,true,Y,h3,λF4 H4 x4=>iteT ⟨F1,_,F4,ρ1,d,Y.go x4,h4,λv F5 H5 x5 r5=>?_⟩⟩;have a3:=(aa.trans x4).trans x5;have pn:=a3.stay a9 a1;exact⟨xs,a3.hh _ _ a1,by rw[ra.length];exact hz,F5,ρ1,acc++[d],xs++[v],((Y.go x4).go x5).rebase pn a8,(xe.trans a3).acc hp pn,x8,pn,(ra.mono a3.ff).append (.cons r5 .nil),e4⟩
 .left;have ab:i=its.length:=Nat.le_antisymm ac (Nat.le_of_not_lt Z);subst ab;rw[drop_length]at e';have e':some acc=some out:=e';cases e';exact⟨I.stop F' H' xe.ff a5.fh,q xs F' H' xe a9 a1 ra⟩
section
variable {X:Cx}{a b c e:Expr}{ma mb:ME}{pos:Pos}{st:Stmt}{rest:List Stmt}
def PTsd(X:Cx)(ifs:List Expr)(c:MB):Prop:=PTs X ifs (TC X.K c)
def cyes:MB:=λ_=>some true
theorem P1:PTsd X [] cyes:=λpins s c H Q I j=>by obtain⟨F0,H0,F,a,b,rl,e,q⟩:=j;cases e;exact xf2 pins s c H Q I (q F H (.refl rl.fh))
theorem U5(h:PC' X c ca):PTsd X [c] ca:=xf1 h
theorem yb3{K:W.Frag}{src:List (Option Nat)}{c:MB}{b:St}(h:TF K (d6 src G g c j) b H Q):zc1 src (TId K G) (TGd K g) (TC K c) (TD K j) b H Q:=by
 obtain⟨F0,H0,F,a,out,rl,e,q⟩:=h;unfold d6 at e;cases h1:G a with
 |none=>rw[h1]at e;cases e
 |some its=>rw[h1]at e;refine⟨F0,H0,F,a,its,rl,h1,λJ F1 H1 z I p hp=>?_⟩;obtain⟨rb,Y⟩:=(rl.go z).blk src;exact yb4 z.fh hp (rb.noB Y hp) I e λxs F' H' xe O N U=>q p xs F' H' (z.trans xe) (z.hh.free hp) O N U
theorem W2{src:List (Option Nat)}{tg z iter:Expr}(B:Blk X sc N src)(hc:X.calm=true)
  (hi:PId X tg iter O) (U:∀C fp s H,PGd (W7 X sc C N fp s H) tg g) (ht:∀C fp s H,PTsd (W7 X sc C N fp s H) j cc) (Y:∀C fp s H,PD (W7 X sc C N fp s H) z G)
  (hs:∀x,foldedSetIterable iter X.env x=pure x:=by intro _;rfl):
  PF X (.ListComp z [⟨tg,iter,j,0⟩] sc pos) (d6 src O g cc G):=(xe4 (g:=TGd X.K g) (tc:=TC X.K cc) (te:=TD X.K G) B hc hi (λC fp s H=>U C fp s H) (λC fp s H=>ht C fp s H) (λC fp s H=>Y C fp s H) hs).imp λ_ _ _ h=>yb3 h
theorem wt3{b:St}(h:TD X.K (mlst mf) b H Q):TF X.K mf b H Q:=by
 obtain⟨F0,H0,F,a,d,r,e,q⟩:=h;unfold mlst at e;cases hm:mf a with
 |none=>rw[hm]at e;cases e
 |some ds=>rw[hm]at e;cases e;refine⟨F0,H0,F,a,ds,r,hm,λp xs F' H' x hp j G z=>?_⟩;exact q _ (upd F' p (.lst xs)) H' (x.freeze j hp G) (.lst (SqL.of x8) (z.mono ((Same.refl F').put j)))
theorem zi3{i:Nat}{src:List (Option Nat)}(h:PS X st (tAsg (zc1 src (TId X.K j) (TGd X.K g) (TC X.K cc) (TD X.K z)) (G6 i))):PSd X st (mset i (mlst (d6 src j g cc z))):=wm2 h λ_ _ _ q=>yb3 (wt3 q)
def S4(c:MB)(body:MS):Nat->MS
 |0,_=>none
 |n+1,a=>match c a with
  |some true=>match body a with
   |some (.nx ρ2)=>S4 c body n ρ2
   |some (.ct ρ2)=>S4 c body n ρ2
   |some (.bk ρ2)=>some (.nx ρ2)
   |o=>o
  |some false=>some (.nx a)
  |none=>none
theorem zi2{body:List Stmt}{mb:MS}(n:Nat)(hp:PassesOwn (model X.prog X.w) X.A X.env X.xe)(hc:PC' X c ca)(hb:PSsd X body mb):PSd X (.While c body [] pos) (S4 ca mb n):=(xv6 hp hc hb).imp λDn b H a4=>by
 obtain⟨F0,H0,F,a,o,rl,e,ok⟩:=a4;refine⟨λm O H'=>∃F' ρ',Rl X.K F0 H0 F' H' O ρ'/\Same F F'/\S4 ca mb m ρ'=some o,⟨n,F,a,rl,Same.refl _,e⟩,?_⟩;rintro m O H' ⟨F',ρ',U,sf,z⟩;cases m with
 |zero=>cases z
 |succ m=>
  unfold S4 at z;cases h1:ca ρ' with
  |none=>simp only[h1]at z;cases z
  |some k=>
   refine⟨F0,H0,F',ρ',k,U,h1,λF1 H1 x1=>?_⟩;cases k with
   |false=>simp only[h1]at z;cases z;exact iteF (ok F1 H1 O (U.go x1) (sf.trans x1.ff))
   |true=>
    simp only[h1]at z;refine iteT ⟨λY H2=>∃F2 j,Rl X.K F0 H0 F2 H2 Y j/\Same F F2/\S4 ca mb m j=some o,λY H2 ⟨F2,j,a1,a2,a3⟩=>⟨m,ci m,F2,j,a1,a2,a3⟩,?_⟩;cases h2:mb ρ' with
    |none=>simp only[h2]at z;cases z
    |some o1=>
     simp only[h2]at z;refine⟨F0,H0,F1,ρ',o1,U.go x1,h2,?_⟩;have s1:=sf.trans x1.ff;cases o1 with
     |nx j=>exact λF4 H4 N G Z=>⟨F4,j,G,s1.trans Z,z⟩
     |ct j=>exact λF4 H4 N G Z=>⟨F4,j,G,s1.trans Z,z⟩
     |bk j=>cases z;exact λF4 H4 N G Z=>ok F4 H4 N G (s1.trans Z)
     |rt d=>cases z;exact ok
     |rf d=>cases z;exact ok
     |rp d ds=>cases z;exact ok
     |rg d p r=>cases z;exact ok
     |rgf d p r=>cases z;exact ok
inductive Rt where
 |sh (d:D)|fr (ds:List D)|pr (d:D) (ds:List D)
noncomputable abbrev MF:=List D->Option Rt
def okT(K:W.Frag)(F H:Hp)(Q:VK):Rt->Prop
 | .sh d=>∀v F' H',Ext F H F' H'->Rep K F' v d->Q v H'
 | .fr ds=>∀p xs F' H',Ext F H F' H'->H p=none->F' p=none->H' p=some (.lst xs)->Reps K F' xs ds->Q (.ref p) H'
 | .pr d ds=>∀t v p xs F' H',Ext F H F' H'->H t=none->H p=none->t≠p->F' t=none->F' p=none->H' t=some (.tup [v,.ref p])->H' p=some (.lst xs)->Rep K F' v d->Reps K F' xs ds->Q (.ref t) H'
def spR(K:W.Frag)(n:Nat)(m:MF):Sp:=λvs H Q _=>vs.length=n/\∃F ds r,Same F H/\Reps K F vs ds/\m ds=some r/\okT K F H Q r
noncomputable def m8(n:Nat)(ds:List D):Ro:=ds.map (λd=>some (.sh d))++List.replicate (n-ds.length) none
def runB(n:Nat)(m:MS):MF:=λds=>match m (m8 n ds)with
 |some (.nx _)=>some (.sh .non)
 |some (.rt d)=>some (.sh d)
 |some (.rf es)=>some (.fr es)
 |some (.rp d es)=>some (.pr d es)
 |_=>none
theorem zq7{K:W.Frag}{F H:Hp}(s:Same F H)(r:Reps K F vs ds):Rl K F H F H (W9 N vs) (m8 N.length ds):=by
 have get:∀(i:Nat) x,(m8 N.length ds)[i]? =some (some x)->∃d,x=S.sh d/\ds[i]? =some d:=λi x e=>by
  unfold m8 at e;by_cases hi:i<ds.length
  .rw[bT (by simpa using hi),bF]at e;cases q:ds[i]? with
   |none=>rw[q]at e;cases e
   |some d=>rw[q]at e;cases e;exact⟨d,rfl,rfl⟩
  .rw[cr (by simpa using hi),dX]at e;split at e <;> cases e
 refine⟨.refl s,?_,λi d e=>?_,λi ds e=>?_,λi j p ds es _ e=>?_,λi p ds e=>?_,λi j p ds es e=>?_,λi j p q ds es e=>?_⟩
 .unfold W9 m8;simp[r.length]
 .obtain⟨d',e1,e2⟩:=get i _ e;cases e1;obtain⟨v,e3,G⟩:=r.get e2;have z:i<vs.length:=(bp.mp e3).1;refine⟨v,?_,G⟩;unfold W9;rw[bT (by simpa using z),bF,e3];rfl
 .obtain⟨d',e1,_⟩:=get i _ e;cases e1
 .obtain⟨d',e1,_⟩:=get i _ e;cases e1
 .obtain⟨d',e1,_⟩:=get i _ e;cases e1
 .obtain⟨d',e1,_⟩:=get i _ e;cases e1
 .obtain⟨d',e1,_⟩:=get i _ e;cases e1
theorem Fun.okD{P:Program}{K:W.Frag}{mg:Str->Option Value}{base:Heap}{x qual:Str}{st:Stmt}{k:Nat}(Y:Fun K x qual st f fd)(U:FnScope N ps (y9 st))
  (j:∀(cdv:Value)(A:Around)(outer:List Env)(s:Shared)(H:Hp)(E:XK),Room k (A.deeper (envOfC qual (y9 st) s.heap.objs.size f cdv))->PSsd (cxOf CX0 P w K mg base N qual (y9 st) f cdv A outer s H E).nox (Y0 st) m):
  FnOk P w K mg base CX0 (k+1) f fd ps (spR K ps.length (runB N.length m)):=by
 refine Y.ok U (λvs H Q E h=>h.1) λcdv A outer s H vs Q E hr h=>?_;obtain⟨Z,F,ds,r,G,O,e,ok⟩:=h;unfold runB at e;cases h1:m (m8 N.length ds)with
 |none=>rw[h1]at e;cases e
 |some o=>
  rw[h1]at e;refine⟨_,j cdv A outer s H E hr,F,H,F,m8 N.length ds,o,zq7 G O,h1,?_⟩;cases o with
  |nx a=>cases e;exact λF' H' z rl _=>ok .non F' H' rl.ext .non
  |rt d=>cases e;exact ok
  |rf es=>cases e;exact ok
  |rp d es=>cases e;exact ok
  |rg d p r=>cases e
  |rgf d p r=>cases e
  |bk a=>cases e
  |ct a=>cases e
@[irreducible] noncomputable def l0(f:MF)(m:ML):ME:=λρ=>(m ρ).bind λds=>match f ds with |some (.sh d)=>some d|some (.fr es)=>some (.lst es)|some (.pr d es)=>some (.tup [d,.lst es])|none=>none
@[irreducible] noncomputable def V4(f:MF)(m:ML):ML:=λa=>(m a).bind λds=>match f ds with |some (.fr es)=>some es|_=>none
variable {E:XK}{es:List Expr}{mf:MF}{m:ML}
theorem p0{n:Nat}(h:∀t,PA X es t->PE X e (yr9 (spR X.K n mf) [] E t))(hl:es.length=n)(ha:PAs X es m)(hm:∀a ds,m a=some ds->ds.length=es.length):PD X e (l0 mf m):=(h _ ha).imp λb H Q N=>by
 obtain⟨F0,H0,F,a,d,rl,e,q⟩:=N;unfold l0 at e;cases h1:m a with
 |none=>rw[h1]at e;cases e
 |some ds=>
  rw[h1]at e;refine⟨F0,H0,F,a,ds,rl,h1,λvs F1 H1 z Y=>?_⟩;dsimp only[Option.bind]at e;show spR X.K n mf (vs++[]) H1 Q E;rw[append_nil];refine⟨by rw[Y.length,hm a ds h1,hl],F1,ds,?_⟩;split at e
  .rename_i d' h2;cases e;exact⟨_,z.fh,Y,h2,λv F2 H2 G r2=>q v F2 H2 (z.trans G) r2⟩
  .rename_i es' h2;cases e;exact⟨_,z.fh,Y,h2,λp xs F2 H2 G hp hF hH r2=>q _ (upd F2 p (.lst xs)) H2 (z.trans (G.freeze hF hp hH)) (.lst (SqL.of x8) (r2.mono ((Same.refl F2).put hF)))⟩
  .rename_i d' es' h2;cases e;refine⟨_,z.fh,Y,h2,λt v p xs F2 H2 G ht hp O a2 U Z a1 rv rs=>?_⟩;have x3:=G.freeze U hp a1;have j:upd F2 p (.lst xs) t=none:=by rw[x9 O];exact a2
   have s2:Same F2 (upd F2 p (.lst xs)):=(Same.refl F2).put U;have s3:Same (upd F2 p (.lst xs)) (upd (upd F2 p (.lst xs)) t (.tup [v,.ref p])):=(Same.refl _).put j;exact q _ (upd (upd F2 p (.lst xs)) t (.tup [v,.ref p])) H2 (z.trans (x3.freeze j ht Z)) (.tup (SqT.of x8) (.cons (rv.mono (s2.trans s3)) (.cons (.lst (SqL.of (by rw[x9 (dU O)];exact x8)) (rs.mono (s2.trans s3))) .nil)))
  .cases e
theorem zp2{n:Nat}(h:∀t,PA X es t->PE X e (yr9 (spR X.K n mf) [] E t))(O:es.length=n)(ha:PAs X es m)(hm:∀a ds,m a=some ds->ds.length=es.length):PF X e (V4 mf m):=(h _ ha).imp λb H Q j=>by
 obtain⟨F0,H0,F,a,d,rl,e,q⟩:=j;unfold V4 at e;cases h1:m a with
 |none=>rw[h1]at e;cases e
 |some ds=>
  rw[h1]at e;refine⟨F0,H0,F,a,ds,rl,h1,λvs F1 H1 z G=>?_⟩;dsimp only[Option.bind]at e;show spR X.K n mf (vs++[]) H1 Q E;rw[append_nil];refine⟨by rw[G.length,hm a ds h1,O],F1,ds,?_⟩;split at e
  .rename_i es' h2;cases e;exact⟨_,z.fh,G,h2,λp xs F2 H2 N hp Y U r2=>q p xs F2 H2 (z.trans N) (z.hh.free hp) Y U r2⟩
  .cases e
theorem xp6(a:Ro)(ds:List D)(h:anil a=some ds):ds.length=0:=by cases h;rfl
theorem Q7{n:Nat}(hr:∀a ds,r a=some ds->ds.length=n)(a:Ro)(ds:List D)(h:z7 x r a=some ds):ds.length=n+1:=by obtain⟨d,es,_,h2,rfl⟩:=zr0 h;rw[bH,hr a es h2]
end
section
variable {X:Cx}{a b c e:Expr}{ma mb:ME}{pos:Pos}
noncomputable def bl2(g:Bool->Bool->Bool):D->D->Option D
 | .bl i,.bl j=>some (.bl (g i j))
 |_,_=>none
theorem zz4{K:W.Frag}{F:Hp}:∀ns:List Int,Reps K F (ns.map V.int) (ns.map D.int)
 |[]=>.nil
 |n::ns=>.cons (.int n) (zz4 ns)
theorem wv7{K:W.Frag}(h:∀ns:List Int,ns.length<=63->m [.lst (ns.map .int)]=some (.sh (.bl true)))(H:Hp)(a:Addr)(ns:List Int)(j:ns.length<=63)(z:SqL K H a (ns.map V.int))(E:XK):
  spR K 1 m [.ref a] H (λv _=>v= .bl true) E:=
 ⟨rfl,H,_,_,Same.refl H,.cons (.lst z (zz4 ns)) .nil,h ns j,λv F' H' _ r=>by cases r;rfl⟩
end
noncomputable def wz3(fsc:Scope)(fN:List Str)(sc:Scope)(N:List Str)(src:List (Option Nat)):Bool:=
 (sc.kind== .function)&&sc.names.all (λy=>y.2 != .cell)&&sc.names.all (λy=>y.2 != .local || sc.names.lookup y.1==some .local)
  &&sc.names.all (λy=>y.2 != .free || (fsc.names.lookup y.1==some .cell || fsc.names.lookup y.1==some .free))&&(src.length==N.length)
  &&(List.range src.length).all λj=>match src[j]? with
   |some (some i)=>match N[j]? with
    |some x=>fN[i]? ==some x&&sc.names.lookup x==some .free
    |none=>false
   |_=>true
theorem U0{X:Cx}{src:List (Option Nat)}(G:Scope)(Y:List Str)(h1:X.env.scope=G)(h2:X.N=Y)(h:wz3 G Y sc N src=true):Blk X sc N src:=by
 unfold wz3 at h;simp only[Bool.and_eq_true,all_eq_true,beq_iff_eq,Bool.or_eq_true,bne_iff_ne,ne_eq]at h;obtain⟨⟨⟨⟨⟨a1,a2⟩,a3⟩,a4⟩,a5⟩,Z⟩:=h;refine⟨a1,a2,λy O U=>?_,λy O U=>?_,λj i e=>?_,a5⟩
 .rcases a3 y O with z|z
  .exact aZ U z
  .exact z
 .have k:∀x,X.env.kindOf x=G.names.lookup x:=λx=>by rw[<-h1];rfl
  rw[k];rcases a4 y O with z|z
  .exact aZ U z
  .exact z
 .have hj:j<src.length:=(bp.mp e).1;have:=Z j (bS.mpr hj);rw[e]at this;simp only at this;cases hx:N[j]? with
  |none=>rw[hx]at this;cases this
  |some x=>rw[hx]at this;simp only[Bool.and_eq_true,beq_iff_eq]at this;exact⟨x,rfl,by rw[h2];exact this.1,this.2⟩
theorem zw8{X:Cx}{lo hi:Option Expr}{p2 pos:Pos}(ha:PB X a j)(z:POs X lo l)(hh:POs X hi h):PF X (.Subscript a (.Slice lo hi none p2) pos) (mcut j l h):=wt4 ha z hh (xu0 xh2 ha z hh)
noncomputable def zipE(f:D->D->Option Bool):List D->List D->Option Bool
 |d::ds,e::es=>(f d e).bind λa=>(zipE f ds es).bind λb=>some (a&&b)
 |_,_=>some true
def eqF:Nat->D->D->Option Bool
 |0,_,_=>none
 |n+1,.lst ds,.lst es=>if ds.length=es.length then zipE (eqF n) ds es else some false
 |n+1,.tup ds,.tup es=>(zipE (eqF n) ds es).map λb=>b&&ds.length==es.length
 |_+1,d,e=>eqS d e
theorem zr1{f:D->D->Option Bool}:∀{ds es:List D}{k:Bool},zipE f ds es=some k->∃g:Nat->Bool,(∀j d e,ds[j]? =some d->es[j]? =some e->f d e=some (g j))/\k=(List.range (min ds.length es.length)).all g
 |[],es,k,h=>by
  have h:some true=some k:=by simpa[zipE]using h
  cases h;exact⟨λ_=>true,by simp,by simp⟩
 |_::_,[],k,h=>by
  have h:some true=some k:=by simpa[zipE]using h
  cases h;exact⟨λ_=>true,by simp,by simp⟩
 |d::ds,e::es,k,h=>by
  unfold zipE at h;cases h1:f d e with
  |none=>rw[h1]at h;cases h
  |some a=>
   rw[h1]at h;cases h2:zipE f ds es with
   |none=>rw[h2]at h;cases h
   |some b=>
    rw[h2]at h;have h:some (a&&b)=some k:=h;cases h;obtain⟨g,G,z⟩:=zr1 h2;refine⟨λj=>match j with |0=>a|j+1=>g j,?_,?_⟩
    .intro j d' e' hd he;cases j with
     |zero=>simp at hd he;subst hd he;exact h1
     |succ j=>exact G j d' e' (by simpa using hd) (by simpa using he)
    .rw[z,bH,bH,Nat.add_min_add_right,cq,all_cons,all_map];rfl
section
variable {X:Cx}{pins:List (Addr×Obj)}{l:St}{H:Hp}{s:Shared}
theorem A8{f:D->D->Option Bool}(j:∀{v:V}{d e:D}{k:Bool},Rep X.K H v d->Rep X.K H v e->f d e=some k->k=true):∀{vs:List V}{ds es:List D}{k:Bool},Reps X.K H vs ds->Reps X.K H vs es->zipE f ds es=some k->k=true
 |_,_,_,_,.nil,.nil,h=>by simp[zipE]at h;exact h
 |_::_,d::ds,e::es,k,.cons r1 s1,.cons r2 s2,h=>by
  unfold zipE at h;cases h1:f d e with
  |none=>rw[h1]at h;cases h
  |some a=>
   rw[h1]at h;cases h2:zipE f ds es with
   |none=>rw[h2]at h;cases h
   |some b=>rw[h2]at h;have h:some (a&&b)=some k:=h;cases h;rw[j r1 r2 h1,A8 j s1 s2 h2];rfl
theorem Rep.eqT(I:Inv X pins l H s):∀(n:Nat){v:V}{d e:D}{k:Bool},Rep X.K H v d->Rep X.K H v e->eqF n d e=some k->k=true
 |0,_,_,_,_,_,_,h=>by simp[eqF]at h
 |n+1,v,d,e,k,r1,r2,h=>by
  cases r1 with
  |non=>cases r2;exact(bn (show some true=some k from h)).symm
  |bl b=>cases r2;exact(bn (show some (b==b)=some k from h)).symm.trans (cJ b)
  |int b=>cases r2;exact(bn (show some (b==b)=some k from h)).symm.trans (cJ b)
  |str b=>cases r2;exact(bn (show some (b==b)=some k from h)).symm.trans (cJ b)
  |lst N G=>
   cases r2 with
   |lst z j=>
    have e:=I.list_inj N z;subst e;simp only[eqF]at h;split at h
    .exact A8 (λa b c=>Rep.eqT I n a b c) G j h
    .rename_i hl;exact aZ (G.length.symm.trans j.length) hl
   |_=>cases h
  |tup N G=>
   cases r2 with
   |tup z j=>
    have e:=I.tuple_inj N z;subst e;simp only[eqF]at h;cases hz:zipE (eqF n) _ _ with
    |none=>rw[hz]at h;cases h
    |some O=>rw[hz]at h;have h:=bn h;rw[<-h,A8 (λa b c=>Rep.eqT I n a b c) G j hz,G.length.symm.trans j.length];simp
   |_=>cases h
  |_=>cases h
open PySem.SeqAt in
theorem wn2{K:W.Frag}{H:Hp}{s:Shared}{k:Bool}(N:Rep K H x d)(r2:Rep K H y e)(z:RelV x v)(j:RelV y u)(h:eqS d e=some k):EqAt A s v u k/\RcAt A s v u k/\RcNeAt A s v u (!k):=by
 obtain⟨U,G⟩:=yz3 d e k h;rw[yo0 h N]at z;rw[yo0 G r2]at j;clear N r2 G;cases d with
 |non=>
  cases z;cases e with
  |non=>cases j;cases h;exact⟨EqAt.same _,.none_none,.none_none⟩
  |bl b=>cases j;cases h;exact⟨.none_bool _,.none_bool _,.none_bool _⟩
  |int b=>obtain⟨t,rfl⟩:=j;cases h;exact⟨.none_int _ _,.none_int _ _,.none_int _ _⟩
  |str b=>obtain⟨t,rfl⟩:=j;cases h;exact⟨.none_str _ _,.none_str _ _,.none_str _ _⟩
  |_=>cases h
 |bl i=>
  cases z;cases e with
  |non=>cases j;cases h;exact⟨.bool_none _,.bool_none _,.bool_none _⟩
  |bl b=>cases j;cases h;exact⟨.bool_bool _ _,.bool_bool _ _,.bool_bool _ _⟩
  |str b=>obtain⟨t,rfl⟩:=j;cases h;exact⟨.bool_str _ _ _,.bool_str _ _ _,.bool_str _ _ _⟩
  |_=>cases h
 |int i=>
  obtain⟨O,rfl⟩:=z;cases e with
  |non=>cases j;cases h;exact⟨.int_none _ _,.int_none _ _,.int_none _ _⟩
  |int b=>obtain⟨t,rfl⟩:=j;cases h;exact⟨.int_int _ _ _ _,.int_int _ _ _ _,.int_int _ _ _ _⟩
  |str b=>obtain⟨t,rfl⟩:=j;cases h;exact⟨.int_str _ _ _ _,.int_str _ _ _ _,.int_str _ _ _ _⟩
  |_=>cases h
 |str i=>
  obtain⟨O,rfl⟩:=z;cases e with
  |non=>cases j;cases h;exact⟨.str_none _ _,.str_none _ _,.str_none _ _⟩
  |bl b=>cases j;cases h;exact⟨.str_bool _ _ _,.str_bool _ _ _,.str_bool _ _ _⟩
  |int b=>obtain⟨t,rfl⟩:=j;cases h;exact⟨.str_int _ _ _ _,.str_int _ _ _ _,.str_int _ _ _ _⟩
  |str b=>obtain⟨t,rfl⟩:=j;cases h;exact⟨.str_str _ _ _ _,.str_str _ _ _ _,.str_str _ _ _ _⟩
  |_=>cases h
 |_=>cases h
theorem xb8{n:Nat}{k:Bool}(h:eqF (n+1) d e=some k):eqS d e=some k\/(∃ds es,d= .lst ds/\e= .lst es/\(if ds.length=es.length then zipE (eqF n) ds es else some false)=some k)\/∃ds es j,d= .tup ds/\e= .tup es/\zipE (eqF n) ds es=some j/\(j&&ds.length==es.length)=k:=by
 cases d with
 |lst ds=>
  cases e with
  |lst es=>exact .inr (.inl ⟨ds,es,rfl,rfl,h⟩)
  |_=>exact .inl h
 |tup ds=>
  cases e with
  |tup es=>
   have h:((zipE (eqF n) ds es).map λb=>b&&ds.length==es.length)=some k:=h;cases hz:zipE (eqF n) ds es with
   |none=>rw[hz]at h;cases h
   |some j=>rw[hz]at h;exact .inr (.inr ⟨ds,es,j,rfl,rfl,hz,bn h⟩)
  |_=>exact .inl h
 |_=>exact .inl h
theorem yu3{K:W.Frag}{H:Hp}{s:Shared}{n:Nat}{its z:List Value}{g:Nat->Bool}(ih:∀{x y:V}{v u:Value}{d e:D}{k:Bool},Rep K H x d->Rep K H y e->RelV x v->RelV y u->eqF n d e=some k->PySem.SeqAt.EqAt A s v u k)(rs:Reps K H xs ds)(N:Reps K H ys es)(vr:Vals xs its)(G:Vals ys z)
  (g1:∀(j:Nat) d e,ds[j]? =some d->es[j]? =some e->eqF n d e=some (g j)) (j:Nat) (h1:j<its.toArray.size) (h2:j<z.toArray.size):PySem.SeqAt.EqAt A s its.toArray[j] z.toArray[j] (g j):=by
 have z1:its.length=ds.length:=by rw[<-vr.length,rs.length]
 have z2:z.length=es.length:=by rw[<-G.length,N.length]
 simp only[size_toArray]at h1 h2;obtain⟨d',Y⟩:∃d',ds[j]? =some d':=⟨_,aK (z1 ▸ h1)⟩;obtain⟨e',U⟩:∃e',es[j]? =some e':=⟨_,aK (z2 ▸ h2)⟩;obtain⟨v',a3,Z⟩:=rs.get Y;obtain⟨u',a4,a1⟩:=N.get U;obtain⟨p,hp,rp⟩:=vr.get a3;obtain⟨p2,O,a2⟩:=G.get a4;have e1:its.toArray[j]=p:=by rw[aK h1]at hp;simpa using hp
 have e2:z.toArray[j]=p2:=by rw[aK h2]at O;simpa using O
 rw[e1,e2];exact ih Z a1 rp a2 (g1 j d' e' Y U)
open PySem.SeqAt in
theorem yc5(I:Inv X pins l H s):∀(n:Nat){A:Around}{x y:V}{v u:Value}{d e:D}{k:Bool},A.units+n<cLine->Rep X.K H x d->Rep X.K H y e->RelV x v->RelV y u->eqF n d e=some k->EqAt A s v u k/\RcAt A s v u k/\RcNeAt A s v u (!k)
 |0,A,x,y,v,u,d,e,k,hu,r1,r2,q1,q2,h=>by simp[eqF]at h
 |n+1,A,x,y,v,u,d,e,k,hu,r1,r2,q1,q2,h=>by
  have N:A.units<cLine:=aA;have a3:A.in1.units+n<cLine:=by show A.units+1+n<cLine;lia
  rcases xb8 h with h1|⟨ds,es,rfl,rfl,h1⟩|⟨ds,es,kk,rfl,rfl,hz,hk⟩
  .exact wn2 r1 r2 q1 q2 h1
  .obtain⟨a,xs,rfl,sq,rs⟩:=r1.l';obtain⟨b,ys,rfl,U,G⟩:=r2.l';cases q1;cases q2;obtain⟨its,vr,⟨o,m,ho,hc,_,hd⟩,_⟩:=I.list sq;obtain⟨j,O,⟨o2,m2,Y,a1,_,Z⟩,_⟩:=I.list U;have L1:s.heap.IsList a its.toArray:=⟨o,ho,hc,m,hd⟩;have L2:s.heap.IsList b j.toArray:=⟨o2,Y,a1,m2,Z⟩;clear ho hc hd Y a1 Z;have z1:its.length=ds.length:=by rw[<-vr.length,rs.length]
   have z2:j.length=es.length:=by rw[<-O.length,G.length]
   have z:RcAt A s (.ref a) (.ref b) k/\RcNeAt A s (.ref a) (.ref b) (!k):=by
    by_cases hl:ds.length=es.length
    .rw[aJ hl]at h1;obtain⟨g,g1,g2⟩:=zr1 h1;have he:=yu3 (λa b c d e=>(yc5 I n a3 a b c d e).1) rs G vr O g1;have hz:its.toArray.size=j.toArray.size:=by simp only[size_toArray];rw[z1,z2,hl]
     have hk:k=(List.range its.toArray.size).all g:=by rw[g2];simp only[size_toArray];rw[z1,hl,Nat.min_self]
     rw[hk];exact⟨.lists L1 L2 hz N he,.lists L1 L2 hz N he⟩
    .rw[aI hl]at h1;cases h1;have hz:(its.toArray.size != j.toArray.size)=true:=by simp only[size_toArray];rw[z1,z2];exact bne_iff_ne.mpr hl
     exact⟨.lists_lengths L1 L2 hz N,.lists_lengths L1 L2 hz N⟩
   refine⟨?_,z⟩;by_cases a2:a=b
   .subst a2;rw[Rep.eqT I (n+1) (.lst sq rs) (.lst U G) h];exact EqAt.same _
   .exact .of_refs a2 z.1
  .obtain⟨a,xs,rfl,sq,rs⟩:=r1.t';obtain⟨b,ys,rfl,U,G⟩:=r2.t';cases q1;cases q2;obtain⟨its,vr,⟨o,ho,hc,m,hd⟩,_⟩:=I.tuple sq;obtain⟨j,O,⟨o2,Y,a1,m2,Z⟩,_⟩:=I.tuple U;have L1:s.heap.IsTuple a its.toArray:=⟨o,ho,hc,m,hd⟩;have L2:s.heap.IsTuple b j.toArray:=⟨o2,Y,a1,m2,Z⟩;clear ho hc hd Y a1 Z;have z1:its.length=ds.length:=by rw[<-vr.length,rs.length]
   have z2:j.length=es.length:=by rw[<-O.length,G.length]
   have z:RcAt A s (.ref a) (.ref b) k/\RcNeAt A s (.ref a) (.ref b) (!k):=by
    obtain⟨g,g1,g2⟩:=zr1 hz;have he:=yu3 (λa b c d e=>(yc5 I n a3 a b c d e).1) rs G vr O g1;have hk:k=((List.range (min its.toArray.size j.toArray.size)).all g&&its.toArray.size==j.toArray.size):=by rw[<-hk,g2];simp only[size_toArray];rw[z1,z2]
    rw[hk];exact⟨.tuples L1 L2 N he,.tuples L1 L2 N he⟩
   refine⟨?_,z⟩;by_cases a2:a=b
   .subst a2;rw[Rep.eqT I (n+1) (.tup sq rs) (.tup U G) h];exact EqAt.same _
   .exact .of_refs a2 z.1
end
section
variable {X:Cx}{a b c e:Expr}{ma mb:ME}{la lb:ML}{pos:Pos}
def rEqF(K:W.Frag)(neg:Bool):R2:=λx y H Q=>∃d e k,Rep K H x d/\Rep K H y e/\eqF 8 d e=some k/\Q (.bl (if neg then !k else k)) H
theorem wr0(N:X.A.units+64<cLine):OpR X (compareOp .Eq) (rEqF X.K false):=by intro pins s a H x y v u Q I z j h;obtain⟨d,e,k,G,r2,h,q⟩:=h;exact(yc5 I 8 aA G r2 z j h).2.1 X.prog X.w _ _ ⟨.bl k,H,I,rfl,q⟩
theorem zt7(N:X.A.units+64<cLine):OpR X (compareOp .NotEq) (rEqF X.K true):=by intro pins s a H x y v u Q I z j h;obtain⟨d,e,k,G,r2,h,q⟩:=h;exact(yc5 I 8 aA G r2 z j h).2.2 X.prog X.w _ _ ⟨.bl (!k),H,I,rfl,q⟩
def eqFD(neg:Bool)(d e:D):Option D:=(eqF 8 d e).map λk=>.bl (if neg then !k else k)
@[irreducible] def meqB(neg:Bool)(x y:ML):ME:=λa=>(x a).bind λds=>(y a).bind λes=>eqFD neg (.lst ds) (.lst es)
theorem wn3{neg:Bool}{b:St}(h:TD X.K (meqB neg la lb) b H Q):tOp (rEqF X.K neg) (TB X.K la) (TB X.K lb) b H Q:=by
 obtain⟨F0,H0,F,a,g,rl,e,q⟩:=h;unfold meqB at e;cases h1:la a with
 |none=>rw[h1]at e;cases e
 |some ds=>
  cases h2:lb a with
  |none=>rw[h1,h2]at e;cases e
  |some es=>
   rw[h1,h2]at e;have e:eqFD neg (.lst ds) (.lst es)=some g:=e;refine⟨F0,H0,F,a,ds,rl,h1,λp xs F1 H1 z s1 N=>⟨F0,H0,F1,a,es,rl.go z,h2,λp2 G F2 H2 j s2 r2=>?_⟩⟩;unfold eqFD at e;cases hk:eqF 8 (.lst ds) (.lst es)with
   |none=>rw[hk]at e;cases e
   |some k=>rw[hk]at e;cases e;exact⟨_,_,k,.lst (j.hh.seq s1) (N.mono (j.ff.trans j.fh)),.lst s2 (r2.mono j.fh),hk,q _ F2 H2 (z.trans j) (.bl _)⟩
theorem ws1{neg:Bool}(j:OpR X (compareOp op) (rEqF X.K neg))(ha:PB X a la)(z:PB X b lb)(hm:behindInMarks op b=false):PD X (.Compare a [op] [b] pos) (meqB neg la lb):=(zc8 j ha z hm).imp λ_ _ _ h=>wn3 h
theorem zt6{neg:Bool}(z:OpR X (compareOp op) (rEqF X.K neg))(ha:PB X a la)(G:PB X b lb)(hm:behindInMarks op b=false):PC' X (.Compare a [op] [b] pos) (w5 (meqB neg la lb)):=(zc4 z ha G hm).imp λd H Q j=>by
 obtain⟨F0,H0,F,c,g,rl,e,q⟩:=j;unfold w5 at e;split at e
 .rename_i k hk;cases e;refine wn3 ⟨F0,H0,F,c,.bl g,rl,hk,λv F' H' x r=>?_⟩;cases r;exact⟨_,rfl,q F' H' x⟩
 .cases e
noncomputable def tyD:D->String
 | .non=>"NoneType"| .bl _=>"bool"| .int _=>"int"| .str _=>"str"| .lst _=>"list"| .tup _=>"tuple"| .exc _=>"?"| .ptr _=>"?"| .obj _ _ _=>"?"
noncomputable def kitB(t c:String):Option Bool:=if t="?" then none else if (Value.type t==Value.type c)=true then some true else if W.kitMeta c=true then (fastBuiltinMro t).map (·.contains (Value.type c))else none
theorem wq9{K:W.Frag}{t c:String}{k:Bool}(h:kitB t c=some k):t≠"?"/\W.kitOne K (.type t) (.type c)=some k:=by
 unfold kitB at h;split at h
 .cases h
 .rename_i z;exact⟨z,h⟩
theorem xb2{pins:List (Addr×Obj)}{a:St}{E:Value->Shared->Prop}{Q:Value->Shared->Prop}{c:Value}{k:Bool}(I:Inv X pins a H s)(j:RelV x u)(r:Rep X.K H x d)
  (e:tyD d≠"?"/\W.kitOne X.K (.type (tyD d)) c=some k) (h:∀tk,Q (.bool k) { s with toks:=tk }):wpAny (model X.prog X.w) A (call (.builtin "isinstance") [u,c]) Q E s:=by
 obtain⟨N,e⟩:=e;cases r with
 |exc _ _=>exact aZ rfl N
 |ptr _=>exact aZ rfl N
 |obj _ _ _ _ _=>exact aZ rfl N
 |non=>exact K3 I j .non e h
 |bl y=>exact K3 I j (.bl y) e h
 |int i=>exact K3 I j (.int i) e h
 |str y=>exact K3 I j (.str y) e h
 |lst G Y=>cases j;obtain⟨its,U,⟨o,m,O,hc,_,hd⟩,_⟩:=I.list G;exact dg W.kitx_list I.kIn ⟨_,O,hc⟩ e (λz=>nomatch z) h
 |tup G Y=>cases j;obtain⟨its,U,⟨o,O,hc,m,hd⟩,_⟩:=I.tuple G;exact dg W.kitx_tuple I.kIn ⟨_,O,hc⟩ e (λz=>nomatch z) h
def rIsi(K:W.Frag)(c:String):List V->Hp->VK->Prop:=λvs H Q=>∃x d k,vs=[x,.ty c]/\Rep K H x d/\kitB (tyD d) c=some k/\Q (.bl k) H
theorem xq9{c:String}:J8 X (.builtin "isinstance") (rIsi X.K c):=by intro pins s a H xs us Q I r h;obtain⟨x,d,k,rfl,G,e,q⟩:=h;obtain⟨u,w,rfl,z,j⟩:=xj8 r;cases j;exact xb2 I z G (wq9 e) λtk=>⟨.bl k,H,I.tok _,rfl,q⟩
@[irreducible] def misi(c:String)(m:ME):ME:=λa=>(m a).bind λd=>(kitB (tyD d) c).map .bl
theorem xm1{c:Str}(hg:Gl X "isinstance")(hm:X.mg "isinstance"=none)(O:Gl X c)(N:X.mg c=none)(Z:bootBuiltins c=some (.type C))(ha:PD X a ma)
  (hn:c≠"__name__":=by decide) (hd:(c==("__debug__":Str))=false:=by decide)
  (hs:starEach (a::[.Name c p2]) X.env=(false,eval a X.env)::starEach [.Name c p2] X.env:=by rfl) (z:starEach [.Name c p2] X.env=(false,eval (.Name c p2) X.env)::starEach [] X.env:=by rfl)
  (G:(backTo pos (starEach [.Name c p2] X.env)).any (·.1)=false:=by rfl):PD X (.Call (.Name "isinstance" p) [a,.Name c p2] [] pos) (misi C ma):=
 (Y1 (xq9 (c:=C)) hg hm PyProof.Rows.boot_isinstance (Y6 ha (Y6 (xe6 (v:=.ty C) O N Z rfl hn hd) pa_nil z) hs) aC aC hs G).imp λf H Q j=>by
  obtain⟨F0,H0,F,b,g,rl,e,q⟩:=j;unfold misi at e;cases h1:ma b with
  |none=>rw[h1]at e;cases e
  |some d=>
   rw[h1]at e;have e:(kitB (tyD d) C).map D.bl=some g:=e;cases h2:kitB (tyD d) C with
   |none=>rw[h2]at e;cases e
   |some k=>rw[h2]at e;cases e;exact⟨F0,H0,F,b,d,rl,h1,λv F1 H1 U Y=>⟨v,d,k,rfl,Y.mono U.fh,h2,q _ F1 H1 U (.bl _)⟩⟩
end
section
variable {X:Cx}{a b c e k:Expr}{te:TE}{ma mb:ME}{la lb:ML}{pos p2:Pos}{st:Stmt}
end
section
variable {X:Cx}{a b c e:Expr}{ma mb:ME}{la lb:ML}{pos:Pos}{st:Stmt}
end
section
variable {K:W.Frag}{F0 H0 F H:Hp}{g:St}{f:Ro}
theorem Rl.freezeP(r:Rl K F0 H0 F H g f){i:Nat}(h:f[i]? =some (some (.own ds))):∃p xs,F p=none/\Rl K F0 H0 (upd F p (.lst xs)) H g (f.set i (some (.sh (.lst ds)))):=by
 obtain⟨p,xs,a,b,c,d,z⟩:=r.own i ds h;have N:i<f.length:=(bp.mp h).1;have e:Ext F0 H0 (upd F p (.lst xs)) H:=r.ext.freeze b z c;have ff:Same F (upd F p (.lst xs)):=(Same.refl F).put b;refine⟨p,xs,b,⟨e,by simp[r.len],λj d' q=>?_,λj es q=>?_,λj k q es G Y e1 e2 e3 e4=>?_,λj q es e1=>?_,λj k q es G e1 e2 e3=>?_,λj k q q' es G e1 e2=>r.ob1 j k q q' es G (g9 e1).2 (g9 e2).2⟩⟩
 .by_cases hj:i=j
  .subst hj;rw[aR N]at q;cases q;exact⟨_,a,.lst (SqL.of x8) (d.mono ff)⟩
  .rw[aU hj]at q;obtain⟨v,v1,v2⟩:=r.sh j d' q;exact⟨v,v1,v2.mono ff⟩
 .by_cases hj:i=j
  .subst hj;rw[aR N]at q;cases q
  .rw[aU hj]at q;obtain⟨Z,O,a',b',c',d',z'⟩:=r.own j es q;have hp:Z≠p:=λw=>r.inj i j p ds es hj h q a (by rw[<-w];exact a');exact⟨Z,O,a',by rw[x9 hp];exact b',c',d'.mono ff,z'⟩
 .have n1:i≠j:=λw=>by subst w;rw[aR N]at e1;cases e1
  have U:i≠k:=λw=>by subst w;rw[aR N]at e2;cases e2
  rw[aU n1]at e1;rw[aU U]at e2;exact r.inj j k q es G Y e1 e2 e3 e4
 .obtain⟨n,e1⟩:=g9 e1;obtain⟨o1,o2,o3,zs,o4,o5⟩:=r.ob j q es e1;have hp:q≠p:=λw=>r.obn j i q es ds e1 h (by rw[w];exact a);exact⟨o1,by rw[x9 hp];exact o2,o3,zs,o4,o5.mono ff⟩
 .obtain⟨n,e1⟩:=g9 e1;have U:i≠k:=λw=>by subst w;rw[aR N]at e2;cases e2
  rw[aU U]at e2;exact r.obn j k q es G e1 e2 e3
end
noncomputable def isSc:D->Bool
 | .lst _=>false
 | .tup _=>false
 | .exc _=>false
 | .ptr _=>false
 | .obj _ _ _=>false
 |_=>true
theorem xn1{K:W.Frag}{F G:Hp}(h:isSc d=true)(r:Rep K F v d):Rep K G v d:=by
 cases r with
 |non=>exact .non
 |bl b=>exact .bl b
 |int i=>exact .int i
 |str x=>exact .str x
 |lst _ _=>cases h
 |tup _ _=>cases h
 |exc _ _=>cases h
 |ptr _=>cases h
 |obj _ _ _ _ _=>cases h
section
variable {X:Cx}{a b c e:Expr}{ma mb mz:ME}{la lb:ML}{pos:Pos}
def ixTD:D->D->Option D
 | .tup ds,.int k=>atI ds k
 |_,_=>none
theorem xd5{K:W.Frag}:OpD K (rIxT K) ixTD:=by
 intro F H x y d e w Q s G r2 h q;cases d with
 |tup ds=>
  cases e with
  |int k=>obtain⟨a,xs,e1,j,z⟩:=G.t';obtain⟨v,O,N⟩:=zk0 z (show atI _ k=some w from h);exact⟨_,_,k,v,e1,r2.i',s.seqT j,O,q v F H (.refl s) N⟩
  |_=>cases h
 |_=>cases h
theorem ws0(ha:PD X a ma)(j:PD X b mb)(hs:zk5 b:=by exact λ_ _=>rfl):PD X (.Subscript a b pos) (m2 ixTD ma mb):=(xu2 wp6 ha j hs).imp λc H Q h=>op_d xd5 h
noncomputable def isND(neg:Bool):D->D->Option D
 | .non,.non=>some (.bl (!neg))
 |_,.non=>some (.bl neg)
 |_,_=>none
theorem xd7{K:W.Frag}:OpD K (λx y H Q=>y= .non/\Q (.bl (decide (x= .non))) H) (isND false):=by
 intro F H x y d e w Q s j r2 h q;cases r2 with
 |non=>cases j <;> cases h <;> exact⟨rfl,q _ F H (.refl s) (.bl _)⟩
 |_=>cases d <;> cases h
theorem xu9{K:W.Frag}:OpD K (λx y H Q=>y= .non/\Q (.bl (!decide (x= .non))) H) (isND true):=by
 intro F H x y d e w Q s j r2 h q;cases r2 with
 |non=>cases j <;> cases h <;> exact⟨rfl,q _ F H (.refl s) (.bl _)⟩
 |_=>cases d <;> cases h
theorem U3:∀{ns:List Int}{its:List Value},Vals (ns.map V.int) its->∃xs:List (Int×Tok),its.toArray=intItems xs.toArray/\xs.map (·.1)=ns
 |[],_,.nil=>⟨[],by unfold intItems;simp,rfl⟩
 |n::ns,_,.cons r t=>by obtain⟨k,rfl⟩:=r;obtain⟨xs,h1,h2⟩:=U3 t;refine⟨(n,k)::xs,?_,by rw[bz,h2]⟩;have:=bi Array.toList h1;unfold intItems at this ⊢;simp at this ⊢;exact this
noncomputable def Q4:List D->Option (List Int)
 |[]=>some []
 | .int i::r=>match Q4 r with |some ns=>some (i::ns)|none=>none
 |_=>none
theorem V6{K:W.Frag}{F:Hp}:∀{vs:List V}{ds:List D}{ns:List Int},Reps K F vs ds->Q4 ds=some ns->vs=ns.map V.int
 |_,_,_,.nil,h=>by cases h;rfl
 |_,_,_,.cons (d:=d) (ds:=ds) r t,h=>by
  cases r with
  |int i=>
   unfold Q4 at h;cases h1:Q4 ds with
   |none=>simp only[h1]at h;cases h
   |some ns=>simp only[h1]at h;cases h;rw[V6 t h1];rfl
  |_=>cases h
theorem V7:∀ns:List Int,Q4 (ns.map D.int)=some ns
 |[]=>rfl
 |n::ns=>by show (match Q4 (ns.map D.int)with |some ns=>some (n::ns)|none=>none)=_;rw[V7 ns]
noncomputable def wv2:List (Str×Str)->List DictEntry->Prop
 |[],[]=>True
 | (k,v)::r,e::es=>(∃t,e.key= .str k t)/\(∃t,e.val= .str v t)/\wv2 r es
 |_,_=>False
structure KTab(w:World)(K:W.Frag)(a:Addr)(tab:List (Str×Str)):Prop where
 ns:(a==sysModules)=false
 nd:(tab.map (·.1)).Nodup
 obj:∃es ep,K.lookup a=some ⟨.type "dict",none,.dict es ep,#[]⟩/\wv2 tab es.toList/\∀e∈es.toList,∀k t,e.key= .str k t->e.hash=hashStr w k
end
section
variable {prog:Program}{w:World}{A:Around}{E:Value->Shared->Prop}{s:Shared}
structure ApT(z TO i1 i2 l:Addr):Prop where
 lz:l≠z
 lTO:l≠TO
 l1:l≠i1
 l2:l≠i2
end
section
variable {X:Cx}
end
section
variable {X:Cx}{a b c e:Expr}{ma mb:ME}{la lb:ML}{pos:Pos}
end
section
variable {K:W.Frag}{F0 H0 F H H':Hp}{b:St}{a:Ro}
end
section
variable {X:Cx}{a b c e3:Expr}{ma mb:ME}{la lb:ML}{pos:Pos}{E:XK}{es:List Expr}{mf:MF}{m:ML}{rb:List Stmt}{mx:MS}{cc:MB}{y:D}
end
abbrev MEm:=Ro->Option (D×Ro)
abbrev MLm:=Ro->Option (List D×Ro)
def TDm(K:W.Frag)(m:MEm):TE:=λb H Q=>∃F0 H0 F a d ρ',Rl K F0 H0 F H b a/\m a=some (d,ρ')/\∀v F' H',Rl K F0 H0 F' H' b ρ'->Same F F'->Rep K F' v d->Q v H'
def TAm(K:W.Frag)(m:MLm):TA:=λb H Q=>∃F0 H0 F a ds ρ',Rl K F0 H0 F H b a/\m a=some (ds,ρ')/\∀vs F' H',Rl K F0 H0 F' H' b ρ'->Same F F'->Reps K F' vs ds->Q vs H'
def PDm(X:Cx)(e:Expr)(m:MEm):Prop:=PE X e (TDm X.K m)
def PAm(X:Cx)(es:List Expr)(m:MLm):Prop:=PA X es (TAm X.K m)
section
variable {X:Cx}{a b c e:Expr}{ma mb:ME}{na nb:MEm}{pos:Pos}{es:List Expr}
@[irreducible] noncomputable def mpu(m:ME):MEm:=λa=>match m a with |some d=>some (d,a)|none=>none
@[irreducible] noncomputable def apu(m:ML):MLm:=λa=>match m a with |some d=>some (d,a)|none=>none
theorem t6(h:PD X e ma):PDm X e (mpu ma):=h.imp λb H Q j=>by
 obtain⟨F0,H0,F,a,d,ρ',rl,e,q⟩:=j;unfold mpu at e;split at e
 .rename_i d' hm;cases e;exact⟨F0,H0,F,a,d,rl,hm,λv F' H' x r=>q v F' H' (rl.go x) x.ff r⟩
 .cases e
theorem u7(h:PAs X es m):PAm X es (apu m):=h.imp λb H Q j=>by
 obtain⟨F0,H0,F,a,d,ρ',rl,e,q⟩:=j;unfold apu at e;split at e
 .rename_i d' hm;cases e;exact⟨F0,H0,F,a,d,rl,hm,λv F' H' x r=>q v F' H' (rl.go x) x.ff r⟩
 .cases e
@[irreducible] noncomputable def m2m(f:D->D->Option D)(x y:MEm):MEm:=λa=>match x a with
 |some (d,ρ1)=>(match y ρ1 with |some (e,ρ2)=>(match f d e with |some g=>some (g,ρ2)|none=>none)|none=>none)
 |none=>none
theorem xu8{f:D->D->Option D}(U:OpD X.K r f){b:St}(h:TDm X.K (m2m f na nb) b H Q):tOp r (TDm X.K na) (TDm X.K nb) b H Q:=by
 obtain⟨F0,H0,F,a,g,ρ',rl,e,q⟩:=h;unfold m2m at e;split at e
 .rename_i d ρ1 h1;split at e
  .rename_i d2 ρ2 h2;split at e
   .rename_i g' h3;cases e;refine⟨F0,H0,F,a,d,ρ1,rl,h1,λx F1 H1 z s1 O=>⟨F0,H0,F1,ρ1,d2,ρ',z,h2,λy F2 H2 j s2 r2=>?_⟩⟩;exact U F2 H2 x y d d2 g Q j.fh (O.mono s2) r2 h3 λv F' H' G N=>q v F' H' (j.go G) (s1.trans (s2.trans G.ff)) N
   .cases e
  .cases e
 .cases e
theorem zi8{f:D->D->Option D}(j:OpR X (binaryOp op) r)(z:OpD X.K r f)(ha:PDm X a na)(G:PDm X b nb):PDm X (.BinOp a op b pos) (m2m f na nb):=(xu1 j ha G).imp λ_ _ _ h=>xu8 z h
theorem xe7{f:D->D->Option D}(j:OpR X (compareOp op) r)(z:OpD X.K r f)(ha:PDm X a na)(G:PDm X b nb)(hm:behindInMarks op b=false):PDm X (.Compare a [op] [b] pos) (m2m f na nb):=(zc8 j ha G hm).imp λ_ _ _ h=>xu8 z h
def ixLD:D->D->Option D
 | .lst ds,.int k=>atI ds k
 |_,_=>none
theorem xd6{K:W.Frag}:OpD K (rIxL K) ixLD:=by
 intro F H x y d e w Q s G r2 h q;cases d with
 |lst ds=>
  cases e with
  |int k=>obtain⟨a,xs,e1,j,z⟩:=G.l';obtain⟨v,O,N⟩:=zk0 z (show atI _ k=some w from h);exact⟨_,_,k,v,e1,r2.i',s.seq j,O,q v F H (.refl s) N⟩
  |_=>cases h
 |_=>cases h
theorem L4(ha:PDm X a na)(j:PDm X b nb)(hs:zk5 b:=by exact λ_ _=>rfl):PDm X (.Subscript a b pos) (m2m ixLD na nb):=(xu2 za8 ha j hs).imp λc H Q h=>xu8 xd6 h
@[irreducible] noncomputable def t4(x:MEm)(r:MLm):MLm:=λa=>match x a with |some (d,ρ1)=>(match r ρ1 with |some (ds,ρ2)=>some (d::ds,ρ2)|none=>none)|none=>none
theorem k6(ha:PDm X a na)(hr:PAm X es m)(hs:starEach (a::es) X.env=(false,eval a X.env)::starEach es X.env:=by rfl):PAm X (a::es) (t4 na m):=(Y6 ha hr hs).imp λc H Q j=>by
 obtain⟨F0,H0,F,b,g,ρ',rl,e,q⟩:=j;unfold t4 at e;split at e
 .rename_i d ρ1 h1;split at e
  .rename_i ds ρ2 h2;cases e;refine⟨F0,H0,F,b,d,ρ1,rl,h1,λx F1 H1 G s1 N=>⟨F0,H0,F1,ρ1,ds,ρ',G,h2,λxs F2 H2 z s2 r2=>?_⟩⟩;exact q _ F2 H2 z (s1.trans s2) (.cons (N.mono s2) r2)
  .cases e
 .cases e
@[irreducible] noncomputable def D8(m:MLm):MEm:=λa=>match m a with |some (ds,ρ1)=>if ds.length<=sizeLine then some (.lst ds,ρ1)else none|none=>none
theorem zp3(h:PAm X es m):PDm X (.List es pos) (D8 m):=(xn8 h).imp λb H Q z=>by
 obtain⟨F0,H0,F,a,g,ρ',rl,e,q⟩:=z;unfold D8 at e;split at e
 .rename_i ds ρ1 h1;split at e
  .rename_i hz;cases e;refine⟨F0,H0,F,a,ds,ρ',rl,h1,λvs F1 H1 j s1 G=>⟨by rw[G.length];exact hz,λp hp=>?_⟩⟩;have x:=Ext.laid (o:=.lst vs) j.fh hp;exact q _ _ _ (j.go x) (s1.trans x.ff) (.lst (SqL.of x8) (G.mono x.ff))
  .cases e
 .cases e
@[irreducible] noncomputable def D1(f:List D->Option D)(m:MLm):MEm:=λa=>match m a with |some (ds,ρ1)=>(match f ds with |some d=>some (d,ρ1)|none=>none)|none=>none
theorem ya0{r:List V->Hp->VK->Prop}{f:List D->Option D}(N:xy4 X.K r f){b:St}(h:TDm X.K (D1 f m) b H Q):tCB r (TAm X.K m) b H Q:=by
 obtain⟨F0,H0,F,a,g,ρ',rl,e,q⟩:=h;unfold D1 at e;split at e
 .rename_i ds ρ1 h1;split at e
  .rename_i d h2;cases e;exact⟨F0,H0,F,a,ds,ρ',rl,h1,λvs F1 H1 j s1 G=>N F1 H1 vs ds g Q j.fh G h2 λv F' H' z r2=>q v F' H' (j.go z) (s1.trans z.ff) r2⟩
  .cases e
 .cases e
theorem xe8(z:Gl X "abs")(hm:X.mg "abs"=none)(ha:PAm X [e] m)(G:starEach [e] X.env=(false,eval e X.env)::starEach [] X.env:=by rfl)(j:(backTo pos (starEach [] X.env)).any (·.1)=false:=by rfl):PDm X (.Call (.Name "abs" p) [e] [] pos) (D1 absF m):=
 (Y1 yt9 z hm PyProof.Rows.boot_abs ha aC aC G j).imp λ_ _ _ h=>ya0 ze1 h
theorem xu4(G:Gl X "int")(hm:X.mg "int"=none)(ha:PAm X [e] m)(z:bootBuiltins "int"=some (.type "int"))(N:starEach [e] X.env=(false,eval e X.env)::starEach [] X.env:=by rfl)(j:(backTo pos (starEach [] X.env)).any (·.1)=false:=by rfl):PDm X (.Call (.Name "int" p) [e] [] pos) (D1 intF m):=
 (L3 ze5 G hm z ha aC aC N j).imp λ_ _ _ h=>ya0 ze0 h
variable {st:Stmt}
@[irreducible] noncomputable def W3(i:Nat)(x:MEm):MS:=λa=>match x a with |some (d,ρ1)=>some (.nx (ρ1.set i (some (.sh d))))|none=>none
theorem e8{i:Nat}{pos':Pos}(Z:X.N.Nodup)(hi:X.N[i]? =some x)(O:Loc X.env.scope x)(Y:PDm X e na)(hs:swapsWith e (some (.Name x pos')) pos.line X.env=pure false:=by rfl)(U:X.fn x=true\/X.env.scope.names.lookup x=some .local:=by first|exact .inl rfl|exact .inr rfl|assumption):
  PSd X (.Assign [.Name x pos'] e pos) (W3 i na):=(yi3 Z hi O Y hs U).imp λD b H j=>by
 obtain⟨F0,H0,F,a,o,rl,e,ok⟩:=j;unfold W3 at e;split at e
 .rename_i d ρ1 h1;cases e;exact⟨F0,H0,F,a,d,ρ1,rl,h1,λv F1 H1 z s1 G=>ok F1 H1 _ (z.set G) s1⟩
 .cases e
@[irreducible] noncomputable def zv1(i:Nat)(x:MEm):MS:=λa=>match x a with
 |some (d,ρ1)=>(match ρ1[i]? with |some (some (.ob p r))=>some (.rg d p r)|_=>none)
 |none=>none
theorem zp1(i:Nat)(U:PDm X e na):PSd X (.Return (some e) pos) (zv1 i na):=(zt4 U).imp λD b H z=>by
 obtain⟨F0,H0,F,a,o,rl,e,ok⟩:=z;unfold zv1 at e;split at e
 .rename_i d ρ1 h1;split at e
  .rename_i p r h2;cases e;refine⟨F0,H0,F,a,d,ρ1,rl,h1,λv F1 H1 j s1 G=>?_⟩;obtain⟨Z,O,Y,xs,N,o5⟩:=j.ob i p r h2;exact ok v F1 H1 xs j.ext G O N o5
  .cases e
 .cases e
@[irreducible] noncomputable def yv5(i j:Nat):MS:=λa=>match a[i]?,a[j]? with
 |some (some (.ob p r)),some (some (.own ds))=>some (.rgf ds p r)
 |_,_=>none
theorem yi1(i j:Nat){pos':Pos}(h:PE X (.Name x pos') (tVar j)):PSd X (.Return (some (.Name x pos')) pos) (yv5 i j):=(zt4 h).imp λD b H G=>by
 obtain⟨F0,H0,F,a,o,rl,e,ok⟩:=G;unfold yv5 at e;split at e
 .rename_i p r ds h1 h2;cases e;obtain⟨o1,Y,o3,xs,U,o5⟩:=rl.ob i p r h1;obtain⟨q,ys,O,a2,a3,a4,Z⟩:=rl.own j ds h2;have N:q≠p:=λz=>rl.obn i j p r ds h1 h2 (by rw[<-z];exact O);exact⟨_,O,ok q ys F H xs rl.ext Z a2 N a3 a4 Y U o5⟩
 .cases e
end
noncomputable abbrev MG:=Addr->List D->List D->Option (Rt×List D)
noncomputable def del(H:Hp)(p:Addr):Hp:=λb=>if b=p then none else H b
theorem yt3:del H p p=none:=by unfold del;rw[aJ rfl]
theorem O6(h:b≠p):del H p b=H b:=by unfold del;rw[aI h]
def okG(K:W.Frag)(F H:Hp)(p:Addr)(Q:VK)(r':List D):Rt->Prop
 | .sh d=>∀v F' H' xs,Ext F (del H p) F' H'->Rep K F' v d->F' p=none->H' p=some (.lst xs)->Reps K F' xs r'->Q v H'
 | .fr ds=>∀q ys F' H' xs,Ext F (del H p) F' H'->H q=none->F' q=none->H' q=some (.lst ys)->Reps K F' ys ds->F' p=none->H' p=some (.lst xs)->Reps K F' xs r'->Q (.ref q) H'
 | .pr _ _=>False
def spG(K:W.Frag)(n:Nat)(m:MG):Sp:=λvs H Q _=>vs.length=n/\∃p ws F r0 ds r r1 xs,vs= .ref p::ws/\H p=some (.lst xs)/\F p=none/\Same F H/\Reps K F xs r0/\Reps K F ws ds/\m p r0 ds=some (r,r1)/\okG K F H p Q r1 r
def X5(n:Nat)(p:Addr)(r:List D)(ds:List D):Ro:=some (.ob p r)::m8 (n-1) ds
def runG(n:Nat)(m:MS):MG:=λp r ds=>match m (X5 n p r ds)with
 |some (.rg d q r')=>if q=p then some (.sh d,r')else none
 |some (.rgf es q r')=>if q=p then some (.fr es,r')else none
 |_=>none
theorem yj4{K:W.Frag}{F H:Hp}(hn:0<N.length)(s:Same F H)(Y:F p=none)(U:H p=some (.lst xs))(hr:Reps K F xs r)(O:Reps K F ws ds):Rl K F (del H p) F H (W9 N (.ref p::ws)) (X5 N.length p r ds):=by
 have Z:W9 N (.ref p::ws)=some (.ref p)::W9 N.tail ws:=by unfold W9;rw[bz,cons_append,bH,length_tail];congr 2;congr 1;omega
 have e1:X5 N.length p r ds=some (.ob p r)::m8 N.tail.length ds:=by unfold X5;rw[length_tail]
 have base:=zq7 (N:=N.tail) s O;have only:∀(j:Nat) x,(m8 N.tail.length ds)[j]? =some (some x)->∃d,x=S.sh d:=λj x e=>by
  unfold m8 at e;by_cases hi:j<ds.length
  .rw[bT (by simpa using hi),bF]at e;cases q:ds[j]? with
   |none=>rw[q]at e;cases e
   |some d=>rw[q]at e;cases e;exact⟨d,rfl⟩
  .rw[cr (by simpa using hi),dX]at e;split at e <;> cases e
 rw[Z,e1];refine⟨⟨Same.refl F,λb o e=>?_,s,λb e n=>aZ e n,λ_ _ _ z=>z⟩,by rw[bH,bH,base.len],λi d e=>?_,λi es e=>?_,λi j q es G _ e=>?_,λi q es e=>?_,λi j q es G e e2=>?_,λi j q q' es G e e2=>?_⟩
 .by_cases hb:b=p
  .subst hb;rw[yt3]at e;cases e
  .rw[O6 hb]at e;exact e
 .cases i with
  |zero=>cases e
  |succ i=>exact base.sh i d e
 .cases i with
  |zero=>cases e
  |succ i=>obtain⟨d,z⟩:=only i _ e;cases z
 .cases i with
  |zero=>cases e
  |succ i=>obtain⟨d,z⟩:=only i _ e;cases z
 .cases i with
  |zero=>cases e;exact⟨rfl,Y,yt3,xs,U,hr⟩
  |succ i=>obtain⟨d,z⟩:=only i _ e;cases z
 .cases j with
  |zero=>cases e2
  |succ j=>obtain⟨d,z⟩:=only j _ e2;cases z
 .cases i with
  |zero=>
   cases j with
   |zero=>rfl
   |succ j=>obtain⟨d,z⟩:=only j _ e2;cases z
  |succ i=>obtain⟨d,z⟩:=only i _ e;cases z
theorem Fun.okGl{P:Program}{K:W.Frag}{mg:Str->Option Value}{base:Heap}{x qual:Str}{st:Stmt}{k:Nat}(Fn:Fun K x qual st f fd)(Sc:FnScope N ps (y9 st))(hn:0<N.length)
  (G:∀(cdv:Value)(A:Around)(outer:List Env)(s:Shared)(H:Hp)(E:XK),Room k (A.deeper (envOfC qual (y9 st) s.heap.objs.size f cdv))->PSsd (cxOf CX0 P w K mg base N qual (y9 st) f cdv A outer s H E).nox (Y0 st) m):
  FnOk P w K mg base CX0 (k+1) f fd ps (spG K ps.length (runG N.length m)):=by
 refine Fn.ok Sc (λvs H Q E h=>h.1) λcdv A outer s H vs Q E hr h=>?_;obtain⟨hl,p,ws,F,r0,ds,r,r1,xs,rfl,hH,hF,sf,rx,rs,e,ok⟩:=h;unfold runG at e;cases h1:m (X5 N.length p r0 ds)with
 |none=>rw[h1]at e;cases e
 |some o=>
  rw[h1]at e;refine⟨_,G cdv A outer s H E hr,F,del H p,F,X5 N.length p r0 ds,o,yj4 hn sf hF hH rx rs,h1,?_⟩;cases o with
  |rg d q U=>
   have e:(if q=p then some (Rt.sh d,U)else none)=some (r,r1):=e;by_cases z:q=p
   .rw[aJ z]at e;cases e;subst z;exact λv F' H' j x rv f1 h1 O=>ok v F' H' j x rv f1 h1 O
   .rw[aI z]at e;cases e
  |rgf es q U=>
   have e:(if q=p then some (Rt.fr es,U)else none)=some (r,r1):=e;by_cases z:q=p
   .rw[aJ z]at e;cases e;subst z;exact λq' ys F' H' j x h0 f0 Z Y rq f1 h1 O=>ok q' ys F' H' j x (by rw[O6 Z]at h0;exact h0) f0 Y rq f1 h1 O
   .rw[aI z]at e;cases e
  |nx _=>cases e
  |bk _=>cases e
  |ct _=>cases e
  |rt _=>cases e
  |rf _=>cases e
  |rp _ _=>cases e
section
variable {K:W.Frag}{F0 H0 F H F' H':Hp}{m:St}{l:Ro}
theorem Ext.lent(a:Ext F0 H0 F H)(N:H0 p=none)(x:Ext F (del H p) F' H'):Ext F0 H0 F' H':=
 ⟨a.ff.trans x.ff,λb o e=>by
  have j:b≠p:=λz=>by rw[z,N]at e;cases e
  exact x.hh b o (by rw[O6 j];exact a.hh b o e),x.fh,λb e n=>by
  by_cases G:F b=none
  .by_cases j:b=p
   .rw[j];exact N
   .have:=x.new b G n;rw[O6 j]at this;exact a.hh.free this
  .exact a.new b e G,λb o u z=>a.nf b o u (x.nf b o u z)⟩
theorem Rl.lent(r:Rl K F0 H0 F H m l){i:Nat}(h:l[i]? =some (some (.own r0)))(hp:m[i]? =some (some (.ref p)))(x:Ext F (del H p) F' H')(hF:F' p=none)(hH:H' p=some (.lst xs))(hr:Reps K F' xs r1):Rl K F0 H0 F' H' m (l.set i (some (.own r1))):=by
 obtain⟨p',a4,a,b,c,d,z⟩:=r.own i r0 h;rw[hp]at a;cases a;have hl:i<l.length:=(bp.mp h).1;have O:∀q,q≠p->F q=none->(∃o,H q=some o)->F' q=none:=λq hq f Z=>by
  obtain⟨o,ho⟩:=Z;cases w:F' q with
  |none=>rfl
  |some u=>have:=x.new q f (by rw[w];simp);rw[O6 hq,ho]at this;cases this
 have N:∀q o,q≠p->H q=some o->H' q=some o:=λq o hq ho=>x.hh q o (by rw[O6 hq];exact ho);have G:∀(j:Nat) fs,(l.set i (some (S.own r1)))[j]? =some (some (.own fs))->(j=i/\fs=r1)\/(i≠j/\l[j]? =some (some (.own fs))):=λj fs e=>by
  by_cases Y:i=j
  .subst Y;rw[aR hl]at e;cases e;exact .inl ⟨rfl,rfl⟩
  .rw[aU Y]at e;exact .inr ⟨Y,e⟩
 refine⟨r.ext.lent z x,by simp[r.len],λj d' q=>?_,λj fs q=>?_,λj k q fs fs' a1 e1 e2 e3 e4=>?_,λj q fs e1=>?_,λj k q fs fs' e1 e2 e3=>?_,λj k q q' es a3 e1 e2=>r.ob1 j k q q' es a3 (g9 e1).2 (g9 e2).2⟩
 .by_cases Y:i=j
  .subst Y;rw[aR hl]at q;cases q
  .rw[aU Y]at q;obtain⟨v,v1,v2⟩:=r.sh j d' q;exact⟨v,v1,v2.mono x.ff⟩
 .rcases G j fs q with⟨rfl,rfl⟩|⟨n,e⟩
  .exact⟨p,xs,hp,hF,hH,hr,z⟩
  .obtain⟨p2,xs2,a2,b2,c2,d2,z2⟩:=r.own j fs e;have U:p2≠p:=λw=>r.inj i j p r0 fs n h e hp (by rw[<-w];exact a2);exact⟨p2,xs2,a2,O p2 U b2 ⟨_,c2⟩,N _ _ U c2,d2.mono x.ff,z2⟩
 .have b1:∃g,l[j]? =some (some (.own g)):=by
   rcases G j fs e1 with⟨rfl,_⟩|⟨_,w⟩
   .exact⟨_,h⟩
   .exact⟨_,w⟩
  have b2:∃g,l[k]? =some (some (.own g)):=by
   rcases G k fs' e2 with⟨rfl,_⟩|⟨_,w⟩
   .exact⟨_,h⟩
   .exact⟨_,w⟩
  obtain⟨g1,w1⟩:=b1;obtain⟨g2,w2⟩:=b2;exact r.inj j k q g1 g2 a1 w1 w2 e3 e4
 .obtain⟨n,e1⟩:=g9 e1;obtain⟨o1,o2,o3,zs,o4,o5⟩:=r.ob j q fs e1;have U:q≠p:=λw=>r.obn j i q fs r0 e1 h (by rw[w];exact hp);exact⟨o1,O q U o2 ⟨_,o4⟩,o3,zs,N _ _ U o4,o5.mono x.ff⟩
 .obtain⟨n,e5⟩:=g9 e1;rcases G k fs' e2 with⟨e6,_⟩|⟨_,w⟩
  .rw[e6]at e3;exact r.obn j i q fs r0 e5 h e3
  .exact r.obn j k q fs fs' e5 w e3
theorem Rl.lentB(r:Rl K F0 H0 F H m l){i:Nat}(h:l[i]? =some (some (.ob p r0)))(x:Ext F (del H p) F' H')(hF:F' p=none)(hH:H' p=some (.lst xs))(hr:Reps K F' xs Y):Rl K F0 H0 F' H' m (l.set i (some (.ob p Y))):=by
 obtain⟨a,b,z,a5,c,d⟩:=r.ob i p r0 h;have hl:i<l.length:=(bp.mp h).1;have U:∀q,q≠p->F q=none->(∃o,H q=some o)->F' q=none:=λq hq f a1=>by
  obtain⟨o,ho⟩:=a1;cases w:F' q with
  |none=>rfl
  |some u=>have:=x.new q f (by rw[w];simp);rw[O6 hq,ho]at this;cases this
 have O:∀q o,q≠p->H q=some o->H' q=some o:=λq o hq ho=>x.hh q o (by rw[O6 hq];exact ho);have G:∀(j:Nat) q fs,(l.set i (some (S.ob p Y)))[j]? =some (some (.ob q fs))->j=i/\q=p/\fs=Y:=λj q fs e=>by
  by_cases N:i=j
  .subst N;rw[aR hl]at e;cases e;exact⟨rfl,rfl,rfl⟩
  .rw[aU N]at e;exact aZ (r.ob1 i j p q r0 fs h e) N
 have other:∀(j:Nat) fs,(l.set i (some (S.ob p Y)))[j]? =some (some (.own fs))->i≠j/\l[j]? =some (some (.own fs)):=λj fs e=>by
  by_cases N:i=j
  .subst N;rw[aR hl]at e;cases e
  .rw[aU N]at e;exact⟨N,e⟩
 refine⟨r.ext.lent z x,by simp[r.len],λj d' q=>?_,λj fs q=>?_,λj k q fs fs' a4 e1 e2 e3 e4=>r.inj j k q fs fs' a4 (other j fs e1).2 (other k fs' e2).2 e3 e4,λj q fs e1=>?_,λj k q fs fs' e1 e2 e3=>?_,λj k q q' fs fs' e1 e2=>?_⟩
 .by_cases N:i=j
  .subst N;rw[aR hl]at q;cases q
  .rw[aU N]at q;obtain⟨v,v1,v2⟩:=r.sh j d' q;exact⟨v,v1,v2.mono x.ff⟩
 .obtain⟨n,e⟩:=other j fs q;obtain⟨p2,a3,a2,b2,c2,d2,z2⟩:=r.own j fs e;have Z:p2≠p:=λw=>r.obn i j p r0 fs h e (by rw[<-w];exact a2);exact⟨p2,a3,a2,U p2 Z b2 ⟨_,c2⟩,O _ _ Z c2,d2.mono x.ff,z2⟩
 .obtain⟨e2,e3,e4⟩:=G j q fs e1;subst e2 e3 e4;exact⟨a,hF,z,xs,hH,hr⟩
 .obtain⟨e4,e5,_⟩:=G j q fs e1;subst e4 e5;exact r.obn j k q r0 fs' h (other k fs' e2).2 e3
 .rw[(G j q fs e1).1,(G k q' fs' e2).1]
end
open Classical in
noncomputable def anyP{α:Type}(f:Addr->Option α):Option α:=if h:∃x,∀p,f p=some x then some (Classical.choose h)else none
theorem xz4{j:Type}{f:Addr->Option j}{x:j}(h:anyP f=some x):∀p,f p=some x:=by
 unfold anyP at h;split at h
 .rename_i hx;cases h;exact dv hx
 .cases h
theorem wy7{j:Type}{f:Addr->Option j}{x:j}(h:∀p,f p=some x):anyP f=some x:=by unfold anyP;have z:∃x,∀p,f p=some x:=⟨x,h⟩;rw[dif_pos z];have:=dv z 0;rw[h 0]at this;exact this.symm
noncomputable def rtD:Rt->Option D
 | .sh d=>some d
 | .fr es=>some (.lst es)
 | .pr _ _=>none
@[irreducible] def u6(f:MG)(i:Nat)(m:MLm):MEm:=λa=>match a[i]? with
 |some (some (.own _))=>(match m a with
  |some (ds,ρ1)=>(match ρ1[i]? with
   |some (some (.own r0))=>(match anyP (λp=>f p r0 ds)with
    |some (t,r1)=>(match rtD t with |some d=>some (d,ρ1.set i (some (.own r1)))|none=>none)
    |none=>none)
   |_=>none)
  |none=>none)
 |some (some (.ob _ _))=>(match m a with
  |some (ds,ρ1)=>(match ρ1[i]? with
   |some (some (.ob p r0))=>(match f p r0 ds with
    |some (t,r1)=>(match rtD t with |some d=>some (d,ρ1.set i (some (.ob p r1)))|none=>none)
    |none=>none)
   |_=>none)
  |none=>none)
 |_=>none
theorem i8{n:Nat}(h:∀a ds,m a=some ds->ds.length=n)(a:Ro)(ds:List D)(ρ':Ro)(e:apu m a=some (ds,ρ')):ds.length=n:=by
 unfold apu at e;split at e
 .rename_i d hm;cases e;exact h a _ hm
 .cases e
section
variable {X:Cx}{e:Expr}{pos:Pos}{es:List Expr}{E:XK}{mf:MG}{m:MLm}
theorem u8{n i:Nat}(h:∀t,PA X (.Name x px::es) t->PE X e (yr9 (spG X.K n mf) [] E t))(hl:es.length+1=n)(hv:PE X (.Name x px) (tVar i))(ha:PAm X es m)(hm:∀a ds ρ',m a=some (ds,ρ')->ds.length=es.length)
  (hs:starEach (.Name x px::es) X.env=(false,eval (.Name x px) X.env)::starEach es X.env:=by rfl):PDm X e (u6 mf i m):=(h _ (Y6 hv ha hs)).imp λb H Q a7=>by
 obtain⟨F0,H0,F,a,d,ρ',rl,e,q⟩:=a7;unfold u6 at e;split at e
 .rename_i r00 h0;obtain⟨p,xs,Y,a2,a3,a4,a5⟩:=rl.own i r00 h0;split at e
  .rename_i ds ρ1 h1;split at e
   .rename_i r0 h2;split at e
    .rename_i t r1 h3;split at e
     .rename_i d' h4;cases e;have h3:=xz4 h3;refine⟨_,Y,F0,H0,F,a,ds,ρ1,rl,h1,λvs F1 H1 j s1 rv=>?_⟩;obtain⟨p',ys,b1,b2,b3,b4,b5⟩:=j.own i r0 h2;rw[Y]at b1;cases b1;show spG X.K n mf ((.ref p::vs)++[]) H1 Q E;rw[append_nil];refine⟨by rw[bH,rv.length,hm a ds ρ1 h1,hl],p,vs,F1,r0,ds,t,r1,ys,rfl,b3,b2,j.fh,b4,rv,h3 p,?_⟩;cases t with
      |sh g=>cases h4;exact λv F' H' zs x rg U O N=>q v F' H' (j.lent h2 Y x U O N) (s1.trans x.ff) rg
      |fr gs=>
       cases h4;intro w zs F' H' us x hw fw a6 Z U O N;have G:w≠p:=λz=>by rw[z,b3]at hw;cases hw
       have a8:=j.lent h2 Y x U O N;have fz:Ext F' H' (upd F' w (.lst zs)) H'->True:=λ_=>True.intro;have x2:Ext F1 (del H1 p) (upd F' w (.lst zs)) H':=x.freeze fw (by rw[O6 G];exact hw) a6;have s2:Same F' (upd F' w (.lst zs)):=(Same.refl F').put fw;exact q _ (upd F' w (.lst zs)) H' (j.lent h2 Y x2 (by rw[x9 (dU G)];exact U) O (N.mono s2)) (s1.trans x2.ff) (.lst (SqL.of x8) (Z.mono s2))
      |pr _ _=>cases h4
     .cases e
    .cases e
   .cases e
  .cases e
 .rename_i p00 r00 h0;obtain⟨Y,a2,a5,xs,a3,a4⟩:=rl.ob i p00 r00 h0;split at e
  .rename_i ds ρ1 h1;split at e
   .rename_i p r0 h2;split at e
    .rename_i t r1 h3;split at e
     .rename_i d' h4;cases e;refine⟨_,Y,F0,H0,F,a,ds,ρ1,rl,h1,λvs F1 H1 j s1 rv=>?_⟩;obtain⟨b1,b2,b5,ys,b3,b4⟩:=j.ob i p r0 h2;rw[Y]at b1;cases b1;show spG X.K n mf ((.ref p00::vs)++[]) H1 Q E;rw[append_nil];refine⟨by rw[bH,rv.length,hm a ds ρ1 h1,hl],p00,vs,F1,r0,ds,t,r1,ys,rfl,b3,b2,j.fh,b4,rv,h3,?_⟩;cases t with
      |sh g=>cases h4;exact λv F' H' zs x rg U O N=>q v F' H' (j.lentB h2 x U O N) (s1.trans x.ff) rg
      |fr gs=>
       cases h4;intro w zs F' H' us x hw fw a6 Z U O N;have G:w≠p00:=λz=>by rw[z,b3]at hw;cases hw
       have x2:Ext F1 (del H1 p00) (upd F' w (.lst zs)) H':=x.freeze fw (by rw[O6 G];exact hw) a6;have s2:Same F' (upd F' w (.lst zs)):=(Same.refl F').put fw;exact q _ (upd F' w (.lst zs)) H' (j.lentB h2 x2 (by rw[x9 (dU G)];exact U) O (N.mono s2)) (s1.trans x2.ff) (.lst (SqL.of x8) (Z.mono s2))
      |pr _ _=>cases h4
     .cases e
    .cases e
   .cases e
  .cases e
 .cases e
end
section
variable {X:Cx}{a b c e:Expr}{ma mb:ME}{pos:Pos}
end
def noL:D->Bool
 | .tup ds=>ds.all isSc
 |d=>isSc d
@[irreducible] def D9(i:Nat)(m:ME):ME:=λa=>match a[i]? with
 |some (some (.own ds))=>(match m (a.set i (some (.sh (.lst ds))))with |some d=>if noL d=true then some d else none|none=>none)
 |_=>m a
theorem yk7{K:W.Frag}{F G:Hp}:∀{vs:List V}{ds:List D},ds.all isSc=true->Reps K F vs ds->Reps K G vs ds
 |_,_,_,.nil=>.nil
 |_,_,h,.cons r t=>by rw[all_cons,Bool.and_eq_true]at h;exact .cons (xn1 h.1 r) (yk7 h.2 t)
theorem xc1{K:W.Frag}{F:Hp}(hp:F p=some (.lst xs))(h:noL d=true)(r:Rep K F v d):Rep K (λb=>if b=p then none else F b) v d:=by
 cases r with
 |non=>exact .non
 |bl b=>exact .bl b
 |int i=>exact .int i
 |str x=>exact .str x
 |lst _ _=>cases h
 |exc _ _=>cases h
 |ptr _=>cases h
 |obj _ _ _ _ _=>cases h
 |tup j G=>
  rename_i a ys ds;refine .tup ?_ (yk7 h G);rcases j with (j|⟨o,j⟩)|j
  .have hne:a≠p:=λz=>by rw[z,hp]at j;cases j
   exact .inl (.inl (by show (if a=p then none else F a)=_;rw[aI hne];exact j))
  .have hne:a≠p:=λz=>by rw[z,hp]at j;cases j
   exact .inl (.inr ⟨o,by show (if a=p then none else F a)=_;rw[aI hne];exact j⟩)
  .exact .inr j
theorem zb0{X:Cx}(i:Nat)(h:PD X e m):PD X e (D9 i m):=h.imp λc H Q N=>by
 obtain⟨F0,H0,F,a,d,rl,e,q⟩:=N;unfold D9 at e;split at e
 .rename_i ds h1;obtain⟨p,xs,hp,O⟩:=rl.freezeP h1;split at e
  .rename_i d' h2;split at e
   .rename_i hs;cases e;refine⟨F0,H0,_,_,d,O,h2,λv F2 H2 G r2=>?_⟩;have U:F2 p=some (.lst xs):=G.ff _ _ x8;refine q v (λb=>if b=p then none else F2 b) H2 ⟨λb o j=>?_,G.hh,λb o j=>?_,λb j hn=>?_,λb o u z=>by
     have z:(if b=p then none else F2 b)=some (.frz o u):=z;split at z
     .cases z
     .rename_i hne;have:=G.nf b o u z
      rwa [x9 hne]at this⟩ (xc1 U hs r2)
    .have hne:b≠p:=λw=>by rw[w,hp]at j;cases j
     show (if b=p then none else F2 b)=some o;rw[aI hne];exact G.ff b o (by rw[x9 hne];exact j)
    .have j:(if b=p then none else F2 b)=some o:=j;split at j
     .cases j
     .exact G.fh b o j
    .have hn:(if b=p then none else F2 b)≠none:=hn;split at hn
     .exact aZ rfl hn
     .rename_i hne;exact G.new b (by rw[x9 hne];exact j) hn
   .cases e
  .cases e
 .exact⟨F0,H0,F,a,d,rl,e,q⟩
def LtAt(A:Around)(s:Shared)(v u:Value)(k:Bool):Prop:=∀(prog:Program)(w:World)(E:Value->Shared->Prop)(Q:Value->Shared->Prop),Q (.bool k) s->wpAny (model prog w) A (richCompare .Lt v u) Q E s
noncomputable def yn1(A:Around)(s:Shared):List Value->List Value->Bool->Prop
 |[],[],k=>k=false
 |[],_::_,k=>k=true
 |_::_,[],k=>k=false
 |y::ys,x::xs,k=>∃e,SeqAt.EqAt A s y x e/\((e=true/\yn1 A s ys xs k)\/(e=false/\LtAt A s y x k))
section
open PySem.SeqAt
open PySem.AutoSeq1 (wpAny_loadPart')
open PySem.MeetsSeq PySem.MeetsSeq2 PySem.MeetsSeq3
set_option maxHeartbeats 4000000 in
theorem ww7(l b:Addr)(items j:Array Value)(n n2:Nat)(dd a2:Option Addr)(sl Y:Array (Option Value))(k:Bool):
  Meets (Builtin.«tuple.__lt__» ⟨[.ref l,.ref b],[]⟩)
   (λA R s=>s.heap.get? l=some { cls:=.type "tuple",dict:=dd,data:=.seq items n,slots:=sl }/\s.heap.get? b=some { cls:=.type "tuple",dict:=a2,data:=.seq j n2,slots:=Y }/\
    yn1 A.in1 s items.toList j.toList k/\R (.ok (.ret (.bool k))) s):=
 .of_wp λprog w A R s h=>by
  obtain⟨hp,g,d,tk,os⟩:=s;obtain⟨hl,hb,hx,h⟩:=h;have f2:=AutoSeq1.sub_tuple_tuple
  wp_walk using wpAny_loadPart' hl,wpAny_loadPart' hb,wpAny_forIn_list _ (λrest b s'=>b.1=none/\s'=⟨hp,g,d,tk,os⟩/\∃(vs ws:List Value),rest=vs.zip ws/\
   vs.length+j.size=ws.length+items.size/\yn1 A.in1 ⟨hp,g,d,tk,os⟩ vs ws k) _
  case turn=>
   rintro⟨y,x⟩ rest b s' ⟨U,rfl,vs,ws,N,z,G⟩;cases vs with
   |nil=>rw[zip_nil_left]at N;cases N
   |cons a vs=>
    cases ws with
    |nil=>rw[zip_nil_right]at N;cases N
    |cons c ws=>
     rw[zip_cons_cons]at N;injection N with Z O
     injection Z with hy a1
     subst hy a1;simp only[length_cons]at z;obtain⟨e,he,G⟩:=G;refine aF (he prog w _ _ ?_);rcases G with⟨rfl,G⟩|⟨rfl,G⟩
     .wp_walk
      exact⟨rfl,rfl,vs,ws,O,aA,G⟩
     .have hri:=G prog w
      wp_walk using hri
      exact⟨_,rfl,by simpa using h⟩
  case fin=>
   rintro⟨b1,b2⟩ s' ⟨U,rfl,vs,ws,N,z,G⟩;simp only at U;subst U;have hv:k=decide (items.size<j.size):=by
    cases vs with
    |nil=>
     cases ws with
     |nil=>simp only[length_nil]at z;rw[show k=false from G];exact(aQ aA).symm
     |cons c ws=>simp only[length_nil,length_cons]at z;rw[show k=true from G];exact(aV aA).symm
    |cons a vs=>
     cases ws with
     |nil=>simp only[length_nil,length_cons]at z;rw[show k=false from G];exact(aQ aA).symm
     |cons c ws=>rw[zip_cons_cons]at N;cases N
   rw[hv]at h
   wp_walk
   exact⟨_,rfl,by simpa[Builtin.Tuple.tupleCompareSizes]using h⟩
  case h=>exact⟨rfl,rfl,items.toList,j.toList,rfl,by simp;lia,hx⟩
set_option maxHeartbeats 4000000 in
theorem za6(l b:Addr)(items j:Array Value)(n n2:Nat)(dd a2:Option Addr)(sl a1:Array (Option Value))(r:Bool)(k:Nat):
  ∀i:Nat,items.size-i=k->i<=items.size->i<=j.size->Meets (Builtin.«list.__eq__.loop» ⟨[.ref l,.ref b,rawInt i,rawInt 0],[]⟩)
   (λA R s=>s.heap.get? l=some { cls:=.type "list",dict:=dd,data:=.seq items n,slots:=sl }/\s.heap.get? b=some { cls:=.type "list",dict:=a2,data:=.seq j n2,slots:=a1 }/\
    yn1 A.in1 s (items.toList.drop i) (j.toList.drop i) r/\R (.ok (.ret (.bool r))) s):=by
 induction k with
 |zero=>
  intro i hk h1 h2 prog w A R s h;obtain⟨hp,g,d,tk,os⟩:=s;obtain⟨U,Y,G,h⟩:=h
  wp_walk using wpAny_loadPart' U,wpAny_loadPart' Y
  have N:items[((i:Nat):Int).toNat]? =none:=by simp;lia
  have e1:items.toList.drop i=[]:=eu (by simp;lia);rw[e1]at G;have hr:r=decide (items.size<j.size):=by
   cases e2:j.toList.drop i with
   |nil=>
    rw[e2]at G;have:j.size<=i:=by simpa using e2
    rw[show r=false from G];exact(aQ aA).symm
   |cons c ws=>
    rw[e2]at G;have:i<j.size:=by
     rcases bq i j.size with z|z
     .exact z
     .rw[eu (by simpa using z)]at e2;cases e2
    rw[show r=true from G];exact(aV aA).symm
  rw[N]
  wp_walk using wpAny_loadPart' U,wpAny_loadPart' Y
  rw[hr]at h;exact h
 |succ k ih=>
  intro i hk h1 h2 prog w A R s h;obtain⟨hp,g,d,tk,os⟩:=s;obtain⟨U,Y,G,h⟩:=h;have Z:i<items.size:=aA;have N:items[((i:Nat):Int).toNat]? =some items[i]:=by simp[Z]
  have e1:items.toList.drop i=items[i]::items.toList.drop (i+1):=by rw[dE (by simpa using Z)];simp
  have hc:((i:Int)+1)=((i+1:Nat):Int):=by push_cast;rfl
  rw[e1]at G;by_cases O:i<j.size
  .have hi2:j[((i:Nat):Int).toNat]? =some j[i]:=by simp[O]
   have e2:j.toList.drop i=j[i]::j.toList.drop (i+1):=by rw[dE (by simpa using O)];simp
   rw[e2]at G;obtain⟨e,he,G⟩:=G
   wp_walk using wpAny_loadPart' U,wpAny_loadPart' Y
   rw[N,hi2];refine aF (he prog w _ _ ?_);rcases G with⟨rfl,G⟩|⟨rfl,G⟩
   .wp_walk
    rw[hc];exact⟨dq plain_eq_loop _,cz entry_eq_loop (by rw[bU plain_eq_loop _];exact ih (i+1) aA aA aA prog w A R _ ⟨U,Y,G,h⟩)⟩
   .have hri:=G prog w
    wp_walk using wpAny_loadPart' U,wpAny_loadPart' Y
    rw[N,hi2]
    wp_walk using hri
    exact h
  .have hi2:j[((i:Nat):Int).toNat]? =none:=by simp;lia
   have e2:j.toList.drop i=[]:=eu (by simp;lia);rw[e2]at G;have hr:r=decide (items.size<j.size):=by rw[show r=false from G];exact(aQ aA).symm
   wp_walk using wpAny_loadPart' U,wpAny_loadPart' Y
   rw[N,hi2]
   wp_walk using wpAny_loadPart' U,wpAny_loadPart' Y
   rw[hr]at h;exact h
set_option maxHeartbeats 4000000 in
theorem xm8(l b:Addr)(items j:Array Value)(n N:Nat)(Y G:Option Addr)(sl z:Array (Option Value))(r:Bool):
  Meets (Builtin.«list.__lt__» ⟨[.ref l,.ref b],[]⟩)
   (λA R s=>s.heap.get? l=some { cls:=.type "list",dict:=Y,data:=.seq items n,slots:=sl }/\s.heap.get? b=some { cls:=.type "list",dict:=G,data:=.seq j N,slots:=z }/\
    yn1 A.in1 s items.toList j.toList r/\R (.ok (.ret (.bool r))) s):=by
 intro prog w A R s h;obtain⟨hp,g,d,tk,os⟩:=s;obtain⟨O,U,Z,h⟩:=h;have f3:=AutoSeq1.sub_list_list
 wp_walk using wpAny_loadPart' O,wpAny_loadPart' U
 exact⟨dq plain_eq_loop _,cz entry_eq_loop (by rw[bU plain_eq_loop _];exact za6 l b items j n N Y G sl z r _ 0 rfl (aY _) (aY _) prog w A R _ ⟨O,U,by simpa using Z,h⟩)⟩
end
noncomputable def lexF(eq lt:D->D->Option Bool):List D->List D->Option Bool
 |[],[]=>some false
 |[],_::_=>some true
 |_::_,[]=>some false
 |d::ds,e::es=>match eq d e with
  |some true=>lexF eq lt ds es
  |some false=>lt d e
  |none=>none
def ltF:Nat->D->D->Option Bool
 |0,_,_=>none
 |n+1,.lst ds,.lst es=>lexF (eqF n) (ltF n) ds es
 |n+1,.tup ds,.tup es=>lexF (eqF n) (ltF n) ds es
 |_+1,.int i,.int j=>some (decide (i<j))
 |_+1,_,_=>none
section
variable {X:Cx}{pins:List (Addr×Obj)}{f:St}{H:Hp}{s:Shared}
theorem ye6(I:Inv X pins f H s)(n:Nat)(U:A.units+n<cLine)(O:∀{x y:V}{v u:Value}{d e:D}{k:Bool},Rep X.K H x d->Rep X.K H y e->RelV x v->RelV y u->ltF n d e=some k->LtAt A s v u k)
     {k:Bool} (j:Reps X.K H xs ds) (r2:Reps X.K H ys es) (p1:Vals xs vs) (p2:Vals ys us) (h:lexF (eqF n) (ltF n) ds es=some k):yn1 A s vs us k:=by
 induction p1 generalizing ds ys us es with
 |nil=>
  cases j;cases p2 with
  |nil=>cases r2;cases h;exact rfl
  |cons _ _=>cases r2;cases h;exact rfl
 |cons N p1 z=>
  cases p2 with
  |nil=>cases r2;cases j;cases h;exact rfl
  |cons G p2=>
   cases j with
   |@cons _ d _ _ j t1=>
    cases r2 with
    |@cons _ e _ _ r2 t2=>
     unfold lexF at h;cases hq:eqF n d e with
     |none=>rw[hq]at h;cases h
     |some b=>
      rw[hq]at h;refine⟨b,(yc5 I n U j r2 N G hq).1,?_⟩;cases b with
      |true=>exact .inl ⟨rfl,z t1 t2 p2 h⟩
      |false=>exact .inr ⟨rfl,O j r2 N G h⟩
theorem xc8(I:Inv X pins f H s):∀(n:Nat){A:Around}{x y:V}{v u:Value}{d e:D}{k:Bool},A.units+n<cLine->Rep X.K H x d->Rep X.K H y e->RelV x v->RelV y u->ltF n d e=some k->LtAt A s v u k
 |0,A,x,y,v,u,d,e,k,hu,r1,r2,q1,q2,h=>by simp[ltF]at h
 |n+1,A,x,y,v,u,d,e,k,hu,r1,r2,q1,q2,h=>by
  have a6:A.units<cLine:=aA;have U:A.in1.units+n<cLine:=by show A.units+1+n<cLine;lia
  cases d with
  |int i=>
   cases e with
   |int j=>obtain rfl:=r1.i';obtain rfl:=r2.i';obtain⟨t,rfl⟩:=q1;obtain⟨t',rfl⟩:=q2;cases h;exact λprog w E Q hQ=>HT.rcLt_int A s i t j t' prog w E Q hQ
   |_=>cases h
  |lst ab=>
   cases e with
   |lst aa=>
    obtain⟨a1,a9,rfl,sq,rs⟩:=r1.l';obtain⟨a2,a8,rfl,Z,a4⟩:=r2.l';cases q1;cases q2;obtain⟨its,vr,⟨⟨cls,dd,data,sl⟩,m,ho,hc,ad,hd⟩,_⟩:=I.list sq;obtain⟨z,Y,⟨⟨a7,a5,data2,a3⟩,m2,G,O,ac,N⟩,_⟩:=I.list Z;simp only at hc hd O N;subst hc hd O N;have L:=ye6 I n U (λa b c d e=>xc8 I n U a b c d e) rs a4 vr Y (show lexF (eqF n) (ltF n) _ _=some k from h);intro prog w E Q hQ;exact richCompare_meets_room (op:=.Lt) ⟨_,ho,rfl⟩ ⟨_,G,rfl⟩ PySem.F.slot_list_lt PySem.F.entry_list_lt (PySem.F.args_list_lt_2 _ _) (xm8 _ _ its.toArray z.toArray m m2 dd a5 sl a3 k)
     ⟨ho,G,by simpa using L,show Value.bool k≠Value.notImplemented/\Q (.bool k) s from⟨(λx=>nomatch x),hQ⟩⟩ a6
   |_=>cases h
  |tup ab=>
   cases e with
   |tup aa=>
    obtain⟨a1,a9,rfl,sq,rs⟩:=r1.t';obtain⟨a2,a8,rfl,Z,a4⟩:=r2.t';cases q1;cases q2;obtain⟨its,vr,⟨⟨cls,dd,data,sl⟩,ho,hc,m,hd⟩,_⟩:=I.tuple sq;obtain⟨z,Y,⟨⟨a7,a5,data2,a3⟩,G,O,m2,N⟩,_⟩:=I.tuple Z;simp only at hc hd O N;subst hc hd O N;have L:=ye6 I n U (λa b c d e=>xc8 I n U a b c d e) rs a4 vr Y (show lexF (eqF n) (ltF n) _ _=some k from h);intro prog w E Q hQ;exact richCompare_meets_room (op:=.Lt) ⟨_,ho,rfl⟩ ⟨_,G,rfl⟩ PySem.F.slot_tuple_lt PySem.F.entry_tuple_lt (PySem.F.args_tuple_lt_2 _ _) (ww7 _ _ its.toArray z.toArray m m2 dd a5 sl a3 k)
     ⟨ho,G,by simpa using L,show Value.bool k≠Value.notImplemented/\Q (.bool k) s from⟨(λx=>nomatch x),hQ⟩⟩ a6
   |_=>cases h
  |_=>cases h
end
section
variable {X:Cx}{pins:List (Addr×Obj)}{a:St}
end
section
variable {prog:Program}{w:World}{A:Around}{E:Value->Shared->Prop}{s:Shared}
end
noncomputable def Itdn(hi:Int)(n:Nat):It:=⟨λi _=>i<n,λi H x H'=>H'=H/\x= .int (hi-i),λi _=>n<=i⟩
theorem yk3{P:Program}{w:World}{K:PySem.W.Frag}{tg:Expr}(it:Addr)(lo:Int)(n:Nat):Turn P w K tg (Itdn lo n) [it] it (λi h=>IsRangeIter h it (lo+(i:Nat)*(-1)) ((n:Int)-(i:Nat)) (-1)) where
 mem:=by simp
 obj:=λi h st b j=>by
  have e:b=it:=by simpa using j
  subst e;exact⟨_,st,λv z=>by have z':Data.fields _=Data.cell v:=z;cases z'⟩
 keep:=λi h h' st k=>k it aD _ st
 item:=by intro X O hw U hc i pins s a H E I G st N;subst O hw U;obtain⟨f0,f1,f2,f3,Z,Y⟩:=G it aD;have W:=Walks.range (prog:=X.prog) (w:=X.w) (I.ok.hd hc) it lo (-1) n;refine W.item i s _ _ N st λv h' tk hv st' kk=>?_;obtain⟨t,rfl⟩:=hv;have I1:Inv X pins a H { s with heap:=h',toks:=tk }:=I.turned (λb o j e=>kk b o (by simpa using j) e) f0 f1 f3 Z Y;refine⟨_,rfl,xq1 (s:={ s with heap:=h',toks:=tk }) (n:="range_iterator") st' rfl rfl aC ⟨.int (lo-i),H,I1,⟨t,?_⟩,⟨rfl,rfl⟩,st',λb j=>(G b j).1⟩⟩;rw[show lo+(i:Int)*(-1)=lo-i by lia]
 done:=by intro X O hw U hc i pins s a H E I G st N;subst O hw U;obtain⟨f0,f1,f2,f3,Z,Y⟩:=G it aD;exact wpAny_pyNext_range_end (I.ok.hd hc) st (by have:n<=i:=N;lia) λh' eb=>⟨rfl,I.turned (t':=s.toks) (λb o j e=>eb b o j e) f0 f1 f3 Z Y⟩
 self:=λ_ _ _ _ _ st h=>wpAny_pyIter_rangeiter st h
section
variable {X:Cx}
noncomputable def zf6(n:Nat):List D:=(List.range n).map λ(i:Nat)=>D.int ((n:Int)-1-(i:Int))
theorem E8(n:Nat):(zf6 n).length=n:=by unfold zf6;simp
theorem xr7{K:W.Frag}{F:Hp}{n:Nat}:ItD K F (Itdn ((n:Int)-1) n) (zf6 n) where
 go:=λi F1 H1 a b hi=>by rw[E8]at hi;exact hi
 yld:=λi F1 H1 x H2 d a b e y=>by
  obtain⟨rfl,rfl⟩:=y;unfold zf6 at e;rw[bF]at e;have hi:i<n:=by
   rcases bq i n with h|h
   .exact h
   .rw[bg (by simpa using h)]at e;cases e
  rw[db hi]at e;cases e;exact⟨F1,.refl b,.int _⟩
 stop:=λF1 H1 a b=>by rw[E8];exact aN n
end
section
variable {X:Cx}{a b:Expr}{pos:Pos}
end
section
variable {X:Cx}{e:Expr}{pos:Pos}{es:List Expr}{E:XK}{mf:MG}{st:Stmt}{na:MEm}
end
section
variable {X:Cx}{a b:Expr}{pos:Pos}
noncomputable def zw7(n:Nat)(k:Int):Bool:=decide (-(2^62)<=k)&&decide (k<2^62)&&decide (n*k.toNat<=sizeLine)
@[irreducible] def mrep(x:ML)(y:ME):ML:=λa=>(x a).bind λds=>match y a with
 |some (.int k)=>if zw7 ds.length k=true then some (List.replicate k.toNat ds).flatten else none
 |_=>none
theorem yf5{a:Ro}(h:mrep x y a=some j):∃ds k,x a=some ds/\y a=some (.int k)/\zw7 ds.length k=true/\j=(List.replicate k.toNat ds).flatten:=by
 unfold mrep at h;cases h1:x a with
 |none=>rw[h1]at h;cases h
 |some ds=>
  rw[h1,aP]at h;split at h
  .rename_i k h2;split at h
   .rename_i hk;exact⟨ds,k,rfl,h2,hk,(bn h).symm⟩
   .cases h
  .cases h
theorem zb6{a:Ro}{k:Int}(h1:x a=some ds)(h2:y a=some (.int k))(j:zw7 ds.length k=true):mrep x y a=some (List.replicate k.toNat ds).flatten:=by unfold mrep;rw[h1,aP,h2];simp only[j,if_true]
theorem zj9{K:W.Frag}{F:Hp}{xs:List V}{ds:List D}(r:Reps K F xs ds):∀k:Nat,Reps K F (List.replicate k xs).flatten (List.replicate k ds).flatten
 |0=>.nil
 |k+1=>by rw[cE,cE,dG,dG];exact r.append (zj9 r k)
theorem yh4(ha:PF X a x)(Y:PD X b y):PF X (.BinOp a .Mult b pos) (mrep x y):=(xu1 ws6 ha Y).imp λd H Q z=>by obtain⟨F0,H0,F,c,g,rl,e,q⟩:=z;obtain⟨ds,k,h1,h2,G,rfl⟩:=yf5 e;unfold zw7 at G;simp only[Bool.and_eq_true,decide_eq_true_eq]at G;refine⟨F0,H0,F,c,ds,rl,h1,λp xs F1 H1 O n1 f1 Z U=>⟨F0,H0,F1,c,.int k,rl.go O,h2,λv F2 H2 j r2=>?_⟩⟩;cases r2;refine⟨p,k,xs,rfl,rfl,j.hh _ _ Z,aA,aA,by rw[U.length];exact G.2,λw hw=>?_⟩;have N:=O.trans j;exact q w _ F2 _ (N.trans (Ext.own j.fh hw)) (N.hh.free hw) (j.fh.free hw) x8 (zj9 (U.mono j.ff) k.toNat)
end
section
variable {X:Cx}{pins:List (Addr×Obj)}{a:St}
end
section
variable {X:Cx}
end
section
variable {X:Cx}{pins:List (Addr×Obj)}{a:St}
end
end L2
namespace L2
open List
open PySem PySem.Spec PyProof.Rows PySem.Builtin PySem.Builtin.Str
section
variable {X:Cx}{a b c e o:Expr}{ma mb mo:ME}{pos:Pos}
end
end L2
namespace L2
open List
open PySem PySem.Spec PyProof.Rows
section
variable {X:Cx}{a b c e o:Expr}{ma mb mo:ME}{pos:Pos}{st:Stmt}
def rSum(K:W.Frag):List V->Hp->VK->Prop:=λvs H Q=>∃(p:Addr)(ns:List Int),vs=[.ref p]/\SqL K H p (ns.map V.int)/\Q (.int ns.sum) H
theorem xq8(hc:X.calm=true):J8 X (.builtin "sum") (rSum X.K):=by intro pins s a H xs us Q I r h;obtain⟨p,ns,rfl,z,q⟩:=h;obtain⟨u,rfl,G⟩:=A9 r;cases G;obtain⟨its,j,pl,O⟩:=I.list z;obtain⟨N,h1,h2⟩:=U3 j;have hp:=pl.isList;rw[h1]at hp;refine sum_intListG (I.ok.hd hc) hp λh' tk t' k=>?_;refine⟨.int ns.sum,H,I.kept k,⟨t',?_⟩,q⟩;rw[preSum_eq,dy aD,<-h2]
@[irreducible] def msum(m:ML):ME:=λa=>match m a with |some ds=>(match Q4 ds with |some ns=>some (.int ns.sum)|none=>none)|none=>none
theorem xn9(hc:X.calm=true)(U:Gl X "sum")(hm:X.mg "sum"=none)(ha:PB X e m)(O:bootBuiltins "sum"=some (.builtin "sum"))(hs:starEach (e::[]) X.env=(false,eval e X.env)::starEach [] X.env:=by rfl)(Y:starEach [e] X.env=(false,eval e X.env)::starEach [] X.env:=by rfl)(z:(backTo pos (starEach [] X.env)).any (·.1)=false:=by rfl):PD X (.Call (.Name "sum" p) [e] [] pos) (msum m):=
 (Y1 (xq8 hc) U hm O (Y6 ha pa_nil hs) aC aC Y z).imp λb H Q j=>by
  obtain⟨F0,H0,F,a,g,rl,e,q⟩:=j;unfold msum at e;cases h1:m a with
  |none=>rw[h1]at e;cases e
  |some ds=>
   rw[h1]at e;cases h2:Q4 ds with
   |none=>simp only[h2]at e;cases e
   |some ns=>simp only[h2]at e;cases e;refine⟨F0,H0,F,a,ds,rl,h1,λp xs F1 H1 G s1 N=>⟨p,ns,rfl,?_,q _ F1 H1 G (.int _)⟩⟩;rw[<-V6 N h2];exact s1
end
section
variable {prog:Program}{w:World}{A:Around}{E:Value->Shared->Prop}{s:Shared}{l:Addr}{xs:Array (Int×Tok)}
end
section
variable {X:Cx}{a b c e o:Expr}{ma mb mo:ME}{pos:Pos}{st:Stmt}
end
section
variable {X:Cx}{a b c e:Expr}{na nb:MEm}{pos:Pos}{st:Stmt}{es:List Expr}{E:XK}{mf:MF}{m:MLm}
abbrev MBm:=Ro->Option (Bool×Ro)
def TCm(K:W.Frag)(c:MBm):TT:=λd H Q=>∃F0 H0 F a b ρ',Rl K F0 H0 F H d a/\c a=some (b,ρ')/\∀F' H',Rl K F0 H0 F' H' d ρ'->Same F F'->Q b H'
@[irreducible] noncomputable def zy4(x:MEm):MBm:=λa=>match x a with |some (.bl b,ρ1)=>some (b,ρ1)|_=>none
theorem xe9{f:D->D->Option D}(G:OpR X (compareOp op) r)(N:OpD X.K r f)(ha:PDm X a na)(O:PDm X b nb)(hm:behindInMarks op b=false):PT X (.Compare a [op] [b] pos) (TCm X.K (zy4 (m2m f na nb))):=(zc4 G ha O hm).imp λd H Q j=>by
 obtain⟨F0,H0,F,c,g,ρ',rl,e,q⟩:=j;unfold zy4 at e;split at e
 .rename_i k ρ1 hk;cases e;refine xu8 N ⟨F0,H0,F,c,.bl g,ρ',rl,hk,λv F' H' z s' r=>?_⟩;cases r;exact⟨_,rfl,q F' H' z s'⟩
 .cases e
@[irreducible] noncomputable def mifm(c:MBm)(x y:MS):MS:=λa=>match c a with |some (true,ρ1)=>x ρ1|some (false,ρ1)=>y ρ1|none=>none
theorem xf5(hc:PT X c (TCm X.K ca))(O:PSsd X x mx)(N:PSsd X y G):PSd X (.If c x y pos) (mifm ca mx G):=(xf6 hc O N).imp λD b H z=>by
 obtain⟨F0,H0,F,a,o,rl,e,ok⟩:=z;unfold mifm at e;split at e
 .rename_i ρ1 h1;exact⟨F0,H0,F,a,_,ρ1,rl,h1,λF1 H1 j s1=>iteT ⟨F0,H0,F1,ρ1,o,j,e,ok.mono s1⟩⟩
 .rename_i ρ1 h1;exact⟨F0,H0,F,a,_,ρ1,rl,h1,λF1 H1 j s1=>iteF ⟨F0,H0,F1,ρ1,o,j,e,ok.mono s1⟩⟩
 .cases e
end
section
variable {X:Cx}{a b c e:Expr}{na nb:MEm}{pos:Pos}{st:Stmt}{es:List Expr}{m:MLm}
end
section
variable {X:Cx}{pos:Pos}
end
section
variable {X:Cx}{e:Expr}{na:MEm}{pos:Pos}{st:Stmt}{es:List Expr}{m:ML}{mf:MG}{E:XK}
open Classical in
end
def rng3:List D->Option (List D)
 |[.int i,.int j,.int k]=>if -1<=i/\i<2^61/\j= -1/\k= -1 then some (zf6 (i+1).toNat)else none
 |_=>none
theorem zj8(i:Int)(h:-1<=i):Builtin.Range.rangeSize i (-1) (-1)=((i+1).toNat:Int):=by
 unfold Builtin.Range.rangeSize;rw[aI aC];split
 .rw[show (-(-1):Int)=1 by decide,Int.ediv_one];lia
 .lia
theorem yq1(i:Int)(h:-1<=i)(h2:i<2^61):Builtin.Range.small i (-1) (-1)=true:=by unfold Builtin.Range.small;rw[zj8 i h];unfold Builtin.Range.rangeFitsLong;simp;lia
section
variable {X:Cx}
theorem yq5{p pos:Pos}(hg:Gl X "range")(hm:X.mg "range"=none)(ha:PAs X [a,b,c] m)(he:starEach [a,b,c] X.env=(false,eval a X.env)::starEach [b,c] X.env:=by rfl)(a1:(backTo pos (starEach [b,c] X.env)).any (·.1)=false:=by rfl):
  PId X tg (.Call (.Name "range" p) [a,b,c] [] pos) (m5 rng3 m):=by
 intro pins s f H R I h;obtain⟨F0,H0,F,d,its,rl,e,q⟩:=h;obtain⟨ds,h1,h2⟩:=Z8 e;refine Call_ (O4 I hg hm boot_range (bQ (thn (ha pos pins s f H (λvs H1=>∃i:Int,vs=[.int i,.int (-1),.int (-1)]/\ -1<=i/\i<2^61/\R (Itdn i (i+1).toNat) H1) I ⟨F0,H0,F,d,ds,rl,h1,λvs F1 H1 x1 Y=>?_⟩) λus s1 ⟨vs,H1,I1,Y,q1⟩=>?_) he a1))
 .unfold rng3 at h2;split at h2
  .rename_i i j k;split at h2
   .rename_i hk;obtain⟨N,Z,rfl,rfl⟩:=hk;cases h2;cases Y with
    |cons r G=>
     cases G with
     |cons r2 G=>
      cases G with
      |cons U G=>cases G;cases r;cases r2;cases U;refine⟨i,rfl,N,Z,q _ F1 H1 x1 ?_⟩;have:i=((i+1).toNat:Int)-1:=aA;have z:=xr7 (K:=X.K) (F:=F1) (n:=(i+1).toNat);rw[<-this]at z;exact z
   .cases h2
  .cases h2
 .obtain⟨i,e,N,Z,q⟩:=q1;subst e;cases Y with
  |cons r G=>
   cases G with
   |cons r2 G=>
    cases G with
    |cons U G=>
     cases G;obtain⟨t,rfl⟩:=r;obtain⟨O,rfl⟩:=r2;obtain⟨t3,rfl⟩:=U;refine call_range_3 aC ?_ (Or.inl (PyProof.noPylong_small aA));refine wpAny_pyIter_range (IsRange.new ..) (yq1 i N Z) ?_;have I2:Inv X pins f H1 { s1 with heap:=s1.heap.push { cls:=.type "range",data:=.fields #[.int i t,.int (-1) O,.int (-1) t3] },toks:=s1.toks }:=I1.kept λb o e=>aG _ e;refine⟨_,[(s1.heap.push { cls:=.type "range",data:=.fields #[.int i t,.int (-1) O,.int (-1) t3] }).objs.size],_,_,H1,rfl,
      I2.kept (t':=s1.toks) λb o e=>aG _ e,yk3 _ i (i+1).toNat,?_,λb hb=>?_,q⟩
     .have e1:i+((0:Nat):Int)*(-1)=i:=by simp
      have e2:(((i+1).toNat:Nat):Int)-((0:Nat):Int)=Builtin.Range.rangeSize i (-1) (-1):=by rw[zj8 i N];simp
      show IsRangeIter _ _ (i+((0:Nat):Int)*(-1)) ((((i+1).toNat:Nat):Int)-((0:Nat):Int)) (-1);rw[e1,e2];exact aX _ rfl
     .have e:b=(s1.heap.push { cls:=.type "range",data:=.fields #[.int i t,.int (-1) O,.int (-1) t3] }).objs.size:=by simpa using hb
      subst e;exact I2.fpOk (aN _) (I2.hok.fresh (aN _))
end
section
variable {X:Cx}{e:Expr}{pos:Pos}
def rAny(K:W.Frag):List V->Hp->VK->Prop:=λvs H Q=>∃(p:Addr)(ns:List Int),vs=[.ref p]/\SqL K H p (ns.map V.int)/\Q (.bl (ns.any λi=>i != 0)) H
theorem wm4(xs:Array (Int×Tok)):(List.range (intItems xs).size).any (λi=>numAt xs i != 0)=(xs.toList.map (·.1)).any λi=>i != 0:=by
 rw[eH,any_eq_true,any_eq_true];constructor
 .rintro⟨i,hi,h⟩;have hi:i<xs.size:=by simpa[intItems]using hi
  refine⟨numAt xs i,?_,h⟩;refine bG.mpr ⟨xs[i],by simp,?_⟩;simp[numAt,hi]
 .rintro⟨v,hv,h⟩;obtain⟨p,hp,rfl⟩:=bG.mp hv;obtain⟨i,hi,rfl⟩:=dD hp;have j:i<xs.size:=by simpa using hi
  refine⟨i,by simpa[intItems]using j,?_⟩;simpa[numAt,j]using h
theorem xp0(hc:X.calm=true):J8 X (.builtin "any") (rAny X.K):=by
 intro pins s a H xs us Q I r h;obtain⟨p,ns,rfl,O,q⟩:=h;obtain⟨u,rfl,U⟩:=A9 r;cases U;obtain⟨its,N,pl,hz⟩:=I.list O;obtain⟨z,h1,h2⟩:=U3 N;have hp:=pl.isList;rw[h1]at hp;refine call_any_walk (iter_intList hp λG e st Z j=>?_);subst e;refine⟨_,_,_,_,_,_,λi=>numAt z.toArray i != 0,rfl,Walks.list (A:=X.A.in1) (I.ok.hd hc) _ p j (intItems z.toArray),st,λi v s' Q' E' hP hQ=>?_,λh' tk Y=>?_⟩
 .obtain⟨t,rfl⟩:=intItems_at hP;exact truthy_int hQ
 .refine⟨.bl (ns.any λi=>i != 0),H,I.kept (old_kept Y),?_,q⟩;rw[wm4];show Value.bool _=Value.bool _;rw[<-h2]
@[irreducible] def many(m:ML):ME:=λa=>match m a with |some ds=>(match Q4 ds with |some ns=>some (.bl (ns.any λi=>i != 0))|none=>none)|none=>none
theorem ws2(hc:X.calm=true)(O:Gl X "any")(hm:X.mg "any"=none)(ha:PB X e m)(N:bootBuiltins "any"=some (.builtin "any"))(hs:starEach (e::[]) X.env=(false,eval e X.env)::starEach [] X.env:=by rfl)(U:starEach [e] X.env=(false,eval e X.env)::starEach [] X.env:=by rfl)(j:(backTo pos (starEach [] X.env)).any (·.1)=false:=by rfl):PD X (.Call (.Name "any" p) [e] [] pos) (many m):=
 (Y1 (xp0 hc) O hm N (Y6 ha pa_nil hs) aC aC U j).imp λb H Q Y=>by
  obtain⟨F0,H0,F,a,g,rl,e,q⟩:=Y;unfold many at e;cases h1:m a with
  |none=>rw[h1]at e;cases e
  |some ds=>
   rw[h1]at e;cases h2:Q4 ds with
   |none=>simp only[h2]at e;cases e
   |some ns=>simp only[h2]at e;cases e;refine⟨F0,H0,F,a,ds,rl,h1,λp xs F1 H1 z s1 G=>⟨p,ns,rfl,?_,q _ F1 H1 z (.bl _)⟩⟩;rw[<-V6 G h2];exact s1
end
noncomputable def wu7(sc fsc:Scope):Scope:={ sc with names:=sc.names.map λ(n,k)=>if (k== .free&&fsc.kind== .function&&fsc.names.lookup n==some .cell)then (n,.cell)else (n,k) }
theorem wz2{X:Cx}{src:List (Option Nat)}(z:Scope)(h1:X.env.scope=z)(h:wz3 (wu7 j z) G sc N src=true):Blk (W7 X j C G fp s H) sc N src:=
 U0 (wu7 j z) G (by rw[<-h1];rfl) rfl h
section
variable {X:Cx}{e:Expr}{ma:ME}{pos:Pos}
def wv5(te:TE)(g1 g2 g3:TG):TS:=λD a H=>te a H λx H1=>g1 x a H1 λσ2 H2=>g2 x σ2 H2 λσ3 H3=>g3 x σ3 H3 D.nx
theorem xf7{z j t3:Expr}{g1 Z Y:TG}(he:PE X e te)(h1:PG X z g1)(h2:PG X j Z)(h3:PG X t3 Y)(hw:swappedStores [z,j,t3] e X.env=pure none:=by rfl)(ha:(assignEach [z,j,t3] X.env).map (·.2)=[assign z X.env,assign j X.env,assign t3 X.env]:=by rfl):PS X (.Assign [z,j,t3] e pos) (wv5 te g1 Z Y):=by intro pins s a H D I h;refine wpAny_Assign_three (thn (he pins s a H _ I h) λv s1 G=>?_) ha hw;obtain⟨x,H1,I1,U,q1⟩:=G;exact thn (h1 pins s1 a H1 x v _ I1 U q1) λ_ s2 ⟨O,H2,I2,q2⟩=>thn (h2 pins s2 O H2 x v _ I2 U q2) λ_ s3 ⟨N,H3,I3,q3⟩=>h3 pins s3 N H3 x v _ I3 U q3
@[irreducible] noncomputable def yq8(i j k:Nat)(x:ME):MS:=λa=>match x a with |some d=>some (.nx (((a.set i (some (.sh d))).set j (some (.sh d))).set k (some (.sh d))))|none=>none
theorem xv4{i j k:Nat}{st:Stmt}(h:PS X st (wv5 (TD X.K ma) (G6 i) (G6 j) (G6 k))):PSd X st (yq8 i j k ma):=h.imp λD b H N=>by
 obtain⟨F0,H0,F,a,o,rl,e,ok⟩:=N;unfold yq8 at e;split at e
 .rename_i d h1;cases e;exact⟨F0,H0,F,a,d,rl,h1,λv F1 H1 G z=>ok F1 H1 _ ((((rl.go G).set z).set z).set z) G.ff⟩
 .cases e
@[irreducible] noncomputable def xs4(i:Nat)(x:ME):MS:=λa=>match a[i]? with |some (some (.sh (.int k)))=>(match x a with |some (.int j)=>some (.nx (a.set i (some (.sh (.int (k-j))))))|_=>none)|_=>none
theorem xv5{i:Nat}{pos':Pos}(Z:X.N.Nodup)(hi:X.N[i]? =some x)(O:Loc X.env.scope x)(Y:PD X e ma)(U:X.fn x=true\/X.env.scope.names.lookup x=some .local:=by first|exact .inl rfl|exact .inr rfl|assumption):
  PSd X (.AugAssign (.Name x pos') .Sub e pos) (xs4 i ma):=(xn6 Z hi O Y wp8 U).imp λD b H h0=>by
 obtain⟨F0,H0,F,a,o,rl,e,ok⟩:=h0;unfold xs4 at e;split at e
 .rename_i k h1;obtain⟨v,e1,e2⟩:=rl.sh i _ h1;cases e2;split at e
  .rename_i j h2;cases e;refine⟨_,e1,F0,H0,F,a,.int j,rl,h2,λy F1 H1 z G=>?_⟩;cases G;exact⟨_,_,rfl,rfl,ok F1 H1 _ ((rl.go z).set (.int _)) z.ff⟩
  .cases e
 .cases e
end
theorem slot_lri_next:Slot "list_reverseiterator" "__next__" "list_reverseiterator.__next__":=
 .of (owner:="list_reverseiterator") (n:="__next__") (by rw[typeLookup_type,builtinLookup_eq_fast];kernel_rfl) aE aE aE
  (by first|exact .inl aE|exact .inr aE) (by rw[isSubtype_type];kernel_rfl)
theorem M6:Slot "list_reverseiterator" "__iter__" "list_reverseiterator.__iter__":=
 .of (owner:="list_reverseiterator") (n:="__iter__") (by rw[typeLookup_type,builtinLookup_eq_fast];kernel_rfl) aE aE aE
  (by first|exact .inl aE|exact .inr aE) (by rw[isSubtype_type];kernel_rfl)
theorem O5:entryFor table "list_reverseiterator.__next__"=some Builtin.«list_reverseiterator.__next__»:=entryFor_of_fast (by kernel_rfl)
theorem zu1:entryFor table "list_reverseiterator.__iter__"=some Builtin.«dict_keyiterator.__iter__»:=
 entryFor_alias (id':="dict_keyiterator.__iter__") (by kernel_rfl) rfl aE (by kernel_rfl)
theorem J6(a:Value):argsOk "list_reverseiterator.__next__" ⟨[a],[]⟩:=by unfold argsOk;kernel_rfl
theorem zk1(a:Value):argsOk "list_reverseiterator.__iter__" ⟨[a],[]⟩:=by unfold argsOk;kernel_rfl
theorem D4:isSubtype (.type "list_reverseiterator") (.type "reversed")=pure false:=by rw[isSubtype_type];kernel_rfl
def IsRev(h:Heap)(a l:Addr)(k:Int):Prop:=∃o,h.get? a=some o/\o.cls= .type "list_reverseiterator"/\o.data= .fields #[.ref l,rawInt k]
section
variable {prog:Program}{w:World}{A:Around}{E:Value->Shared->Prop}{s:Shared}
theorem IsRev.ty{k:Int}(h:IsRev s.heap a l k):s.TypeIs (.ref a) "list_reverseiterator":=by obtain⟨o,e,c,d⟩:=h;exact⟨o,e,c⟩
theorem zo0{i:Nat}{items:Array Value}{Q:Option Value->Shared->Prop}(j:IsRev s.heap it l (i:Int))(U:s.heap.IsList l items)(O:items[i]? =some x)
  (Y:∀h',IsRev h' it l ((i:Int)-1)->Heap.SameBut it s.heap h'->Q (some x) { s with heap:=h' }):wpAny (model prog w) A (pyNext (.ref it)) Q E s:=by
 obtain⟨o,z,hc,hd⟩:=id j;obtain⟨Z,G,_,nl,N⟩:=U;unfold pyNext;refine aF (cT (ce (name:=Str.ofString "__next__") j.ty slot_lri_next
  (bM slot_lri_next j.ty O5 ?_ (J6 _))))
 show wpAny _ _ (field (.ref it) 1 >>= _) _ _ s;refine aF (cZ z hd (x:=rawInt (i:Int)) rfl ?_);show wpAny _ _ (if (i:Int)<0 then _ else _) _ _ s;rw[aI aA];show wpAny _ _ (field (.ref it) 0 >>= _) _ _ s;refine aF (cZ z hd (x:=.ref l) rfl ?_);show wpAny _ _ (seqItems? (.ref l) >>= _) _ _ s;refine aF (cv G N ?_);simp only[Int.toNat_natCast,O];refine aF (dz z hd aD (aH ⟨x,rfl,aH (Y _ ?_ (bW ..))⟩));exact⟨_,bK _ z (du (cf hd _)),(Obj.cls_mapFields ..).trans hc,by rw[cf hd];simp[rawInt]⟩
theorem zh2{k:Int}{Q:Option Value->Shared->Prop}(hh:A.handled=none)(j:IsRev s.heap it l k)(G:k<0)
  (N:∀h',Heap.ExtBut it s.heap h'->Q none { s with heap:=h' }):wpAny (model prog w) A (pyNext (.ref it)) Q E s:=by
 obtain⟨o,z,hc,hd⟩:=id j;unfold pyNext;refine aF (cT (ce (name:=Str.ofString "__next__") j.ty slot_lri_next
  (bM slot_lri_next j.ty O5 ?_ (J6 _))))
 show wpAny _ _ (field (.ref it) 1 >>= _) _ _ s;refine aF (cZ z hd (x:=rawInt k) rfl ?_);show wpAny _ _ (if k<0 then _ else _) _ _ s;rw[aJ G];refine aF (cB ?_);refine aF ?_;show wpAny _ _ (newExc (.type "StopIteration") [] >>= _) _ _ _;refine aF ?_;simp only[newExc,newTuple];refine aF (bY ?_ (by size_fits));refine aF (m:=firstArgMember _ _) (dh (a:=Value.none) (by first|rfl| (simp only[firstArgMember];rfl)) ?_);refine bY ?_ (by size_fits);simp only[raiseNew];refine aF (wpAny_handled ?_);rw[show A.in1.handled=none from hh];refine aF (aH (wpAny_throw ?_));refine aF (ez (T:="StopIteration") (b:=true) ⟨_,aX _ rfl,rfl⟩ isSubtype_stop ?_);exact aH (N _ (((Heap.ExtBut.refl it s.heap).push _).push _))
theorem yu2{k:Int}{Q:Value->Shared->Prop}(j:IsRev s.heap it l k)(h:Q (.ref it) s):wpAny (model prog w) A (pyIter (.ref it)) Q E s:=by refine wpAny_pyIter_slot j.ty M6 (bM M6 j.ty zu1 ?_ (zk1 _));show wpAny _ _ (ret (.ref it)) _ _ s;exact aH ⟨_,rfl,"list_reverseiterator",_,j.ty,slot_lri_next.lookup,h⟩
noncomputable def zg4(l:Addr)(k:Int):Obj:={ cls:=.type "list_reverseiterator",data:=.fields #[.ref l,rawInt k] }
theorem J2{items:Array Value}{Q:Value->Shared->Prop}(G:s.heap.IsList l items)
  (h:Q (.ref s.heap.objs.size) { s with heap:=s.heap.push (zg4 l (((items.size:Nat):Int)-1)) }):wpAny (model prog w) A (call (.builtin "list.__reversed__") [.ref l]) Q E s:=by
 obtain⟨N,j,hc,O,z⟩:=G;have hT:s.TypeIs (.ref l) "list":=⟨_,j,hc⟩;refine bM F.slot_list_reversed hT F.entry_list_reversed ?_ (F.args_list_reversed_1 _);unfold Builtin.«list.__reversed__»;refine aF (dh (a:=Value.ref l) rfl ?_);unfold Builtin.List.listItems;refine aF (aF (cv j z (aH ?_)));exact aF (bY (aH ⟨_,rfl,h⟩))
theorem K8{items:Array Value}{Q₁:Value->Shared->Prop}(z:s.heap.IsList l items)
  (h:Q₁ (.ref s.heap.objs.size) { s with heap:=s.heap.push (zg4 l (((items.size:Nat):Int)-1)) }):
  codeAny (model prog w) A (.call (.builtin "reversed.__new__") ⟨[.type "reversed",.ref l],[]⟩) (wants Q₁ E) s:=by
 have hT:s.TypeIs (.ref l) "list":=by obtain⟨N,j,hc,O,G⟩:=z;exact⟨_,j,hc⟩
 refine codeAny_of_tree ?_;show wpAny _ A.in1 (do checkBuiltinCall "reversed.__new__" ⟨[.type "reversed",.ref l],[]⟩;again (.builtin "reversed.__new__" ⟨[.type "reversed",.ref l],[]⟩)) _ _ s;refine aF (dh (F.newCall_reversed_1 _) (aH ⟨dq F.plain_reversed_new _,cz F.entry_reversed_new ?_⟩));rw[bU F.plain_reversed_new _];unfold Builtin.«reversed.__new__»;refine aF (dh (newClass_reversed _) ?_)
 try dsimp only
 refine aF (dh (a:=()) (by first|rfl|kernel_rfl) ?_);refine aF (dh (a:=()) (by first|rfl|kernel_rfl) ?_)
 try dsimp only
 refine aF (wpAny_specialOf hT F.slot_list_reversed.lookup ?_)
 try dsimp only
 refine aF (dh (F.slot_list_reversed.bind _) ?_)
 try dsimp only
 first
 |rw[aI (show ¬ ((Value.builtin "list.__reversed__"==Value.none)=true)from bf)]
 | (show wpAny _ _ (if (Value.builtin "list.__reversed__"==Value.none)=true then _ else _) _ _ _;rw[aI (show ¬ ((Value.builtin "list.__reversed__"==Value.none)=true)from bf)])
 refine aF (cB ?_);refine aF (m:=runValue (.call (.builtin "list.__reversed__") ⟨[.ref l],[]⟩)) (show wpAny _ _ (call (.builtin "list.__reversed__") [.ref l]) _ _ _ from J2 z ?_)
 first
 |exact aH h
 |exact aF (aH (aH h))
theorem J1{items:Array Value}{Q:Value->Shared->Prop}(z:s.heap.IsList l items)
  (h:Q (.ref s.heap.objs.size) { s with heap:=s.heap.push (zg4 l (((items.size:Nat):Int)-1)) }):wpAny (model prog w) A (call (.type "reversed") [.ref l]) Q E s:=by
 refine callType_other (U:="list_reverseiterator") (Q₁:=λobj j=>obj= .ref s.heap.objs.size/\j={ s with heap:=s.heap.push (zg4 l (((items.size:Nat):Int)-1)) }) aE F.create_reversed ⟨_,_,F.mro_reversed⟩ F.made_reversed D4 (F.typeCall_reversed_1 _) (K8 z ⟨rfl,rfl⟩) ?_;rintro obj j ⟨rfl,rfl⟩;exact⟨⟨_,aX _ rfl,rfl⟩,h⟩
end
noncomputable def ItlR(K:W.Frag)(a:Addr)(n:Nat):It:=
 ⟨λi H=>i<n/\∃xs x,SqL K H a xs/\xs[n-1-i]? =some x,λi H x H'=>H'=H/\∀xs,SqL K H a xs->xs[n-1-i]? =some x,λi H=>n<=i⟩
theorem yr7{P:Program}{w:World}{K:W.Frag}{tg:Expr}(a it:Addr)(n:Nat):Turn P w K tg (ItlR K a n) [it] it (λi h=>IsRev h it a ((n:Int)-1-(i:Nat))) where
 mem:=by simp
 obj:=λi h st b j=>by
  have e:b=it:=by simpa using j
  subst e;obtain⟨o,e,c,d⟩:=st;exact⟨o,e,λv z=>by rw[d]at z;cases z⟩
 keep:=λi h h' st k=>by obtain⟨o,e,c,d⟩:=st;exact⟨o,k it aD o e,c,d⟩
 item:=by
  intro X O hw U hc i pins s f H E I N st G;subst O hw U;obtain⟨hi,xs,x,hq,hx⟩:=G;obtain⟨its,rv,p,hz⟩:=I.list hq;obtain⟨u,hu,ru⟩:=rv.get hx;obtain⟨f0,f1,f2,f3,Z,Y⟩:=N it aD;have st:IsRev s.heap it a ((n-1-i:Nat):Int):=by rw[show ((n-1-i:Nat):Int)=(n:Int)-1-(i:Nat)by omega];exact st
  refine zo0 st p.isList (x:=u) (by simpa using hu) λh' st' sb=>?_;have I1:Inv X pins f H { s with heap:=h' }:=I.turned (t':=s.toks) (λb o j e=>(sb.2 b j).trans e) f0 f1 f3 Z Y;obtain⟨o,e,c,d⟩:=id st';refine⟨u,rfl,xq1 (s:={ s with heap:=h' }) e c d aC ⟨x,H,I1,ru,⟨rfl,λys hy=>by rw[I.list_inj hy hq];exact hx⟩,?_,λb j=>(N b j).1⟩⟩;rw[show (n:Int)-1-((i+1:Nat):Int)=((n-1-i:Nat):Int)-1 by omega];exact st'
 done:=by intro X O hw U hc i pins s f H E I N st G;subst O hw U;have G:n<=i:=G;obtain⟨f0,f1,f2,f3,Z,Y⟩:=N it aD;exact zh2 (I.ok.hd hc) st aB λh' eb=>⟨rfl,I.turned (t':=s.toks) (λb o j e=>eb b o j e) f0 f1 f3 Z Y⟩
 self:=λ_ _ _ _ _ st h=>yu2 st h
theorem yd3{K:W.Frag}{F:Hp}{p:Addr}{xs:List V}{ds:List D}(s:SqL K F p xs)(r:Reps K F xs ds):ItD K F (ItlR K p ds.length) ds.reverse where
 go:=λi F1 H1 a b hi=>by rw[length_reverse]at hi;obtain⟨v,e,_⟩:=r.get (aK (show ds.length-1-i<ds.length by omega));exact⟨hi,xs,v,b.seq (a.seq s),e⟩
 yld:=λi F1 H1 x H2 d a b e y=>by
  obtain⟨rfl,y⟩:=y;have hi:i<ds.length:=by
   have:=(bp.mp e).1
   rwa [length_reverse]at this
  rw[getElem?_reverse hi]at e;obtain⟨v,e1,e2⟩:=r.get e;have:=y xs (b.seq (a.seq s));rw[e1]at this;cases this;exact⟨F1,.refl b,e2.mono a⟩
 stop:=λF1 H1 a b=>by show ds.length<=ds.reverse.length;rw[length_reverse];exact aN _
noncomputable def revL:List D->Option (List D)
 |[.lst ds]=>some ds.reverse
 |_=>none
section
variable {X:Cx}
theorem xv8{p pos:Pos}(hg:Gl X "reversed")(hm:X.mg "reversed"=none)(ha:PAs X [a] m)(hs:starEach (a::[]) X.env=(false,eval a X.env)::starEach [] X.env:=by rfl)(Z:(backTo pos (starEach [] X.env)).any (·.1)=false:=by rfl):
  PId X tg (.Call (.Name "reversed" p) [a] [] pos) (m5 revL m):=by
 intro pins s d H R I h;obtain⟨F0,H0,F,c,its,rl,e,q⟩:=h;obtain⟨ds,h1,h2⟩:=Z8 e;have A:=ha pos pins s d H (λvs H1=>∃p xs es F1,vs=[.ref p]/\its=es.reverse/\SqL X.K F1 p xs/\Reps X.K F1 xs es/\Ext F H F1 H1) I ⟨F0,H0,F,c,ds,rl,h1,λvs F1 H1 G Y=>by
  unfold revL at h2;split at h2
  .rename_i es;cases h2;cases Y with
   |cons r rr=>
    cases rr;cases r with
    |lst N O=>exact⟨_,_,es,F1,rfl,rfl,N,O,G⟩
  .cases h2⟩
 refine Call_ (O4 I hg hm boot_reversed (bQ (thn A λus s1 j=>?_) hs Z));obtain⟨vs,H1,U,Y,q1⟩:=j;obtain⟨l,xs,es,F1,ev,ei,N,O,G⟩:=q1;subst ev ei;obtain⟨u,rfl,ru⟩:=A9 Y;cases ru;obtain⟨its',rv,pl,hz⟩:=U.list (G.fh.seq N);have hn:its'.toArray.size=es.length:=by rw[cg,<-rv.length,O.length]
 refine J1 pl.isList ?_;rw[hn];have z:IsRev (s1.heap.push (zg4 l ((es.length:Int)-1))) s1.heap.objs.size l ((es.length:Int)-1):=⟨_,aX _ rfl,rfl,rfl⟩;refine yu2 z ?_;refine⟨s1.heap.objs.size,[s1.heap.objs.size],_,_,_,rfl,U.kept (t':=s1.toks) λb o e=>aG _ e,yr7 l _ es.length,?_,λb hb=>?_,q _ F1 _ G (yd3 N O)⟩
 .show IsRev _ _ _ ((es.length:Int)-1-((0:Nat):Int));rw[show (es.length:Int)-1-((0:Nat):Int)=(es.length:Int)-1 by lia];exact z
 .have e:b=s1.heap.objs.size:=by simpa using hb
  subst e;exact U.fpOk (aN _) (U.hok.fresh (aN _))
end
section
variable {X:Cx}{a:Expr}{na:MEm}{pos:Pos}{ca:MBm}
end
section
variable {X:Cx}{a b:Expr}{m:ML}{pos:Pos}
@[irreducible] noncomputable def mpar(i j:Nat)(m:ML):MS:=λa=>match m a with |some [d1,d2]=>some (.nx ((a.set i (some (.sh d1))).set j (some (.sh d2))))|_=>none
theorem xf4{i j:Nat}{Y Z z}(hc:X.calm=true)(hN:X.N.Nodup)(hi:X.N[i]? =some x)(hj:X.N[j]? =some y)(a1:i≠j)
  (hx:X.env.scope.names.lookup x=some .local) (hy:X.env.scope.names.lookup y=some .local) (ha:PAs X [a,b] m)
  (hw:swappedStores [.Tuple [.Name x U,.Name y O] Y pt] (.Tuple [a,b] Z z) X.env=pure (some [x,y]))
  (hs:swapsWithSole [.Tuple [.Name x U,.Name y O] Y pt] (.Tuple [a,b] Z z) pos.line X.env=pure false:=by rfl):
  PSd X (.Assign [.Tuple [.Name x U,.Name y O] Y pt] (.Tuple [a,b] Z z) pos) (mpar i j m):=(wt2 hc hN hi hj a1 hx hy ha hw hs).imp λD d H h0=>by
 obtain⟨F0,H0,F,c,o,rl,e,ok⟩:=h0;unfold mpar at e;split at e
 .rename_i d1 d2 h1;cases e;refine⟨F0,H0,F,c,_,rl,h1,λvs F1 H1 x1 r1=>?_⟩;cases r1 with
  |cons r G=>
   cases G with
   |cons r2 G=>cases G;exact⟨_,_,rfl,ok F1 H1 _ (((rl.go x1).set r).set r2) x1.ff⟩
 .cases e
end
end L2
namespace L2
open List
open PySem
section
open PySem.Sem (wp)
end
end L2
namespace L2
open List
open PySem PySem.Spec PyProof.Rows
section
variable {M:Model}{A:Around}{E:Value->Shared->Prop}{s:Shared}{base:Heap}{env:Env}{outer:List Env}{L e:Addr}
end
end L2
namespace L2
open List
open PySem PySem.Spec PyProof.Rows PySem.W PySem.Builtin PySem.Builtin.ObjectAttr PySem.Builtin.Getset_descriptor
structure XCls(K:W.Frag)(C:Addr):Prop where
 ga:findIn K (.ref C) "__getattribute__"=some (some (.builtin "BaseException.__getattribute__"))
 nog:findIn K (.ref C) "__getattr__"=some none
 cl:findIn K (.ref C) "__class__"=some (some (.builtin "object.__class__"))
 ob:mroIn K C (.type "object")=some true
 be:mroIn K C (.type "BaseException")=some true
section
variable {prog:Program}{w:World}{A:Around}{E:Value->Shared->Prop}{K:W.Frag}{x C:Addr}{ox:Obj}{h:Heap}{g:Array GenState}{d:Drawn}{t:Nat}{os:OsState}
end
end L2
namespace L2
open List
open PySem PySem.Spec PyProof.Rows
structure Flown(P:Program)(w:World)(outer:List Env)(H:Hp)(s:Shared)(H':Hp)(B h':Heap):Prop where
 un:Un (frs outer) [] H H' s.heap h'
 ok:HOk P w H' h'
 st:B.StaysIn h'
 trk:∀b o,H' b=some o->∃ob,B.get? b=some ob
 old:∀b o,s.heap.get? b=some o->b∉frs outer->∃ob,B.get? b=some ob
section
variable {P:Program}{w:World}{outer:List Env}{H H':Hp}{s:Shared}{B h1 h2 base:Heap}
end
structure Top(X:Cx):Prop where
 stk:X.stack=X.env::X.outer
 frm:X.env.frame=some X.env.locals
 ex:X.ex=[]
section
variable {X:Cx}{pins:List (Addr×Obj)}{a:St}{H H':Hp}{s:Shared}{B h1:Heap}
end
def XC(K:W.Frag)(c:Str)(C:Addr):Prop:=W.nsIn K mainGlobals c=some (some (.ref C))/\wx9 K C=some c
section
variable {X:Cx}{pins:List (Addr×Obj)}{a:St}{H:Hp}{s:Shared}{W:Str->St->Hp->Prop}
end
section
variable {X:Cx}{pins pins':List (Addr×Obj)}{a:St}{H:Hp}{s:Shared}{E:Value->Shared->Prop}
variable (nx:X.xe=noE)
include nx
end
section
variable {X:Cx}{st:Stmt}{rest:List Stmt}{e c:Expr}{pos:Pos}
end
section
variable {X:Cx}{pins:List (Addr×Obj)}{E:Value->Shared->Prop}(nx:X.xe=noE)
include nx
end
section
variable {X:Cx}{e c:Expr}{pos:Pos}{st:Stmt}{rest:List Stmt}
end
section
variable {X:Cx}{pins:List (Addr×Obj)}{b:St}{H:Hp}{s:Shared}{a C:Addr}
end
section
variable {X:Cx}{pos np hpos:Pos}
end
structure RoomN(k:Nat)(A:Around):Prop where
 dp:A.depth+3*k+5<recursionLimit
 un:A.units+16*k+200<cLine
structure FnOkN(P:Program)(w:World)(K:W.Frag)(mg:Str->Option Value)(base:Heap)(CX:CXT)(k:Nat)(f:Addr)(fd:FuncData)(ps:List Str)(sp:Sp):Prop where
 len:∀vs H Q E,sp vs H Q E->vs.length=ps.length
 run:∀(A:Around)(outer:List Env)(s:Shared)(H:Hp)(args:Args)(us:List Value)(vs:List V)(Q:VK)(E:XK),RoomN k A->Env0 P w K mg base A outer s H->BindsTo s fd args (ps.zip us)->Vals vs us->sp vs H Q E->
  codeAny (model P w) A (.call (.ref f) args) (CR CX outer P w H s Q E) s
section
variable {X:Cx}{CX:CXT}{k:Nat}{f:Addr}{fd:FuncData}{ps:List Str}{sp:Sp}{dvs:List V}{ds:List Value}{E:XK}{x:Str}{p pos:Pos}{e:Expr}{es:List Expr}{t:TA}
end
section
variable {X:Cx}{a:Expr}{ma:ME}{pos:Pos}
noncomputable def allB:List D->Option (List Bool)
 |[]=>some []
 | .bl b::r=>(allB r).map (b::·)
 |_::_=>none
open PySem.SeqAt in
end
section
variable {X:Cx}{pos:Pos}
end
section
variable {X:Cx}{v:Expr}{mv:ME}{pos:Pos}
end
noncomputable def insI(a:Int):List Int->List Int
 |[]=>[a]
 |b::r=>if a<=b then a::b::r else b::insI a r
def zv8:List Int->List Int
 |[]=>[]
 |a::r=>insI a (zv8 r)
theorem zx5(a:Int):∀r,(insI a r).Perm (a::r)
 |[]=>.refl _
 |b::r=>by
  unfold insI;split
  .exact .refl _
  .exact((zx5 a r).cons b).trans (.swap a b r)
theorem P4:∀ns,(zv8 ns).Perm ns
 |[]=>.refl _
 |a::r=>(zx5 a _).trans ((P4 r).cons a)
theorem zx4(a:Int):∀r,r.Pairwise (·<=·)->(insI a r).Pairwise (·<=·)
 |[],_=>dj ..
 |b::r,h=>by
  have h':=bJ.mp h;unfold insI;split
  .rename_i hab;refine bJ.mpr ⟨λx j=>?_,h⟩;rcases ba.mp j with e|j
   .rw[e];exact hab
   .exact Int.le_trans hab (h'.1 x j)
  .rename_i hab;refine bJ.mpr ⟨λx j=>?_,zx4 a r h'.2⟩;rcases ba.mp ((zx5 a r).mem_iff.mp j)with e|j
   .rw[e];lia
   .exact h'.1 x j
theorem Q3:∀ns,(zv8 ns).Pairwise (·<=·)
 |[]=>.nil
 |a::r=>zx4 a _ (Q3 r)
theorem O9:∀{a b:List Int},a.Perm b->a.Pairwise (·<=·)->b.Pairwise (·<=·)->a=b
 |[],b,p,_,_=>(List.Perm.nil_eq p)
 |x::a,[],p,_,_=>aZ p.length_eq aD
 |x::a,y::b,p,ha,hb=>by
  have h1:=bJ.mp ha;have h2:=bJ.mp hb;have e:x=y:=by
   have m1:x∈y::b:=p.mem_iff.mp bV;have m2:y∈x::a:=p.mem_iff.mpr bV;rcases ba.mp m1 with e|m1
   .exact e
   .rcases ba.mp m2 with e|m2
    .exact e.symm
    .have:=h2.1 x m1;have:=h1.1 y m2;lia
  subst e;rw[O9 ((perm_cons x).mp p) h1.2 h2.2]
theorem zg8(ns:List Int):(zv8 ns).length=ns.length:=(P4 ns).length_eq
theorem zx0:∀{ns:List Int}{its:List Value},Vals (ns.map V.int) its->IntsAre its ns
 |[],_,.nil=>.nil
 |n::ns,_,.cons r t=>by obtain⟨k,rfl⟩:=r;exact .cons n k (zx0 t)
theorem zu8:∀{ns:List Int}{its:List Value},IntsAre its ns->Vals (ns.map V.int) its
 |[],_,.nil=>.nil
 |n::ns,_,.cons _ k t=>.cons ⟨k,rfl⟩ (zu8 t)
section
variable {X:Cx}{e:Expr}{pos:Pos}
end
section
variable {X:Cx}{pins:List (Addr×Obj)}{a:St}
end
inductive RPs (K:W.Frag)(F H:Hp):List Addr->List (List D)->Prop
 |nil:RPs K F H [] []
 |cons {q:Addr} {xs:List V} {ds:List D} {qs:List Addr} {dss:List (List D)}:H q=some (.lst xs)->Reps K F xs ds->RPs K F H qs dss->RPs K F H (q::qs) (ds::dss)
section
variable {K:W.Frag}{F H F' H':Hp}
theorem RPs.mono(e:Same F F')(k:Same H H'):∀{qs:List Addr}{dss:List (List D)},RPs K F H qs dss->RPs K F' H' qs dss
 |_,_,.nil=>.nil
 |_,_,.cons h r t=>.cons (k _ _ h) (r.mono e) (RPs.mono e k t)
theorem RPs.keep(e:Same F F'):∀{qs:List Addr}{dss:List (List D)},(∀q∈qs,∀o,H q=some o->H' q=some o)->RPs K F H qs dss->RPs K F' H' qs dss
 |_,_,_,.nil=>.nil
 |_,_,k,.cons h r t=>.cons (k _ bV _ h) (r.mono e) (RPs.keep e (λq j=>k q (bt _ j)) t)
theorem RPs.snoc{q:Addr}{xs:List V}{ds:List D}(h:H q=some (.lst xs))(r:Reps K F xs ds):∀{qs:List Addr}{dss:List (List D)},RPs K F H qs dss->RPs K F H (qs++[q]) (dss++[ds])
 |_,_,.nil=>.cons h r .nil
 |_,_,.cons a b t=>.cons a b (RPs.snoc h r t)
theorem RPs.length:∀{qs:List Addr}{dss:List (List D)},RPs K F H qs dss->qs.length=dss.length
 |_,_,.nil=>rfl
 |_,_,.cons _ _ t=>bi (·+1) (RPs.length t)
theorem RPs.some:∀{qs:List Addr}{dss:List (List D)},RPs K F H qs dss->∀q∈qs,∃o,H q=some o
 |_,_,.cons a _ t,q,j=>by
  rcases ba.mp j with e|j
  .rw[e];exact⟨_,a⟩
  .exact RPs.some t q j
end
abbrev MP:=Ro->Option (List (List D))
structure Pots(K:W.Frag)(H F' H':Hp)(p:Addr)(qs:List Addr)(dss:List (List D)):Prop where
 hp:H p=none
 fp:F' p=none
 at':H' p=some (.lst (qs.map V.ref))
 new:∀q∈qs,H q=none/\F' q=none
 nd:(p::qs).Nodup
 rep:RPs K F' H' qs dss
def TPt(K:W.Frag)(m:MP):TE:=λb H Q=>∃F0 H0 F a dss,Rl K F0 H0 F H b a/\m a=some dss/\∀p qs F' H',Ext F H F' H'->Pots K H F' H' p qs dss->Q (.ref p) H'
theorem Ext.stays{F H F' H':Hp}(x:Ext F H F' H')(z:F p=none)(j:H p=some o):F' p=none:=by
 cases q:F' p with
 |none=>rfl
 |some u=>have:=x.new p z (by rw[q];simp);rw[this]at j;cases j
section
variable {X:Cx}{a b c e:Expr}{pos:Pos}
def zu2(g:Tg)(elt:ML):List D->Ro->List (List D)->Option (List (List D))
 |[],_,acc=>some acc
 |it::its,a,acc=>match tgD g it a with
  |some ρ1=>(match elt ρ1 with
   |some ds=>if acc.length<sizeLine then zu2 g elt its ρ1 (acc++[ds])else none
   |none=>none)
  |none=>none
def zy7(src:List (Option Nat))(mi:ML)(g:Tg)(elt:ML):MP:=λa=>(mi a).bind λits=>zu2 g elt its (G8 src a) []
theorem xa6{K:W.Frag}{src:List (Option Nat)}(h:TPt K (zy7 src mi g a1) d H Q):zc1 src (TId K mi) (TGd K g) (TC K cyes) (TF K a1) d H Q:=by
 obtain⟨F0,H0,F,c,out,rl,e,q⟩:=h;unfold zy7 at e;cases h1:mi c with
 |none=>rw[h1]at e;cases e
 |some its=>
  rw[h1]at e;have e:zu2 g a1 its (G8 src c) []=some out:=e;refine⟨F0,H0,F,c,its,rl,h1,λJ F1 H1 x1 I=>?_⟩;intro p hp;obtain⟨rb,no⟩:=(rl.go x1).blk src;have af:F1 p=none:=x1.fh.free hp;refine⟨λi m ab H'=>∃F' ρ' acc qs,Rl K F1 H1 F' H' ab ρ'/\NoOwn ρ'/\H' p=some (.lst (qs.map V.ref))/\F' p=none/\RPs K F' H' qs acc/\(∀w∈qs,H1 w=none/\F' w=none)/\(p::qs).Nodup/\i<=its.length/\m=its.length-i/\zu2 g a1 (its.drop i) ρ' acc=some out,
   ⟨_,F1,G8 src c,[],[],rb.other no hp af,no,x8,af,.nil,(λw hw=>by cases hw),by simp,aY _,rfl,e⟩,?_⟩
  rintro i m ab H' ⟨F',ρ',acc,qs,j,ai,a3,a9,ra,N,a7,ao,rfl,G⟩;by_cases a8:i<its.length
  .right;have hd:=aK a8;refine⟨I.go i F' H' j.ext.ff j.fh a8,λaa H2=>∃F2 a2 O Z,Rl K F1 H1 F2 H2 aa a2/\NoOwn a2/\H2 p=some (.lst (Z.map V.ref))/\F2 p=none/\RPs K F2 H2 Z O/\(∀w∈Z,H1 w=none/\F2 w=none)/\(p::Z).Nodup/\zu2 g a1 (its.drop (i+1)) a2 O=some out,?_,λx H2 y=>?_⟩
   .rintro aa H2 ⟨F2,a2,O,Z,b1,b2,b3,b4,b5,b6,b7,b8⟩;exact⟨its.length-(i+1),aB,F2,a2,O,Z,b1,b2,b3,b4,b5,b6,b7,a8,rfl,b8⟩
   .obtain⟨F2,x2,r2⟩:=I.yld i F' H' x H2 _ j.ext.ff j.fh hd y;rw[B0 hd]at G;unfold zu2 at G;cases h2:tgD g its[i] ρ' with
    |none=>simp only[h2]at G;cases G
    |some ρ1=>
     simp only[h2]at G;refine⟨F1,H1,F2,ρ',_,ρ1,j.go x2,r2,h2,λF3 H3 an a4 x3=>?_⟩;have ac:=ai.tg h2;have ag:=x2.trans x3;refine⟨F1,H1,F3,ρ1,true,a4,rfl,λF4 H4 x4=>iteT ?_⟩;have a5:=ag.trans x4;cases h4:a1 ρ1 with
     |none=>simp only[h4]at G;cases G
     |some ds=>
      simp only[h4]at G;split at G
      .rename_i hz;refine⟨F1,H1,F4,ρ1,ds,a4.go x4,h4,λw xs F5 H5 x5 hw al ak r5=>?_⟩;have Y:=a5.trans x5;have am:=Y.hh _ _ a3;have ad:w≠p:=λz=>by rw[z,a5.hh _ _ a3]at hw;cases hw
       have ah:RPs K F5 H5 qs acc:=ra.mono Y.ff Y.hh;have aj:w∉qs:=λz=>by obtain⟨o,ho⟩:=ra.some w z;rw[a5.hh _ _ ho]at hw;cases hw
       refine⟨qs.map V.ref,am,by rw[aW,ra.length];exact hz,F5,ρ1,acc++[ds],qs++[w],((a4.go x4).go x5).other ac hp (Y.stays a9 a3),ac,by rw[x8,cm];rfl,Y.stays a9 a3,?_,λz a6=>?_,?_,G⟩
       .refine((ah.snoc ak r5)).keep (Same.refl _) λz a6 o ho=>?_;have:z≠p:=by
         rcases bA.mp a6 with U|U
         .exact λzz=>(bC.mp a7).1 (zz ▸ U)
         .rw[bm.mp U];exact ad
        rw[x9 this];exact ho
       .rcases bA.mp a6 with U|U
        .obtain⟨o,ho⟩:=ra.some z U;exact⟨(N z U).1,Y.stays (N z U).2 ho⟩
        .rw[bm.mp U];exact⟨(a4.go x4).ext.hh.free hw,al⟩
       .have hn:=bC.mp a7;refine bC.mpr ⟨λz=>?_,cP.mpr ⟨hn.2,by simp,λa ha b hb=>?_⟩⟩
        .rcases bA.mp z with U|U
         .exact hn.1 U
         .exact ad (bm.mp U).symm
        .rw[bm.mp hb];exact λzz=>aj (zz ▸ ha)
      .cases G
  .left;have ae:i=its.length:=aB;subst ae;rw[drop_length]at G;have G:some acc=some out:=G;cases G;exact⟨I.stop F' H' j.ext.ff j.fh,q p qs F' H' (x1.trans j.ext) ⟨x1.hh.free hp,a9,a3,λw hw=>⟨x1.hh.free (N w hw).1,(N w hw).2⟩,a7,ra⟩⟩
end
section
variable {K:W.Frag}{F0 H0 H0' F H:Hp}{b:St}{a:Ro}
end
section
variable {X:Cx}{a b c e:Expr}{pos:Pos}{st:Stmt}
variable {E:XK}{es:List Expr}{m:ML}
end
section
variable {K:W.Frag}{F0 H0 F H:Hp}{b:St}{a:Ro}
end
section
variable {X:Cx}{a b:Expr}{ma mb:ME}{pos:Pos}
end
section
variable {X:Cx}{a b:Expr}
open PySem.SeqAt in
end
section
variable {X:Cx}{a b c e o:Expr}{ma mb mo:ME}{pos:Pos}{st:Stmt}
end
open Classical in
section
variable {X:Cx}{pos:Pos}
end
section
variable {X:Cx}{st:Stmt}
end
inductive Fl where
 |v (d:D)|l (ds:List D)
inductive Cell where
 |ins (c:Str) (ns:List Str) (fs:List Fl)
 |row (fs:List Fl)
 |tb (P:Addr) (mw:Str) (pos:Pos) (q:Str)
def wj3(c:Addr)(q:Str):Heap->Prop:=λh=>h.CodeRec (.ref c) q
structure CodeT(K:W.Frag)(cdv:Value)(P:Addr):Prop where
 hd:∃c,cdv= .ref c/\∀h:Heap,K.In h->W.CodeHd h c P
 ne:mainGlobals≠P
def TabF(K:W.Frag)(mw:Str)(P:Addr):Prop:=∃f oc od fd sl,W.nsIn K mainGlobals mw=some (some (.ref f))/\K.lookup f=some ⟨oc,od,.func fd,sl⟩/\CodeT K fd.code P
noncomputable abbrev Bx:=List (Addr×Cell)
inductive FlR (K:W.Frag)(F B:Hp):List Addr->List V->List Fl->Prop
 |nil:FlR K F B [] [] []
 |v {fp:List Addr} {x:V} {d:D} {xs:List V} {fs:List Fl}:Rep K F x d->FlR K F B fp xs fs->FlR K F B fp (x::xs) (.v d::fs)
 |l {fp:List Addr} {q:Addr} {ys:List V} {ds:List D} {xs:List V} {fs:List Fl}:B q=some (.lst ys)->Reps K F ys ds->FlR K F B fp xs fs->FlR K F B (q::fp) (.ref q::xs) (.l ds::fs)
inductive CellR (K:W.Frag)(F B:Hp):List Addr->Addr->Cell->Prop
 |ins {fp:List Addr} {p dx C:Addr} {c:Str} {ns:List Str} {xs:List V} {fs:List Fl}:W.nsIn K mainGlobals c=some (some (.ref C))->ns.length=xs.length->B p=some (.ins C dx (ns.zip xs))->B dx=some (.own p)->FlR K F B fp xs fs->
   CellR K F B (p::dx::fp) p (.ins c ns fs)
 |row {fp:List Addr} {p:Addr} {xs:List V} {fs:List Fl}:B p=some (.lst xs)->FlR K F B fp xs fs->CellR K F B (p::fp) p (.row fs)
 |tb {P:Addr} {mw:Str} {pos:Pos} {q:Str} {ps:Array Value}:TabF K mw P->B P=some (.tbl ps)->TriplesOk ps.toList->(codeAmong pos ps.toList=none\/∃c,codeAmong pos ps.toList=some (.ref c)/\F c=some (.ext (wj3 c q)))->CellR K F B [P] P (.tb P mw pos q)
inductive BxR (K:W.Frag)(F B:Hp):List Addr->Bx->Prop
 |nil:BxR K F B [] []
 |cons {fp fq:List Addr} {p:Addr} {c:Cell} {β:Bx}:CellR K F B fp p c->BxR K F B fq β->BxR K F B (fp++fq) ((p,c)::β)
section
variable {K:W.Frag}{F F' B B':Hp}
theorem FlR.mono(e:Same F F')(h:FlR K F B fp xs fs)(k:∀a∈fp,B' a=B a):FlR K F' B' fp xs fs:=by
 induction h with
 |nil=>exact .nil
 |v r _ j=>exact .v (r.mono e) (j k)
 |l b r _ j=>exact .l (by rw[k _ aD];exact b) (r.mono e) (j λa ha=>k a (bt _ ha))
theorem CellR.mono(e:Same F F')(h:CellR K F B fp p c)(k:∀a∈fp,B' a=B a):CellR K F' B' fp p c:=by
 cases h with
 |ins a l b d r=>exact .ins a l (by rw[k _ aD];exact b) (by rw[k _ aD];exact d) (r.mono e λa ha=>k a (by simp[ha]))
 |row b r=>exact .row (by rw[k _ aD];exact b) (r.mono e λa ha=>k a (by simp[ha]))
 |tb a b t h=>exact .tb a (by rw[k _ aD];exact b) t (h.imp id λ⟨c,h1,h2⟩=>⟨c,h1,e _ _ h2⟩)
theorem BxR.mono(e:Same F F')(h:BxR K F B fp b)(k:∀a∈fp,B' a=B a):BxR K F' B' fp b:=by
 induction h with
 |nil=>exact .nil
 |cons c _ j=>exact .cons (c.mono e λa ha=>k a (by simp[ha])) (j λa ha=>k a (by simp[ha]))
theorem FlR.mem(h:FlR K F B fp xs fs):∀a∈fp,B a≠none:=by
 induction h with
 |nil=>intro a ha;cases ha
 |v _ _ j=>exact j
 |l b _ _ j=>
  intro a ha;rcases ba.mp ha with rfl|ha
  .rw[b];simp
  .exact j a ha
theorem CellR.mem(h:CellR K F B fp p c):∀a∈fp,B a≠none:=by
 intro a ha;cases h with
 |ins _ _ b d r=>
  rcases ba.mp ha with rfl|ha
  .rw[b];simp
  .rcases ba.mp ha with rfl|ha
   .rw[d];simp
   .exact r.mem a ha
 |row b r=>
  rcases ba.mp ha with rfl|ha
  .rw[b];simp
  .exact r.mem a ha
 |tb _ b _ _=>rw[bm.mp ha,b];simp
theorem BxR.mem(h:BxR K F B fp b):∀a∈fp,B a≠none:=by
 induction h with
 |nil=>intro a ha;cases ha
 |cons c _ j=>
  intro a ha;rcases bA.mp ha with ha|ha
  .exact c.mem a ha
  .exact j a ha
end
noncomputable def jn(H0 B:Hp):Hp:=λa=>match B a with |some o=>some o|none=>H0 a
theorem Z9(h:B a=some o):jn H0 B a=some o:=by unfold jn;rw[h]
theorem W5(h:B a=none):jn H0 B a=H0 a:=by unfold jn;rw[h]
theorem Z4(h:jn H0 B a=none):B a=none/\H0 a=none:=by
 cases b:B a with
 |none=>rw[W5 b]at h;exact⟨rfl,h⟩
 |some o=>rw[Z9 b]at h;cases h
structure BxOk(K:W.Frag)(F0 H0 F B:Hp)(fp:List Addr)(β:Bx):Prop where
 out:∀a,B a≠none->H0 a=none/\F0 a=none
 bx:BxR K F B fp β
 nd:fp.Nodup
 plain:∀a o u,B a≠some (.frz o u)
theorem BxOk.mono{K:W.Frag}{F0 H0 F F' B:Hp}(h:BxOk K F0 H0 F B fp a)(e:Same F F'):BxOk K F0 H0 F' B fp a:=⟨h.out,h.bx.mono e λ_ _=>rfl,h.nd,h.plain⟩
def RlW(K:W.Frag)(F0 H0 F H:Hp)(b:St)(a:Ro)(c:Bx):Prop:=∃B fp,Rl K F0 (jn H0 B) F H b a/\BxOk K F0 H0 F B fp c
abbrev MW:=Ro->Bx->Option (Out×Bx)
def okW(K:W.Frag)(F0 H0 Fb:Hp)(Dn:Ends):Out->Bx->Prop
 | .nx a,c=>∀F H b,RlW K F0 H0 F H b a c->Same Fb F->Dn.nx b H
 | .bk a,c=>∀F H b,RlW K F0 H0 F H b a c->Same Fb F->Dn.bk b H
 | .ct a,c=>∀F H b,RlW K F0 H0 F H b a c->Same Fb F->Dn.ct b H
 | .rt d,c=>∀v F H B fp,Ext F0 (jn H0 B) F H->BxOk K F0 H0 F B fp c->Rep K F v d->Dn.rt v H
 | .rf ds,c=>∀p xs F H B fp,Ext F0 (jn H0 B) F H->BxOk K F0 H0 F B fp c->jn H0 B p=none->F p=none->H p=some (.lst xs)->Reps K F xs ds->Dn.rt (.ref p) H
 | .rg d p r,c=>∀v F H xs B fp,Ext F0 (jn H0 B) F H->BxOk K F0 H0 F B fp c->Rep K F v d->jn H0 B p=none->F p=none->H p=some (.lst xs)->Reps K F xs r->Dn.rt v H
 | .rp _ _,_=>False
 | .rgf _ _ _,_=>False
theorem okW.mono{K:W.Frag}{F0 H0 z j:Hp}{Dn:Ends}(s:Same z j):∀{o:Out}{b:Bx},okW K F0 H0 z Dn o b->okW K F0 H0 j Dn o b
 | .nx _,_,h=>λF H a rl q=>h F H a rl (s.trans q)
 | .bk _,_,h=>λF H a rl q=>h F H a rl (s.trans q)
 | .ct _,_,h=>λF H a rl q=>h F H a rl (s.trans q)
 | .rt _,_,h=>h
 | .rf _,_,h=>h
 | .rp _ _,_,h=>h
 | .rg _ _ _,_,h=>h
 | .rgf _ _ _,_,h=>h
def TSw(K:W.Frag)(m:MW):TS:=λDn b H=>∃F0 H0 F a c o β',RlW K F0 H0 F H b a c/\m a c=some (o,β')/\okW K F0 H0 F Dn o β'
def TDw(K:W.Frag)(m:Ro->Bx->Option D):TE:=λb H Q=>∃F0 H0 F a c d,RlW K F0 H0 F H b a c/\m a c=some d/\∀v F' H',RlW K F0 H0 F' H' b a c->Same F F'->Same H H'->Rep K F' v d->Q v H'
def TCw(K:W.Frag)(m:Ro->Bx->Option Bool):TT:=λc H Q=>∃F0 H0 F a d b,RlW K F0 H0 F H c a d/\m a d=some b/\∀F' H',RlW K F0 H0 F' H' c a d->Same F F'->Q b H'
def PSw(X:Cx)(st:Stmt)(m:MW):Prop:=PS X st (TSw X.K m)
def PSsw(X:Cx)(st:List Stmt)(m:MW):Prop:=PSs X st (TSw X.K m)
def PDw(X:Cx)(e:Expr)(m:Ro->Bx->Option D):Prop:=PE X e (TDw X.K m)
def PCw'(X:Cx)(e:Expr)(m:Ro->Bx->Option Bool):Prop:=PT X e (TCw X.K m)
section
variable {X:Cx}{a b c e:Expr}{pos:Pos}{st:Stmt}{rest:List Stmt}
noncomputable def wS(m:MS):MW:=λa b=>match m a with |some (.nx ρ')=>some (.nx ρ',b)|some (.bk ρ')=>some (.bk ρ',b)|some (.ct ρ')=>some (.ct ρ',b)|_=>none
noncomputable def wE{α:Type}(m:Ro->Option α):Ro->Bx->Option α:=λa _=>m a
theorem psw(h:PSd X st m):PSw X st (wS m):=PS.imp h λDn b H ⟨F0,H0,F,a,c,o,β',⟨B,fp,rl,ok⟩,e,k⟩=>by
 unfold wS at e;split at e
 .rename_i ρ' h1;cases e;exact⟨F0,jn H0 B,F,a,_,rl,h1,λF' H' j z G=>k F' H' j ⟨B,fp,z,ok.mono G⟩ G⟩
 .rename_i ρ' h1;cases e;exact⟨F0,jn H0 B,F,a,_,rl,h1,λF' H' j z G=>k F' H' j ⟨B,fp,z,ok.mono G⟩ G⟩
 .rename_i ρ' h1;cases e;exact⟨F0,jn H0 B,F,a,_,rl,h1,λF' H' j z G=>k F' H' j ⟨B,fp,z,ok.mono G⟩ G⟩
 .cases e
theorem pdw(h:PD X e m):PDw X e (wE m):=PE.imp h λb H Q ⟨F0,H0,F,a,c,d,⟨B,fp,rl,ok⟩,e,q⟩=>
 ⟨F0,jn H0 B,F,a,d,rl,e,λv F' H' x r=>q v F' H' ⟨B,fp,rl.go x,ok.mono x.ff⟩ x.ff x.hh r⟩
theorem pcw(h:PC' X e m):PCw' X e (wE m):=PT.imp h λb H Q ⟨F0,H0,F,a,c,d,⟨B,fp,rl,ok⟩,e,q⟩=>
 ⟨F0,jn H0 B,F,a,d,rl,e,λF' H' x=>q F' H' ⟨B,fp,rl.go x,ok.mono x.ff⟩ x.ff⟩
noncomputable def zb5(x y:MW):MW:=λa b=>match x a b with |some (.nx ρ',β')=>y ρ' β'|o=>o
theorem C3(h:PSw X st m):PSsw X [st] m:=yj9 h
theorem xv3:PSsw X [] (wS f7):=PSs.imp pss_nil λDn b H ⟨F0,H0,F,a,c,o,β',⟨B,fp,rl,ok⟩,e,k⟩=>by cases e;exact k F H b ⟨B,fp,rl,ok⟩ (Same.refl _)
theorem zz7{m1 m2':MW}(h1:PSw X st m1)(h2:PSsw X rest m2'):PSsw X (st::rest) (zb5 m1 m2'):=PSs.imp (zp0 h1 h2) λD b H G=>by
 obtain⟨F0,H0,F,a,c,o,β',j,e,ok⟩:=G;unfold zb5 at e;cases h:m1 a c with
 |none=>rw[h]at e;cases e
 |some ob=>
  obtain⟨Y,z⟩:=ob;rw[h]at e;cases Y with
  |nx ρ1=>exact⟨F0,H0,F,a,c,_,z,j,h,λF' H' O N U=>⟨F0,H0,F',ρ1,z,o,β',N,e,ok.mono U⟩⟩
  |bk ρ1=>cases e;exact⟨F0,H0,F,a,c,_,_,j,h,ok⟩
  |ct ρ1=>cases e;exact⟨F0,H0,F,a,c,_,_,j,h,ok⟩
  |rt d=>cases e;exact⟨F0,H0,F,a,c,_,_,j,h,ok⟩
  |rf d=>cases e;exact⟨F0,H0,F,a,c,_,_,j,h,ok⟩
  |rp d ds=>cases e;exact⟨F0,H0,F,a,c,_,_,j,h,ok⟩
  |rg d p r=>cases e;exact⟨F0,H0,F,a,c,_,_,j,h,ok⟩
  |rgf d p r=>cases e;exact⟨F0,H0,F,a,c,_,_,j,h,ok⟩
noncomputable def mifW(c:Ro->Bx->Option Bool)(x y:MW):MW:=λa b=>match c a b with |some true=>x a b|some false=>y a b|none=>none
theorem wt1{ca:Ro->Bx->Option Bool}(hc:PCw' X c ca)(Y:PSsw X x mx)(U:PSsw X y O):PSw X (.If c x y pos) (mifW ca mx O):=PS.imp (xf6 hc Y U) λD b H z=>by
 obtain⟨F0,H0,F,a,d,o,β',j,e,ok⟩:=z;unfold mifW at e;split at e
 .rename_i h1;exact⟨F0,H0,F,a,d,_,j,h1,λF1 H1 N G=>iteT ⟨F0,H0,F1,a,d,o,β',N,e,ok.mono G⟩⟩
 .rename_i h1;exact⟨F0,H0,F,a,d,_,j,h1,λF1 H1 N G=>iteF ⟨F0,H0,F1,a,d,o,β',N,e,ok.mono G⟩⟩
 .cases e
noncomputable def xc2(x:Ro->Bx->Option D):MW:=λa b=>(x a b).map λd=>(.rt d,b)
theorem xf3{ma:Ro->Bx->Option D}(h:PS X st (tRet (TDw X.K ma))):PSw X st (xc2 ma):=PS.imp h λD b H j=>by
 obtain⟨F0,H0,F,a,c,o,β',z,e,ok⟩:=j;unfold xc2 at e;cases h1:ma a c with
 |none=>rw[h1]at e;cases e
 |some d=>rw[h1]at e;cases e;refine⟨F0,H0,F,a,c,d,z,h1,λv F1 H1 G N _ rp=>?_⟩;obtain⟨B,fp,rl,k⟩:=G;exact ok v F1 H1 B fp rl.ext k rp
def forW(g:Tg)(body:MW):List D->MW
 |[],a,b=>some (.nx a,b)
 |d::ds,a,b=>match tgD g d a with
  |some ρ1=>match body ρ1 b with
   |some (.nx ρ2,β2)=>forW g body ds ρ2 β2
   |some (.ct ρ2,β2)=>forW g body ds ρ2 β2
   |some (.bk ρ2,β2)=>some (.nx ρ2,β2)
   |o=>o
  |none=>none
def yq9(mi:ML)(g:Tg)(body:MW):MW:=λa b=>(mi a).bind λits=>forW g body its a b
theorem yj7{tg iter:Expr}{body:List Stmt}(hp:PassesOwn (model X.prog X.w) X.A X.env X.xe)(hc:X.calm=true)(hi:PId X tg iter mi)(hg:PGd X tg g)(hb:PSsw X body mb)
  (hs:∀x,foldedSetIterable iter X.env x=pure x:=by intro _;rfl):PSw X (.For tg iter body [] pos) (yq9 mi g mb):=PS.imp (xn5 hp hc hi hg hb hs) λDn b H ⟨F0,H0,F,a,c,o,β',⟨B,fp,rl,ok⟩,e,k⟩=>by
 unfold yq9 at e;cases h1:mi a with
 |none=>rw[h1]at e;cases e
 |some its=>
  rw[h1]at e;have e:forW g mb its a c=some (o,β'):=e;refine⟨F0,jn H0 B,F,a,its,rl,h1,λJ F1 H1 Y I=>?_⟩;refine⟨λi m a2 H'=>∃F' ρ' N,RlW X.K F0 H0 F' H' a2 ρ' N/\Same F1 F'/\i<=its.length/\m=its.length-i/\forW g mb (its.drop i) ρ' N=some (o,β'),⟨_,F1,a,c,⟨B,fp,rl.go Y,ok.mono Y.ff⟩,Same.refl _,aY _,rfl,e⟩,?_⟩;rintro i m a2 H' ⟨F',ρ',N,⟨B1,a7,U,a5⟩,sf,aa,rfl,j⟩;by_cases a3:i<its.length
  .right;have hd:=aK a3;refine⟨I.go i F' H' sf U.fh a3,λa4 H2=>∃F2 z G,RlW X.K F0 H0 F2 H2 a4 z G/\Same F1 F2/\forW g mb (its.drop (i+1)) z G=some (o,β'),?_,λx H2 y=>?_⟩
   .rintro a4 H2 ⟨F2,z,G,rl2,sf2,e2⟩;exact⟨its.length-(i+1),aB,F2,z,G,rl2,sf2,a3,rfl,e2⟩
   .obtain⟨F2,x2,r2⟩:=I.yld i F' H' x H2 _ sf U.fh hd y;rw[B0 hd]at j;unfold forW at j;cases h2:tgD g its[i] ρ' with
    |none=>simp only[h2]at j;cases j
    |some ρ1=>
     simp only[h2]at j;refine⟨F0,jn H0 B1,F2,ρ',_,ρ1,U.go x2,r2,h2,λF3 H3 a9 a8 x3=>?_⟩;have Z:Same F1 F3:=(sf.trans x2.ff).trans x3.ff;cases h3:mb ρ1 N with
     |none=>simp only[h3]at j;cases j
     |some ob=>
      obtain⟨o1,G⟩:=ob;simp only[h3]at j;refine⟨F0,H0,F3,ρ1,N,o1,G,⟨B1,a7,a8,a5.mono (x2.ff.trans x3.ff)⟩,h3,?_⟩;cases o1 with
      |nx z=>exact λF5 H5 a1 O s5=>⟨F5,z,G,O,Z.trans s5,j⟩
      |ct z=>exact λF5 H5 a1 O s5=>⟨F5,z,G,O,Z.trans s5,j⟩
      |bk z=>cases j;exact λF5 H5 a1 O s5=>k F5 H5 a1 O ((Y.ff.trans Z).trans s5)
      |rt d=>cases j;exact k.mono (Y.ff.trans Z)
      |rf d=>cases j;exact k.mono (Y.ff.trans Z)
      |rp d ds=>cases j;exact k.mono (Y.ff.trans Z)
      |rg d p r=>cases j;exact k.mono (Y.ff.trans Z)
      |rgf d p r=>cases j;exact k.mono (Y.ff.trans Z)
  .left;have a6:i=its.length:=aB;subst a6;rw[drop_length]at j;have j:some (Out.nx ρ',N)=some (o,β'):=j;cases j;exact⟨I.stop F' H' sf U.fh,k F' H' a2 ⟨B1,a7,U,a5⟩ (Y.ff.trans sf)⟩
noncomputable def flD:Fl->D
 | .v d=>d
 | .l ds=>.lst ds
def xa9:Cell->D
 | .ins c ns fs=>.obj c ns (fs.map flD)
 | .row fs=>.lst (fs.map flD)
 | .tb P _ _ _=>.ptr P
def thawD(a:Bx):D->D
 | .ptr p=>match a.lookup p with |some c=>xa9 c|none=>.ptr p
 |d=>d
def zr5(a:Bx):Option S->Option S
 |some (.sh (.ptr p))=>match a.lookup p with |some c=>some (.sh (xa9 c))|none=>some (.sh (.ptr p))
 |some (.sh (.tup ds))=>some (.sh (.tup (ds.map (thawD a))))
 |x=>x
def thaw(a:Ro)(b:Bx):Ro:=a.map (zr5 b)
end
section
variable {K:W.Frag}{F0 H0 F H B:Hp}{g:St}{f:Ro}{k:Bx}{fp:List Addr}
theorem FlR.rep(z:Same F G)(N:Same B G)(h:FlR K F B fp xs fs):Reps K G xs (fs.map flD):=by
 induction h with
 |nil=>exact .nil
 |v r _ j=>exact .cons (r.mono z) j
 |l b r _ j=>exact .cons (.lst (SqL.of (N _ _ b)) (r.mono z)) j
theorem CellR.rep(z:Same F G)(j:Same B G)(h:CellR K F B fp p c):Rep K G (.ref p) (xa9 c):=by
 cases h with
 |ins a l b d r=>exact .obj a l (j _ _ b) (j _ _ d) (r.rep z j)
 |row b r=>exact .lst (SqL.of (j _ _ b)) (r.rep z j)
 |tb _ _ _ _=>exact .ptr _
theorem BxR.at'{p:Addr}{c:Cell}:∀{fp:List Addr}{k:Bx},BxR K F B fp k->k.lookup p=some c->∃fq,CellR K F B fq p c
 |_,_,.nil,e=>by cases e
 |_,_,.cons (p:=q) h r,e=>by
  rw[lookup_cons]at e;split at e
  .rename_i z;have z:=beq_iff_eq.mp z;subst z;cases e;exact⟨_,h⟩
  .exact r.at' e
theorem Rep.thawD(j:Same F G)(O:Same B G)(N:BxR K F B fp k)(h:Rep K F v d):Rep K G v (L2.thawD k d):=by
 cases d with
 |ptr p=>
  cases h;cases hc:k.lookup p with
  |none=>simp only[L2.thawD,hc];exact .ptr p
  |some c=>obtain⟨fq,z⟩:=N.at' hc;simp only[L2.thawD,hc];exact z.rep j O
 |_=>exact h.mono j
theorem Reps.thawD{G:Hp}(z:Same F G)(N:Same B G)(j:BxR K F B fp k):∀{xs:List V}{ds:List D},Reps K F xs ds->Reps K G xs (ds.map (L2.thawD k))
 |_,_,.nil=>.nil
 |_,_,.cons h r=>.cons (h.thawD z N j) (Reps.thawD z N j r)
theorem RlW.frozen(rl:Rl K F0 (jn H0 B) F H g f)(ok:BxOk K F0 H0 F B fp k):Rl K (jn F0 B) (jn H0 B) (jn F B) H g (thaw f k)/\Same F (jn F B):=by
 have bh:Same B H:=λa o e=>rl.ext.hh a o (Z9 e);have fn:∀a,B a≠none->F a=none:=λa h=>by
  cases q:F a with
  |none=>rfl
  |some o=>have:=rl.ext.new a (ok.out a h).2 (by rw[q];simp);exact aZ (Z4 this).1 h
 have Y:Same F (jn F B):=λa o e=>by
  cases q:B a with
  |none=>rw[W5 q];exact e
  |some u=>rw[fn a (by rw[q];simp)]at e;cases e
 have bj:Same B (jn F B):=λa o e=>Z9 e;have G:∀(i:Nat) x,(thaw f k)[i]? =some x->∃y,f[i]? =some y/\x=zr5 k y:=λi x e=>by
  unfold thaw at e;rw[bF]at e;cases q:f[i]? with
  |none=>rw[q]at e;cases e
  |some y=>rw[q]at e;cases e;exact⟨y,rfl,rfl⟩
 have tO:∀{y:Option S}{ds:List D},some (.own ds)=zr5 k y->y=some (.own ds):=λ{y ds} e=>by
  unfold zr5 at e;split at e
  .split at e <;> cases e
  .cases e
  .exact e.symm
 have tB:∀{y:Option S}{p:Addr}{ds:List D},some (.ob p ds)=zr5 k y->y=some (.ob p ds):=λ{y p ds} e=>by
  unfold zr5 at e;split at e
  .split at e <;> cases e
  .cases e
  .exact e.symm
 have z:∀(i:Nat) ds,(thaw f k)[i]? =some (some (.own ds))->f[i]? =some (some (.own ds)):=λi ds e=>by obtain⟨y,e1,e2⟩:=G i _ e;rw[e1,tO e2]
 have O:∀(i:Nat) p ds,(thaw f k)[i]? =some (some (.ob p ds))->f[i]? =some (some (.ob p ds)):=λi p ds e=>by obtain⟨y,e1,e2⟩:=G i _ e;rw[e1,tB e2]
 have jf:∀p,F p=none->jn H0 B p=none->jn F B p=none:=λp h h2=>by rw[W5 (Z4 h2).1];exact h
 refine⟨⟨⟨λa o e=>?_,rl.ext.hh,λa o e=>?_,λb e n=>?_,λb o u e=>?_⟩,by unfold thaw;rw[aW];exact rl.len,λi d e=>?_,λi ds e=>?_,λi j p ds es Z e1 e2 e3 e4=>rl.inj i j p ds es Z (z i ds e1) (z j es e2) e3 e4,λi p ds e=>?_,λi j p ds es e1 e2 e3=>rl.obn i j p ds es (O i p ds e1) (z j es e2) e3,λi j p q ds es e1 e2=>rl.ob1 i j p q ds es (O i p ds e1) (O j q es e2)⟩,Y⟩
 .cases q:B a with
  |none=>rw[W5 q]at e;rw[W5 q];exact rl.ext.ff a o e
  |some u=>rw[Z9 q]at e;rw[Z9 q];exact e
 .cases q:B a with
  |none=>rw[W5 q]at e;exact rl.ext.fh a o e
  |some u=>rw[Z9 q]at e;cases e;exact bh a _ q
 .obtain⟨e1,e2⟩:=Z4 e;rw[W5 e1]at n;exact rl.ext.new b e2 n
 .cases q:B b with
  |none=>rw[W5 q]at e ⊢;exact rl.ext.nf b o u e
  |some w=>rw[Z9 q]at e ⊢;exact e
 .obtain⟨y,e1,e2⟩:=G i _ e;unfold zr5 at e2;split at e2
  .rename_i p;obtain⟨v,N,U⟩:=rl.sh i _ e1;cases U;split at e2
   .rename_i c hc;cases e2;obtain⟨fq,hq⟩:=ok.bx.at' hc;exact⟨_,N,hq.rep Y bj⟩
   .cases e2;exact⟨_,N,.ptr p⟩
  .obtain⟨v,N,U⟩:=rl.sh i _ e1;cases e2;cases U with
   |tup s r=>exact⟨_,N,.tup (Y.seqT s) (r.thawD Y bj ok.bx)⟩
  .subst e2;obtain⟨v,N,U⟩:=rl.sh i d e1;exact⟨v,N,U.mono Y⟩
 .obtain⟨p,xs,N,U,a3,a4,a5⟩:=rl.own i ds (z i ds e);exact⟨p,xs,N,jf p U a5,a3,a4.mono Y,a5⟩
 .obtain⟨N,U,a3,xs,a4,a5⟩:=rl.ob i p ds (O i p ds e);exact⟨N,jf p U a3,a3,xs,a4,a5.mono Y⟩
end
section
variable {X:Cx}{a b c e:Expr}{pos:Pos}
end
noncomputable def cut(H B:Hp):Hp:=λa=>match B a with |some _=>none|none=>H a
theorem yc9(h:B a=none):cut H B a=H a:=by unfold cut;rw[h]
theorem wp5(h:Same B H):jn (cut H B) B=H:=by
 funext a;cases q:B a with
 |none=>rw[W5 q,yc9 q]
 |some o=>rw[Z9 q,h a o q]
abbrev MFW:=List D->Bx->Option (Rt×Bx)
def okTW(K:W.Frag)(F H B:Hp)(Q:VK):Rt->Bx->Prop
 | .sh d,a=>∀v F' H' B' fp',Ext F (jn (cut H B) B') F' H'->BxOk K F (cut H B) F' B' fp' a->Rep K F' v d->Q v H'
 | .fr ds,a=>∀p xs F' H' B' fp',Ext F (jn (cut H B) B') F' H'->BxOk K F (cut H B) F' B' fp' a->jn (cut H B) B' p=none->F' p=none->H' p=some (.lst xs)->Reps K F' xs ds->Q (.ref p) H'
 | .pr _ _,_=>False
def spW(K:W.Frag)(n:Nat)(m:MFW):Sp:=λvs H Q _=>vs.length=n/\∃F B fp ds a r β',Same F H/\Same B H/\BxOk K F (cut H B) F B fp a/\Reps K F vs ds/\m ds a=some (r,β')/\okTW K F H B Q r β'
def runW(n:Nat)(m:MW):MFW:=λds a=>match m (m8 n ds) a with
 |some (.nx _,β')=>some (.sh .non,β'.drop (β'.length-a.length))
 |some (.rt d,β')=>some (.sh d,β'.drop (β'.length-a.length))
 |some (.rf es,β')=>some (.fr es,β'.drop (β'.length-a.length))
 |_=>none
theorem BxR.drop{K:W.Frag}{F B:Hp}:∀{fp:List Addr}{a:Bx}(k:Nat),BxR K F B fp a->∃fq,BxR K F B fq (a.drop k)/\fq.Sublist fp
 |_,_,0,h=>⟨_,h,List.Sublist.refl _⟩
 |_,_,k+1,.nil=>⟨_,.nil,List.Sublist.refl _⟩
 |_,_,k+1,.cons c r=>by obtain⟨fq,h,s⟩:=BxR.drop k r;exact⟨fq,h,s.trans (sublist_append_right _ _)⟩
theorem BxOk.drop{K:W.Frag}{F0 H0 F B:Hp}(h:BxOk K F0 H0 F B fp a)(k:Nat):∃fq,BxOk K F0 H0 F B fq (a.drop k):=by obtain⟨fq,r,s⟩:=h.bx.drop k;exact⟨fq,h.out,r,h.nd.sublist s,h.plain⟩
theorem Fun.okW{P:Program}{K:W.Frag}{mg:Str->Option Value}{base:Heap}{x qual:Str}{st:Stmt}{k:Nat}(Fn:Fun K x qual st f fd)(Sc:FnScope N ps (y9 st))
  (j:∀(cdv:Value)(A:Around)(outer:List Env)(s:Shared)(H:Hp)(E:XK),Room k (A.deeper (envOfC qual (y9 st) s.heap.objs.size f cdv))->PSsw (cxOf CX0 P w K mg base N qual (y9 st) f cdv A outer s H E).nox (Y0 st) m):
  FnOk P w K mg base CX0 (k+1) f fd ps (spW K ps.length (runW N.length m)):=by
 refine Fn.ok Sc (λvs H Q E h=>h.1) λcdv A outer s H vs Q E hr h=>?_;obtain⟨hl,F,B,fp,ds,b,r,β',Z,sb,bo,rs,e,ok⟩:=h;unfold runW at e;refine⟨_,j cdv A outer s H E hr,F,cut H B,F,m8 N.length ds,b,?_⟩;have W9:RlW K F (cut H B) F H (W9 N vs) (m8 N.length ds) b:=⟨B,fp,by rw[wp5 sb];exact zq7 Z rs,bo⟩;split at e
 .rename_i a β1 h1;cases e;refine⟨_,_,W9,h1,λF' H' Y rl _=>?_⟩;obtain⟨B',O,U,G⟩:=rl;obtain⟨fq,z⟩:=G.drop (β1.length-b.length);exact ok .non F' H' B' fq U.ext z .non
 .rename_i d β1 h1;cases e;refine⟨_,_,W9,h1,λv F' H' B' O x G rp=>?_⟩;obtain⟨fq,z⟩:=G.drop (β1.length-b.length);exact ok v F' H' B' fq x z rp
 .rename_i es β1 h1;cases e;refine⟨_,_,W9,h1,λp xs F' H' B' O x G a1 a2 a3 a4=>?_⟩;obtain⟨fq,z⟩:=G.drop (β1.length-b.length);exact ok p xs F' H' B' fq x z a1 a2 a3 a4
 .cases e
section
variable {K:W.Frag}{F0 H0 F H B:Hp}{b:St}{a:Ro}{c:Bx}{fp:List Addr}
end
section
variable {X:Cx}{a b c e o:Expr}{pos:Pos}{st:Stmt}{rest:List Stmt}{E:XK}{es:List Expr}{mf:MFW}{m:ML}
end
section
variable {X:Cx}{a b c e o:Expr}{pos apos:Pos}{E:XK}{es:List Expr}{m:ML}{mo:ME}
end
def updB(p:Addr)(c':Cell):Bx->Bx
 |[]=>[]
 | (q,c)::a=>if q=p then (q,c')::a else (q,c)::updB p c' a
section
variable {K:W.Frag}{F0 H0 F H B:Hp}{g:St}{d:Ro}{β:Bx}{fp:List Addr}
theorem BxR.upd{p:Addr}{c:Cell}:∀{fp:List Addr}{β:Bx},BxR K F B fp β->fp.Nodup->β.lookup p=some c->∃fq,CellR K F B fq p c/\fq.Nodup/\(∀a∈fq,a∈fp)/\
  ∀(Y:Cell)(j:List Addr)(B' F':Hp),Same F F'->CellR K F' B' j p Y->j.Nodup->(∀a∈fp,a∉fq->B' a=B a)->(∀a∈j,a∈fq\/a∉fp)->∃G,BxR K F' B' G (updB p Y β)/\G.Nodup/\∀a∈G,a∈fp\/a∈j
 |_,_,.nil,_,e=>by cases e
 |_,_,.cons (fp:=f0) (fq:=f1) (p:=q) (c:=c0) (β:=β) h r,nd,e=>by
  obtain⟨n0,n1,n2⟩:=cP.mp nd;have U:∀a,a∈f0->a∈f1->False:=λa h1 h2=>n2 a h1 a h2 rfl;rw[lookup_cons]at e;cases z:p==q with
  |true=>
   rw[z]at e;have z:=beq_iff_eq.mp z;subst z;cases e;refine⟨f0,h,n0,λa ha=>dS _ ha,λY j B' F' Z hc nq ag fr=>?_⟩;unfold updB;rw[aJ rfl];refine⟨j++f1,.cons hc (r.mono Z λa ha=>ag a (bD _ ha) λz=>U a z ha),cP.mpr ⟨nq,n1,λa h1 b h2 O=>?_⟩,λa ha=>?_⟩
   .subst O;rcases fr a h1 with z|z
    .exact U a z h2
    .exact z (bD _ h2)
   .rcases bA.mp ha with z|z
    .exact .inr z
    .exact .inl (bD _ z)
  |false=>
   rw[z]at e;have a4:¬ q=p:=λy=>by rw[y,cJ]at z;cases z
   obtain⟨fq,h1,a1,N,a3⟩:=r.upd n1 e;refine⟨fq,h1,a1,λa ha=>bD _ (N a ha),λY j B' F' Z hc nq ag fr=>?_⟩;obtain⟨G,r',a2,hm⟩:=a3 Y j B' F' Z hc nq (λa ha hn=>ag a (bD _ ha) hn) λa ha=>(fr a ha).imp id λz y=>z (bD _ y);unfold updB;rw[aI a4];refine⟨f0++G,.cons (h.mono Z λa ha=>ag a (dS _ ha) λy=>U a ha (N a y)) r',cP.mpr ⟨n0,a2,λa h1 b h2 O=>?_⟩,λa ha=>?_⟩
   .subst O;rcases hm a h2 with z|z
    .exact U a h1 z
    .rcases fr a z with y|y
     .exact U a h1 (N a y)
     .exact y (dS _ h1)
   .rcases bA.mp ha with z|z
    .exact .inl (dS _ z)
    .exact(hm a z).imp (bD _) id
theorem Rl.putB(rl:Rl K F0 (jn H0 B) F H g d)(out:∀b,B b≠none->H0 b=none/\F0 b=none)(ha:B a≠none\/H a=none):Rl K F0 (jn H0 (upd B a o)) F (upd H a o) g d/\F a=none/\H0 a=none/\F0 a=none:=by
 have N:F a=none/\H0 a=none/\F0 a=none:=by
  rcases ha with h|h
  .refine⟨?_,out a h⟩;cases q:F a with
   |none=>rfl
   |some u=>exact aZ (Z4 (rl.ext.new a (out a h).2 (by rw[q];simp))).1 h
  .have f:F a=none:=rl.fh.free h;exact⟨f,(Z4 (rl.ext.hh.free h)).2,rl.ext.ff.free f⟩
 have G:∀b,b≠a->jn H0 (upd B a o) b=jn H0 B b:=λb j=>by unfold jn;rw[x9 j]
 have ne:∀p xs,jn H0 B p=none->H p=some (.lst xs)->p≠a:=λp xs e1 e2 e3=>by
  subst e3;rcases ha with h|h
  .exact h (Z4 e1).1
  .rw[h]at e2;cases e2
 refine⟨⟨⟨rl.ext.ff,λb u e=>?_,rl.ext.fh.put N.1,λb e n=>?_,rl.ext.nf⟩,rl.len,rl.sh,λi ds e=>?_,rl.inj,λi p ds e=>?_,rl.obn,rl.ob1⟩,N⟩
 .by_cases j:b=a
  .subst j;rw[Z9 x8]at e;rw[x8];exact e
  .rw[G b j]at e;rw[x9 j];exact rl.ext.hh b u e
 .have j:b≠a:=λz=>by subst z;exact n N.1
  rw[G b j];exact rl.ext.new b e n
 .obtain⟨p,xs,a1,a2,a3,a4,a5⟩:=rl.own i ds e;have hp:=ne p xs a5 a3;exact⟨p,xs,a1,a2,by rw[x9 hp];exact a3,a4,by rw[G p hp];exact a5⟩
 .obtain⟨a1,a2,a3,xs,a4,a5⟩:=rl.ob i p ds e;have hp:=ne p xs a3 a4;exact⟨a1,a2,by rw[G p hp];exact a3,xs,by rw[x9 hp];exact a4,a5⟩
theorem FlR.length(h:FlR K F B fp xs fs):xs.length=fs.length:=by
 induction h with
 |nil=>rfl
 |v _ _ j=>simp[j]
 |l _ _ _ j=>simp[j]
theorem ym8(out:∀b,B b≠none->H0 b=none/\F0 b=none)(h:H0 a=none/\F0 a=none):∀b,upd B a o b≠none->H0 b=none/\F0 b=none:=λb j=>by
 by_cases z:b=a
 .subst z;exact h
 .rw[x9 z]at j;exact out b j
theorem zj1(pl:∀b o u,B b≠some (.frz o u))(h:∀p u,o≠ .frz p u):∀b p u,upd B a o b≠some (.frz p u):=λb p u j=>by
 by_cases z:b=a
 .subst z;rw[x8]at j;exact h p u (bn j)
 .rw[x9 z]at j;exact pl b p u j
end
section
variable {X:Cx}{value o:Expr}{pos pos':Pos}{f:Str}
end
section
variable {X:Cx}{value e o:Expr}{pos pos' apos cpos:Pos}{f:Str}{st:Stmt}{rest:List Stmt}
def yp4(m:ML):Ro->Bx->Option (List D):=λa b=>(m (thaw a b)).bind λds=>if ds.all isSc=true then some ds else none
theorem yk9{K:W.Frag}{F G:Hp}:∀{vs:List V}{ds:List D},ds.all isSc=true->Reps K F vs ds->Reps K G vs ds
 |_,_,_,.nil=>.nil
 |_,_,h,.cons r rr=>by rw[all_cons,Bool.and_eq_true]at h;exact .cons (xn1 h.1 r) (yk9 h.2 rr)
end
theorem Rl.forget{K:W.Frag}{F0 H0 F H:Hp}(r:Rl K F0 H0 F H b a)(i:Nat):Rl K F0 H0 F H b (a.set i none):=by
 have G:∀(j:Nat) x,(a.set i none)[j]? =some (some x)->a[j]? =some (some x):=λj x e=>by
  by_cases O:i=j
  .subst O;rcases bq i a.length with z|z
   .rw[aR z]at e;cases e
   .rw[bg (by simpa using z)]at e;cases e
  .rw[aU O]at e;exact e
 exact⟨r.ext,by simp[r.len],λj d e=>r.sh j d (G j _ e),λj ds e=>r.own j ds (G j _ e),λj k p ds es N e1 e2=>r.inj j k p ds es N (G j _ e1) (G k _ e2),λj p ds e=>r.ob j p ds (G j _ e),λj k p ds es e1 e2=>r.obn j k p ds es (G j _ e1) (G k _ e2),λj k p q ds es e1 e2=>r.ob1 j k p q ds es (G j _ e1) (G k _ e2)⟩
open Classical in
noncomputable def anyN{α:Type}(a:Bx)(f:Addr->Option α):Option α:=if h:∃r,∀x,x∉a.map Prod.fst->f x=some r then some (Classical.choose h)else none
theorem xz5{j:Type}{f:Addr->Option j}{r:j}(h:anyN a f=some r):∀x,x∉a.map Prod.fst->f x=some r:=by
 unfold anyN at h;split at h
 .rename_i hx;cases h;exact dv hx
 .cases h
theorem yp7(l:List Addr):∃x,x∉l:=by
 have z:∀l:List Addr,∃b,∀a∈l,a<b:=by
  intro l;induction l with
  |nil=>exact⟨0,λa h=>by cases h⟩
  |cons a l G=>
   obtain⟨b,j⟩:=G;refine⟨max b (a+1),λc hc=>?_⟩;rcases ba.mp hc with rfl|hc
   .have:=Nat.le_max_right b (c+1);exact bd (ci c) this
   .exact bd (j c hc) (Nat.le_max_left _ _)
 obtain⟨b,j⟩:=z l;exact⟨b,λh=>bP _ (j b h)⟩
theorem wy8{j:Type}{f:Addr->Option j}{r:j}(h:∀x,x∉a.map Prod.fst->f x=some r):anyN a f=some r:=by unfold anyN;have z:∃r,∀x,x∉a.map Prod.fst->f x=some r:=⟨r,h⟩;rw[dif_pos z];obtain⟨x,hn⟩:=yp7 (a.map Prod.fst);have:=dv z x hn;rw[h x hn]at this;exact this.symm
def letGo(i:Nat)(k:Nat):Out×Bx->Out×Bx
 | (.nx a,b)=>(.nx (a.set i none),b.drop (b.length-k))
 | (.bk a,b)=>(.bk (a.set i none),b.drop (b.length-k))
 | (.ct a,b)=>(.ct (a.set i none),b.drop (b.length-k))
 | (o,b)=>(o,b.drop (b.length-k))
theorem okW.letGo{K:W.Frag}{F0 H0 G:Hp}{Dn:Ends}{i k:Nat}:∀{o:Out}{l:Bx},okW K F0 H0 G Dn (letGo i k (o,l)).1 (letGo i k (o,l)).2->okW K F0 H0 G Dn o l
 | .nx f,l,h=>λF H g ⟨B,fp,rl,ok⟩ s=>let ⟨fq,z⟩:=ok.drop (l.length-k);h F H g ⟨B,fq,rl.forget i,z⟩ s
 | .bk f,l,h=>λF H g ⟨B,fp,rl,ok⟩ s=>let ⟨fq,z⟩:=ok.drop (l.length-k);h F H g ⟨B,fq,rl.forget i,z⟩ s
 | .ct f,l,h=>λF H g ⟨B,fp,rl,ok⟩ s=>let ⟨fq,z⟩:=ok.drop (l.length-k);h F H g ⟨B,fq,rl.forget i,z⟩ s
 | .rt d,l,h=>λv F H B fp x ok r=>let ⟨fq,z⟩:=ok.drop (l.length-k);h v F H B fq x z r
 | .rf ds,l,h=>λp xs F H B fp x ok a b c r=>let ⟨fq,z⟩:=ok.drop (l.length-k);h p xs F H B fq x z a b c r
 | .rg d p r,l,h=>λv F H xs B fp x ok a j b c e=>let ⟨fq,z⟩:=ok.drop (l.length-k);h v F H xs B fq x z a j b c e
 | .rp _ _,_,h=>h
 | .rgf _ _ _,_,h=>h
section
variable {X:Cx}{e:Expr}{es:List Expr}{st:Stmt}{rest:List Stmt}{E:XK}{mf:MFW}{m:ML}
theorem BxR.keys{K:W.Frag}{F B:Hp}:∀{fp:List Addr}{a:Bx},BxR K F B fp a->∀p∈a.map Prod.fst,B p≠none
 |_,_,.nil,p,h=>by cases h
 |_,_,.cons (p:=q) c r,p,h=>by
  rw[bz]at h;rcases ba.mp h with z|z
  .subst z;cases c with
   |ins _ _ b _ _=>rw[b];simp
   |row b _=>rw[b];simp
   |tb _ b _ _=>rw[b];simp
  .exact r.keys p z
end
noncomputable def plainW(mf:MFW):MF:=λds=>match mf ds []with |some (.sh d,_)=>some (.sh d)|some (.fr es,_)=>some (.fr es)|_=>none
theorem Ext.unjn{F H B F' H':Hp}(d:∀a,B a≠none->H a=none)(x:Ext F (jn H B) F' H'):Ext F H F' H':=
 ⟨x.ff,λa o e=>x.hh a o (by
  cases q:B a with
  |none=>rw[W5 q];exact e
  |some u=>rw[d a (by rw[q];simp)]at e;cases e),x.fh,λb e n=>(Z4 (x.new b e n)).2,x.nf⟩
theorem FnOk.plainW{P:Program}{K:W.Frag}{mg:Str->Option Value}{base:Heap}{k:Nat}{n:Nat}(G:FnOk P w K mg base CX k f fd ps (spW K n mf)):FnOk P w K mg base CX k f fd ps (spR K n (plainW mf)):=G.imp λvs H Q E z=>by
 obtain⟨hl,F,ds,r,O,U,e,ok⟩:=z;have hc:cut H (λ_=>none)=H:=funext λa=>yc9 rfl;have Y:BxOk K F (cut H λ_=>none) F (λ_=>none) [] []:=⟨λa h=>aZ rfl h,.nil,nodup_nil,λa o u h=>by cases h⟩;refine⟨hl,F,λ_=>none,[],ds,[],?_⟩;unfold L2.plainW at e;split at e
 .rename_i d b h1;cases e;refine⟨_,_,O,λa o h=>(by cases h),Y,U,h1,λv F' H' B' N x j r=>?_⟩;rw[hc]at x j;exact ok v F' H' (x.unjn λa h=>(j.out a h).1) r
 .rename_i es b h1;cases e;refine⟨_,_,O,λa o h=>(by cases h),Y,U,h1,λp xs F' H' B' N x j Z a2 a3 a4=>?_⟩;rw[hc]at x j Z;exact ok p xs F' H' (x.unjn λa h=>(j.out a h).1) (Z4 Z).2 a2 a3 a4
 .cases e
section
variable {X:Cx}{a b c e o:Expr}{pos:Pos}{st:Stmt}{rest:List Stmt}{E:XK}{es:List Expr}{mf:MFW}
end
section
variable {X:Cx}{e o:Expr}{E:XK}
end
section
variable {X:Cx}{e:Expr}{pos:Pos}
end
section
variable {K:W.Frag}{F0 H0 F H B:Hp}{b:St}{a:Ro}{c:Bx}{fp:List Addr}
end
abbrev MGW:=Addr->List D->List D->Bx->Option (D×List D×Bx)
section
variable {X:Cx}{e:Expr}{pos:Pos}{st:Stmt}{es:List Expr}{E:XK}{mf:MGW}{m:ML}
end
def qfnD(K:W.Frag)(nm ql:Str)(st:Stmt)(x:Addr):Prop:=∃(oc:Value)(o1:Option Addr)(kV dc pm:Value)(o2:Option Addr)(cd ct:Value)(sl:Array (Option Value)),K.lookup x=some ⟨oc,o1,.func (W.fnOf nm ql (T9 st) (Y0 st) (y9 st) .none kV dc pm o2 cd ct),sl⟩/\W.codeIn K cd ql=true/\W.keepIn K (.ref x)=true
def QDn(K:W.Frag)(nm:Str)(st:Stmt):Prop:=∃x:Addr,W.nsIn K mainGlobals nm=some (some (.ref x))/\qfnD K nm nm st x
def QMn(K:W.Frag)(C:Addr)(nm ql:Str)(st:Stmt):Prop:=∃x:Addr,W.findIn K (.ref C) nm=some (some (.ref x))/\W.isFn K (.ref x)=true/\qfnD K nm ql st x
theorem QDn.of{K:W.Frag}{st:Stmt}{kV N pm:Value}(e:W.nsIn K mainGlobals nm=some (some (.ref x)))(l:K.lookup x=some ⟨oc,G,.func (W.fnOf nm nm (T9 st) (Y0 st) (y9 st) .none kV N pm z j ct),sl⟩)(c:W.codeIn K j nm=true)(k:W.keepIn K (.ref x)=true):QDn K nm st:=⟨x,e,oc,G,kV,N,pm,z,j,ct,sl,l,c,k⟩
theorem QMn.of{K:W.Frag}{st:Stmt}{kV N pm:Value}(e:W.findIn K (.ref C) nm=some (some (.ref x)))(i:W.isFn K (.ref x)=true)(l:K.lookup x=some ⟨oc,G,.func (W.fnOf nm ql (T9 st) (Y0 st) (y9 st) .none kV N pm z j ct),sl⟩)(c:W.codeIn K j ql=true)(k:W.keepIn K (.ref x)=true):QMn K C nm ql st:=⟨x,e,i,oc,G,kV,N,pm,z,j,ct,sl,l,c,k⟩
abbrev QBdD(nm ql:Str)(st:Stmt)(ps:List Str)(us:List Value):Prop:=∀(kV doc pm:Value)(an:Option Addr)(cdv ct:Value),bindArgs (W.fnOf nm ql (T9 st) (Y0 st) (y9 st) .none kV doc pm an cdv ct) ⟨us,[]⟩=pure (ps.zip us)
section
variable {P:Program}{w:World}{K:W.Frag}{mg:Str->Option Value}{base h:Heap}{nm ql cn:Str}{st:Stmt}{ps:List Str}{sp:Sp}{n:Nat}{C:Addr}
def QDf(K:W.Frag)(mg:Str->Option Value)(nm:Str)(st:Stmt)(ps:List Str):Prop:=∃f fd,Fun K nm nm st f fd/\Binds K fd ps []/\mg nm=some (.ref f)
def QHd(P:Program)(w:World)(K:W.Frag)(mg:Str->Option Value)(base:Heap)(n:Nat)(nm:Str)(ps:List Str)(sp:Sp):Prop:=∃f fd,FnOk P w K mg base CX0 n f fd ps sp/\Binds K fd ps []/\W.keepIn K (.ref f)=true/\mg nm=some (.ref f)
theorem qfnD.mk(D:qfnD K nm ql st x)(z:∀us:List Value,us.length=ps.length->QBdD nm ql st ps us):∃fd,Fun K nm ql st x fd/\Binds K fd ps []:=by obtain⟨oc,N,kV,O,pm,G,U,ct,sl,l,c,k⟩:=D;exact⟨_,yc0 l c k,(yc0 l c k).binds λ_ _ _ _ _ _ us j=>z us j _ _ _ _ _ _⟩
theorem QDn.df(D:QDn K nm st)(X:K.In h)(G:h.Ns mainGlobals mg)(j:∀us:List Value,us.length=ps.length->QBdD nm nm st ps us):QDf K mg nm st ps:=by obtain⟨x,e,D⟩:=D;obtain⟨fd,F,b⟩:=D.mk j;exact⟨x,fd,F,b,W.mg_of X G e⟩
theorem QDf.mk(D:QDf K mg nm st ps)(h:∀f fd,Fun K nm nm st f fd->FnOk P w K mg base CX0 n f fd ps sp):QHd P w K mg base n nm ps sp:=by obtain⟨f,fd,F,b,a⟩:=D;exact⟨f,fd,h f fd F,b,F.kp,a⟩
theorem qbd1{P:List Value->Prop}(h:∀a,P [a]):∀us:List Value,us.length=1->P us
 |[a],_=>h a
theorem qbd2{P:List Value->Prop}(h:∀a b,P [a,b]):∀us:List Value,us.length=2->P us
 |[a,b],_=>h a b
theorem qbd3{P:List Value->Prop}(h:∀a b c,P [a,b,c]):∀us:List Value,us.length=3->P us
 |[a,b,c],_=>h a b c
theorem qbd4{P:List Value->Prop}(h:∀a b c d,P [a,b,c,d]):∀us:List Value,us.length=4->P us
 |[a,b,c,d],_=>h a b c d
theorem qbd5{P:List Value->Prop}(h:∀a b c d e,P [a,b,c,d,e]):∀us:List Value,us.length=5->P us
 |[a,b,c,d,e],_=>h a b c d e
end
section
variable {X:Cx}{n k:Nat}{nm cn:Str}{ps:List Str}{sp:Sp}{e o:Expr}{es:List Expr}{ta:TE}{t:TA}{p pos apos:Pos}{C:Addr}{pl:Sem Bool}
theorem qcl(H:QHd X.prog X.w X.K X.mg X.base n nm ps sp)(hr:Room k X.A)(ha:PA X (e::es) t)(hn:n<=k:=by decide)(N:Gl X nm:=by rfl)(z:(nm==("__debug__":Str))=false:=by decide)(O:starEach (e::es) X.env=(false,eval e X.env)::starEach es X.env:=by rfl)(j:(backTo pos (starEach es X.env)).any (·.1)=false:=by rfl):
  PE X (.Call (.Name nm p) (e::es) [] pos) (yr9 sp [] E0 t):=by
 obtain⟨f,fd,F,b,G,a⟩:=H;exact xe5 (F.mono hn) hr N a G b .nil wh5 ha z O j
end
theorem qap{X:Cx}{apos cpos:Pos}(O:PE X o to)(ha:PA X (e::es) t)
  (G:attributeBase o "append" X.env (eval o X.env)=eval o X.env:=by rfl)
  (N:((backTo cpos (starEach (e::es) X.env)).all (λx=>!x.1)&&(backToKw cpos (keywordEach [] X.env)).all (λx=>x.1.isSome)
   &&decide ((e::es).length+([]:List Keyword).length+(if ([]:List Keyword).isEmpty then 0 else 1)<30))=true:=by rfl)
  (z:(apos.endLine==cpos.line)=true:=by rfl) (hs:starEach (e::es) X.env=(false,eval e X.env)::starEach es X.env:=by rfl) (j:(backTo cpos (starEach es X.env)).any (·.1)=false:=by rfl):
  PE X (.Call (.Attribute o "append" apos) (e::es) [] cpos) (tBM X.K "list" zc3 to t):=wh3 PySem.F.plainAttrs_list PySem.F.slot_list_append PySem.F.type_list_append zh6 O ha G N z hs j
section
variable {a b c d e f:ME}(g:Ro)(ds:List D)
theorem qal1:z7 a anil g=some ds->ds.length=0+1:=Q7 xp6 g ds
theorem qal2:z7 a (z7 b anil) g=some ds->ds.length=0+1+1:=Q7 qal1 g ds
theorem qal3:z7 a (z7 b (z7 c anil)) g=some ds->ds.length=0+1+1+1:=Q7 qal2 g ds
theorem qal4:z7 a (z7 b (z7 c (z7 d anil))) g=some ds->ds.length=0+1+1+1+1:=Q7 qal3 g ds
theorem qal5:z7 a (z7 b (z7 c (z7 d (z7 e anil)))) g=some ds->ds.length=0+1+1+1+1+1:=Q7 qal4 g ds
end
theorem qsc{N P:List Str}(a:sc.kind= .function:=by rfl)(b:sc.isCoroutine=false:=by rfl)(c:sc.isGenerator=false:=by rfl)(d:N.Nodup:=by decide +kernel)(e:N.take P.length=P:=by rfl)(f:∀x∈P,sc.names.lookup x=some .local\/sc.names.lookup x=some .cell:=by decide +kernel)(g:∀y∈sc.names,y.2≠ .free:=by decide +kernel):FnScope N P sc:=⟨a,b,c,d,e,f,g⟩
section
variable {X:Cx}{a b c e:Expr}{pos:Pos}{st:Stmt}
@[irreducible] noncomputable def yy1(x y:MBm):MBm:=λa=>match x a with |some (true,ρ1)=>y ρ1|some (false,ρ1)=>some (false,ρ1)|none=>none
theorem xw8(h:PT X a (TCm X.K ca)):PW X (.BoolOp .And [a] pos) (TCm X.K ca):=yj5 h
theorem xf0{rest:List Expr}(ha:PT X a (TCm X.K ca))(N:PW X (.BoolOp .And (b::rest) pos) (TCm X.K cb)):PW X (.BoolOp .And (a::b::rest) pos) (TCm X.K (yy1 ca cb)):=(xn4 ha N).imp λd H Q z=>by
 obtain⟨F0,H0,F,c,g,ρ',rl,e,q⟩:=z;unfold yy1 at e;split at e
 .rename_i ρ1 h1;exact⟨F0,H0,F,c,_,ρ1,rl,h1,λF1 H1 j s1=>iteT ⟨F0,H0,F1,ρ1,g,ρ',j,e,λF2 H2 G s2=>q F2 H2 G (s1.trans s2)⟩⟩
 .rename_i ρ1 h1;cases e;exact⟨F0,H0,F,c,_,_,rl,h1,λF1 H1 j s1=>iteF (q F1 H1 j s1)⟩
 .cases e
theorem wh4(h:PW X a (TCm X.K ca)):PT X a (TCm X.K ca):=h.pt
@[irreducible] noncomputable def cpu(x:MB):MBm:=λa=>match x a with |some b=>some (b,a)|none=>none
theorem xu6(h:PC' X a ca):PT X a (TCm X.K (cpu ca)):=PT.imp h λd H Q j=>by
 obtain⟨F0,H0,F,c,g,ρ',rl,e,q⟩:=j;unfold cpu at e;split at e
 .rename_i b h1;cases e;exact⟨F0,H0,F,_,_,rl,h1,λF1 H1 z=>q F1 H1 (rl.go z) z.ff⟩
 .cases e
end
section
variable {X:Cx}{st:Stmt}{sts:List Stmt}
end
section
variable {X:Cx}{a b c e k:Expr}{te:TE}{ma mb:ME}{la lb:ML}{pos p2:Pos}{st:Stmt}
end
section
variable {X:Cx}{P:Addr}{pos:Pos}{q:Str}{params:Arguments}{body:Expr}{sc:Scope}
end
section
variable {X:Cx}{pins:List (Addr×Obj)}{a:St}{H:Hp}{s:Shared}
end
section
variable {X:Cx}{pins:List (Addr×Obj)}{a:St}
end
open Classical in
section
variable {X:Cx}
end
section
variable {P:Program}{w:World}{K:W.Frag}{mg:Str->Option Value}{base:Heap}{nm:Str}{st:Stmt}{ps:List Str}{sp:Sp}{n:Nat}
end
noncomputable def insB(B H:Hp)(L:List Addr):Hp:=λa=>if a∈L then H a else B a
theorem zx6{L:List Addr}(h:a∈L):insB B H L a=H a:=by unfold insB;rw[aJ h]
theorem K4{L:List Addr}(h:a∉L):insB B H L a=B a:=by unfold insB;rw[aI h]
section
variable {K:W.Frag}{F0 H0 F H B:Hp}{d:St}{c:Ro}{f:Bx}{fp:List Addr}
theorem Rl.takeBs{L:List Addr}(rl:Rl K F0 (jn H0 B) F H d c)(N:∀q∈L,H q≠none)(O:∀q∈L,F q=none)(U:∀q∈L,jn H0 B q=none)(hn:∀q∈L,∀(i:Nat) ds,c[i]? =some (some (.own ds))->d[i]? ≠some (some (.ref q)))(G:∀q∈L,∀(i:Nat) p ds,c[i]? =some (some (.ob p ds))->p≠q):Rl K F0 (jn H0 (insB B H L)) F H d c:=by
 have j:∀b,b∉L->jn H0 (insB B H L) b=jn H0 B b:=λb G=>by unfold jn;rw[K4 G]
 refine⟨⟨rl.ext.ff,λb u e=>?_,rl.ext.fh,λb e n=>?_,rl.ext.nf⟩,rl.len,rl.sh,λi ds e=>?_,rl.inj,λi p ds e=>?_,rl.obn,rl.ob1⟩
 .by_cases hq:b∈L
  .have:=N b hq;unfold jn at e;rw[zx6 hq]at e;cases z:H b with
   |none=>exact aZ z this
   |some o=>rw[z]at e;exact e
  .rw[j b hq]at e;exact rl.ext.hh b u e
 .have hq:b∉L:=λz=>n (O b z);rw[j b hq];exact rl.ext.new b e n
 .obtain⟨p,xs,a1,a2,a3,a4,a5⟩:=rl.own i ds e;exact⟨p,xs,a1,a2,a3,a4,by rw[j p (λz=>hn p z i ds e a1)];exact a5⟩
 .obtain⟨a1,a2,a3,xs,a4,a5⟩:=rl.ob i p ds e;exact⟨a1,a2,by rw[j p (λz=>G p z i p ds e rfl)];exact a3,xs,a4,a5⟩
theorem yu7{B':Hp}:∀{qs:List Addr}{dss:List (List D)},RPs K F H qs dss->(∀q∈qs,B' q=H q)->FlR K F B' qs (qs.map V.ref) (dss.map .l)
 |_,_,.nil,_=>.nil
 |_,_,.cons h r t,k=>.l (by rw[k _ aD];exact h) r (yu7 t λq j=>k q (bt _ j))
theorem RlW.pots{dss:List (List D)}(rl:Rl K F0 (jn H0 B) F H d c)(ok:BxOk K F0 H0 F B fp f)(x:Ext F H F' H')(P:Pots K H F' H' p qs dss):RlW K F0 H0 F' H' d c ((p,.row (dss.map .l))::f)/\B p=none:=by
 have new:∀q∈p::qs,H q=none/\F' q=none/\H' q≠none:=λq j=>by
  rcases ba.mp j with e|j
  .subst e;exact⟨P.hp,P.fp,by rw[P.at'];simp⟩
  .obtain⟨o,ho⟩:=P.rep.some q j;exact⟨(P.new q j).1,(P.new q j).2,by rw[ho];simp⟩
 have O:∀q∈p::qs,jn H0 B q=none:=λq j=>rl.ext.hh.free (new q j).1;have Z:∀q∈p::qs,B q=none:=λq j=>(Z4 (O q j)).1;have N:=(rl.go x).takeBs (L:=p::qs) (λq j=>(new q j).2.2) (λq j=>(new q j).2.1) O (λq j i ds e z=>by
  obtain⟨Y,xs,a1,_,a3,_⟩:=rl.own i ds e;rw[z]at a1;cases a1;rw[(new q j).1]at a3;cases a3) (λq j i Y ds e z=>by
  obtain⟨_,_,_,xs,a4,_⟩:=rl.ob i Y ds e;rw[z,(new q j).1]at a4;cases a4)
 have G:∀a∈fp,a∉p::qs:=λa ha z=>ok.bx.mem a ha (Z a z);refine⟨⟨insB B H' (p::qs),(p::qs)++fp,N,λa h=>?_,.cons (.row (by rw[zx6 aD];exact P.at') (yu7 P.rep λq j=>zx6 (bt _ j))) (ok.bx.mono x.ff λa ha=>K4 (G a ha)),cP.mpr ⟨P.nd,ok.nd,λa h1 b h2 z=>by subst z;exact G a h2 h1⟩,λa o u h=>?_⟩,Z p aD⟩
 .by_cases j:a∈p::qs
  .exact⟨(Z4 (O a j)).2,rl.ext.ff.free (rl.fh.free (new a j).1)⟩
  .rw[K4 j]at h;exact ok.out a h
 .by_cases j:a∈p::qs
  .rw[zx6 j]at h;rcases ba.mp j with e|j
   .subst e;rw[P.at']at h;cases h
   .obtain⟨i,hi,hiq⟩:=dD j;have hr:=P.rep;have:∃xs,H' a=some (.lst xs):=by
     clear h;have U:∀{qs:List Addr}{dss:List (List D)},RPs K F' H' qs dss->a∈qs->∃xs,H' a=some (.lst xs):=by
      intro qs dss r;induction r with
      |nil=>intro h;cases h
      |cons h1 _ _ ih=>
       intro h;rcases ba.mp h with e|h
       .subst e;exact⟨_,h1⟩
       .exact ih h
     exact U hr j
    obtain⟨xs,e⟩:=this;rw[e]at h;cases h
  .rw[K4 j]at h;exact ok.plain a o u h
theorem FlR.at'{n:Nat}{ds:List D}:∀{n:Nat}{fp:List Addr}{xs:List V}{fs:List Fl},FlR K F B fp xs fs->fp.Nodup->fs[n]? =some (.l ds)->∃q ys,xs[n]? =some (.ref q)/\q∈fp/\B q=some (.lst ys)/\Reps K F ys ds/\
  ∀(B' F':Hp) j G,Same F F'->B' q=some (.lst j)->Reps K F' j G->(∀a∈fp,a≠q->B' a=B a)->FlR K F' B' fp xs (fs.set n (.l G))
 |_,_,_,_,.nil,_,e=>by simp at e
 |0,_,_,_,.v _ _,_,e=>by simp at e
 |n+1,_,_,_,.v r t,nd,e=>by obtain⟨q,ys,a1,Z,a3,a4,a5⟩:=FlR.at' (n:=n) t nd (by simpa using e);exact⟨q,ys,by simpa using a1,Z,a3,a4,λB' F' j G N Y U O=>.v (r.mono N) (a5 B' F' j G N Y U O)⟩
 |0,_,_,_,.l (fp:=fp) (q:=q) b r t,nd,e=>by simp at e;subst e;have hn:=bC.mp nd;exact⟨q,_,rfl,by simp,b,r,λB' F' j G N Y U O=>.l Y U (t.mono N λa ha=>O a (by simp[ha]) λz=>hn.1 (z ▸ ha))⟩
 |n+1,_,_,_,.l (fp:=fp) (q:=q0) b r t,nd,e=>by have hn:=bC.mp nd;obtain⟨q,ys,a1,Z,a3,a4,a5⟩:=FlR.at' (n:=n) t hn.2 (by simpa using e);exact⟨q,ys,by simpa using a1,by simp[Z],a3,a4,λB' F' j G N Y U O=>.l (by rw[O q0 aD λz=>hn.1 (z ▸ Z)];exact b) (r.mono N) (a5 B' F' j G N Y U λa ha hq=>O a (by simp[ha]) hq)⟩
end
def xt6(i:Nat)(mp:MP)(rest:MW):MW:=λa b=>(mp a).bind λdss=>anyN b λx=>(rest (a.set i (some (.sh (.ptr x)))) ((x,.row (dss.map .l))::b)).map (letGo i b.length)
section
variable {X:Cx}{a b c e:Expr}{pos:Pos}{st:Stmt}{rest:List Stmt}{E:XK}{es:List Expr}{mf:MFW}{m:ML}
theorem yj8{i:Nat}{src:List (Option Nat)}(hS:PS X st (tAsg (zc1 src (TId X.K O) (TGd X.K g) (TC X.K cyes) (TF X.K j)) (G6 i)))(hr:PSsw X rest N):PSsw X (st::rest) (xt6 i (zy7 src O g j) N):=PSs.imp (zp0 hS hr) λDn b H ⟨F0,H0,F,a,c,o,β',⟨B,fp,rl,ok⟩,e,k⟩=>by
 unfold xt6 at e;cases h1:zy7 src O g j a with
 |none=>rw[h1]at e;cases e
 |some dss=>
  rw[h1,aP]at e;show zc1 src (TId X.K O) (TGd X.K g) (TC X.K cyes) (TF X.K j) b H (λv H'=>TSw X.K N Dn (b.set i (some v)) H');refine xa6 ⟨F0,jn H0 B,F,a,dss,rl,h1,λp qs F' H' x P=>?_⟩;obtain⟨⟨B2,a1,U,Y⟩,Z⟩:=RlW.pots rl ok x P;have e:=xz5 e p λz=>ok.bx.keys p z Z;show TSw X.K N Dn (b.set i (some (.ref p))) H';cases h3:N (a.set i (some (.sh (.ptr p)))) ((p,.row (dss.map .l))::c)with
  |none=>rw[h3]at e;cases e
  |some ob=>obtain⟨o1,G⟩:=ob;rw[h3]at e;have e:some (letGo i c.length (o1,G))=some (o,β'):=e;have e:=bn e;refine⟨F0,H0,F',_,_,o1,G,⟨B2,a1,U.set (.ptr p),Y⟩,h3,okW.letGo (i:=i) (k:=c.length) ?_⟩;rw[e];exact k.mono x.ff
def setR(a b:Int)(d:D)(fs:List Fl):Option (List Fl):=match ixN fs.length a with
 |some n=>(match fs[n]? with
  |some (.l ds)=>(match ixN ds.length b with |some m=>some (fs.set n (.l (ds.set m d)))|none=>none)
  |_=>none)
 |none=>none
def yf4(i:Nat)(k1 k2:ME)(v:Ro->Bx->Option D):MW:=λc e=>match v c e,c[i]?,k1 c,k2 c with
 |some d,some (some (.sh (.ptr p))),some (.int a),some (.int b)=>(match e.lookup p with
  |some (.row fs)=>(setR a b d fs).map λfs'=>(.nx c,updB p (.row fs') e)
  |_=>none)
 |_,_,_,_=>none
theorem xv2{i:Nat}{mv:Ro->Bx->Option D}(hE:PS X st (tAsg (TDw X.K mv) (gSub (tOp (rIxL X.K) (tVar i) (TD X.K k1)) (TD X.K k2) xw7))):PSw X st (yf4 i k1 k2 mv):=PS.imp hE λDn f H U=>by
 obtain⟨F0,H0,F,c,g,o,β',a7,e,k⟩:=U;unfold yf4 at e;split at e
 .rename_i d p a b h1 hp hk1 hk2;split at e
  .rename_i fs hb;cases h2:setR a b d fs with
   |none=>rw[h2]at e;cases e
   |some fs'=>
    rw[h2]at e;cases e;unfold setR at h2;split at h2
    .rename_i n hn;split at h2
     .rename_i ds hfs;split at h2
      .rename_i m hm;cases h2;refine⟨F0,H0,F,c,g,d,a7,h1,λv F1 H1 r1 s1 _ rp=>?_⟩;obtain⟨B,fp,rl,ok⟩:=r1;obtain⟨w,aa,a6⟩:=rl.sh i _ hp;cases a6;obtain⟨fq,hc,nq,ah,up⟩:=ok.bx.upd ok.nd hb;cases hc with
       |@row fq0 _ xs _ b0 fl=>
        have O:=bC.mp nq;obtain⟨q,ys,a1,a2,a3,a4,a5⟩:=FlR.at' (n:=n) fl O.2 hfs;refine⟨_,aa,F0,jn H0 B,F1,c,_,rl,hk1,λw2 F2 H2 Z r2=>?_⟩;cases r2;have ae:atI xs a=some (.ref q):=by unfold atI;rw[fl.length,hn];exact a1
        refine⟨p,xs,a,.ref q,rfl,rfl,SqL.of (Z.hh _ _ (rl.ext.hh _ _ (Z9 b0))),ae,F0,jn H0 B,F2,c,_,rl.go Z,hk2,λw3 Y H3 x3 r3=>?_⟩;cases r3;have N:=(rl.go Z).go x3;refine⟨q,ys,b,m,rfl,rfl,N.ext.hh _ _ (Z9 a3),by rw[a4.length];exact hm,?_⟩;obtain⟨a8,_,ac,ab⟩:=N.putB (a:=q) (o:=.lst (ys.set m v)) ok.out (.inl (by rw[a3];simp));have pq:p≠q:=λz=>O.1 (z ▸ a2);have j:Same F1 Y:=Z.ff.trans x3.ff;have G:CellR X.K Y (upd B q (.lst (ys.set m v))) (p::fq0) p (.row (fs.set n (.l (ds.set m d)))):=.row (by rw[x9 pq];exact b0) (a5 _ Y _ _ j x8 ((a4.mono j).set (rp.mono j) m) λa _ ad=>x9 ad);obtain⟨af,r',a9,ag⟩:=up _ _ _ Y j G nq (λa _ hn=>x9 λz=>hn (by rw[z];simp[a2])) λa ha=>.inl ha;exact k Y _ f ⟨_,af,a8,ym8 ok.out ⟨ac,ab⟩,r',a9,zj1 ok.plain λ_ _ z=>by cases z⟩ (s1.trans j)
      .cases h2
     .cases h2
    .cases h2
  .cases e
 .cases e
end
@[irreducible] noncomputable def zo8(i:Nat)(m:MB):MB:=λa=>match a[i]? with
 |some (some (.own ds))=>m (a.set i (some (.sh (.lst ds))))
 |_=>m a
theorem xd0{X:Cx}(i:Nat)(h:PC' X e m):PC' X e (zo8 i m):=h.imp λc H Q N=>by
 obtain⟨F0,H0,F,a,d,rl,e,q⟩:=N;unfold zo8 at e;split at e
 .rename_i ds h1;obtain⟨p,xs,hp,O⟩:=rl.freezeP h1;refine⟨F0,H0,_,_,d,O,e,λF2 H2 G=>?_⟩;have U:F2 p=some (.lst xs):=G.ff _ _ x8;refine q (λb=>if b=p then none else F2 b) H2 ⟨λb o j=>?_,G.hh,λb o j=>?_,λb j hn=>?_,λb o u z=>by
   have z:(if b=p then none else F2 b)=some (.frz o u):=z;split at z
   .cases z
   .rename_i hne;have:=G.nf b o u z
    rwa [x9 hne]at this⟩
  .have hne:b≠p:=λw=>by rw[w,hp]at j;cases j
   show (if b=p then none else F2 b)=some o;rw[aI hne];exact G.ff b o (by rw[x9 hne];exact j)
  .have j:(if b=p then none else F2 b)=some o:=j;split at j
   .cases j
   .exact G.fh b o j
  .have hn:(if b=p then none else F2 b)≠none:=hn;split at hn
   .exact aZ rfl hn
   .rename_i hne;exact G.new b (by rw[x9 hne];exact j) hn
 .exact⟨F0,H0,F,a,d,rl,e,q⟩
section
variable {X:Cx}{pins:List (Addr×Obj)}{a:St}
end
section
variable {X:Cx}
end
section
variable {X:Cx}{pins:List (Addr×Obj)}{a:St}
end
section
variable {X:Cx}{pos:Pos}
end
section
variable {X:Cx}{e:Expr}{pos:Pos}{es:List Expr}{m:ML}{mf:MF}{E:XK}
end
section
variable {X:Cx}{pos:Pos}
end
abbrev Up(xs:Array Nat):Prop:=xs.toList.Pairwise (·<·)
theorem Up.lt(h:Up xs){i j:Nat}(z:i<j)(G:j<xs.size):xs[i]'aA<xs[j]:=by have:=dL.mp h i j (by simpa using (by lia:i<xs.size)) (by simpa using G) z;simpa using this
def IsBelow(xs:Array Nat)(j b:Nat):Prop:=b<=xs.size/\(∀i (h:i<xs.size),i<b->xs[i]<j)/\∀i (h:i<xs.size),b<=i->j<=xs[i]
theorem zm0{xs:Array Nat}(G:Up xs)(j:Nat):∀(fuel lo hi:Nat),lo<=hi->hi<=xs.size->hi-lo<=fuel->(∀i (h:i<xs.size),i<lo->xs[i]<j)->(∀i (h:i<xs.size),hi<=i->j<=xs[i])->IsBelow xs j (SetTable.below.go xs j fuel lo hi)
 |0,lo,hi,h1,h2,h3,ha,hb=>by have:lo=hi:=aA;subst this;exact⟨h2,ha,hb⟩
 |fuel+1,lo,hi,h1,h2,h3,ha,hb=>by
  unfold SetTable.below.go;by_cases q:lo<hi
  .rw[aJ q];dsimp only;have hm:(lo+hi) / 2<xs.size:=aB;have e:xs.getD ((lo+hi) / 2) j=xs[(lo+hi) / 2]:=by simp[Array.getD,hm]
   rw[e];by_cases z:xs[(lo+hi) / 2]<j
   .rw[aJ z];refine zm0 G j fuel _ hi aB h2 aB (λi h N=>?_) hb;rcases bq i ((lo+hi) / 2)with y|y
    .exact da (G.lt y hm) z
    .have:i=(lo+hi) / 2:=aB;subst this;exact z
   .rw[aI z];refine zm0 G j fuel lo _ aB aA aB ha λi h N=>?_;rcases bq ((lo+hi) / 2) i with y|y
    .exact bE aB (dk (G.lt y h))
    .have:i=(lo+hi) / 2:=aB;subst this;omega
  .rw[aI q];have:lo=hi:=aA;subst this;exact⟨h2,ha,hb⟩
theorem zn9(G:Up xs)(j:Nat):IsBelow xs j (SetTable.below xs j):=zm0 G j xs.size 0 xs.size (aY _) (aN _) aA (λi h z=>by omega) λi h z=>by lia
theorem IsBelow.uniq{j b c:Nat}(h:IsBelow xs j b)(k:IsBelow xs j c):b=c:=by
 rcases Nat.lt_trichotomy b c with z|z|z
 .have h1:=h.2.2 b (by have:=k.1;lia) (aN _);have h2:=k.2.1 b (by have:=k.1;lia) z;lia
 .exact z
 .have h1:=k.2.2 c (by have:=h.1;lia) (aN _);have h2:=h.2.1 c (by have:=h.1;lia) z;lia
theorem yo7(j:Up xs):SetTable.below xs 0=0:=(zn9 j 0).uniq ⟨aY _,λi h z=>by lia,λi h z=>aY _⟩
theorem yo8(j:Up xs){i:Nat}(hi:i<xs.size):SetTable.below xs (xs[i]+1)=i+1:=(zn9 j _).uniq ⟨aA,λk h z=>by
 rcases bq k i with y|y
 .have:=j.lt y hi;lia
 .have:k=i:=aA;subst this;lia,λk h z=>by
 have:=j.lt (show i<k by lia) h;lia⟩
theorem yd7(G:Up xs){j:Nat}(hn:xs[SetTable.below xs j]? ≠some j):Up (SetTable.insertAt xs (SetTable.below xs j) j):=by
 have hb:=zn9 G j;generalize SetTable.below xs j=b at*;unfold Up;rw[SetTable.toList_insertAt,eF];obtain⟨h1,h2,Z⟩:=hb;refine⟨List.Pairwise.sublist (take_sublist _ _) G,bJ.mpr ⟨λx Y=>?_,List.Pairwise.sublist (drop_sublist _ _) G⟩,λx Y y O=>?_⟩
 .obtain⟨i,hi,rfl⟩:=dD Y;rw[length_drop,bX]at hi;rw[getElem_drop,Array.getElem_toList];have:=Z (b+i) aA aA;rcases bq j (xs[b+i]'aA)with z|z
  .exact z
  .exfalso;have e:xs[b+i]'aA=j:=aA;have N:b<xs.size:=aA;rcases Nat.eq_zero_or_pos i with rfl|a1
   .exact hn (by rw[aM N];exact bi some e)
   .have h4:=Z b N (aN _);have h5:=G.lt (show b<b+i by lia) aA;omega
 .obtain⟨i,hi,rfl⟩:=dD Y;rw[cO,bX]at hi;rw[getElem_take,Array.getElem_toList];have U:=h2 i aA aA;rcases ba.mp O with rfl|O
  .exact U
  .obtain⟨k,hk,rfl⟩:=dD O;rw[length_drop,bX]at hk;rw[getElem_drop,Array.getElem_toList];exact G.lt aA aA
def GT(led:Bool)(t:SetTable):Prop:=t.led=led/\(t.plain=true->Up t.place)
theorem zj6{t:SetTable}{j:Nat}(h:t.slot j= .empty\/t.slot j= .dummy):t.place[SetTable.below t.place j]? ≠some j:=by unfold SetTable.slot at h;dsimp only at h;intro z;rw[z]at h;simp at h
theorem G4{t:SetTable}{f:Nat->Int}{h:Int}:∀(fuel:Nat)(p:SetTable.Probe),(∀d,p.dummy=some d->t.place[SetTable.below t.place d]? ≠some d)->∀j d,SetTable.probe.go t f h fuel p=some (.empty j d)->t.place[SetTable.below t.place (d.getD j)]? ≠some (d.getD j)
 |0,p,_,j,d,e=>by cases e
 |fuel+1,p,hd,j,d,e=>by
  unfold SetTable.probe.go at e;have G:∀q:SetTable.Probe,(t.advance q).dummy=q.dummy:=λq=>by unfold SetTable.advance;split <;> rfl
  split at e
  .rename_i hs;cases e;cases hq:p.dummy with
   |none=>exact zj6 (.inl hs)
   |some d=>exact hd d hq
  .rename_i hs;refine G4 fuel _ (λd' z=>?_) j d e;rw[G]at z;cases z;exact zj6 (.inr hs)
  .split at e
   .cases e
   .exact G4 fuel _ (λd' z=>hd d' (by rw[G]at z;exact z)) j d e
theorem za7{led:Bool}(g:GT led t)(es:Array (Int×Value))(h:Int)(x:Value):GT led (layNew t es h x).2.1:=by
 have st:∀(t:SetTable) n,t.led=led->GT led (t.standIn n):=λt n N=>⟨N,λz=>by cases z⟩;unfold layNew;split
 .rename_i slot wd hf;dsimp only;unfold SetTable.orStandIn;have N:(t.put slot).1.led=led:=g.1;split
  .refine⟨N,λhp=>?_⟩;have O:Up t.place:=g.2 hp;refine yd7 O ?_;unfold SetTable.freeSlot at hf;split at hf
   .rename_i j d hpr;cases hf;exact G4 _ _ (λd' G=>by unfold SetTable.probeStart at G;cases G) j d hpr
   .cases hf
  .exact st _ _ N
 .exact st _ _ g.1
theorem zq8{led:Bool}(g:GT led t)(es:Array (Int×Value))(G:Nat):GT led (relayAll t es G).2.1:=by
 have st:∀n,GT led (t.standIn n):=λn=>⟨g.1,λz=>by cases z⟩;unfold relayAll;split
 .rename_i t' order hr;dsimp only;split
  .unfold SetTable.relaid SetTable.laid at hr;cases hc:SetTable.layClean (SetTable.sizeAbove G-1) (es.map (·.1))with
   |none=>rw[hc]at hr;cases hr
   |some owner=>
    rw[hc]at hr;cases hr;refine⟨g.1,λ_=>?_⟩;unfold Up;dsimp only;have key:∀(n:Nat)(f:Nat->Option Nat),(((List.range n).filterMap λj=>(f j).map (j,·)).map (·.1)).Pairwise (·<·):=λn f=>by
     rw[map_filterMap];refine List.Pairwise.filterMap (R:=(·<·)) _ (λa b U x O y N=>?_) pairwise_lt_range;cases hfa:f a with
     |none=>rw[hfa]at O;cases O
     |some u=>
      cases hfb:f b with
      |none=>rw[hfb]at N;cases N
      |some v=>rw[hfa]at O;rw[hfb]at N;cases O;cases N;exact U
    exact key _ _
  .exact st _
 .exact st _
theorem zs5{j:Type}(l:List j)(i:Nat)(h:i<l.length):(l[i]::l.eraseIdx i).Perm l:=by
 rw[eraseIdx_eq_take_drop_succ];have e:l=l.take i++l[i]::l.drop (i+1):=by rw[getElem_cons_drop,take_append_drop]
 exact(List.perm_middle.symm).trans (by rw[<-e])
theorem yh0{z:Type}(next:Nat->Nat):∀(fuel k:Nat)(left:List z)(out:Array z),left.length=fuel->(pickOrder.go next fuel k left out).toList.Perm (out.toList++left)
 |0,k,left,out,h=>by rw[cQ.mp h,append_nil];exact .refl _
 |fuel+1,k,left,out,h=>by
  unfold pickOrder.go;have j:next k % left.length<left.length:=Nat.mod_lt _ aA
  rw[aK j];dsimp only;refine(yh0 next fuel (k+1) _ _ (by rw[length_eraseIdx_of_lt j];lia)).trans ?_;rw[cI,dI];exact ey _ (zs5 left _ j)
theorem yi9{j:Type}(next:Nat->Nat)(xs:Array j):(pickOrder next xs).toList.Perm xs.toList:=by unfold pickOrder;exact(yh0 next xs.size 0 xs.toList #[] aD).trans aD
section
variable {prog:Program}{w:World}{A:Around}{E:Value->Shared->Prop}{s:Shared}
noncomputable abbrev KI(prog:Program)(w:World):=intKind prog w
structure SG(prog:Program)(w:World)(h:Heap)(a:Addr)(S:Int->Bool)(n:Nat)(led:Bool)(o:Obj)(fs:Array (Int×Value))(ep:Nat)(u:SetTable):Prop where
 at_:h.get? a=some o
 ex:o.ExactSet
 dat:o.data= .set fs ep u
 el:ElemsOf (KI prog w) fs.toList
 mem:∀k,S k=true↔∃e∈fs.toList,(KI prog w).is k e.2=true
 small:fs.size<scanBound
 fit:u.fits fs.size=true
 many:fs.size=n
 good:GT led u
def SetG(prog:Program)(w:World)(h:Heap)(a:Addr)(S:Int->Bool)(n:Nat)(led:Bool):Prop:=∃o fs ep u,SG prog w h a S n led o fs ep u
theorem SetG.congr{S j:Int->Bool}{n n':Nat}{led:Bool}(g:SetG prog w h a S n led)(e:∀k,S k=j k)(z:n=n'):SetG prog w h a j n' led:=by have:S=j:=funext e;subst this;subst z;exact g
theorem SetG.stay{S:Int->Bool}{n:Nat}{led:Bool}(g:SetG prog w h a S n led)(k:∀o,h.get? a=some o->h'.get? a=some o):SetG prog w h' a S n led:=by obtain⟨o,fs,ep,u,g⟩:=g;exact⟨o,fs,ep,u,k o g.at_,g.ex,g.dat,g.el,g.mem,g.small,g.fit,g.many,g.good⟩
theorem xn0{h:Heap}{a:Addr}{o:Obj}{fs j:Array (Int×Value)}{ep:Nat}{u v:SetTable}{z:Int->Bool}{led:Bool}(G:h.get? a=some o)(hex:o.ExactSet)(hd:o.data= .set fs ep u)(el:ElemsOf (KI prog w) j.toList)(mem:∀k,z k=true↔∃e∈j.toList,(KI prog w).is k e.2=true)(small:j.size<scanBound)(fit:v.fits j.size=true)(N:GT led v):
  SG prog w (h.update a (Obj.putSet j v)) a z j.size led { o with data:=.set j (ep+1) v } j (ep+1) v:=
 ⟨(SetOf_store (knd:=KI prog w) G hex hd el mem small fit).1,hex,rfl,el,mem,small,fit,rfl,N⟩
theorem wv1{g:Bool->Sem Unit}(z:∀(b:Bool)(s1:Shared)(R:Unit->Shared->Prop),R () s1->wpAny (model prog w) A (g b) R E s1)
    {fs j:Array (Int×Value)} {ep:Nat}  {U:Int->Bool} {led:Bool} (Z:s.heap.get? a=some o) (hex:o.ExactSet) (hd:o.data= .set fs ep u) (el:ElemsOf (KI prog w) j.toList) (mem:∀k,U k=true↔∃e∈j.toList,(KI prog w).is k e.2=true) (small:j.size<scanBound) (fit:v.fits j.size=true) (gt:GT led v)
  {wd:Bool} {R:Option Bool->Shared->Prop} (fin:∀h',Heap.SameBut a s.heap h'->SetG prog w h' a U j.size led->R (some true) { s with heap:=h' }):
  wpAny (model prog w) A (do
   storeSet a j v
   if (!wd&&v.tooFull)=true then do
     g (relayAll v j (SetTable.grown j.size)).2.2
     storeSet a (relayAll v j (SetTable.grown j.size)).1 (relayAll v j (SetTable.grown j.size)).2.1
     pure (some true)
    else pure (some true)) R E s:=by
 have b1:=bW s.heap a (Obj.putSet j v);have G:=xn0 (prog:=prog) (w:=w) Z hex hd el mem small fit gt;refine aF (wpAny_storeSet_of Z hd ?_ (fits_of_scanBound small));split
 .have pp:=relayAll_perm v j (SetTable.grown j.size);have N:=relayAll_fits v j (SetTable.grown j.size);have pg:=zq8 gt j (SetTable.grown j.size);revert pp N pg;generalize relayAll v j (SetTable.grown j.size)=rr;obtain⟨ks,x,a1⟩:=rr;intro pp N pg;have Y:ks.size=j.size:=by have:=pp.length_eq;simpa using this
  refine aF (z _ _ _ ?_);have m2:∀k,U k=true↔∃e∈ks.toList,(KI prog w).is k e.2=true:=λk=>(mem k).trans ⟨λ⟨e,O,q⟩=>⟨e,pp.mem_iff.mpr O,q⟩,λ⟨e,O,q⟩=>⟨e,pp.mem_iff.mp O,q⟩⟩;have sm:ks.size<scanBound:=Y ▸ small;refine aF (wpAny_storeSet_of G.at_ rfl ?_ (fits_of_scanBound sm));have g2:=xn0 (prog:=prog) (w:=w) G.at_ G.ex rfl (el.perm pp) m2 sm N pg;rw[Y]at g2;exact aH (fin _ (b1.trans (bW _ a _)) ⟨_,_,_,_,g2⟩)
 .exact aH (fin _ b1 ⟨_,_,_,_,G⟩)
theorem addG{S:Int->Bool}{n:Nat}{led:Bool}{k:Int}{Q:Bool->Shared->Prop}(hk:(KI prog w).is k x=true)(hx:x.scannable=true)(hS:SetG prog w s.heap a S n led)(a2:n+1<scanBound)
  (fin:∀h',Heap.SameBut a s.heap h'->SetG prog w h' a (λj=>S j || decide (j=k)) (if S k then n else n+1) led->Q (!S k) { s with heap:=h' }):
  wpAny (model prog w) A (setAddHashed a x ((KI prog w).hash k)) Q E s:=by
 obtain⟨o,fs,ep,u,G⟩:=hS;have hn:=G.many;unfold setAddHashed setAddHashedIn;refine cS (aF (dw G.at_ G.dat G.fit ?_));dsimp only;rw[byScan_of hx G.small G.el];simp only[↓reduceIte];unfold setAddByScan;refine aF ?_;refine aF (cB ?_);refine aF (wpAny_setScan_of hk G.at_ G.dat G.fit G.el ?_);cases hr:List.findIdx? (λe=>(KI prog w).is k e.2) fs.toList with
 |some j=>
  dsimp only;obtain⟨hj,hp,_⟩:=List.findIdx?_eq_some_iff_getElem.mp hr;have N:S k=true:=(G.mem k).mpr ⟨_,getElem_mem hj,hp⟩;have:=fin s.heap (Heap.SameBut.refl a s.heap) (SetG.congr ⟨o,fs,ep,u,G⟩ (λi=>by
   by_cases z:i=k
   .subst z;rw[N];simp
   .simp[z]) (by rw[aJ N]))
  rw[N]at this;exact aH (aH this)
 |none=>
  dsimp only;have N:S k=false:=by
   cases z:S k with
   |false=>rfl
   |true=>obtain⟨e,he,hp⟩:=(G.mem k).mp z;have:=List.findIdx?_eq_none_iff.mp hr e he;rw[hp]at this;cases this
  have a1:∀(b:Bool){s1:Shared}{R:Unit->Shared->Prop},R () s1->wpAny (model prog w) A (match b with |true=>rule "set.scan.the-table-gave-way"|false=>pure ()) R E s1:=λb s1 R O=>by
   cases b
   .exact aH O
   .exact cB O
  have U:=layNew_perm u fs ((KI prog w).hash k) x;have Z:=layNew_fits u fs ((KI prog w).hash k) x;have Y:=za7 G.good fs ((KI prog w).hash k) x;revert U Z Y;generalize layNew u fs ((KI prog w).hash k) x=ll;obtain⟨gs,v,wd,a3⟩:=ll;intro U Z Y;dsimp only at U Z Y ⊢;rw[cI]at U;have el:ElemsOf (KI prog w) gs.toList:=(G.el.push hk hx).perm U;have mm:=λj=>mem_push_iff hk G.mem U j;have zz:gs.size=n+1:=by have:=U.length_eq;simp only[Array.length_toList,length_append,length_cons,length_nil]at this;lia
  have sm:gs.size<scanBound:=aA;refine aF (a1 _ ?_);have last:∀h',Heap.SameBut a s.heap h'->SetG prog w h' a (λj=>S j || decide (j=k)) gs.size led->Q true { s with heap:=h' }:=λh' b g=>by have:=fin h' b;rw[N]at this;exact this (g.congr (λ_=>rfl) zz)
  split
  .refine aF ?_;rw[hashByValue_scannable 8 hx];refine aH ?_;refine wv1 (λb s1 R O=>by cases b;exact aH O;exact cB O) G.at_ G.ex G.dat el mm sm ?_ ?_ λh' b g=>aH (last h' b g)
   .split
    .exact Z
    .exact SetTable.fits_plain_off Z
   .split
    .exact Y
    .exact⟨Y.1,λz=>by cases z⟩
  .refine aF (aH ?_);simp only[↓reduceIte];exact wv1 (λb s1 R O=>by cases b;exact aH O;exact cB O) G.at_ G.ex G.dat el mm sm Z Y λh' b g=>aH (last h' b g)
noncomputable def inL(val:Nat->Int)(i:Nat):Int->Bool:=λj=>(firstMet val i).any (·==j)
section
variable {R:Result->Shared->Prop}{I:Addr}{fp wr:List Addr}{Gn:Array GenState->Array GenState->Prop}{n:Nat}{P:Nat->Value->Prop}{St:Nat->Shared->Prop}
theorem wf3(W:WalksS prog w A.in1 I fp wr Gn n P St)(a:Addr)(O:a∉fp)(G:Nat->Int)(hv:∀i v,P i v->∃t,v= .int (G i) t)(small:n+1<scanBound)(led:Bool):
  ∀(r i:Nat)(s:Shared),n-i=r->i<=n->St i s->SetG prog w s.heap a (inL G i) (firstMet G i).length led->
   (∀s',Moved (a::wr) Gn s s'->SetG prog w s'.heap a (inL G n) (firstMet G n).length led->R (.ok (.ret .none)) s')->
   codeAny (model prog w) A (.builtin "set.update.loop" ⟨[.ref a,.ref I],[]⟩) R s:=by
 have N:a∉wr:=λz=>O (W.sub _ z);have up:∀b∈wr,b∈a::wr:=λb z=>bt _ z;intro r;induction r with
 |zero=>intro i s hr hi st g fin;obtain rfl:i=n:=aA;refine cz F.entry_set_update_loop ?_;rw[bU F.plain_set_update_loop _];show wpAny _ A.in1 (pyNext (.ref I) >>= _) _ _ s;refine aF (W.done s _ _ st λs1 mv=>?_);exact aH (fin s1 (mv.mono up) (g.stay λo e=>mv.heap a o N e))
 |succ r ih=>
  intro i s hr hi st g fin;have lt:i<n:=aA;refine cz F.entry_set_update_loop ?_;rw[bU F.plain_set_update_loop _];show wpAny _ A.in1 (pyNext (.ref I) >>= _) _ _ s;refine aF (W.item i s _ _ lt st λv s1 pv U mv=>?_);obtain⟨t,rfl⟩:=hv i v pv;have g1:=g.stay λo e=>mv.heap a o N e;show wpAny _ A.in1 (holding [Value.int (G i) t] (setAdd a (.int (G i) t)) >>= _) _ _ s1;refine aF (cS ?_);unfold setAdd;refine cS ?_;refine aF ((intKind prog w).pyHash (k:=G i) (intKind_is _ _ _ _) ?_);refine addG (s:={ s1 with toks:=s1.toks+1 }) (intKind_is _ _ _ _) rfl g1 (by have:=firstMet_length_le G i;lia) λh2 sb g2=>?_;have g3:SetG prog w h2 a (inL G (i+1)) (firstMet G (i+1)).length led:=g2.congr (λj=>by unfold inL;rw[firstMet_succ,step_any]) (by rw[firstMet_succ,step_length];rfl);refine aH ⟨dq F.plain_set_update_loop _,ih (i+1) _ aA lt (W.frame _ s1 _ _ U (Nat.le_succ _) λb Z o e=>?_) g3 λs2 Y g4=>?_⟩
  .rw[sb.2 b (λz:b=a=>O (by rw[<-z];exact Z))];exact e
  .refine fin s2 (Moved.trans W.gtrans ((mv.mono up).then_heap (Nat.le_succ _) λb o Z e=>?_) Y) g4;rw[sb.2 b (λz:b=a=>Z (by rw[z];exact bV))];exact e
end
noncomputable def zv6(w:World):Bool:=!(w.params.followText "set-order")
def Y4(w:World):Obj:={ cls:=.type "set",dict:=none,data:=.set #[] 0 (.fresh 0 0 (zv6 w)) }
theorem yb5(a:Value){Q:Value->Shared->Prop}(h:Q (.ref s.heap.objs.size) { s with heap:=s.heap.push (Y4 w) }):
  codeAny (model prog w) A (.call (.builtin "set.__new__") ⟨[.type "set",a],[]⟩) (wants Q E) s:=by
 refine codeAny_of_tree ?_;show wpAny _ A.in1 (do checkBuiltinCall "set.__new__" ⟨[.type "set",a],[]⟩;again (.builtin "set.__new__" ⟨[.type "set",a],[]⟩)) _ _ s;refine aF (dh (PySem.F.newCall_set_1 a) (aH ⟨dq PySem.F.plain_set_new _,cz PySem.F.entry_set_new ?_⟩));rw[bU PySem.F.plain_set_new _];unfold Builtin.«set.__new__» Builtin.Frozenset.newClass;have j:=PySem.sub_set_self;obtain⟨hp,g,d,tk,os⟩:=s;dsimp only
 wp_walk
 refine wpAny_askSetting (aH ?_);dsimp only;simp only[newObj];refine aF (wpAny_alloc (aH ?_));exact aH h
theorem yk6(j:h.get? a=some (Y4 w)):SetG prog w h a (λ_=>false) 0 (zv6 w):=
 ⟨Y4 w,#[],0,.fresh 0 0 (zv6 w),j,⟨rfl,rfl,rfl⟩,rfl,λe z=>by simp at z,λk=>by simp,by decide,by rfl,rfl,rfl,λ_=>List.Pairwise.nil⟩
set_option maxHeartbeats 3200000 in
theorem xp1{items:Array Value}{Q:Value->Shared->Prop}(hh:A.handled=none)(hl:s.heap.IsList l items)(hi:IntsAre items.toList ns)(small:items.size+1<scanBound)
  (fin:∀(h':Heap)(tk:Nat),SetG prog w h' s.heap.objs.size (inL (λi=>ns.getD i 0) items.size) (firstMet (λi=>ns.getD i 0) items.size).length (zv6 w)->
   (∀b o,b<s.heap.objs.size->s.heap.get? b=some o->h'.get? b=some o)->Q (.ref s.heap.objs.size) { s with heap:=h',toks:=tk }):
  wpAny (model prog w) A (call (.type "set") [.ref l]) Q E s:=by
 obtain⟨c,tl,ad⟩:=cK.mro;have a4:=cK.made;have aa:=cK.sub;refine wpAny_call (codeAny_of_tree ?_);show wpAny _ _ (callAny (.type "set") _) _ _ _;refine aH ⟨Code.quiet_builtin _ aE,cz PySem.F.entry_type_call ?_⟩;rw[Around.under_plain (weight_type_call_type "set" [.ref l] []) rfl];have h1:=cK.notType;have h2:=cK.canCreate;have ag:=PySem.F.typeCall_set_1 (.ref l)
 repeat (any_goals (first|assumption|wp_step))
 refine codeAny_mono (yb5 (.ref l) (E:=E) (Q:=λobj s1=>obj= .ref s.heap.objs.size/\s1={ s with heap:=s.heap.push (Y4 w) }) ⟨rfl,rfl⟩) λr s1 hr=>?_;cases r with
 |error e=>exact hr
 |ok fl=>
  cases fl with
  |ret obj=>
   obtain⟨rfl,rfl⟩:=hr;have hS:(s.heap.push (Y4 w)).get? s.heap.objs.size=some (Y4 w):=aX _ rfl;have hT:Shared.TypeIs { s with heap:=s.heap.push (Y4 w) } (.ref s.heap.objs.size) "set":=⟨_,hS,rfl⟩;have af:=cK.init.lookup;have ah:=cK.init.bind (.ref s.heap.objs.size)
   repeat (any_goals (first|assumption|wp_step))
   refine codeAny_mono (codeAny_call_builtin (R:=wants (λr s2=>r= .none/\∃h' tk,s2={ s with heap:=h',toks:=tk }/\SetG prog w h' s.heap.objs.size (inL (λi=>ns.getD i 0) items.size) (firstMet (λi=>ns.getD i 0) items.size).length (zv6 w)/\
     (∀b o,b<s.heap.objs.size->s.heap.get? b=some o->h'.get? b=some o)) E) cK.init.plain PySem.F.entry_set_init (PySem.check_set_init_1 hT ?_)) λr2 s2 N=>?_
   .obtain⟨ol,hol,hcl,nl,hdl⟩:=hl;obtain⟨a9,G,a3,j⟩:=ol;simp only at hcl hdl;subst hcl;subst hdl;have O:(s.heap.push (Y4 w)).get? l=some { cls:=.type "list",dict:=G,data:=.seq items nl,slots:=j }:=aG _ hol;have ab:=PySem.F.sub_list_set;have ac:=PySem.F.sub_list_frozenset;have ae:(Value.type "list"==Value.type "dict")=false:=by decide
    have Z:(s.heap.push (Y4 w)).IsList l items:=⟨_,O,rfl,nl,rfl⟩;unfold Builtin.«set.__init__» noKeywords Builtin.Frozenset.updateFrom;generalize a7:pyIter=PI
    wp_walk
    subst a7;refine dZ Z ?_;refine aF (wpAny_runValue ?_);have Y:l<s.heap.objs.size:=aS hol;have a5:A.in1.in1.in1.handled=none:=by simp[hh]
    have z:(s.heap.push (Y4 w)).objs.size=s.heap.objs.size+1:=by rw[cw]
    have U:l≠(s.heap.push (Y4 w)).objs.size:=by rw[z];exact bv (bN Y)
    have a6:s.heap.objs.size∉[(s.heap.push (Y4 w)).objs.size,l]:=by simp only[mem_cons,not_mem_nil,or_false,not_or];exact⟨by rw[z];exact bv (ci _),cM Y⟩
    refine wf3 ((Walks.list a5 _ l U items).toS) s.heap.objs.size a6 (λi=>ns.getD i 0) (λi v hv=>IntsAre.int_at hi i v (by rw[cu];exact hv)) small (zv6 w) (items.size-0) 0 _ aA (aY _) ⟨⟨_,aX _ rfl,rfl,rfl⟩,(Z.push _)⟩ ?g0 ?gR
    case g0=>exact(yk6 (aG _ hS)).congr (λ_=>rfl) rfl
    case gR=>intro s' mv g;obtain⟨h',g',d',a1,a2⟩:=s';have eg:g'=s.gens:=mv.gens;have ed:d'=s.drawn:=mv.drawn;have eo:a2=s.os:=mv.os;subst eg;subst ed;subst eo;show wpAny _ _ _ _ _ _;refine aH ?_;show wpAny _ _ (ret Value.none) _ _ _;refine aH ⟨rfl,h',a1,rfl,g,λb o hb e=>?_⟩;exact mv.heap b o (by simp only[mem_cons,not_mem_nil,or_false,not_or];exact⟨bv hb,by rw[cw];exact bv (bN hb)⟩) (aG _ (aG _ e))
   .cases r2 with
    |error e=>exact N
    |ok a8=>
     cases a8 with
     |ret r=>
      obtain⟨rfl,h',tk,rfl,g,kk⟩:=N
      repeat (any_goals (first|assumption|wp_step))
      exact fin _ _ g kk
     |_=>exact N.elim
  |_=>exact hr.elim
end
theorem slot_si_next:Slot "set_iterator" "__next__" "set_iterator.__next__":=
 .of (owner:="set_iterator") (n:="__next__") (by rw[typeLookup_type,builtinLookup_eq_fast];kernel_rfl) aE aE aE
  (by first|exact .inl aE|exact .inr aE) (by rw[isSubtype_type];kernel_rfl)
theorem Y9:entryFor table "set_iterator.__next__"=some Builtin.«set_iterator.__next__»:=entryFor_of_tree (by kernel_rfl)
theorem X9(a:Value):argsOk "set_iterator.__next__" ⟨[a],[]⟩:=by unfold argsOk;kernel_rfl
theorem zu0:entryFor table "set.__iter__"=some Builtin.«frozenset.__iter__»:=entryFor_alias (id':="frozenset.__iter__") (by kernel_rfl) rfl aE (by kernel_rfl)
section
variable {prog:Program}{w:World}{A:Around}{E:Value->Shared->Prop}{s:Shared}
def IsSI(h:Heap)(it:Addr)(first:Value)(i:Nat)(a:Addr)(n ep:Nat):Prop:=∃o,h.get? it=some o/\o.cls= .type "set_iterator"/\o.data= .fields #[first,.int i 0,.ref a,.int n 0,.int ep 0]
theorem IsSI.typeIs{first:Value}{i:Nat}{n ep:Nat}(x:IsSI s.heap it first i a n ep):s.TypeIs (.ref it) "set_iterator":=let ⟨o,j,hc,_⟩:=x;⟨o,j,hc⟩
theorem yv4{slot:Int}{U i n ep nx:Nat}{S:Int->Bool}{led:Bool}{fs:Array (Int×Value)}{Q:Option Value->Shared->Prop}(j:IsSI s.heap it (.int slot U) i a n ep)(G:SG prog w s.heap a S n led o fs ep u)
  (hn:∀(A:Around)(Q:Option (Value×Nat)->Shared->Prop)(E:Value->Shared->Prop),Q (some (x,nx)) s->wpAny (model prog w) A (setNext a slot.toNat i ep) Q E s)
  (Y:∀h',IsSI h' it (.int nx 0) (i+1) a n ep->Heap.SameBut it s.heap h'->Q (some x) { s with heap:=h' }):
  wpAny (model prog w) A (pyNext (.ref it)) Q E s:=by
 obtain⟨Z,z,hc,hd⟩:=id j;unfold pyNext;refine aF (cT (ce (name:=Str.ofString "__next__") j.typeIs slot_si_next
  (bM slot_si_next j.typeIs Y9 ?_ (X9 _))))
 show wpAny _ _ (fieldsOf (.ref it) >>= _) _ _ s;refine aF (wpAny_fieldsOf z hd ?_);show wpAny _ _ (setEntries a >>= _) _ _ s;refine aF (dM G.at_ G.dat G.fit ?_);rw[aI (by rw[G.many];simp)];dsimp only;refine aF ?_;show wpAny _ _ (setNext a slot.toNat (i:Int).toNat (ep:Int).toNat) _ _ s;rw[bB,bB];refine hn _ _ _ ?_;dsimp only;refine aF (dz z hd aD ?_);have O:=bK (Obj.mapFields (·.setIfInBounds 0 (rawInt nx))) z (du (cf hd _));have N:=cf hd (·.setIfInBounds 0 (rawInt nx));refine aF (dz O N aD (aH ⟨x,rfl,aH (Y _ ?_ ((bW ..).trans (bW ..)))⟩));refine⟨_,bK _ O (du (cf N _)),(Obj.cls_mapFields ..).trans ((Obj.cls_mapFields ..).trans hc),?_⟩;rw[cf N];simp[rawInt]
theorem zh3{slot:Int}{N i n ep:Nat}{S:Int->Bool}{led:Bool}{fs:Array (Int×Value)}{Q:Option Value->Shared->Prop}(hh:A.handled=none)(j:IsSI s.heap it (.int slot N) i a n ep)(G:SG prog w s.heap a S n led o fs ep u)
  (hn:∀(A:Around)(Q:Option (Value×Nat)->Shared->Prop)(E:Value->Shared->Prop),Q none s->wpAny (model prog w) A (setNext a slot.toNat i ep) Q E s)
  (O:∀h',Heap.ExtBut it s.heap h'->Q none { s with heap:=h' }):
  wpAny (model prog w) A (pyNext (.ref it)) Q E s:=by
 obtain⟨U,z,hc,hd⟩:=id j;unfold pyNext;refine aF (cT (ce (name:=Str.ofString "__next__") j.typeIs slot_si_next
  (bM slot_si_next j.typeIs Y9 ?_ (X9 _))))
 show wpAny _ _ (fieldsOf (.ref it) >>= _) _ _ s;refine aF (wpAny_fieldsOf z hd ?_);show wpAny _ _ (setEntries a >>= _) _ _ s;refine aF (dM G.at_ G.dat G.fit ?_);rw[aI (by rw[G.many];simp)];dsimp only;refine aF ?_;show wpAny _ _ (setNext a slot.toNat (i:Int).toNat (ep:Int).toNat) _ _ s;rw[bB,bB];refine hn _ _ _ ?_;dsimp only;refine aF (dz z hd aD ?_);show wpAny _ _ (newExc (.type "StopIteration") [] >>= _) _ _ _;refine aF ?_;simp only[newExc,newTuple];refine aF (bY ?_ (by size_fits));refine aF (m:=firstArgMember _ _) (dh (a:=Value.none) (by first|rfl| (simp only[firstArgMember];rfl)) ?_);refine bY ?_ (by size_fits);simp only[raiseNew];refine aF (wpAny_handled ?_)
 first|rw[show A.in1.handled=none from hh]|rw[hh]
 refine aF (aH (wpAny_throw ?_));refine aF (ez (T:="StopIteration") (b:=true) ⟨_,aX _ rfl,rfl⟩ isSubtype_stop ?_);exact aH (O _ (((bW ..).extBut.push _).push _))
theorem J3{Q:Bool->Shared->Prop}(h:Q (w.params.followText "set-order") s):wpAny (model prog w) A setsByText Q E s:=by unfold setsByText;exact aF (wpAny_askSetting (aH h))
variable {a:Addr}{S:Int->Bool}{n ep:Nat}{led:Bool}{o:Obj}{fs:Array (Int×Value)}{u:SetTable}
theorem F9(G:SG prog w s.heap a S n led o fs ep u)(ht:w.params.followText "set-order"=true)(slot i:Nat){Q:Option (Value×Nat)->Shared->Prop}(h:Q (((pickOrder (w.params.setOrder a ep) fs)[i]?).map λe=>(e.2,slot)) s):wpAny (model prog w) A (setNext a slot i ep) Q E s:=by unfold setNext;refine aF (dw G.at_ G.dat G.fit ?_);dsimp only;refine aF (J3 ?_);rw[ht];simp only[if_true,bne_self_eq_false,Bool.false_eq_true,if_false];refine aF ?_;unfold setWalk;refine aF (dw G.at_ G.dat G.fit ?_);dsimp only;refine aF (J3 ?_);rw[ht];simp only[if_true];exact aF (wpAny_askSetting (aH (aH h)))
theorem P8(G:SG prog w s.heap a S n led o fs ep u)(ht:w.params.followText "set-order"=false)(z:led=true)(hp:(!u.plain&&decide (fs.size>1))=false)(slot i:Nat){Q:Option (Value×Nat)->Shared->Prop}
  (h:Q (match fs[SetTable.below u.place slot]?,u.place[SetTable.below u.place slot]? with |some (_,x),some j=>some (x,j+1)|_,_=>none) s):wpAny (model prog w) A (setNext a slot i ep) Q E s:=by
 unfold setNext;refine aF (dw G.at_ G.dat G.fit ?_);dsimp only;refine aF (J3 ?_);rw[ht];simp only[Bool.false_eq_true,if_false];show wpAny _ _ (if (!u.plain&&decide (fs.size>1))=true then _ else _) _ _ s;rw[hp];simp only[Bool.false_eq_true,if_false];show wpAny _ _ ((if (!u.led&& !fs.isEmpty)=true then unsupported "set:maker-not-led" else pure ()) >>= _) _ _ s;rw[G.good.1,z];simp only[Bool.not_true,Bool.false_and,Bool.false_eq_true,if_false];exact aF (aH (aH h))
end
section
variable {prog:Program}{w:World}{A:Around}{E:Value->Shared->Prop}{s:Shared}
theorem yo4{src:Source}{n:Nat}(hn:n≠0){Q:Nat->Shared->Prop}(h:∀v,v<n->Q v { s with drawn:=s.drawn.bump src }):wpAny (model prog w) A (choose src n) Q E s:=λz p j=>by unfold choose;exact⟨hn,h _ (Nat.mod_lt _ (Nat.pos_of_ne_zero hn))⟩
theorem K7{z:Type}:∀(n:Nat)(xs:List z){s:Shared}{Q:List z->Shared->Prop},xs.length=n->(∀ys d,ys.Perm xs->Q ys { s with drawn:=d })->wpAny (model prog w) A (drawOrder n xs) Q E s
 |0,xs,s,Q,h,q=>by rw[cQ.mp h]at q ⊢;exact aH (q [] s.drawn (.refl _))
 |n+1,[],s,Q,h,q=>by cases h
 |n+1,x::xs,s,Q,h,q=>by show wpAny _ _ (choose .order (x::xs).length >>= _) _ _ s;refine aF (yo4 aD λv j=>?_);rw[aK j];dsimp only;refine aF (K7 n _ (by rw[length_eraseIdx_of_lt j];lia) λys d hp=>?_);exact aH (q _ d ((hp.cons _).trans (zs5 (x::xs) v j)))
variable {a:Addr}{S:Int->Bool}{n ep:Nat}{led:Bool}{o:Obj}{fs:Array (Int×Value)}{u:SetTable}
theorem xr2(G:SG prog w s.heap a S n led o fs ep u){Q:Value->Shared->Prop}
  (h1:(w.params.followText "set-order"=true\/(!u.plain&&decide (fs.size>1))=false)->Q (.ref s.heap.objs.size) { s with heap:=s.heap.push { cls:=.type "set_iterator",data:=.fields #[.int 0 0,.int 0 0,.ref a,.int n 0,.int ep 0] } })
  (h2:∀(ys:List Nat) d,ys.Perm (List.range n)->Q (.ref (s.heap.objs.size+1)) { s with heap:=(s.heap.push (seqObj "tuple" (ys.map λ(i:Nat)=>Value.int i 0).toArray 0)).push { cls:=.type "set_iterator",data:=.fields #[.ref s.heap.objs.size,.int 0 0,.ref a,.int n 0,.int ep 0] },drawn:=d }):
  wpAny (model prog w) A (pyIter (.ref a)) Q E s:=by
 have hT:s.TypeIs (.ref a) "set":=⟨o,G.at_,G.ex.1⟩;refine wpAny_pyIter_slot hT PySem.F.slot_set_iter (bM PySem.F.slot_set_iter hT zu0 ?_ (PySem.F.args_set_iter_1 _));show wpAny _ _ (Builtin.Frozenset.sizeOf a >>= _) _ _ s;unfold Builtin.Frozenset.sizeOf;refine aF (aF (dM G.at_ G.dat G.fit (aH ?_)));show wpAny _ _ (setDrawn a >>= _) _ _ s;unfold setDrawn;refine aF (aF (dw G.at_ G.dat G.fit ?_));dsimp only;refine aF (J3 (aH ?_));have last:∀(s1:Shared)(first:Value),s1.heap.get? a=some o->(Q (.ref s1.heap.objs.size) { s1 with heap:=s1.heap.push { cls:=.type "set_iterator",data:=.fields #[first,.int 0 0,.ref a,.int n 0,.int ep 0] } })->
   wpAny (model prog w) A.in1 (do
    let e ← setEpoch a
    let r ← newFields "set_iterator" [first,rawInt 0,.ref a,rawInt fs.size,rawInt e]
    ret r) (λfin s'=>∃v,fin=Fin.done (Flow.ret v)/\∃j r,s'.TypeIs v j/\typeLookup (Value.type j) (Str.ofString "__next__")=pure (some r)/\Q v s') E s1:=λs1 first ha q=>by
  refine aF (wpAny_setEpoch_of ha G.dat G.fit ?_);rw[G.many];exact aF (bY (aH ⟨_,rfl,"set_iterator",_,⟨_,aX _ rfl,rfl⟩,slot_si_next.lookup,q⟩))
 show wpAny _ _ (if (!w.params.followText "set-order"&&(!u.plain&&decide (fs.size>1)))=true then _ else _) _ _ s;cases hb:(!w.params.followText "set-order"&&(!u.plain&&decide (fs.size>1)))with
 |true=>
  simp only[if_true];refine aF (K7 _ _ aD λys d hp=>?_);refine aF (wpAny_newTuple ?_ (by have:=hp.length_eq;have:=fits_of_scanBound G.small;simp at*;lia));refine last _ _ (aG _ G.at_) ?_;have:=h2 ys d (by rw[<-G.many];exact hp);have e:(s.heap.push (seqObj "tuple" (ys.map λ(i:Nat)=>Value.int i 0).toArray 0)).objs.size=s.heap.objs.size+1:=by rw[cw]
  rw[<-e]at this;exact this
 |false=>
  simp only[Bool.false_eq_true,if_false];refine last s (rawInt 0) G.at_ (h1 ?_);cases ht:w.params.followText "set-order" with
  |true=>exact .inl rfl
  |false=>rw[ht]at hb;exact .inr hb
end
section
variable {prog:Program}{w:World}{A:Around}{E:Value->Shared->Prop}{s:Shared}
variable {it a pt:Addr}{i n ep:Nat}{S:Int->Bool}{led:Bool}{o:Obj}{fs:Array (Int×Value)}{u:SetTable}{items:Array Value}
theorem yq7{y t:Nat}{e:Int×Value}{Q:Option Value->Shared->Prop}(j:IsSI s.heap it (.ref pt) i a n ep)(G:SG prog w s.heap a S n led o fs ep u)(hp:s.heap.IsTuple pt items)(U:items[i]? =some (.int (y:Int) t))(Y:fs[y]? =some e)
  (Z:∀h',IsSI h' it (.ref pt) (i+1) a n ep->Heap.SameBut it s.heap h'->Q (some e.2) { s with heap:=h' }):
  wpAny (model prog w) A (pyNext (.ref it)) Q E s:=by
 obtain⟨oi,N,hc,hd⟩:=id j;obtain⟨ot,z,_,nt,O⟩:=hp;unfold pyNext;refine aF (cT (ce (name:=Str.ofString "__next__") j.typeIs slot_si_next
  (bM slot_si_next j.typeIs Y9 ?_ (X9 _))))
 show wpAny _ _ (fieldsOf (.ref it) >>= _) _ _ s;refine aF (wpAny_fieldsOf N hd ?_);show wpAny _ _ (setEntries a >>= _) _ _ s;refine aF (dM G.at_ G.dat G.fit ?_);rw[aI (by rw[G.many];simp)];show wpAny _ _ (seqItems? (.ref pt) >>= _) _ _ s;refine aF (cv z O ?_);simp only[Int.toNat_natCast,U];refine aF ?_;unfold setNextDrawn;refine aF (dw G.at_ G.dat G.fit ?_);simp only[bne_self_eq_false,Bool.false_eq_true,if_false,Y];refine aH ?_;refine aF (dz N hd aD (aH ⟨e.2,rfl,aH (Z _ ?_ (bW ..))⟩));exact⟨_,bK _ N (du (cf hd _)),(Obj.cls_mapFields ..).trans hc,by rw[cf hd];simp[rawInt]⟩
theorem zb2{Q:Option Value->Shared->Prop}(hh:A.handled=none)(j:IsSI s.heap it (.ref pt) i a n ep)(G:SG prog w s.heap a S n led o fs ep u)(hp:s.heap.IsTuple pt items)(U:items[i]? =none)
  (Y:∀h',Heap.ExtBut it s.heap h'->Q none { s with heap:=h' }):
  wpAny (model prog w) A (pyNext (.ref it)) Q E s:=by
 obtain⟨oi,N,hc,hd⟩:=id j;obtain⟨ot,z,_,nt,O⟩:=hp;unfold pyNext;refine aF (cT (ce (name:=Str.ofString "__next__") j.typeIs slot_si_next
  (bM slot_si_next j.typeIs Y9 ?_ (X9 _))))
 show wpAny _ _ (fieldsOf (.ref it) >>= _) _ _ s;refine aF (wpAny_fieldsOf N hd ?_);show wpAny _ _ (setEntries a >>= _) _ _ s;refine aF (dM G.at_ G.dat G.fit ?_);rw[aI (by rw[G.many];simp)];show wpAny _ _ (seqItems? (.ref pt) >>= _) _ _ s;refine aF (cv z O ?_);simp only[Int.toNat_natCast,U];have Z:=bK (Obj.mapFields (·.setIfInBounds 0 (rawInt 0))) N (du (cf hd _));have d1:=cf hd (·.setIfInBounds 0 (rawInt 0));refine aF (dz N hd aD ?_);refine aF (dz Z d1 aD ?_);show wpAny _ _ (newExc (.type "StopIteration") [] >>= _) _ _ _;refine aF ?_;simp only[newExc,newTuple];refine aF (bY ?_ (by size_fits));refine aF (m:=firstArgMember _ _) (dh (a:=Value.none) (by first|rfl| (simp only[firstArgMember];rfl)) ?_);refine bY ?_ (by size_fits);simp only[raiseNew];refine aF (wpAny_handled ?_)
 first|rw[show A.in1.handled=none from hh]|rw[hh]
 refine aF (aH (wpAny_throw ?_));refine aF (ez (T:="StopIteration") (b:=true) ⟨_,aX _ rfl,rfl⟩ isSubtype_stop ?_);exact aH (Y _ ((((bW ..).trans (bW ..)).extBut.push _).push _))
end
section
variable {prog:Program}{w:World}{A:Around}{E:Value->Shared->Prop}{s:Shared}
def MD(w:World)(h:Heap)(a:Addr)(ws:List Value)(i n ep:Nat)(led:Bool)(fs:Array (Int×Value))(u:SetTable)(first:Value):Prop:=
 (w.params.followText "set-order"=true/\(∃(k:Int),∃t:Nat,first= .int k t)/\ws=(pickOrder (w.params.setOrder a ep) fs).toList.map (·.2))\/
 (w.params.followText "set-order"=false/\led=true/\(!u.plain&&decide (fs.size>1))=false/\Up u.place/\u.place.size=fs.size/\(∃k:Nat,∃t:Nat,first= .int (k:Int) t/\SetTable.below u.place k=i)/\ws=fs.toList.map (·.2))\/
 (∃pt,∃ys:List Nat,first= .ref pt/\h.IsTuple pt (ys.map λ(y:Nat)=>Value.int y 0).toArray/\(∀y∈ys,y<fs.size)/\ws=ys.map λy=>(fs.getD y default).2)
def StS(prog:Program)(w:World)(it a:Addr)(ws:List Value)(i:Nat)(s:Shared):Prop:=∃S n led o fs ep u first,SG prog w s.heap a S n led o fs ep u/\IsSI s.heap it first i a n ep/\ws.length=n/\MD w s.heap a ws i n ep led fs u first
variable {it a:Addr}{ws:List Value}{i:Nat}
theorem SG.to{S:Int->Bool}{n ep:Nat}{led:Bool}{fs:Array (Int×Value)}(G:SG prog w h a S n led o fs ep u)(k:h'.get? a=some o):SG prog w h' a S n led o fs ep u:=⟨k,G.ex,G.dat,G.el,G.mem,G.small,G.fit,G.many,G.good⟩
theorem SG.ne{S:Int->Bool}{n ep m j:Nat}{led:Bool}{fs:Array (Int×Value)}{first:Value}(G:SG prog w h a S n led o fs ep u)(x:IsSI h it first j a m ep):a≠it:=λz=>by obtain⟨O,N,hc,_⟩:=x;have:=G.at_;rw[z,N]at this;cases this;rw[G.ex.1]at hc;exact aZ hc aC
theorem StS.frame{tk:Nat}(x:StS prog w it a ws i s)(k:∀b o,s.heap.get? b=some o->o.cls≠ .type "list"->h'.get? b=some o):StS prog w it a ws i { s with heap:=h',toks:=tk }:=by
 obtain⟨S,n,led,o,fs,ep,u,first,G,⟨Y,Z,hc,hd⟩,hl,j⟩:=x;refine⟨S,n,led,o,fs,ep,u,first,G.to (k _ _ G.at_ (by rw[G.ex.1];decide)),⟨Y,k _ _ Z (by rw[hc];decide),hc,hd⟩,hl,?_⟩;rcases j with j|j|⟨pt,ys,e,⟨U,N,z,nt,O⟩,r⟩
 .exact .inl j
 .exact .inr (.inl j)
 .exact .inr (.inr ⟨pt,ys,e,⟨U,k _ _ N (by rw[z];decide),z,nt,O⟩,r⟩)
theorem StS.item{Q:Option Value->Shared->Prop}(x:StS prog w it a ws i s)(hi:i<ws.length)(hQ:∀h',StS prog w it a ws (i+1) { s with heap:=h' }->Heap.SameBut it s.heap h'->Q (some ws[i]) { s with heap:=h' }):wpAny (model prog w) A (pyNext (.ref it)) Q E s:=by
 obtain⟨S,n,led,o,fs,ep,u,first,G,N,hl,md⟩:=x;have Z:=G.ne N;rcases md with⟨ht,⟨k,t,rfl⟩,j⟩|⟨ht,U,hp,hu,a3,⟨k,t,rfl,hb⟩,j⟩|⟨pt,ys,rfl,Y,a1,j⟩
 .have hlen:i<(pickOrder (w.params.setOrder a ep) fs).toList.length:=by rw[j,aW]at hi;exact hi
  refine yv4 (x:=ws[i]) (nx:=k.toNat) N G (λA Q E q=>F9 G ht _ _ ?_) λh' y sb=>hQ h' ⟨S,n,led,o,fs,ep,u,_,G.to ((sb.2 a Z).trans G.at_),y,hl,.inl ⟨ht,⟨_,_,rfl⟩,j⟩⟩ sb;have e:(pickOrder (w.params.setOrder a ep) fs)[i]? =some ((pickOrder (w.params.setOrder a ep) fs).toList[i]'hlen):=by rw[<-cu];exact aK hlen
  rw[e];have:ws[i]=((pickOrder (w.params.setOrder a ep) fs).toList[i]'hlen).2:=by simp[j]
  rw[this]at q;exact q
 .have hlen:i<fs.size:=by rw[j,aW,bX]at hi;exact hi
  have a2:i<u.place.size:=aA;refine yv4 (x:=ws[i]) (nx:=u.place[i]+1) N G (λA Q E q=>P8 G ht U hp _ _ ?_) λh' y sb=>hQ h' ⟨S,n,led,o,fs,ep,u,_,G.to ((sb.2 a Z).trans G.at_),y,hl,.inr (.inl ⟨ht,U,hp,hu,a3,⟨u.place[i]+1,_,rfl,yo8 hu a2⟩,j⟩)⟩ sb;rw[bB,hb,aM hlen,aM a2];have:ws[i]=fs[i].2:=by simp[j]
  rw[this]at q;exact q
 .have hlen:i<ys.length:=by rw[j,aW]at hi;exact hi
  have hy:=a1 ys[i] (getElem_mem hlen);have a4:pt≠it:=λz=>by obtain⟨ot,O,a5,_⟩:=Y;obtain⟨oi,ho,hc,_⟩:=N;rw[z,ho]at O;cases O;rw[a5]at hc;exact aZ hc aC
  have hw:ws[i]=fs[ys[i]].2:=by simp[j,hy]
  rw[hw]at hQ;refine yq7 (y:=ys[i]) (t:=0) (e:=fs[ys[i]]) N G Y (by simp[hlen]) (aM hy) λh' y sb=>hQ h' ⟨S,n,led,o,fs,ep,u,_,G.to ((sb.2 a Z).trans G.at_),y,hl,.inr (.inr ⟨pt,ys,rfl,?_,a1,j⟩)⟩ sb;obtain⟨ot,O,r⟩:=Y;exact⟨ot,(sb.2 pt a4).trans O,r⟩
theorem StS.done{Q:Option Value->Shared->Prop}(hh:A.handled=none)(x:StS prog w it a ws ws.length s)(U:∀h',Heap.ExtBut it s.heap h'->Q none { s with heap:=h' }):wpAny (model prog w) A (pyNext (.ref it)) Q E s:=by
 obtain⟨S,n,led,o,fs,ep,u,first,G,z,hl,Y⟩:=x;rcases Y with⟨ht,⟨k,t,rfl⟩,j⟩|⟨ht,N,hp,hu,a1,⟨k,t,rfl,hb⟩,j⟩|⟨pt,ys,rfl,O,Z,j⟩
 .refine zh3 hh z G (λA Q E q=>F9 G ht _ _ ?_) U;rw[Array.getElem?_eq_none (by rw[j,aW,bX];exact aN _)];exact q
 .refine zh3 hh z G (λA Q E q=>P8 G ht N hp _ _ ?_) U;rw[bB,hb,Array.getElem?_eq_none (by rw[j,aW,bX];exact aN _)];exact q
 .exact zb2 hh z G O (by simp[j]) U
end
section
variable {prog:Program}{w:World}{A:Around}{E:Value->Shared->Prop}{s:Shared}{it a:Addr}{ws:List Value}
noncomputable def lstO(acc:Array Value)(c:Nat):Obj:={ cls:=.type "list",dict:=none,data:=.seq acc c,slots:=#[] }
theorem extS{R:Result->Shared->Prop}(hh:A.handled=none)(hz:ws.length<=sizeLine)(L:Addr)(res:Value):
  ∀(r i:Nat)(s:Shared)(acc:Array Value)(c:Nat),ws.length-i=r->i<=ws.length->StS prog w it a ws i s->s.heap.get? L=some (lstO acc c)->acc.toList=ws.take i->L≠it->
   (∀h' c',(∀b o,b≠L->b≠it->s.heap.get? b=some o->h'.get? b=some o)->h'.get? L=some (lstO ws.toArray c')->R (.ok (.ret res)) { s with heap:=h' })->
   codeAny (model prog w) A (.builtin "list.extend.loop" ⟨[.ref L,.ref it,res],[]⟩) R s:=by
 intro r;induction r with
 |zero=>
  intro i s acc c hr hi st Z j G fin;obtain rfl:i=ws.length:=aA;refine cz PySem.F.entry_extend_loop ?_;rw[bU dJ _];show wpAny _ A.in1 (pyNext (.ref it) >>= _) _ _ s;refine aF (st.done (by simpa using hh) λh' eb=>?_);rw[take_length]at j;have e:acc=ws.toArray:=by rw[<-j]
  subst e;exact aH (fin h' c (λb o _ z q=>eb b o z q) (eb L _ G Z))
 |succ r ih=>
  intro i s acc c hr hi st Z j G fin;have lt:i<ws.length:=aA;have O:acc.size=i:=by rw[<-bX,j,cO];lia
  refine cz PySem.F.entry_extend_loop ?_;rw[bU dJ _];show wpAny _ A.in1 (pyNext (.ref it) >>= _) _ _ s;refine aF (st.item lt λh1 Y sb=>?_);have N:h1.get? L=some (lstO acc c):=(sb.2 L G).trans Z;show wpAny _ A.in1 (updateSeq L (·.push ws[i]) >>= _) _ _ _;refine aF ?_;refine dm N rfl (aH ⟨dq dJ _,ih (i+1) _ (acc.push ws[i]) _ aA lt (Y.frame (tk:=s.toks) λb o e hc=>?_) (bK _ N rfl) ?_ G λh2 c2 k2 g2=>?_⟩) (by rw[O];lia) (by show (acc.push ws[i]).size<=sizeLine+1;rw[Array.size_push,O];lia)
  .refine(ck _ _ (λz:L=b=>?_)).trans e;subst z;have e:h1.get? L=some o:=e;rw[N]at e;cases e;exact hc rfl
  .rw[cI,j,take_append_getElem lt]
  .refine fin h2 c2 (λb o hb U e=>k2 b o hb U ?_) g2;exact(ck _ _ (dU hb)).trans ((sb.2 b U).trans e)
end
section
variable {prog:Program}{w:World}{A:Around}{E:Value->Shared->Prop}{s:Shared}{a:Addr}
theorem xr9{Q:Bool->Shared->Prop}(hT:s.TypeIs (.ref a) "set")(h:Q false s):wpAny (model prog w) A (Builtin.List.listLengthHint (.ref a)) Q E s:=by
 unfold Builtin.List.listLengthHint;refine aF (wpAny_specialOf hT PySem.F.slot_set_len.lookup ?_);generalize j:("set.__len__":String)=id0
 wp_delta
 rw[show splitId id0=some ("set","__len__")from by subst j;decide +kernel];subst j;refine aF (ez (T:="set") (b:=true) hT (by rw[isSubtype_type];kernel_rfl) ?_);refine wpAny_ite_split (λz=>aZ z aC) (λ_=>?_);refine wpAny_ite_split (λ_=>?_) (λz=>aZ aE z);refine aF (wpAny_typeOf hT ?_);exact aH h
variable {S:Int->Bool}{n ep:Nat}{led:Bool}{o:Obj}{fs:Array (Int×Value)}{u:SetTable}
theorem xx0(h:xs.size<=1):Up xs:=by
 obtain⟨l⟩:=xs
 match l with
 |[]=>exact List.Pairwise.nil
 |[x]=>exact dj ..
 |x::y::r=>simp at h
theorem ym5{ys:List Nat}(h:ys.Perm (List.range fs.size)):(ys.map λy=>(fs.getD y default).2).Perm (fs.toList.map (·.2)):=by
 refine(h.map _).trans ?_;have:(List.range fs.size).map (λy=>(fs.getD y default).2)=fs.toList.map (·.2):=by
  apply ext_getElem
  .simp
  .intro i h1 h2;have:i<fs.size:=by simpa using h1
   simp[this]
 rw[this]
theorem E9{it L:Addr}{R:Result->Shared->Prop}(hh:A.handled=none)(hz:ws.length<=sizeLine)(hT:s2.TypeIs (.ref a) "set")(st:StS prog w it a ws 0 s2)(Z:s2.heap.get? L=some (lstO #[] 0))(U:L≠it)
  {P:PySem.Fin->Shared->Prop} {E':Value->Shared->Prop} (hP:∀j s',(j.quiet=true/\codeAny (model prog w) A j R s')->P (.again j) s')
  (fin:∀h' j,(∀b o,b≠L->b≠it->s2.heap.get? b=some o->h'.get? b=some o)->h'.get? L=some (lstO ws.toArray j)->R (.ok (.ret (.ref L))) { s2 with heap:=h' }):
  wpAny (model prog w) A.in1 (do
   let G ← holding [.ref it] (Builtin.List.listLengthHint (.ref a))
   if (G || ["set","frozenset","dict","dict_keys","dict_values","dict_items"].any (Value.type "set"== .type ·))=true then do
    rule "list.extend.makes-room"
    Builtin.List.listTouch (.ref L)
    again (.builtin "list.extend.loop" ⟨[.ref L,.ref it,.ref L],[]⟩)
   else again (.builtin "list.extend.loop" ⟨[.ref L,.ref it,.ref L],[]⟩)) P E' s2:=by
 refine aF (cS (xr9 hT ?_));rw[aJ aC];refine aF (cB ?_);refine aF ?_;show wpAny _ A.in1 (updateSeq L (·.push .none) >>= λ_=>updateSeq L (·.pop)) _ _ _;refine aF (dm Z rfl ?_);have g2:=bK (Obj.mapSeq (·.push Value.none)) Z rfl;refine dm g2 rfl ?_;have g3:=bK (Obj.mapSeq (·.pop)) g2 rfl;have N:∀b o,b≠L->s2.heap.get? b=some o->((s2.heap.update L (Obj.mapSeq (·.push Value.none))).update L (Obj.mapSeq (·.pop))).get? b=some o:=λb o O e=>(ck _ _ (dU O)).trans ((ck _ _ (dU O)).trans e);refine aH (hP _ _ ⟨dq dJ _,extS hh hz L _ ws.length 0 _ _ _ rfl (aY _) (st.frame (tk:=s2.toks) λb o e hc=>N b o (λz=>?_) e) g3 rfl U λh' j k g=>fin h' j (λb o O Y e=>k b o O Y (N b o O e)) g⟩);subst z;rw[Z]at e;cases e;exact hc rfl
end
section
variable {prog:Program}{w:World}{A:Around}{E:Value->Shared->Prop}{s:Shared}{a:Addr}
variable {S:Int->Bool}{n ep:Nat}{led:Bool}{o:Obj}{fs:Array (Int×Value)}{u:SetTable}
theorem yo3(hh:A.handled=none)(G:SG prog w s.heap a S n led o fs ep u)(a2:led=zv6 w){Q:List Value->Shared->Prop}
  (fin:∀ws h' d,ws.Perm (fs.toList.map (·.2))->(∀b o,b<s.heap.objs.size->s.heap.get? b=some o->h'.get? b=some o)->s.heap.objs.size<h'.objs.size->Q ws { s with heap:=h',drawn:=d }):
  wpAny (model prog w) A (collect (.ref a)) Q E s:=by
 have a5:a<s.heap.objs.size:=aS G.at_;have a3:fs.size<=sizeLine:=fits_of_scanBound G.small;unfold collect;refine aF (wpAny_runValue (cz PySem.F.entry_proto_collect ?_));rw[bU PySem.F.plain_proto_collect _];show wpAny _ A.in1 (newList [] >>= λl=>again (.builtin "list.__iadd__" ⟨[l,.ref a],[]⟩)) _ _ s;refine aF (bY ?_);refine aH ⟨dq PySem.F.plain_list_iadd _,cz PySem.F.entry_list_iadd ?_⟩;rw[bU PySem.F.plain_list_iadd _];have U:SG prog w (s.heap.push (lstO #[] 0)) a S n led o fs ep u:=G.to (aG _ G.at_);have hL:(s.heap.push (lstO #[] 0)).get? s.heap.objs.size=some (lstO #[] 0):=aX _ rfl;have z:(s.heap.push (lstO #[] 0)).objs.size=s.heap.objs.size+1:=by rw[cw]
 show wpAny _ A.in1 (Builtin.List.listExtendWith (.ref s.heap.objs.size) (.ref a) (.ref s.heap.objs.size)) _ _ { s with heap:=s.heap.push (lstO #[] 0) };unfold Builtin.List.listExtendWith;have a9:Shared.TypeIs { s with heap:=s.heap.push (lstO #[] 0) } (.ref a) "set":=⟨o,U.at_,G.ex.1⟩;refine aF (wpAny_typeOf a9 ?_);have h1:Builtin.List.listSameRef (.ref s.heap.objs.size) (.ref a)=false:=by simp[Builtin.List.listSameRef,Nat.ne_of_gt a5]
 rw[aI (by rw[h1];decide)];refine aF (xr2 U (λhc=>?_) λys d hp=>?_)
 .obtain⟨ws,hp,md⟩:∃ws:List Value,ws.Perm (fs.toList.map (·.2))/\MD w ((s.heap.push (lstO #[] 0)).push { cls:=.type "set_iterator",data:=.fields #[.int 0 0,.int 0 0,.ref a,.int n 0,.int ep 0] }) a ws 0 n ep led fs u (.int 0 0):=by
   cases ht:w.params.followText "set-order" with
   |true=>exact⟨_,(yi9 _ _).map _,.inl ⟨ht,⟨_,_,rfl⟩,rfl⟩⟩
   |false=>
    have hp:(!u.plain&&decide (fs.size>1))=false:=by
     rcases hc with hc|hc
     .rw[ht]at hc;cases hc
     .exact hc
    have a4:u.place.size=fs.size:=by have:=G.fit;simp only[SetTable.fits,Bool.and_eq_true,beq_iff_eq]at this;exact this.1
    have hu:Up u.place:=by
     cases hpl:u.plain with
     |true=>exact G.good.2 hpl
     |false=>rw[hpl]at hp;simp only[Bool.not_false,Bool.true_and,decide_eq_false_iff_not]at hp;exact xx0 aA
    exact⟨_,.refl _,.inr (.inl ⟨ht,by rw[a2];unfold zv6;rw[ht];rfl,hp,hu,a4,⟨0,0,rfl,yo7 hu⟩,rfl⟩)⟩
  have j:ws.length=n:=by rw[hp.length_eq,aW,bX,G.many]
  have N:s.heap.objs.size≠(s.heap.push (lstO #[] 0)).objs.size:=by rw[z];exact bv (ci _)
  have gs:((s.heap.push (lstO #[] 0)).push { cls:=.type "set_iterator",data:=.fields #[.int 0 0,.int 0 0,.ref a,.int n 0,.int ep 0] }).get? (s.heap.push (lstO #[] 0)).objs.size=some { cls:=.type "set_iterator",data:=.fields #[.int 0 0,.int 0 0,.ref a,.int n 0,.int ep 0] }:=aX _ rfl;have ga:=aG { cls:=.type "set_iterator",data:=.fields #[.int 0 0,.int 0 0,.ref a,.int n 0,.int ep 0] } U.at_;have gl:=aG { cls:=.type "set_iterator",data:=.fields #[.int 0 0,.int 0 0,.ref a,.int n 0,.int ep 0] } hL;refine E9 (s2:={ s with heap:=(s.heap.push (lstO #[] 0)).push { cls:=.type "set_iterator",data:=.fields #[.int 0 0,.int 0 0,.ref a,.int n 0,.int ep 0] } }) (a:=a) (it:=(s.heap.push (lstO #[] 0)).objs.size) (L:=s.heap.objs.size) (ws:=ws) hh (by rw[j,<-G.many];exact a3) ⟨o,ga,G.ex.1⟩ ⟨S,n,led,o,fs,ep,u,.int 0 0,U.to ga,⟨_,gs,rfl,rfl⟩,j,md⟩ gl N (λc' s' h=>h) λh' c' k g=>?_;show wpAny _ A (load s.heap.objs.size >>= _) _ _ _;refine aF (wpAny_load g ?_);refine aH (fin ws h' s.drawn hp (λb o hb e=>k b o (bv hb) (by rw[z];exact bv (bN hb)) (aG _ (aG _ e))) (aS g))
 .have hpf:ys.Perm (List.range fs.size):=by rw[G.many];exact hp
  have Y:=ym5 (fs:=fs) hpf;have j:(ys.map λy=>(fs.getD y default).2).length=n:=by rw[Y.length_eq,aW,bX,G.many]
  have N:s.heap.objs.size≠(s.heap.push (lstO #[] 0)).objs.size+1:=by rw[z];exact bv (bN (ci _))
  have a8:((s.heap.push (lstO #[] 0)).push (seqObj "tuple" (ys.map λ(i:Nat)=>Value.int i 0).toArray 0)).objs.size=(s.heap.push (lstO #[] 0)).objs.size+1:=by rw[cw]
  generalize a1:seqObj "tuple" (ys.map λ(i:Nat)=>Value.int i 0).toArray 0=tp at*;generalize O:({ cls:=.type "set_iterator",data:=.fields #[.ref (s.heap.push (lstO #[] 0)).objs.size,.int 0 0,.ref a,.int n 0,.int ep 0] }:Obj)=io;have a7:io.cls= .type "set_iterator":=by rw[<-O]
  have a6:io.data= .fields #[.ref (s.heap.push (lstO #[] 0)).objs.size,.int 0 0,.ref a,.int n 0,.int ep 0]:=by rw[<-O]
  have Z:tp.cls= .type "tuple"/\tp.data= .seq (ys.map λ(i:Nat)=>Value.int i 0).toArray 0:=by rw[<-a1];exact⟨rfl,rfl⟩
  have gt:((s.heap.push (lstO #[] 0)).push tp).get? (s.heap.push (lstO #[] 0)).objs.size=some tp:=aX _ (by rw[<-a1];rfl);have gs:(((s.heap.push (lstO #[] 0)).push tp).push io).get? ((s.heap.push (lstO #[] 0)).objs.size+1)=some io:=by rw[<-a8];exact aX _ (by rw[<-O];rfl)
  have ga:(((s.heap.push (lstO #[] 0)).push tp).push io).get? a=some o:=aG _ (aG _ U.at_);have gl:(((s.heap.push (lstO #[] 0)).push tp).push io).get? s.heap.objs.size=some (lstO #[] 0):=aG _ (aG _ hL);have st:StS prog w ((s.heap.push (lstO #[] 0)).objs.size+1) a (ys.map λy=>(fs.getD y default).2) 0 { s with heap:=((s.heap.push (lstO #[] 0)).push tp).push io,drawn:=d }:=
   ⟨S,n,led,o,fs,ep,u,.ref (s.heap.push (lstO #[] 0)).objs.size,U.to ga,⟨io,gs,a7,a6⟩,j,.inr (.inr ⟨_,ys,rfl,⟨tp,aG _ gt,Z.1,0,Z.2⟩,λy hy=>bS.mp (hpf.mem_iff.mp hy),rfl⟩)⟩
  refine E9 (s2:={ s with heap:=((s.heap.push (lstO #[] 0)).push tp).push io,drawn:=d }) (a:=a) (it:=(s.heap.push (lstO #[] 0)).objs.size+1) (L:=s.heap.objs.size) hh (by rw[j,<-G.many];exact a3) ⟨o,ga,G.ex.1⟩ st gl N (λc' s' h=>h) λh' c' k g=>?_;show wpAny _ A (load s.heap.objs.size >>= _) _ _ _;refine aF (wpAny_load g ?_);refine aH (fin _ h' d Y (λb o hb e=>k b o (bv hb) (by rw[z];exact bv (bN (bN hb))) (aG _ (aG _ (aG _ e)))) (aS g))
end
theorem zz9:∀{l m:List Int},l.Nodup->(∀x∈l,x∈m)->l.length=m.length->l.Perm m
 |[],m,_,_,h=>by rw[cQ.mp h.symm]
 |x::l,m,hd,hs,hl=>by
  have G:=hs x aD;have hn:=bC.mp hd;refine(List.Perm.cons x (zz9 hn.2 (λy j=>?_) ?_)).trans (perm_cons_erase G).symm
  .exact(mem_erase_of_ne (λz:y=x=>hn.1 (by rw[<-z];exact j))).mpr (hs y (by simp[j]))
  .rw[length_erase_of_mem G];simp only[length_cons]at hl;omega
theorem W6(j:Nat->Int):∀i,(firstMet j i).Nodup
 |0=>by rw[firstMet_zero];exact nodup_nil
 |i+1=>by
  rw[firstMet_succ];unfold step_dedup;split
  .exact W6 j i
  .rename_i h;refine cP.mpr ⟨W6 j i,by simp,λa ha b G=>?_⟩;rw[cU]at G;intro z;subst G;exact h (List.any_eq_true.mpr ⟨a,ha,by simp[z]⟩)
section
variable {prog:Program}{w:World}{A:Around}{E:Value->Shared->Prop}{s:Shared}{a:Addr}
variable {S:Int->Bool}{n ep:Nat}{led:Bool}{o:Obj}{fs:Array (Int×Value)}{u:SetTable}
theorem yd6:∀{l:List (Int×Value)},ElemsOf (KI prog w) l->∃ks:List Int,IntsAre (l.map (·.2)) ks/\∀k,k∈ks↔∃e∈l,(KI prog w).is k e.2=true
 |[],_=>⟨[],.nil,λk=>by simp⟩
 |e::l,h=>by
  obtain⟨ks,h1,h2⟩:=yd6 h.tail;obtain⟨⟨k,G,_⟩,_⟩:=h.head;obtain⟨t,ht⟩:=Value.isInt_shape G;refine⟨k::ks,?_,λj=>?_⟩
  .rw[bz,ht];exact .cons k t h1
  .rw[mem_cons,h2];constructor
   .rintro(rfl|⟨f,z,q⟩)
    .exact⟨e,by simp,G⟩
    .exact⟨f,by simp[z],q⟩
   .rintro⟨f,z,q⟩;rcases ba.mp z with rfl|z
    .exact .inl ((KI prog w).inj _ _ _ q G)
    .exact .inr ⟨f,z,q⟩
theorem yd5:∀{vs ws:List Value},ws.Perm vs->∀{ns:List Int},IntsAre vs ns->∃j,IntsAre ws j/\j.Perm ns:=by
 intro vs ws p;induction p with
 |nil=>exact λh=>⟨_,h,.refl _⟩
 |cons x _ N=>
  intro ns h;cases h with
  |cons n t h=>obtain⟨j,a,b⟩:=N h;exact⟨n::j,.cons n t a,b.cons n⟩
 |swap x y l=>
  intro ns h;cases h with
  |cons n t h=>
   cases h with
   |cons m O h=>exact⟨_,.cons _ _ (.cons _ _ h),.swap _ _ _⟩
 |trans _ _ G z=>intro ns h;obtain⟨j,a,b⟩:=z h;obtain⟨ks,c,d⟩:=G a;exact⟨ks,c,d.trans b⟩
end
noncomputable def ddI(ns:List Int):List Int:=firstMet (λi=>ns.getD i 0) ns.length
def SetH(P:Program)(w:World)(a:Addr)(ns:List Int):HO:=.ext λh=>SetG P w h a (inL (λi=>ns.getD i 0) ns.length) (ddI ns).length (zv6 w)
section
variable {X:Cx}{e:Expr}{pos:Pos}
end
namespace TS
noncomputable abbrev SM:=StateT SortSt Sem
noncomputable def ky(a:PyProof.Rows.KeyKind)(x:Keyed):a.α:=(a.keyOf x.1).getD a.dflt
def CL(M:Model)(A:Around)(E:Value->Shared->Prop)(s:Shared)(a₀:Array Keyed)(a:PyProof.Rows.KeyKind)(kd:SortKind):Prop:=
 ∀x y:Keyed,x∈a₀.toList->y∈a₀.toList->∀(st:SortSt)(Q:Option Bool->SortSt->Prop),kindOf st=kd->Q (some (a.blt (ky a x) (ky a y))) st->wpS M A E s (lt' x y) Q st
section
variable {M:Model}{A:Around}{E:Value->Shared->Prop}{s:Shared}{a₀:Array Keyed}{κ:PyProof.Rows.KeyKind}{kd:SortKind}{st:SortSt}
theorem Y7{i:Nat}(h:xs[i]? =some x):KK κ xs i=ky κ x:=by unfold KK ky;rw[h]
theorem k0{arr:Array Keyed}{i:Nat}(h:i<arr.size){Q:Keyed->SortSt->Prop}(q:Q arr[i] st):wpS M A E s (elem' arr i) Q st:=by rw[elem'_eq,aM h];exact aT q
theorem ww2(c:CL M A E s a₀ κ kd)(hp:∀x,x∈(arrOf st).toList->x∈a₀.toList)(G:kindOf st=kd){i j:Nat}(hi:i<(arrOf st).size)(z:j<(arrOf st).size){Q:Option Bool->SortSt->Prop}(q:Q (some (κ.blt (KK κ (arrOf st) i) (KK κ (arrOf st) j))) st):wpS M A E s (ltAt' i j) Q st:=by rw[ltAt'_eq];refine aO (dY ?_);refine aO (k0 hi ?_);refine aO (k0 z ?_);refine c _ _ (hp _ aD) (hp _ aD) _ _ G ?_;rw[<-Y7 (aM hi),<-Y7 (aM z)];exact q
theorem j6{c d:Type}{st:c}(a n:Nat)(b:d)(f:Nat->d->StateT c Sem (ForInStep d))(I:Nat->d->c->Prop)(Q:d->c->Prop)
  (G:I (n-a) b st)
  (hs:∀(x r:Nat)(b:d)(st:c),a<=x->x<n->x+r+1=n->I (r+1) b st->wpS M A E s (f x b) (λq st'=>match q with | .done b'=>Q b' st'| .yield b'=>I r b' st') st)
  (z:∀b st,I 0 b st->Q b st):wpS M A E s (forIn [a:n] b f) Q st:=by
 rw[Std.Legacy.Range.forIn_eq_forIn_range'];have j:([a:n]:Std.Legacy.Range).size=n-a:=by simp[Std.Legacy.Range.size]
 rw[j];refine wpS_forIn_list _ (λl b st=>∃x r,l=List.range' x r/\a<=x/\(r=0\/x+r=n)/\I r b st) _ ?_ ?_ _ _ _ ⟨a,n-a,rfl,aN _,aA,G⟩
 .rintro x rest b st ⟨x',r,hl,ha,hr,hI⟩;cases r with
  |zero=>cases hl
  |succ r=>
   rw[List.range'_succ]at hl;injection hl with e1 e2
   subst e1 e2;refine wpS_mono (hs x r b st ha aA aA hI) λq st' h=>?_;cases q with
   |done b'=>exact h
   |yield b'=>exact⟨x+1,r,rfl,aA,aA,h⟩
 .rintro b st ⟨x,r,hl,_,_,hI⟩;cases r with
  |zero=>exact z b st hI
  |succ r=>rw[List.range'_succ]at hl;cases hl
structure SB(a₀:Array Keyed)(kd:SortKind)(st:SortSt):Prop where
 perm:(arrOf st).Perm a₀
 kind:kindOf st=kd
 failed:failedOf st=none
theorem SB.size(h:SB a₀ kd st):(arrOf st).size=a₀.size:=h.perm.size_eq
theorem SB.mem(h:SB a₀ kd st):∀x,x∈(arrOf st).toList->x∈a₀.toList:=λx j=>(dF.mp h.perm).mem_iff.mp j
theorem SB.set(h:SB a₀ kd st)(p:xs.Perm (arrOf st)):SB a₀ kd (setArr st xs):=⟨p.trans h.perm,h.kind,h.failed⟩
theorem SB.lt(h:SB a₀ kd st)(c:CL M A E s a₀ κ kd){i j:Nat}(hi:i<a₀.size)(z:j<a₀.size){Q:Option Bool->SortSt->Prop}(q:Q (some (κ.blt (KK κ (arrOf st) i) (KK κ (arrOf st) j))) st):wpS M A E s (ltAt' i j) Q st:=
 ww2 c h.mem h.kind (h.size ▸ hi) (h.size ▸ z) q
def Spl(B:Nat->Bool)(n k:Nat):Prop:=k<=n/\(∀i,i<k->B i=true)/\∀i,k<=i->i<n->B i=false
noncomputable def bisM(bey:Nat->SM (Option Bool))(n lo hi:Nat):SM (Option Nat):=do
 let s ← forIn [:n] ((none,lo,hi):Option (Option Nat)×Nat×Nat) λ_ s=>
  if s.2.1 ≥ s.2.2 then pure (.done (none,s.2.1,s.2.2))
  else do
   let r ← bey (s.2.1+(s.2.2-s.2.1) / 2)
   match r with
   |some more=>if more=true then pure (.yield (none,s.2.1+(s.2.2-s.2.1) / 2+1,s.2.2))else pure (.yield (none,s.2.1,s.2.1+(s.2.2-s.2.1) / 2))
   |_=>pure (.done (some none,s.2.1,s.2.2))
 match s.1 with
 |some r=>pure r
 |none=>pure (some s.2.2)
def galM(bey:Nat->SM (Option Bool))(n hint:Nat):SM (Option Nat):=do
 let r ← bey hint
 match r with
 |some right=>
  if right=true then do
   let s ← forIn [:n] ((none,0,1):Option (Option Nat)×Nat×Nat) λ_ s=>
    if s.2.2 ≥ n-hint then pure (.done (none,s.2.1,s.2.2))
    else do
     let r ← bey (hint+s.2.2)
     match r with
     |some more=>if (!more)=true then pure (.done (none,s.2.1,s.2.2))else pure (.yield (none,s.2.2,2*s.2.2+1))
     |_=>pure (.done (some none,s.2.1,s.2.2))
   match s.1 with
   |some r=>pure r
   |none=>bisM bey n (hint+s.2.1+1) (hint+min s.2.2 (n-hint))
  else do
   let s ← forIn [:n] ((none,0,1):Option (Option Nat)×Nat×Nat) λ_ s=>
    if s.2.2 ≥ hint+1 then pure (.done (none,s.2.1,s.2.2))
    else do
     let r ← bey (hint-s.2.2)
     match r with
     |some found=>if found=true then pure (.done (none,s.2.1,s.2.2))else pure (.yield (none,s.2.2,2*s.2.2+1))
     |_=>pure (.done (some none,s.2.1,s.2.2))
   match s.1 with
   |some r=>pure r
   |none=>bisM bey n (hint+1-min s.2.2 (hint+1)) (hint-s.2.1)
 |_=>pure none
variable {B:Nat->Bool}{n:Nat}{bey:Nat->SM (Option Bool)}
theorem xo5(G:∀i,i<n->∀Q:Option Bool->SortSt->Prop,Q (some (B i)) st->wpS M A E s (bey i) Q st)(mono:∀i j,i<=j->j<n->B j=true->B i=true){lo hi:Nat}(h1:lo<=hi)(h2:hi<=n)(z:∀i,i<lo->B i=true)(hh:∀i,hi<=i->i<n->B i=false){Q:Option Nat->SortSt->Prop}(q:∀k,Spl B n k->Q (some k) st):wpS M A E s (bisM bey n lo hi) Q st:=by
 unfold bisM;refine aO (j6 0 n _ _ (λr b st'=>st'=st/\b.1=none/\b.2.1<=b.2.2/\b.2.2<=n/\b.2.2-b.2.1<=r/\(∀i,i<b.2.1->B i=true)/\∀i,b.2.2<=i->i<n->B i=false) _ ⟨rfl,rfl,h1,h2,by dsimp only;lia,z,hh⟩ ?_ ?_)
 .rintro x r ⟨b0,lo,hi⟩ st' _ _ _ ⟨rfl,hb,h1,h2,h3,z,hh⟩;simp only at hb h1 h2 h3 z hh ⊢;subst hb;split
  .exact aT (aT (q hi ⟨h2,λi hi=>z i aA,hh⟩))
  .rename_i hlt;have hm:lo+(hi-lo) / 2<hi:=aA;refine aO (G _ aA _ ?_);simp only;cases hv:B (lo+(hi-lo) / 2)with
   |true=>exact aT ⟨rfl,rfl,by dsimp only;lia,h2,by dsimp only;lia,λi hi=>mono i _ (by dsimp only at hi;lia) aA hv,hh⟩
   |false=>exact aT ⟨rfl,rfl,by dsimp only;lia,by dsimp only;lia,by dsimp only;lia,z,λi hi hn=>by
     cases h:B i with
     |false=>rfl
     |true=>rw[mono _ i hi hn h]at hv;cases hv⟩
 .rintro⟨b0,lo,hi⟩ st' ⟨rfl,hb,h1,h2,h3,z,hh⟩;simp only at hb h1 h2 h3 z hh ⊢;subst hb;exact aT (q hi ⟨h2,λi hi=>z i aA,hh⟩)
theorem xo4(U:∀i,i<n->∀Q:Option Bool->SortSt->Prop,Q (some (B i)) st->wpS M A E s (bey i) Q st)(mono:∀i j,i<=j->j<n->B j=true->B i=true){hint:Nat}(hn:hint<n){Q:Option Nat->SortSt->Prop}(q:∀k,Spl B n k->Q (some k) st):wpS M A E s (galM bey n hint) Q st:=by
 unfold galM;have Y:∀i j,i<=j->j<n->B i=false->B j=false:=λi j Z hj h=>by
  cases h':B j with
  |false=>rfl
  |true=>rw[mono i j Z hj h']at h;cases h
 refine aO (U _ hn _ ?_);cases hv:B hint with
 |true=>
  simp only[if_true];have fin:∀z G,z<G->B (hint+z)=true->hint+z<n->(G ≥ n-hint\/B (hint+G)=false)->wpS M A E s (bisM bey n (hint+z+1) (hint+min G (n-hint))) Q st:=λlo of h1 h2 O N=>
   xo5 U mono aA aA (λi hi=>mono i _ aA O h2) (λi hi hn=>by
    rcases N with N|N
    .lia
    .exact Y (hint+of) i aA hn N) q
  refine aO (j6 0 n _ _ (λr b st'=>st'=st/\b.1=none/\b.2.1<b.2.2/\B (hint+b.2.1)=true/\hint+b.2.1<n/\n<b.2.2+r+1) _ ⟨rfl,rfl,by simp,by simpa using hv,by simpa using hn,by dsimp only;lia⟩ ?_ ?_)
  .rintro x r ⟨b0,lo,of⟩ st' _ _ _ ⟨rfl,hb,h1,h2,O,N⟩;simp only at hb h1 h2 O N ⊢;subst hb;split
   .rename_i hge;exact aT (fin lo of h1 h2 O (.inl hge))
   .rename_i hge;refine aO (U _ aA _ ?_);simp only;cases hw:B (hint+of)with
    |false=>exact aT (fin lo of h1 h2 O (.inr hw))
    |true=>exact aT ⟨rfl,rfl,by dsimp only;lia,hw,by dsimp only;lia,by dsimp only;lia⟩
  .rintro⟨b0,lo,of⟩ st' ⟨rfl,hb,h1,h2,O,N⟩;simp only at hb h1 h2 O N ⊢;subst hb;exact fin lo of h1 h2 O (.inl aA)
 |false=>
  simp only[Bool.false_eq_true,if_false];have fin:∀z G,z<G->z<=hint->B (hint-z)=false->(G ≥ hint+1\/B (hint-G)=true)->wpS M A E s (bisM bey n (hint+1-min G (hint+1)) (hint-z)) Q st:=λlo of h1 h2 O N=>
   xo5 U mono aB aA (λi hi=>by
    rcases N with N|N
    .lia
    .exact mono i (hint-of) aA aA N) (λi hi hn=>Y _ i hi hn O) q
  refine aO (j6 0 n _ _ (λr b st'=>st'=st/\b.1=none/\b.2.1<b.2.2/\b.2.1<=hint/\B (hint-b.2.1)=false/\n<b.2.2+r+1) _ ⟨rfl,rfl,by simp,by simp,by simpa using hv,by dsimp only;lia⟩ ?_ ?_)
  .rintro x r ⟨b0,lo,of⟩ st' _ _ _ ⟨rfl,hb,h1,h2,O,N⟩;simp only at hb h1 h2 O N ⊢;subst hb;split
   .rename_i hge;exact aT (fin lo of h1 h2 O (.inl hge))
   .rename_i hge;refine aO (U _ aA _ ?_);simp only;cases hw:B (hint-of)with
    |true=>exact aT (fin lo of h1 h2 O (.inr hw))
    |false=>exact aT ⟨rfl,rfl,by dsimp only;lia,by dsimp only;lia,hw,by dsimp only;lia⟩
  .rintro⟨b0,lo,of⟩ st' ⟨rfl,hb,h1,h2,O,N⟩;simp only at hb h1 h2 O N ⊢;subst hb;exact fin lo of h1 h2 O (.inl aA)
end
end TS
namespace TS
section
variable {prog:Program}{w:World}{A:Around}{E:Value->Shared->Prop}{s:Shared}{a₀:Array Keyed}{κ:PyProof.Rows.KeyKind}{kd:SortKind}{st:SortSt}
def Seg(κ:PyProof.Rows.KeyKind)(xs:Array Keyed)(lo hi:Nat):Prop:=∀i j,lo<=i->i<=j->j<hi->κ.kle (KK κ xs i) (KK κ xs j)
def NInc(κ:PyProof.Rows.KeyKind)(xs:Array Keyed)(lo hi:Nat):Prop:=∀i j,lo<=i->i<=j->j<hi->κ.kle (KK κ xs j) (KK κ xs i)
structure Ch(a₀:Array Keyed)(κ:PyProof.Rows.KeyKind)(kd:SortKind)(lo:Nat)(st st':SortSt):Prop where
 sb:SB a₀ kd st'
 pend:pendingOf st'=pendingOf st
 pre:∀k,k<lo->KK κ (arrOf st') k=KK κ (arrOf st) k
theorem Ch.refl{lo:Nat}(h:SB a₀ kd st):Ch a₀ κ kd lo st st:=⟨h,rfl,λ_ _=>rfl⟩
theorem Ch.trans{lo:Nat}{st' j:SortSt}(h:Ch a₀ κ kd lo st st')(g:Ch a₀ κ kd lo st' j):Ch a₀ κ kd lo st j:=⟨g.sb,g.pend.trans h.pend,λk z=>(g.pre k z).trans (h.pre k z)⟩
theorem Seg.congr{lo hi:Nat}(h:Seg κ xs lo hi)(e:∀k,lo<=k->k<hi->KK κ ys k=KK κ xs k):Seg κ ys lo hi:=λi j h1 h2 z=>by rw[e i h1 aA,e j aA z];exact h i j h1 h2 z
theorem Seg.snoc{lo hi:Nat}(h:Seg κ xs lo hi)(G:lo<hi)(e:κ.kle (KK κ xs (hi-1)) (KK κ xs hi)):Seg κ xs lo (hi+1):=λi j h1 h2 N=>by
 rcases bq j hi with z|z
 .exact h i j h1 h2 z
 .have:j=hi:=aA;subst this;rcases bq i j with hi|hi
  .exact bu (h i (j-1) h1 aA aA) e
  .have:i=j:=aA;subst this;exact cY _
theorem NInc.snoc{lo hi:Nat}(h:NInc κ xs lo hi)(G:lo<hi)(e:κ.kle (KK κ xs hi) (KK κ xs (hi-1))):NInc κ xs lo (hi+1):=λi j h1 h2 N=>by
 rcases bq j hi with z|z
 .exact h i j h1 h2 z
 .have:j=hi:=aA;subst this;rcases bq i j with hi|hi
  .exact bu e (h i (j-1) h1 aA aA)
  .have:i=j:=aA;subst this;exact cY _
theorem yx7{i j:Nat}{Q:Unit->SortSt->Prop}(q:Q () (setArr st (mirror (arrOf st) i j ((j-i) / 2)))):wpS (model prog w) A E s (reverseSlice' i j) Q st:=by rw[reverseSlice'_eq];exact cV q
theorem Ch.revEq{lo i j:Nat}(h:SB a₀ kd st)(z:j<=a₀.size)(e:∀k,i<=k->k<j->KK κ (arrOf st) k=KK κ (arrOf st) (j-1)):Ch a₀ κ kd lo st (setArr st (mirror (arrOf st) i j ((j-i) / 2))):=
 ⟨h.set (mirror_perm ..),rfl,λk G=>KK_mirror_equal (h.size ▸ z) e k⟩
noncomputable def ascM(lo a nrem:Nat):SM (Option (Option Nat)×Nat):=
 forIn [a:nrem] ((none,a):Option (Option Nat)×Nat) λ_ s=>do
  let r ← ltAt' (lo+s.2) (lo+s.2-1)
  match r with
  |some smaller=>if smaller=true then pure (.done (none,s.2))else pure (.yield (none,s.2+1))
  |_=>pure (.done (some none,s.2))
def yr8(lo n nrem:Nat):SM (Option Nat):=do
 reverseSlice' lo (lo+n)
 let s ← ascM lo n nrem
 match s.1 with
 |some r=>pure r
 |none=>pure (some s.2)
noncomputable def wn5(lo n nrem:Nat):SM (Option (Option Nat)×Nat×Nat):=
 forIn [n:nrem] ((none,n,0):Option (Option Nat)×Nat×Nat) λ_ s=>do
  let r ← ltAt' (lo+s.2.1) (lo+s.2.1-1)
  match r with
  |some smaller=>
   if smaller=true then
    if s.2.2>0 then do
     reverseSlice' (lo+s.2.1-(s.2.2+1)) (lo+s.2.1)
     pure (.yield (none,s.2.1+1,0))
    else pure (.yield (none,s.2.1+1,0))
   else do
    let r ← ltAt' (lo+s.2.1-1) (lo+s.2.1)
    match r with
    |some larger=>if larger=true then pure (.done (none,s.2.1,s.2.2))else pure (.yield (none,s.2.1+1,s.2.2+1))
    |_=>pure (.done (some none,s.2.1,s.2.2))
  |_=>pure (.done (some none,s.2.1,s.2.2))
def yo1(lo n nrem:Nat):SM (Option Nat):=do
 liftM (rule "list.sort.descending-run")
 let s ← wn5 lo (n+1) nrem
 match s.1 with
 |some r=>pure r
 |none=>
  if s.2.2>0 then do
   reverseSlice' (lo+s.2.1-(s.2.2+1)) (lo+s.2.1)
   yr8 lo s.2.1 nrem
  else yr8 lo s.2.1 nrem
theorem yy0(lo nrem:Nat):countRun' lo nrem=(do
  let s ← ascM lo 1 nrem
  match s.1 with
  |some r=>pure r
  |none=>
   if (s.2==nrem)=true then pure (some s.2)
   else
    if s.2>1 then do
     let r ← ltAt' lo (lo+s.2-1)
     match r with
     |some j=>if j=true then pure (some s.2)else do
       reverseSlice' lo (lo+s.2)
       yo1 lo s.2 nrem
     |_=>pure none
    else yo1 lo s.2 nrem):=by
 unfold countRun';refine congr (bi Bind.bind ?_) (funext λs=>?_)
 .rfl
 .obtain⟨s1,s2⟩:=s;cases s1 with
  |some r=>rfl
  |none=>
   show ite _ _ _=ite _ _ _;refine bi (ite _ _) ?_;show ite _ _ _=ite _ _ _;refine congr (bi (ite _) ?_) ?_
   .refine congr (bi Bind.bind ?_) (funext λs=>?_)
    .rfl
    .cases s with
     |none=>rfl
     |some b=>
      show ite _ _ _=ite _ _ _;refine bi (ite _ _) ?_;refine congr (bi Bind.bind ?_) (funext λs=>?_)
      .rfl
      .unfold yo1;refine congr (bi Bind.bind ?_) (funext λs=>?_)
       .rfl
       .refine congr (bi Bind.bind ?_) (funext λs=>?_)
        .rfl
        .obtain⟨s1,s2,s3⟩:=s;cases s1 with
         |some r=>rfl
         |none=>
          show ite _ _ _=ite _ _ _;refine congr (bi (ite _) ?_) ?_
          .refine congr (bi Bind.bind ?_) (funext λs=>?_)
           .rfl
           .refine congr (bi Bind.bind ?_) (funext λs=>?_)
            .rfl
            .refine congr (bi Bind.bind ?_) (funext λs=>?_)
             .rfl
             .obtain⟨s1,s2⟩:=s;cases s1 <;> rfl
          .refine congr (bi Bind.bind ?_) (funext λs=>?_)
           .rfl
           .refine congr (bi Bind.bind ?_) (funext λs=>?_)
            .rfl
            .obtain⟨s1,s2⟩:=s;cases s1 <;> rfl
   .unfold yo1;refine congr (bi Bind.bind ?_) (funext λs=>?_)
    .rfl
    .refine congr (bi Bind.bind ?_) (funext λs=>?_)
     .rfl
     .obtain⟨s1,s2,s3⟩:=s;cases s1 with
      |some r=>rfl
      |none=>
       show ite _ _ _=ite _ _ _;refine congr (bi (ite _) ?_) ?_
       .refine congr (bi Bind.bind ?_) (funext λs=>?_)
        .rfl
        .refine congr (bi Bind.bind ?_) (funext λs=>?_)
         .rfl
         .refine congr (bi Bind.bind ?_) (funext λs=>?_)
          .rfl
          .obtain⟨s1,s2⟩:=s;cases s1 <;> rfl
       .refine congr (bi Bind.bind ?_) (funext λs=>?_)
        .rfl
        .refine congr (bi Bind.bind ?_) (funext λs=>?_)
         .rfl
         .obtain⟨s1,s2⟩:=s;cases s1 <;> rfl
theorem xo6{lo a nrem:Nat}(c:CL (model prog w) A E s a₀ κ kd)(h:SB a₀ kd st)(h1:1<=a)(h2:a<=nrem)(z:lo+nrem<=a₀.size)(j:Seg κ (arrOf st) lo (lo+a)){Q:Option (Option Nat)×Nat->SortSt->Prop}
  (q:∀n,a<=n->n<=nrem->Seg κ (arrOf st) lo (lo+n)->(n=nrem\/κ.klt (KK κ (arrOf st) (lo+n)) (KK κ (arrOf st) (lo+n-1)))->Q (none,n) st):wpS (model prog w) A E s (ascM lo a nrem) Q st:=by
 unfold ascM;refine j6 a nrem _ _ (λr b st'=>st'=st/\b.1=none/\a<=b.2/\b.2+r=nrem/\Seg κ (arrOf st) lo (lo+b.2)) _ ⟨rfl,rfl,aN _,by dsimp only;lia,j⟩ ?_ ?_
 .rintro x r ⟨b0,n⟩ st' _ _ _ ⟨rfl,hb,e1,e2,j⟩;simp only at hb e1 e2 j ⊢;subst hb;refine aO (h.lt c aA aA ?_);simp only;cases hv:κ.blt (KK κ (arrOf st') (lo+n)) (KK κ (arrOf st') (lo+n-1))with
  |true=>exact aT (q n e1 aA j (.inr hv))
  |false=>exact aT ⟨rfl,rfl,by dsimp only;lia,by dsimp only;lia,j.snoc aA hv⟩
 .rintro⟨b0,n⟩ st' ⟨rfl,hb,e1,e2,j⟩;simp only at hb e1 e2 j ⊢;subst hb;exact q n e1 aA j (.inl aB)
theorem NInc.rev{lo n:Nat}(h:NInc κ xs lo (lo+n))(hs:lo+n<=xs.size):Seg κ (mirror xs lo (lo+n) ((lo+n-lo) / 2)) lo (lo+n):=λi j h1 h2 z=>by rw[KK_mirror hs,KK_mirror hs,aJ ⟨h1,aA⟩,aJ ⟨aA,z⟩];exact h _ _ aB aB aB
theorem yx6{lo n nrem:Nat}(c:CL (model prog w) A E s a₀ κ kd)(h:SB a₀ kd st)(h1:1<=n)(h2:n<=nrem)(G:lo+nrem<=a₀.size)(z:NInc κ (arrOf st) lo (lo+n)){Q:Option Nat->SortSt->Prop}
  (q:∀m st',Ch a₀ κ kd lo st st'->1<=m->m<=nrem->Seg κ (arrOf st') lo (lo+m)->Q (some m) st'):wpS (model prog w) A E s (yr8 lo n nrem) Q st:=by
 unfold yr8;refine aO (yx7 ?_);have hs:lo+n<=(arrOf st).size:=by rw[h.size];lia
 have h':=h.set (mirror_perm (arrOf st) lo (lo+n) ((lo+n-lo) / 2));refine aO (xo6 c h' h1 h2 G (z.rev hs) λm m1 m2 j _=>?_);exact aT (q m _ ⟨h',rfl,λk N=>by show KK κ (mirror (arrOf st) lo (lo+n) ((lo+n-lo) / 2)) k=_;rw[KK_mirror hs,aI aA]⟩ aA m2 j)
theorem NInc.congr{lo hi:Nat}(h:NInc κ xs lo hi)(e:∀k,k<hi->KK κ ys k=KK κ xs k):NInc κ ys lo hi:=λi j h1 h2 z=>by rw[e i aA,e j z];exact h i j h1 h2 z
theorem yx9{lo n nrem:Nat}(c:CL (model prog w) A E s a₀ κ kd)(h:SB a₀ kd st)(h2:n+1<=nrem)(h3:lo+nrem<=a₀.size)(z:NInc κ (arrOf st) lo (lo+(n+1))){Q:Option Nat->SortSt->Prop}
  (q:∀m st',Ch a₀ κ kd lo st st'->1<=m->m<=nrem->Seg κ (arrOf st') lo (lo+m)->Q (some m) st'):wpS (model prog w) A E s (yo1 lo n nrem) Q st:=by
 unfold yo1;refine aO (wpS_lift (cB ⟨rfl,?_⟩));have U:∀m e st',Ch a₀ κ kd lo st st'->m<=nrem->e+1<=m->NInc κ (arrOf st') lo (lo+m)->(∀k,lo+m-(e+1)<=k->k<lo+m->KK κ (arrOf st') k=KK κ (arrOf st') (lo+m-1))->wpS (model prog w) A E s (if e>0 then do { reverseSlice' (lo+m-(e+1)) (lo+m);yr8 lo m nrem }else yr8 lo m nrem) Q st':=by
  intro m e st' ch m1 m2 z O;split
  .refine aO (yx7 ?_);have N:=Ch.revEq (κ:=κ) (lo:=lo+nrem) ch.sb (i:=lo+m-(e+1)) (j:=lo+m) aA O;refine yx6 c N.sb aA m1 h3 (z.congr λk hk=>N.pre k aA) λm' G c3 b1 b2 sg=>q m' G (ch.trans (Ch.trans ⟨N.sb,N.pend,λk hk=>N.pre k aA⟩ c3)) b1 b2 sg
  .exact yx6 c ch.sb aA m1 h3 z λm' G c3 b1 b2 sg=>q m' G (ch.trans c3) b1 b2 sg
 unfold wn5;refine aO (j6 (n+1) nrem _ _ (λr b st'=>b.1=none/\Ch a₀ κ kd lo st st'/\b.2.1+r=nrem/\b.2.2+1<=b.2.1/\NInc κ (arrOf st') lo (lo+b.2.1)/\(∀k,lo+b.2.1-(b.2.2+1)<=k->k<lo+b.2.1->KK κ (arrOf st') k=KK κ (arrOf st') (lo+b.2.1-1))) _ ⟨rfl,.refl h,by dsimp only;omega,by dsimp only;lia,z,λk Z Y=>by dsimp only at Z Y ⊢;rw[show k=lo+(n+1)-1 by lia]⟩ ?_ ?_)
 .rintro x r ⟨b0,m,e⟩ st' _ _ _ ⟨hb,ch,e1,e2,z,O⟩;simp only at hb e1 e2 z O ⊢;subst hb;refine aO (ch.sb.lt c aA aA ?_);simp only;cases hv:κ.blt (KK κ (arrOf st') (lo+m)) (KK κ (arrOf st') (lo+m-1))with
  |true=>
   simp only[if_true];have a1:=z.snoc aA (bO hv);split
   .refine aO (yx7 (aT ?_));have N:=Ch.revEq (κ:=κ) (lo:=lo+nrem) ch.sb (i:=lo+m-(e+1)) (j:=lo+m) aA O;exact⟨rfl,ch.trans ⟨N.sb,N.pend,λk hk=>N.pre k aA⟩,by dsimp only;lia,by dsimp only;lia,a1.congr λk hk=>N.pre k aA,λk Z Y=>by dsimp only at Z Y ⊢;rw[show k=lo+(m+1)-1 by lia]⟩
   .exact aT ⟨rfl,ch,by dsimp only;lia,by dsimp only;lia,a1,λk Z Y=>by dsimp only at Z Y ⊢;rw[show k=lo+(m+1)-1 by lia]⟩
  |false=>
   simp only[Bool.false_eq_true,if_false];refine aO (ch.sb.lt c aA aA ?_);simp only;cases hw:κ.blt (KK κ (arrOf st') (lo+m-1)) (KK κ (arrOf st') (lo+m))with
   |true=>exact aT (U m e st' ch aA e2 z O)
   |false=>
    have he:KK κ (arrOf st') (lo+m)=KK κ (arrOf st') (lo+m-1):=KeyOrd.kle_antisymm hw hv;refine aT ⟨rfl,ch,by dsimp only;lia,by dsimp only;lia,z.snoc aA hw,λk Z Y=>?_⟩;dsimp only at Z Y ⊢;rw[show lo+(m+1)-1=lo+m by lia];rcases bq k (lo+m)with hk|hk
    .rw[O k aA hk,he]
    .rw[show k=lo+m by lia]
 .rintro⟨b0,m,e⟩ st' ⟨hb,ch,e1,e2,z,O⟩;simp only at hb e1 e2 z O ⊢;subst hb;exact U m e st' ch aA e2 z O
theorem zd7{lo nrem:Nat}(c:CL (model prog w) A E s a₀ κ kd)(h:SB a₀ kd st)(h1:1<=nrem)(U:lo+nrem<=a₀.size){Q:Option Nat->SortSt->Prop}
  (q:∀m st',Ch a₀ κ kd lo st st'->1<=m->m<=nrem->Seg κ (arrOf st') lo (lo+m)->Q (some m) st'):wpS (model prog w) A E s (countRun' lo nrem) Q st:=by
 rw[yy0];have s1:Seg κ (arrOf st) lo (lo+1):=λi j a b d=>by rw[show i=j by lia];exact cY _
 refine aO (xo6 c h (aN _) h1 U s1 λn n1 Z G hd=>?_);simp only;split
 .exact aT (q n st (.refl h) n1 Z G)
 .rename_i z;have z:n≠nrem:=by simpa using z
  have hd:κ.klt (KK κ (arrOf st) (lo+n)) (KK κ (arrOf st) (lo+n-1)):=hd.resolve_left z;split
  .rename_i hgt;refine aO (h.lt c aA aA ?_);simp only;cases hv:κ.blt (KK κ (arrOf st) lo) (KK κ (arrOf st) (lo+n-1))with
   |true=>exact aT (q n st (.refl h) n1 Z G)
   |false=>
    simp only[Bool.false_eq_true,if_false];have Y:∀k,lo<=k->k<lo+n->KK κ (arrOf st) k=KK κ (arrOf st) (lo+n-1):=λk k1 k2=>KeyOrd.kle_antisymm (G k _ k1 aA aA) (bu hv (G lo k (aN _) k1 k2));refine aO (yx7 ?_);have N:=Ch.revEq (κ:=κ) (lo:=lo+nrem) h (i:=lo) (j:=lo+n) aA Y;have O:NInc κ (arrOf st) lo (lo+n):=λi j a b d=>by rw[Y i a aA,Y j aA d];exact cY _
    refine yx9 c N.sb aA U ((O.snoc aA (bO hd)).congr λk hk=>N.pre k aA) λm st' c3 b1 b2 G=>q m st' (Ch.trans ⟨N.sb,N.pend,λk hk=>N.pre k aA⟩ c3) b1 b2 G
  .have:n=1:=aA;subst this;have O:NInc κ (arrOf st) lo (lo+1):=λi j a b d=>by rw[show i=j by lia];exact cY _
   exact yx9 c h aA U (O.snoc aA (bO hd)) q
end
end TS
namespace TS
section
variable {prog:Program}{w:World}{A:Around}{E:Value->Shared->Prop}{s:Shared}{a₀:Array Keyed}{κ:PyProof.Rows.KeyKind}{kd:SortKind}{st:SortSt}
theorem ww3{lo n ok:Nat}(c:CL (model prog w) A E s a₀ κ kd)(h:SB a₀ kd st)(h1:1<=ok)(h2:ok<=n)(h3:lo+n<=a₀.size)(N:Seg κ (arrOf st) lo (lo+ok)){Q:Bool->SortSt->Prop}
  (q:∀st',Ch a₀ κ kd lo st st'->Seg κ (arrOf st') lo (lo+n)->Q true st'):wpS (model prog w) A E s (binarySort' lo n ok) Q st:=by
 rw[binarySort'_eq];refine aO (j6 (max ok 1) n _ _ (λr b st'=>b.1=none/\Ch a₀ κ kd lo st st'/\Seg κ (arrOf st') lo (lo+(n-r))) _ ⟨rfl,.refl h,by rw[Nat.max_eq_left h1,Nat.sub_sub_self h2];exact N⟩ ?_ ?_)
 .rintro k r ⟨b0,b1⟩ st' k1 k2 k3 ⟨hb,ch,N⟩;simp only at hb N ⊢;subst hb;rw[show n-(r+1)=k by lia]at N;have a3:∀l,l<=k->(∀i,i<l->κ.kle (KK κ (arrOf st') (lo+i)) (KK κ (arrOf st') (lo+k)))->(∀i,l<=i->i<k->κ.kle (KK κ (arrOf st') (lo+k)) (KK κ (arrOf st') (lo+i)))->wpS (model prog w) A E s (do { moveDown' (lo+k) (lo+l);pure (ForInStep.yield ((none,()):Option Bool×Unit)) }) (λq st'=>match q with | .done b'=>wpS (model prog w) A E s (match b'.1 with |some r=>pure r|none=>pure true) Q st'| .yield b'=>b'.1=none/\Ch a₀ κ kd lo st st'/\Seg κ (arrOf st') lo (lo+(n-r))) st':=by
   intro l hl U O;rw[moveDown'_eq];refine aO (cV (aT ?_));have hz:lo+k<(arrOf st').size:=by rw[ch.sb.size];lia
   have kb:=KK_bubble (κ:=κ) (xs:=arrOf st') (src:=lo+k) (d:=lo+k-(lo+l)) hz (Nat.sub_le _ _);rw[Nat.sub_sub_self (Nat.add_le_add_left hl lo)]at kb;refine⟨rfl,ch.trans ⟨ch.sb.set (bubble_perm ..),rfl,λi hi=>?_⟩,?_⟩
   .show KK κ (bubble (arrOf st') (lo+k) (lo+k-(lo+l))) i=_;rw[kb,aI (bv (bd hi (cj lo l))),aI λz=>Nat.not_lt_of_le (cj lo l) (da z.1 hi)]
   .show Seg κ (bubble (arrOf st') (lo+k) (lo+k-(lo+l))) lo (lo+(n-r));rw[show n-r=k+1 by lia];clear b1 k3 k2 k1 hz h3 h2 h1 q;intro i j i1 i2 i3;rw[kb i,kb j];by_cases hi:i=lo+l
    .subst hi;rw[aJ rfl];by_cases Y:j=lo+l
     .rw[aJ Y];exact cY _
     .rw[aI Y,aJ ⟨aA,aA⟩];have:=O (j-1-lo) aA aA
      rwa [show lo+(j-1-lo)=j-1 by lia]at this
    .rw[aI hi];by_cases Z:lo+l<i/\i<=lo+k
     .rw[aJ Z,aI aA,aJ ⟨aA,aA⟩];exact N _ _ aA aA aA
     .rw[aI Z];by_cases Y:j=lo+l
      .rw[aJ Y];have:=U (i-lo) aA
       rwa [show lo+(i-lo)=i by lia]at this
      .rw[aI Y];split
       .exact N _ _ aA aA aA
       .exact N _ _ aA aA aA
  refine aO (j6 0 k _ _ (λr' b G=>G=st'/\b.1=none/\b.2.1<=b.2.2/\b.2.2<=k/\b.2.2-b.2.1<=r'/\(∀i,i<b.2.1->κ.kle (KK κ (arrOf st') (lo+i)) (KK κ (arrOf st') (lo+k)))/\(∀i,b.2.2<=i->i<k->κ.kle (KK κ (arrOf st') (lo+k)) (KK κ (arrOf st') (lo+i)))) _ ⟨rfl,rfl,by dsimp only;lia,by dsimp only;lia,by dsimp only;lia,λi hi=>aZ hi (Nat.not_lt_zero _),λi a b=>aZ b (by dsimp only at a;lia)⟩ ?_ ?_)
  .rintro x r' ⟨b0,lo',hi'⟩ G _ _ _ ⟨rfl,hb,e1,e2,e3,U,O⟩;simp only at hb e1 e2 e3 U O ⊢;subst hb;split
   .exact aT (a3 lo' aA U λi i1 i2=>O i aA i2)
   .refine aO (ch.sb.lt c aA aA ?_);simp only;cases hv:κ.blt (KK κ (arrOf G) (lo+k)) (KK κ (arrOf G) (lo+(lo'+hi') / 2))with
    |true=>exact aT ⟨rfl,rfl,by dsimp only;lia,by dsimp only;lia,by dsimp only;lia,U,λi i1 i2=>bu (bO hv) (N _ _ aA (by dsimp only at i1;lia) aA)⟩
    |false=>exact aT ⟨rfl,rfl,by dsimp only;lia,by dsimp only;omega,by dsimp only;lia,λi i1=>bu (N _ _ aA (by dsimp only at i1;lia) aA) hv,O⟩
  .rintro⟨b0,lo',hi'⟩ G ⟨rfl,hb,e1,e2,e3,U,O⟩;simp only at hb e1 e2 e3 U O ⊢;subst hb;exact a3 lo' aA U λi i1 i2=>O i aA i2
 .rintro⟨b0,b1⟩ st' ⟨hb,ch,N⟩;simp only at hb N ⊢;subst hb;exact aT (q st' ch N)
end
end TS
namespace TS
section
variable {prog:Program}{w:World}{A:Around}{E:Value->Shared->Prop}{s:Shared}{a₀:Array Keyed}{κ:PyProof.Rows.KeyKind}{kd:SortKind}{st:SortSt}
noncomputable def bey(left:Bool)(key:Keyed)(arr:Array Keyed)(base i:Nat):SM (Option Bool):=do
 let x ← elem' arr (base+i)
 if left=true then lt' x key else do
  let r ← lt' key x
  pure (Option.map (λx=>!x) r)
abbrev GalT:=Bool->Keyed->Array Keyed->Nat->Nat->Nat->SM (Option Nat)
def yx0(g:GalT):Prop:=∀left key arr base n hint,g left key arr base n hint=galM (bey left key arr base) n hint
theorem zd6(hg:yx0 g)(c:CL (model prog w) A E s a₀ κ kd)(Y:kindOf st=kd){key:Keyed}{arr:Array Keyed}{base n hint:Nat}(mk:key∈a₀.toList)(ma:∀x,x∈arr.toList->x∈a₀.toList)(hb:base+n<=arr.size)(G:Seg κ arr base (base+n))(hh:hint<n){Q:Option Nat->SortSt->Prop}
  (q:∀k,k<=n->(∀i,i<k->κ.kle (KK κ arr (base+i)) (ky κ key))->(∀i,k<=i->i<n->κ.klt (ky κ key) (KK κ arr (base+i)))->Q (some k) st):wpS (model prog w) A E s (g false key arr base n hint) Q st:=by
 rw[hg];refine xo4 (B:=λi=>!κ.blt (ky κ key) (KK κ arr (base+i))) (λi hi Q q=>?_) (λi j Z hj h=>?_) hh λk ⟨U,O,N⟩=>q k U (λi hi=>by have:=O i hi;simpa[KeyOrd.kle]using this) λi i1 i2=>by have:=N i i1 i2;simpa[KeyOrd.klt]using this
 .unfold bey;have z:base+i<arr.size:=aA;refine aO (k0 z ?_);simp only[Bool.false_eq_true,if_false];refine aO (c _ _ mk (ma _ aD) _ _ Y ?_);rw[<-Y7 (aM z)];exact aT q
 .simp only[Bool.not_eq_true']at h ⊢;exact bu (G _ _ aA aA aA) h
theorem zd5(hg:yx0 g)(c:CL (model prog w) A E s a₀ κ kd)(Y:kindOf st=kd){key:Keyed}{arr:Array Keyed}{base n hint:Nat}(mk:key∈a₀.toList)(ma:∀x,x∈arr.toList->x∈a₀.toList)(hb:base+n<=arr.size)(G:Seg κ arr base (base+n))(hh:hint<n){Q:Option Nat->SortSt->Prop}
  (q:∀k,k<=n->(∀i,i<k->κ.klt (KK κ arr (base+i)) (ky κ key))->(∀i,k<=i->i<n->κ.kle (ky κ key) (KK κ arr (base+i)))->Q (some k) st):wpS (model prog w) A E s (g true key arr base n hint) Q st:=by
 rw[hg];refine xo4 (B:=λi=>κ.blt (KK κ arr (base+i)) (ky κ key)) (λi hi Q q=>?_) (λi j Z hj h=>?_) hh λk ⟨U,O,N⟩=>q k U (λi hi=>O i hi) λi i1 i2=>N i i1 i2
 .unfold bey;have z:base+i<arr.size:=aA;refine aO (k0 z ?_);simp only[if_true];refine c _ _ (ma _ aD) mk _ _ Y ?_;rw[<-Y7 (aM z)];exact q
 .exact KeyOrd.klt_of_kle_of_klt (G _ _ aA aA aA) h
structure MS(R:Keyed->Keyed->Prop)(tot out la lb:List Keyed):Prop where
 perm:(out++la++lb).Perm tot
 so:out.Pairwise R
 oa:∀x,x∈out->∀y,y∈la->R x y
 ob:∀x,x∈out->∀y,y∈lb->R x y
variable {R:Keyed->Keyed->Prop}{tot out la lb u:List Keyed}
theorem MS.chA(h:MS R tot out (u++la) lb)(sa:(u++la).Pairwise R)(z:∀x,x∈u->∀y,y∈lb->R x y):MS R tot (out++u) la lb:=by
 have N:=cA.mp sa;refine⟨?_,?_,?_,?_⟩
 .have:=h.perm;simpa using this
 .exact cA.mpr ⟨h.so,N.1,λx z y G=>h.oa x z y (List.mem_append_left _ G)⟩
 .intro x z y G;rcases bA.mp z with z|z
  .exact h.oa x z y (List.mem_append_right _ G)
  .exact N.2.2 x z y G
 .intro x j y G;rcases bA.mp j with j|j
  .exact h.ob x j y G
  .exact z x j y G
theorem MS.chB(h:MS R tot out la (u++lb))(sb:(u++lb).Pairwise R)(z:∀x,x∈u->∀y,y∈la->R x y):MS R tot (out++u) la lb:=by
 have N:=cA.mp sb;refine⟨?_,?_,?_,?_⟩
 .refine List.Perm.trans ?_ h.perm;rw[cH,cH,cH];refine ey _ ?_;rw[<-cH,<-cH];exact List.Perm.append_right _ List.perm_append_comm
 .exact cA.mpr ⟨h.so,N.1,λx z y G=>h.ob x z y (List.mem_append_left _ G)⟩
 .intro x j y G;rcases bA.mp j with j|j
  .exact h.oa x j y G
  .exact z x j y G
 .intro x z y G;rcases bA.mp z with z|z
  .exact h.ob x z y (List.mem_append_right _ G)
  .exact N.2.2 x z y G
def M2(R:Keyed->Keyed->Prop)(tot m:List Keyed):Prop:=m.Perm tot/\m.Pairwise R
theorem MS.finA(h:MS R tot out la [])(sa:la.Pairwise R):M2 R tot (out++la):=⟨by simpa using h.perm,cA.mpr ⟨h.so,sa,h.oa⟩⟩
theorem MS.finB(h:MS R tot out [] lb)(sb:lb.Pairwise R):M2 R tot (out++lb):=⟨by simpa using h.perm,cA.mpr ⟨h.so,sb,h.ob⟩⟩
theorem MS.finBA(h:MS R tot out la lb)(sa:la.Pairwise R)(sb:lb.Pairwise R)(G:∀y,y∈lb->∀x,x∈la->R y x):M2 R tot (out++lb++la):=
 ⟨List.Perm.trans (by rw[cH,cH];exact ey _ List.perm_append_comm) h.perm,cA.mpr ⟨cA.mpr ⟨h.so,sb,h.ob⟩,sa,λx j y z=>by
  rcases bA.mp j with h'|h'
  .exact h.oa x h' y z
  .exact G x h' y z⟩⟩
def Rk(κ:PyProof.Rows.KeyKind)(x y:Keyed):Prop:=κ.kle (ky κ x) (ky κ y)
theorem seg_pair(h:Seg κ a 0 a.size):a.toList.Pairwise (Rk κ):=by
 rw[dL];intro i j hi z G;have:=h i j (aY _) aA (by simpa using z)
 rwa [Y7 (aM (by simpa using hi)),Y7 (aM (by simpa using z))]at this
theorem xu7(h:a.toList.Pairwise (Rk κ)):Seg κ a 0 a.size:=by
 rw[dL]at h;intro i j _ G z;rcases bq i j with h'|h'
 .have:=h i j (by simp;lia) (by simpa using z) h';rw[Y7 (aM aA),Y7 (aM z)];exact this
 .rw[show i=j by lia];exact cY _
theorem zn2{a:Array Keyed}{i:Nat}(h:i<a.size):a.toList.drop i=[a[i]]++a.toList.drop (i+1):=by rw[List.drop_eq_getElem_cons (by simpa using h)];simp
theorem drop_take{l:List Keyed}(i k:Nat):l.drop i=(l.drop i).take k++l.drop (i+k):=by rw[<-List.drop_drop,List.take_append_drop]
theorem zs4{a:Array Keyed}(i:Nat):(a.extract i).toList=a.toList.drop i:=by simp[List.take_of_length_le]
theorem yc2{a:Array Keyed}(i k:Nat):(a.extract i (i+k)).toList=(a.toList.drop i).take k:=by simp[Array.toList_extract,List.extract,List.take_drop]
theorem K1{i k:Nat}(h:x∈(a.toList.drop i).take k):∃j,j<k/\i+j<a.size/\KK κ a (i+j)=ky κ x:=by obtain⟨j,z,e⟩:=List.getElem_of_mem h;simp only[List.length_take,List.length_drop,Array.length_toList]at z;refine⟨j,aB,aB,?_⟩;rw[Y7 (aM aB),<-e];simp
theorem V3{i:Nat}(h:x∈a.toList.drop i):∃j,i<=j/\j<a.size/\KK κ a j=ky κ x:=by obtain⟨j,z,e⟩:=List.getElem_of_mem h;simp only[List.length_drop,Array.length_toList]at z;refine⟨i+j,aA,aA,?_⟩;rw[Y7 (aM aA),<-e];simp
end
end TS
namespace TS
section
variable {prog:Program}{w:World}{A:Around}{E:Value->Shared->Prop}{s:Shared}{a₀:Array Keyed}{κ:PyProof.Rows.KeyKind}{kd:SortKind}{st:SortSt}
noncomputable def wr(arr:Array Keyed)(sa:Nat)(m:Array Keyed):Array Keyed:=List.foldl (λa x=>match x with | (p,j)=>a.setIfInBounds (sa+j) p) arr m.toList.zipIdx
def C8(sa:Nat)(m:Array Keyed):SM Bool:=do
 modify λs=>setArr s (wr (arrOf s) sa m)
 let s ← get
 pure (failedOf s).isNone
abbrev MrgT:=Array Keyed->Array Keyed->SM (Array Keyed)
def zo7(g:GalT)(mlo mhi:MrgT)(i:Nat):SM Bool:=do
 let s ← get
 match (pendingOf s)[i]?,(pendingOf s)[i+1]? with
 |some (sa,na,power),some (sb,nb,_)=>do
  set (setPending s (((pendingOf s).setIfInBounds i (sa,na+nb,power)).eraseIdxIfInBounds (i+1)))
  let x ← elem' (arrOf s) sb
  let r ← g false x (arrOf s) sa na 0
  match r with
  |some k=>
   if (na-k==0)=true then pure true
   else do
    let y ← elem' (arrOf s) (sa+k+(na-k)-1)
    let r ← g true y (arrOf s) sb nb (nb-1)
    match r with
    |some nb=>
     if (nb==0)=true then pure true
     else
      if na-k<=nb then do
       let m ← mlo ((arrOf s).extract (sa+k) sb) ((arrOf s).extract sb (sb+nb))
       C8 (sa+k) m
      else do
       let m ← mhi ((arrOf s).extract (sa+k) sb) ((arrOf s).extract sb (sb+nb))
       C8 (sa+k) m
    |_=>pure false
  |_=>pure false
 |_,_=>liftM (unsupported "internal:list.sort.pending")
structure St(st st':SortSt):Prop where
 arr:arrOf st'=arrOf st
 kind:kindOf st'=kindOf st
 pend:pendingOf st'=pendingOf st
 failed:failedOf st'=failedOf st
theorem St.refl(st:SortSt):St st st:=⟨rfl,rfl,rfl,rfl⟩
def xy3(mlo:MrgT):Prop:=∀(prog:Program)(w:World)(A:Around)(E:Value->Shared->Prop)(s:Shared)(a₀:Array Keyed)(κ:PyProof.Rows.KeyKind)(kd:SortKind)(c:CL (model prog w) A E s a₀ κ kd)(st:SortSt)(hk:kindOf st=kd)(a b:Array Keyed),(∀x,x∈a.toList->x∈a₀.toList)->(∀x,x∈b.toList->x∈a₀.toList)->Seg κ a 0 a.size->Seg κ b 0 b.size->0<a.size->0<b.size->κ.klt (KK κ b 0) (KK κ a 0)->κ.klt (KK κ b (b.size-1)) (KK κ a (a.size-1))->
 ∀Q:Array Keyed->SortSt->Prop,(∀m st',St st st'->M2 (Rk κ) (a.toList++b.toList) m.toList->Q m st')->wpS (model prog w) A E s (mlo a b) Q st
theorem ms0{R:Keyed->Keyed->Prop}:MS R (la++lb) [] la lb:=⟨.refl _,.nil,λx h=>aZ h aD,λx h=>aZ h aD⟩
theorem n6{a j:Type}{p:Prop}[Decidable p]{x y:StateT a Sem j}{Q:j->a->Prop}{st:a}(h1:p->wpS M A E s x Q st)(h2:¬p->wpS M A E s y Q st):wpS M A E s (if p then x else y) Q st:=by
 split
 .exact h1 ‹_›
 .exact h2 ‹_›
def Rr(κ:PyProof.Rows.KeyKind)(x y:Keyed):Prop:=Rk κ y x
theorem yz0{tot m:List Keyed}(h:M2 (Rr κ) tot m.reverse):M2 (Rk κ) tot m:=⟨(List.reverse_perm m).symm.trans h.1,List.pairwise_reverse.mp h.2⟩
theorem MS.finAB{R:Keyed->Keyed->Prop}{tot out la lb:List Keyed}(h:MS R tot out la lb)(sa:la.Pairwise R)(sb:lb.Pairwise R)(j:∀x,x∈la->∀y,y∈lb->R x y):M2 R tot (out++la++lb):=by have h':=MS.chA (u:=la) (la:=[]) (by simpa using h) (by simpa using sa) j;exact h'.finB sb
theorem zr7{a:Array Keyed}{i:Nat}(h:i<a.size):(a.toList.take (i+1)).reverse=[a[i]]++(a.toList.take i).reverse:=by rw[List.take_succ_eq_append_getElem (by simpa using h)];simp
theorem zr6{l:List Keyed}{i k:Nat}(h:i<=k):(l.take k).reverse=((l.drop i).take (k-i)).reverse++(l.take i).reverse:=by rw[<-List.reverse_append];congr 1;rw[<-List.take_add];congr 1;lia
theorem xk2{a:Array Keyed}(i k:Nat):((a.extract i k).reverse).toList=((a.toList.drop i).take (k-i)).reverse:=by simp[Array.toList_extract,List.extract]
theorem V2{i:Nat}(h:x∈(a.toList.take i).reverse):∃j,j<i/\j<a.size/\KK κ a j=ky κ x:=by obtain⟨j,z,e⟩:=List.getElem_of_mem (List.mem_reverse.mp h);simp only[List.length_take,Array.length_toList]at z;refine⟨j,aA,aA,?_⟩;rw[Y7 (aM aA),<-e];simp
theorem and3{P Q R:Prop}(p:P)(q:P->Q)(r:P->R):P/\Q/\R:=⟨p,q p,r p⟩
theorem ym1{a j:Type}{p:Prop}[Decidable p]{f:Nat->StateT a Sem j}{x y:Nat}{Q:j->a->Prop}{st:a}(h:∀n,wpS M A E s (f n) Q st):wpS M A E s (if p then f x else f y) Q st:=n6 (λ_=>h _) λ_=>h _
theorem yx8{a j X Y:Type}{z:StateT a Sem j}{Q:j->a->Prop}{st:a}(f:X->Y->StateT a Sem j)(I:X->Y->Prop)(h:∀x y,I x y->wpS M A E s (f x y) Q st)(k:(∀x y,I x y->wpS M A E s (f x y) Q st)->wpS M A E s z Q st):wpS M A E s z Q st:=k h
theorem pr5{T0 T1 Z Y U:Type}{P:T0×T1×Z×Y×U->Prop}(h:∀O N G z j,P (O,N,G,z,j)):∀t,P t:=λ_=>h _ _ _ _ _
theorem pr6{T0 T1 T2 T3 Z Y:Type}{P:T0×T1×T2×T3×Z×Y->Prop}(h:∀U O N G z j,P (U,O,N,G,z,j)):∀t,P t:=λ_=>h _ _ _ _ _ _
theorem pr7{T0 T1 T2 T3 T4 T5 Z:Type}{P:T0×T1×T2×T3×T4×T5×Z->Prop}(h:∀Y U O N G z j,P (Y,U,O,N,G,z,j)):∀t,P t:=λ_=>h _ _ _ _ _ _ _
abbrev MLo(κ:PyProof.Rows.KeyKind)(a b out:Array Keyed)(k m:Nat):Prop:=MS (Rk κ) (a.toList++b.toList) out.toList (a.toList.drop k) (b.toList.drop m)
abbrev MHi(κ:PyProof.Rows.KeyKind)(a b out:Array Keyed)(k m:Nat):Prop:=MS (Rr κ) (a.toList++b.toList) out.toList (a.toList.take k).reverse (b.toList.take m).reverse
abbrev MGd(κ:PyProof.Rows.KeyKind)(a b m:Array Keyed):Prop:=M2 (Rk κ) (a.toList++b.toList) m.toList
theorem ar2{x a b:Nat}(h:x<=a+b):x+1<=a+1+b:=aA
theorem ar3{x a b r:Nat}(h:x<=a+b+(r+1)):x<=a+(b+1)+r:=aA
theorem ar4{x a b r:Nat}(h:x<=a+b+(r+1)):x<=a+1+b+r:=aA
theorem aq1{i z:Nat}(h:i<z):i+(z-i)<=z:=aA
theorem aq2{i z j:Nat}(h:i<z)(g:j<i+(z-i)):j<z:=aA
theorem aq4{c i k z:Nat}{P:Nat->Prop}(f:∀m,k<=m->m<z-c->P (c+m))(h:c+k<=i)(g:i<z):P i:=by
 have:=f (i-c) aA aA
 rwa [show c+(i-c)=i by lia]at this
theorem aq5{c k i:Nat}(h:¬ k>0)(g:c<=i):c+k<=i:=aA
theorem aq6{c k z:Nat}(h:k<=z-c)(p:k>0)(e:c+k≠z):c+k<z:=aA
theorem aq7{n k i:Nat}(h:¬ n-k>0)(g:i<n):i<k:=aA
set_option maxHeartbeats 4000000 in
theorem wh6:∃(g:GalT)(am an:MrgT),(∀i,mergeAt' i=zo7 g am an i)/\yx0 g/\xy3 am/\xy3 an:=by
 refine⟨?g,?lo,?hi,λi=>?d,and3 ?a ?b ?c⟩
 case d=>
  unfold zo7;refine congr (bi Bind.bind ?_) (funext λs=>?_)
  .rfl
  .show _=match (pendingOf s)[i]?,(pendingOf s)[i+1]? with |some (sa,na,ap),some (sb,nb,_)=>_|_,_=>_
   generalize aw:(pendingOf s)[i]? =p1;generalize av:(pendingOf s)[i+1]? =p2;rcases p1 with _|⟨sa,na,pw⟩
   .rcases p2 with _|⟨sb,nb,_⟩ <;> rfl
   .rcases p2 with _|⟨sb,nb,_⟩
    .rfl
    .refine congr (bi Bind.bind ?_) (funext λ_=>?_)
     .rfl
     .refine congr (bi Bind.bind ?_) (funext λx=>?_)
      .rfl
      .refine congr (bi Bind.bind ?_) (funext λr=>?_)
       .exact rfl
       .cases r with
        |none=>rfl
        |some k=>
         show ite _ _ _=ite _ _ _;refine bi (ite _ _) ?_;refine congr (bi Bind.bind ?_) (funext λy=>?_)
         .rfl
         .refine congr (bi Bind.bind ?_) (funext λr=>?_)
          .exact rfl
          .cases r with
           |none=>rfl
           |some m=>
            show ite _ _ _=ite _ _ _;refine bi (ite _ _) ?_;show ite _ _ _=ite _ _ _;refine congr (bi (ite _) ?_) ?_
            .refine congr (bi Bind.bind ?_) (funext λy=>?_)
             .exact rfl
             .rfl
            .refine congr (bi Bind.bind ?_) (funext λy=>?_)
             .exact rfl
             .rfl
 case a=>
  intro left key arr base n hint;unfold galM;refine congr (bi Bind.bind ?_) (funext λr=>?_)
  .rfl
  .cases r with
   |none=>rfl
   |some right=>
    show ite _ _ _=ite _ _ _;refine congr (bi (ite _) ?_) ?_
    .refine congr (bi Bind.bind ?_) (funext λr=>?_)
     .rfl
     .obtain⟨r1,r2,r3⟩:=r;cases r1 with
      |some r=>rfl
      |none=>
       unfold bisM;refine congr (bi Bind.bind ?_) (funext λr=>?_)
       .rfl
       .obtain⟨r1,r2,r3⟩:=r;cases r1 <;> rfl
    .refine congr (bi Bind.bind ?_) (funext λr=>?_)
     .rfl
     .obtain⟨r1,r2,r3⟩:=r;cases r1 with
      |some r=>rfl
      |none=>
       unfold bisM;refine congr (bi Bind.bind ?_) (funext λr=>?_)
       .rfl
       .obtain⟨r1,r2,r3⟩:=r;cases r1 <;> rfl
 case b=>
  intro hg prog w A E s a₀ κ kd c st hk a b ha hb sa sb a1 b1 h0 h9 Q q;have pa:=seg_pair sa;have pb:=seg_pair sb;have a3:∀i,(a.toList.drop i).Pairwise (Rk κ):=λi=>pa.sublist (List.drop_sublist i _);have a2:∀i,(b.toList.drop i).Pairwise (Rk κ):=λi=>pb.sublist (List.drop_sublist i _);have a6:∀out N G,MS (Rk κ) (a.toList++b.toList) out.toList (a.toList.drop N) (b.toList.drop G)->G=b.size->M2 (Rk κ) (a.toList++b.toList) (out++a.extract N++b.extract G).toList:=λout N G j e=>by rw[e,show b.toList.drop b.size=[]by simp]at j;rw[bR,bR,zs4,zs4,e,show b.toList.drop b.size=[]by simp,List.append_nil];exact j.finA (a3 _)
  have a7:∀out N G,MS (Rk κ) (a.toList++b.toList) out.toList (a.toList.drop N) (b.toList.drop G)->N=a.size->M2 (Rk κ) (a.toList++b.toList) (out++a.extract N++b.extract G).toList:=λout N G j e=>by rw[e,show a.toList.drop a.size=[]by simp]at j;rw[bR,bR,zs4,zs4,e,show a.toList.drop a.size=[]by simp,List.append_nil];exact j.finB (a2 _)
  have lst:∀out N G,MS (Rk κ) (a.toList++b.toList) out.toList (a.toList.drop N) (b.toList.drop G)->N+1=a.size->M2 (Rk κ) (a.toList++b.toList) (out++b.extract G++a.extract N).toList:=λout N G j e=>by rw[bR,bR,zs4,zs4];refine j.finBA (a3 _) (a2 _) λy hy x hx=>?_;obtain⟨i,i1,i2,e1⟩:=V3 (κ:=κ) hy;obtain⟨k,k1,k2,e2⟩:=V3 (κ:=κ) hx;show κ.kle _ _;rw[<-e1,<-e2,show k=a.size-1 by lia];exact bu (sb _ _ (aY _) aA aA) (bO h9)
  have Y:∀(out:Array Keyed) N G (h:G<b.size),MS (Rk κ) (a.toList++b.toList) out.toList (a.toList.drop N) (b.toList.drop G)->(∀i,N<=i->i<a.size->κ.klt (ky κ b[G]) (KK κ a i))->MS (Rk κ) (a.toList++b.toList) (out.push b[G]).toList (a.toList.drop N) (b.toList.drop (G+1)):=λout N G h j f=>by rw[zn2 h]at j;rw[cI];refine j.chB (by rw[<-zn2 h];exact a2 _) λx hx y hy=>?_;rw[bm.mp hx];obtain⟨k,k1,k2,e2⟩:=V3 (κ:=κ) hy;show κ.kle _ _;rw[<-e2];exact bO (f k k1 k2)
  have Z:∀(out:Array Keyed) N G (h:N<a.size),MS (Rk κ) (a.toList++b.toList) out.toList (a.toList.drop N) (b.toList.drop G)->(∀i,G<=i->i<b.size->κ.kle (ky κ a[N]) (KK κ b i))->MS (Rk κ) (a.toList++b.toList) (out.push a[N]).toList (a.toList.drop (N+1)) (b.toList.drop G):=λout N G h j f=>by rw[zn2 h]at j;rw[cI];refine j.chA (by rw[<-zn2 h];exact a3 _) λx hx y hy=>?_;rw[bm.mp hx];obtain⟨k,k1,k2,e2⟩:=V3 (κ:=κ) hy;show κ.kle _ _;rw[<-e2];exact f k k1 k2
  have chA:∀(out:Array Keyed) N G k (h:G<b.size),MS (Rk κ) (a.toList++b.toList) out.toList (a.toList.drop N) (b.toList.drop G)->(∀i,i<k->κ.kle (KK κ a (N+i)) (ky κ b[G]))->MS (Rk κ) (a.toList++b.toList) (out++a.extract N (N+k)).toList (a.toList.drop (N+k)) (b.toList.drop G):=λout N G k h j f=>by rw[drop_take (l:=a.toList) N k]at j;rw[bR,yc2];refine j.chA (by rw[<-drop_take];exact a3 _) λx hx y hy=>?_;obtain⟨i,i1,i2,e1⟩:=K1 (κ:=κ) hx;obtain⟨m,m1,m2,e2⟩:=V3 (κ:=κ) hy;show κ.kle _ _;rw[<-e1,<-e2];refine bu (f i i1) ?_;rw[<-Y7 (aM h)];exact sb _ _ (aY _) m1 m2
  have chB:∀(out:Array Keyed) N G k (h:N<a.size),MS (Rk κ) (a.toList++b.toList) out.toList (a.toList.drop N) (b.toList.drop G)->(∀i,i<k->κ.klt (KK κ b (G+i)) (ky κ a[N]))->MS (Rk κ) (a.toList++b.toList) (out++b.extract G (G+k)).toList (a.toList.drop N) (b.toList.drop (G+k)):=λout N G k h j f=>by rw[drop_take (l:=b.toList) G k]at j;rw[bR,yc2];refine j.chB (by rw[<-drop_take];exact a2 _) λx hx y hy=>?_;obtain⟨i,i1,i2,e1⟩:=K1 (κ:=κ) hx;obtain⟨m,m1,m2,e2⟩:=V3 (κ:=κ) hy;show κ.kle _ _;rw[<-e1,<-e2];refine bu (bO (f i i1)) ?_;rw[<-Y7 (aM h)];exact sa _ _ (aY _) m1 m2
  have j0:MS (Rk κ) (a.toList++b.toList) (#[b[0]]:Array Keyed).toList (a.toList.drop 0) (b.toList.drop 1):=by
   have:=Y #[] 0 0 b1 (by simpa using ms0) λi _ h=>by rw[<-Y7 (aM b1)];exact KeyOrd.klt_of_klt_of_kle h0 (sa _ _ (aY _) (aY _) h)
   simpa using this
  refine aO (wpS_lift (cB ⟨rfl,?_⟩));refine aO (k0 b1 ?_);refine n6 (λe=>aT (q _ _ (.refl _) (a6 _ _ _ j0 (by simpa using e)))) λe1=>?_;refine n6 (λe=>aT (q _ _ (.refl _) (lst _ _ _ j0 (by simpa using e)))) λe2=>?_;have e1:1≠b.size:=by simpa using e1
  have e2:0+1≠a.size:=by simpa using e2
  refine aO (dY ?_);refine aO (j6 0 (a.size+b.size) _ _ (λr t st'=>t.1=none/\St st st'/\MLo κ a b t.2.1 t.2.2.1 t.2.2.2.1/\t.2.2.1+1<a.size/\t.2.2.2.1<b.size/\a.size+b.size<=t.2.2.1+t.2.2.2.1+r) _ ⟨rfl,.refl _,j0,by dsimp only;lia,by dsimp only;lia,by dsimp only;lia⟩ ?_ ?_)
  .refine λ_ r=>pr5 λo al af ae mg=>?_;rintro ao _ _ _ ⟨O,ai,j1,l1,l2,l3⟩;simp only at O j1 l1 l2 l3;subst O;refine aO (wpS_mono (Q:=λt st'=>St st st'/\((∃m,t.1=some m/\MGd κ a b m)\/(t.1=none/\MLo κ a b t.2.1 t.2.2.1 t.2.2.2.1/\t.2.2.1+1<a.size/\t.2.2.2.1<b.size/\af+ae+1<=t.2.2.1+t.2.2.2.1))) (j6 0 (a.size+b.size) _ _ (λr t st'=>t.1=none/\St st st'/\MLo κ a b t.2.1 t.2.2.1 t.2.2.2.1/\t.2.2.1+1<a.size/\t.2.2.2.1<b.size/\af+ae+(a.size+b.size)<=t.2.2.1+t.2.2.2.1+r/\af+ae<=t.2.2.1+t.2.2.2.1) _ ⟨rfl,ai,j1,l1,l2,by dsimp only;lia,by dsimp only;lia⟩ ?_ ?_) ?_)
   .refine λ_ r=>pr6 λo out N G ac bc=>?_;rintro a9 _ _ _ ⟨O,z,j,l1,l2,l3,l4⟩;simp only at O j l1 l2 l3 l4;subst O;have ah:N<a.size:=aA;refine aO (k0 l2 ?_);refine aO (k0 ah ?_);refine aO (c _ _ (hb _ aD) (ha _ aD) _ _ (z.kind.trans hk) ?_);cases hv:κ.blt (ky κ b[G]) (ky κ a[N])with
    |true=>
     refine aO (k0 l2 ?_);have j':=Y out N G l2 j λi i1 i2=>KeyOrd.klt_of_klt_of_kle hv (by rw[<-Y7 (aM ah)];exact sa _ _ (aY _) i1 i2)
     refine n6 (λe=>aT ⟨z,.inl ⟨_,rfl,a6 _ _ _ j' (by simpa using e)⟩⟩) λe=>?_;have e:G+1≠b.size:=by simpa using e
     refine n6 (λ_=>aT ⟨z,.inr ⟨rfl,j',l1,cL l2 e,Nat.succ_le_succ l4⟩⟩) λ_=>aT ⟨rfl,z,j',l1,cL l2 e,ar3 l3,Nat.le_succ_of_le l4⟩
    |false=>
     refine aO (k0 ah ?_);have j':=Z out N G ah j λi i1 i2=>bu hv (by rw[<-Y7 (aM l2)];exact sb _ _ (aY _) i1 i2)
     refine n6 (λe=>aT ⟨z,.inl ⟨_,rfl,lst _ _ _ j' (by simpa using e)⟩⟩) λe=>?_;have e:N+1+1≠a.size:=by simpa using e
     refine n6 (λ_=>aT ⟨z,.inr ⟨rfl,j',cL l1 e,l2,ar2 l4⟩⟩) λ_=>aT ⟨rfl,z,j',cL l1 e,l2,ar4 l3,dk (ar2 l4)⟩
   .refine pr6 λo out N G ac bc=>?_;rintro a9 ⟨O,z,j,l1,l2,l3,l4⟩;exact⟨z,.inr ⟨O,j,l1,l2,by dsimp only at l3 ⊢;lia⟩⟩
   .refine pr6 λo ak au as ac bc=>?_;rintro a9 ⟨aa,hh⟩;rcases hh with⟨m,O,gm⟩|⟨O,j2,l5,l6,l7⟩
    .simp only at O;subst O;exact aT (aT (q _ _ aa gm))
    .simp only at O j2 l5 l6 l7;subst O;refine aO (wpS_lift (cB ⟨rfl,?_⟩));refine aO (wpS_mono (Q:=λt st'=>St st st'/\((∃m,t.1=some m/\MGd κ a b m)\/(t.1=none/\MLo κ a b t.2.1 t.2.2.1 t.2.2.2.1/\t.2.2.1+1<a.size/\t.2.2.2.1<b.size/\af+ae+1<=t.2.2.1+t.2.2.2.1))) (j6 0 (a.size+b.size) _ _ (λr t st'=>t.1=none/\St st st'/\MLo κ a b t.2.1 t.2.2.1 t.2.2.2.1/\t.2.2.1+1<a.size/\t.2.2.2.1<b.size/\af+ae+1<=t.2.2.1+t.2.2.2.1) _ ⟨rfl,aa,j2,l5,l6,l7⟩ ?_ ?_) ?_)
     .refine λ_ r=>pr7 λo out N G mg ac bc=>?_;rintro a8 _ _ _ ⟨O,z,j,l1,l2,l4⟩;simp only at O j l1 l2 l4;subst O
      extract_lets _ _ _ _ _ _ _ _ _ _ _ _ jp
      refine ym1 (f:=jp ()) λmg=>?_;dsimp -zeta +zetaDelta only;refine aO (cV ?_);refine aO (k0 l2 ?_);refine aO (zd6 (base:=N) (n:=a.size-N) (hint:=0) hg c (by exact z.kind.trans hk) (hb _ (cy l2)) ha (aq1 (Nat.lt_of_succ_lt l1)) (λi j i1 i2 i3=>sa i j (aY _) i2 (aq2 (Nat.lt_of_succ_lt l1) i3)) (Nat.sub_pos_of_lt (Nat.lt_of_succ_lt l1)) λk k1 k2 k3=>?_);have jA:=chA _ _ _ k l2 j k2;dsimp -zeta only
      extract_lets _ jp
      refine yx8 (jp ()) (λout k=>N<=k/\k+1<a.size/\MLo κ a b out k G/\∀i,k<=i->i<a.size->κ.klt (ky κ b[G]) (KK κ a i)) (λout k h=>?_) λK=>n6 (λhp=>n6 (λe=>aT ⟨⟨z.1,z.2,z.3,z.4⟩,.inl ⟨_,rfl,lst _ _ _ jA (by simpa using e)⟩⟩) λe1=>n6 (λe=>aT ⟨⟨z.1,z.2,z.3,z.4⟩,.inl ⟨_,rfl,a7 _ _ _ jA (by simpa using e)⟩⟩) λe2=>K _ _ ⟨aA,?_,jA,λi i1 i2=>?_⟩) λhn=>K _ _ ⟨aA,aA,j,λi i1 i2=>?_⟩
      rotate_left
      .have e1:N+k+1≠a.size:=by simpa using e1
       have e2:N+k≠a.size:=by simpa using e2
       exact cL (aq6 k1 hp e2) e1
      .exact aq4 (P:=λj=>κ.klt _ (KK κ a j)) k3 i1 i2
      .exact aq4 (P:=λj=>κ.klt _ (KK κ a j)) k3 (aq5 hn i1) i2
      obtain⟨x1,x2,jx,fx⟩:=h;have a5:k<a.size:=aA;refine aO (k0 l2 ?_);have jy:=Y _ _ _ l2 jx fx;refine n6 (λe=>aT ⟨⟨z.1,z.2,z.3,z.4⟩,.inl ⟨_,rfl,a6 _ _ _ jy (by simpa using e)⟩⟩) λe=>?_;have e:G+1≠b.size:=by simpa using e
      refine aO (k0 a5 ?_);refine aO (zd5 (base:=G+1) (n:=b.size-(G+1)) (hint:=0) hg c (by exact z.kind.trans hk) (ha _ (cy a5)) hb (aq1 (cL l2 e)) (λi j i1 i2 i3=>sb i j (aY _) i2 (aq2 (cL l2 e) i3)) (Nat.sub_pos_of_lt (cL l2 e)) λk' m1 m2 m3=>?_);have jB:=chB _ _ _ k' a5 jy m2;dsimp -zeta only
      extract_lets _ _ jp
      refine yx8 (jp ()) (λout m=>G+1<=m/\m<b.size/\MLo κ a b out k m/\∀i,m<=i->i<b.size->κ.kle (ky κ a[k]) (KK κ b i)) (λout m h=>?_) λK=>n6 (λhp=>n6 (λe=>aT ⟨⟨z.1,z.2,z.3,z.4⟩,.inl ⟨_,rfl,a6 _ _ _ jB (by simpa using e)⟩⟩) λe1=>K _ _ ⟨aA,?_,jB,λi i1 i2=>?_⟩) λhn=>K _ _ ⟨aA,aA,jy,λi i1 i2=>?_⟩
      rotate_left
      .have e1:G+1+k'≠b.size:=by simpa using e1
       exact aq6 m1 hp e1
      .exact aq4 (P:=λj=>κ.kle _ (KK κ b j)) m3 i1 i2
      .exact aq4 (P:=λj=>κ.kle _ (KK κ b j)) m3 (aq5 hn i1) i2
      obtain⟨y1,y2,jz,fz⟩:=h;refine aO (k0 a5 ?_);have jw:=Z _ _ _ a5 jz fz;refine n6 (λe=>aT ⟨⟨z.1,z.2,z.3,z.4⟩,.inl ⟨_,rfl,lst _ _ _ jw (by simpa using e)⟩⟩) λe=>?_;have e:k+1+1≠a.size:=by simpa using e
      refine n6 (λ_=>aT ⟨⟨z.1,z.2,z.3,z.4⟩,.inr ⟨rfl,jw,?_,y2,?_⟩⟩) λ_=>aT ⟨rfl,⟨z.1,z.2,z.3,z.4⟩,jw,?_,y2,?_⟩
      all_goals dsimp only;lia
     .refine pr7 λo out N G mg ac bc=>?_;rintro a8 ⟨O,z,j,l1,l2,l4⟩;exact⟨z,.inr ⟨O,j,l1,l2,l4⟩⟩
     .refine pr7 λo out N G mg ac bc=>?_;rintro a8 ⟨z,hh⟩;rcases hh with⟨m,O,gm⟩|⟨O,j,l8,l9,aj⟩
      .simp only at O;subst O;exact aT (aT (q _ _ z gm))
      .simp only at O j l8 l9 aj;subst O;refine aO (cV (aT ⟨rfl,⟨z.1,z.2,z.3,z.4⟩,j,l8,l9,by dsimp only;lia⟩))
  .refine pr5 λo out N G mg=>?_;rintro st' ⟨O,z,j,l1,l2,l3⟩;simp only at l1 l2 l3;lia
 case c=>
  intro hg prog w A E s a₀ κ kd c st hk a b ha hb sa sb a1 b1 h0 h9 Q q;have pa:=seg_pair sa;have pb:=seg_pair sb;have a3:∀i,((a.toList.take i).reverse).Pairwise (Rr κ):=λi=>List.pairwise_reverse.mpr (pa.sublist (List.take_sublist i _));have a2:∀i,((b.toList.take i).reverse).Pairwise (Rr κ):=λi=>List.pairwise_reverse.mpr (pb.sublist (List.take_sublist i _));have a7:∀(out:Array Keyed) na nb,MS (Rr κ) (a.toList++b.toList) out.toList (a.toList.take na).reverse (b.toList.take nb).reverse->na=0->M2 (Rk κ) (a.toList++b.toList) (a.extract 0 na++b.extract 0 nb++out.reverse).toList:=λout na nb j e=>yz0 (by subst e;have:=j.finB (by simpa using a2 nb);simpa using this)
  have a6:∀(out:Array Keyed) na nb,MS (Rr κ) (a.toList++b.toList) out.toList (a.toList.take na).reverse (b.toList.take nb).reverse->nb=0->M2 (Rk κ) (a.toList++b.toList) (a.extract 0 na++b.extract 0 nb++out.reverse).toList:=λout na nb j e=>yz0 (by subst e;have:=MS.finA (by simpa using j) (a3 na);simpa using this)
  have lst:∀(out:Array Keyed) na nb,MS (Rr κ) (a.toList++b.toList) out.toList (a.toList.take na).reverse (b.toList.take nb).reverse->nb=1->M2 (Rk κ) (a.toList++b.toList) (b.extract 0 nb++a.extract 0 na++out.reverse).toList:=λout na nb j e=>yz0 (by
   subst e;have:=j.finAB (a3 na) (a2 1) λx hx y hy=>by obtain⟨i,i1,i2,e1⟩:=V2 (κ:=κ) hx;obtain⟨m,m1,m2,e2⟩:=V2 (κ:=κ) hy;show κ.kle _ _;rw[<-e1,<-e2,show m=0 by lia];exact bu (bO h0) (sa _ _ (aY _) (aY _) i2)
   simpa using this)
  have Z:∀(out:Array Keyed) na nb (h:na<a.size),MS (Rr κ) (a.toList++b.toList) out.toList (a.toList.take (na+1)).reverse (b.toList.take nb).reverse->(∀i,i<nb->i<b.size->κ.kle (KK κ b i) (ky κ a[na]))->MS (Rr κ) (a.toList++b.toList) (out.push a[na]).toList (a.toList.take na).reverse (b.toList.take nb).reverse:=λout na nb h j f=>by rw[zr7 h]at j;rw[cI];refine j.chA (by rw[<-zr7 h];exact a3 _) λx hx y hy=>?_;rw[bm.mp hx];obtain⟨k,k1,k2,e2⟩:=V2 (κ:=κ) hy;show κ.kle _ _;rw[<-e2];exact f k k1 k2
  have Y:∀(out:Array Keyed) na nb (h:nb<b.size),MS (Rr κ) (a.toList++b.toList) out.toList (a.toList.take na).reverse (b.toList.take (nb+1)).reverse->(∀i,i<na->i<a.size->κ.kle (KK κ a i) (ky κ b[nb]))->MS (Rr κ) (a.toList++b.toList) (out.push b[nb]).toList (a.toList.take na).reverse (b.toList.take nb).reverse:=λout na nb h j f=>by rw[zr7 h]at j;rw[cI];refine j.chB (by rw[<-zr7 h];exact a2 _) λx hx y hy=>?_;rw[bm.mp hx];obtain⟨k,k1,k2,e2⟩:=V2 (κ:=κ) hy;show κ.kle _ _;rw[<-e2];exact f k k1 k2
  have chA:∀(out:Array Keyed) na nb k (hk:k<=na) (h:nb-1<b.size) (h':na<=a.size),MS (Rr κ) (a.toList++b.toList) out.toList (a.toList.take na).reverse (b.toList.take nb).reverse->(∀i,k<=i->i<na->κ.klt (ky κ b[nb-1]) (KK κ a i))->MS (Rr κ) (a.toList++b.toList) (out++(a.extract k na).reverse).toList (a.toList.take k).reverse (b.toList.take nb).reverse:=λout na nb k hk h h' j f=>by rw[zr6 (l:=a.toList) hk]at j;rw[bR,xk2];refine j.chA (by rw[<-zr6 hk];exact a3 _) λx hx y hy=>?_;obtain⟨i,i1,i2,e1⟩:=K1 (κ:=κ) (List.mem_reverse.mp hx);obtain⟨m,m1,m2,e2⟩:=V2 (κ:=κ) hy;show κ.kle _ _;rw[<-e1,<-e2];refine bu ?_ (bO (f (k+i) aA aA));rw[<-Y7 (aM h)];exact sb _ _ (aY _) aA h
  have chB:∀(out:Array Keyed) na nb k (hk:k<=nb) (h:na-1<a.size) (h':nb<=b.size),MS (Rr κ) (a.toList++b.toList) out.toList (a.toList.take na).reverse (b.toList.take nb).reverse->(∀i,k<=i->i<nb->κ.kle (ky κ a[na-1]) (KK κ b i))->MS (Rr κ) (a.toList++b.toList) (out++(b.extract k nb).reverse).toList (a.toList.take na).reverse (b.toList.take k).reverse:=λout na nb k hk h h' j f=>by rw[zr6 (l:=b.toList) hk]at j;rw[bR,xk2];refine j.chB (by rw[<-zr6 hk];exact a2 _) λx hx y hy=>?_;obtain⟨i,i1,i2,e1⟩:=K1 (κ:=κ) (List.mem_reverse.mp hx);obtain⟨m,m1,m2,e2⟩:=V2 (κ:=κ) hy;show κ.kle _ _;rw[<-e1,<-e2];refine bu ?_ (f (k+i) aA aA);rw[<-Y7 (aM h)];exact sa _ _ (aY _) aA h
  have hl:a.size-1<a.size:=aA;have j0:MS (Rr κ) (a.toList++b.toList) (#[a[a.size-1]]:Array Keyed).toList (a.toList.take (a.size-1)).reverse (b.toList.take b.size).reverse:=by
   have:=Z #[] (a.size-1) b.size hl (by
    rw[show a.size-1+1=a.size by lia];have:MS (Rr κ) (a.toList++b.toList) [] a.toList.reverse b.toList.reverse:=⟨((List.reverse_perm _).append (List.reverse_perm _)),.nil,λx h=>aZ h aD,λx h=>aZ h aD⟩;rw[List.take_of_length_le (l:=a.toList) aD,List.take_of_length_le (l:=b.toList) aD];exact this) λi _ h=>by
    rw[<-Y7 (aM hl)];exact bu (sb _ _ (aY _) aA aA) (bO h9)
   simpa using this
  refine aO (wpS_lift (cB ⟨rfl,?_⟩));refine aO (k0 hl ?_);refine n6 (λe=>aT (q _ _ (.refl _) (a7 _ _ _ j0 (by simpa using e)))) λe1=>?_;refine n6 (λe=>aT (q _ _ (.refl _) (lst _ _ _ j0 (by simpa using e)))) λe2=>?_;have e1:a.size-1≠0:=by simpa using e1
  have e2:b.size≠1:=by simpa using e2
  refine aO (dY ?_);refine aO (j6 0 (a.size+b.size) _ _ (λr t st'=>t.1=none/\St st st'/\MHi κ a b t.2.2.2.1 t.2.1 t.2.2.1/\(0<t.2.1/\t.2.1<=a.size)/\(1<t.2.2.1/\t.2.2.1<=b.size)/\t.2.1+t.2.2.1<=r) _ ⟨rfl,.refl _,j0,by dsimp only;lia,by dsimp only;lia,by dsimp only;lia⟩ ?_ ?_)
  .refine λ_ r=>pr5 λo ad ab al mg=>?_;rintro ao _ _ _ ⟨O,ai,j1,l1,l2,l3⟩;simp only at O j1 l1 l2 l3;subst O;refine aO (wpS_mono (Q:=λt st'=>St st st'/\((∃m,t.1=some m/\MGd κ a b m)\/(t.1=none/\MHi κ a b t.2.2.2.1 t.2.1 t.2.2.1/\(0<t.2.1/\t.2.1<=a.size)/\(1<t.2.2.1/\t.2.2.1<=b.size)/\t.2.1+t.2.2.1+1<=ad+ab))) (j6 0 (a.size+b.size) _ _ (λr t st'=>t.1=none/\St st st'/\MHi κ a b t.2.2.2.1 t.2.1 t.2.2.1/\(0<t.2.1/\t.2.1<=a.size)/\(1<t.2.2.1/\t.2.2.1<=b.size)/\t.2.1+t.2.2.1+(a.size+b.size)<=ad+ab+r/\t.2.1+t.2.2.1<=ad+ab) _ ⟨rfl,ai,j1,l1,l2,by dsimp only;lia,by dsimp only;lia⟩ ?_ ?_) ?_)
   .refine λ_ r=>pr6 λo na nb out ac bc=>?_;rintro a9 _ _ _ ⟨O,z,j,l1,l2,l3,l4⟩;simp only at O j l1 l2 l3 l4;subst O;obtain⟨na,rfl⟩:∃n,na=n+1:=⟨na-1,aA⟩;obtain⟨nb,rfl⟩:∃n,nb=n+1:=⟨nb-1,aA⟩;have a4:na<a.size:=aA;have U:nb<b.size:=aA;refine aO (k0 U ?_);refine aO (k0 a4 ?_);refine aO (c _ _ (hb _ aD) (ha _ aD) _ _ (z.kind.trans hk) ?_);cases hv:κ.blt (ky κ b[nb]) (ky κ a[na])with
    |true=>
     refine aO (k0 a4 ?_);have j':=Z out na (nb+1) a4 j λi i1 i2=>bu (by rw[<-Y7 (aM U)];exact sb i nb (aY _) aA U) (bO hv)
     refine n6 (λe=>aT ⟨z,.inl ⟨_,rfl,a7 _ _ _ j' (by simpa using e)⟩⟩) λe=>?_;have e:¬ (_:Nat)=0:=λh=>e (beq_iff_eq.mpr h)
     try dsimp only at e
     refine n6 (λ_=>aT ⟨z,.inr ⟨rfl,j',by dsimp only;lia,l2,by dsimp only;lia⟩⟩) λ_=>aT ⟨rfl,z,j',by dsimp only;lia,l2,by dsimp only;lia,by dsimp only;lia⟩
    |false=>
     refine aO (k0 U ?_);have j':=Y out (na+1) nb U j λi i1 i2=>bu (by rw[<-Y7 (aM a4)];exact sa i na (aY _) aA a4) hv
     refine n6 (λe=>aT ⟨z,.inl ⟨_,rfl,lst _ _ _ j' (by simpa using e)⟩⟩) λe=>?_;have e:¬ (_:Nat)=1:=λh=>e (beq_iff_eq.mpr h)
     try dsimp only at e
     refine n6 (λ_=>aT ⟨z,.inr ⟨rfl,j',l1,by dsimp only;lia,by dsimp only;lia⟩⟩) λ_=>aT ⟨rfl,z,j',l1,by dsimp only;lia,by dsimp only;lia,by dsimp only;lia⟩
   .refine pr6 λo na nb out ac bc=>?_;rintro a9 ⟨O,z,j,l1,l2,l3,l4⟩;exact⟨z,.inr ⟨O,j,l1,l2,by dsimp only at l3 ⊢;lia⟩⟩
   .refine pr6 λo ar aq ak ac bc=>?_;rintro a9 ⟨aa,hh⟩;rcases hh with⟨m,O,gm⟩|⟨O,j2,l5,l6,l7⟩
    .simp only at O;subst O;exact aT (aT (q _ _ aa gm))
    .simp only at O j2 l5 l6 l7;subst O;refine aO (wpS_lift (cB ⟨rfl,?_⟩));refine aO (wpS_mono (Q:=λt st'=>St st st'/\((∃m,t.1=some m/\MGd κ a b m)\/(t.1=none/\MHi κ a b t.2.2.2.1 t.2.1 t.2.2.1/\(0<t.2.1/\t.2.1<=a.size)/\(1<t.2.2.1/\t.2.2.1<=b.size)/\t.2.1+t.2.2.1+1<=ad+ab))) (j6 0 (a.size+b.size) _ _ (λr t st'=>t.1=none/\St st st'/\MHi κ a b t.2.2.2.1 t.2.1 t.2.2.1/\(0<t.2.1/\t.2.1<=a.size)/\(1<t.2.2.1/\t.2.2.1<=b.size)/\t.2.1+t.2.2.1+1<=ad+ab) _ ⟨rfl,aa,j2,l5,l6,l7⟩ ?_ ?_) ?_)
     .refine λ_ r=>pr7 λo na nb out mg ac bc=>?_;rintro a8 _ _ _ ⟨O,z,j,l1,l2,l4⟩;simp only at O j l1 l2 l4;subst O;have U:nb-1<b.size:=aA
      extract_lets _ _ _ _ _ _ _ _ _ _ _ _ jp
      refine ym1 (f:=jp ()) λmg=>?_;dsimp -zeta +zetaDelta only;refine aO (cV ?_);refine aO (k0 U ?_);refine aO (zd6 (base:=0) (n:=na) (hint:=na-1) hg c (by exact z.kind.trans hk) (hb _ (cy U)) ha aA (λi j i1 i2 i3=>sa i j (aY _) i2 aA) (Nat.sub_one_lt_of_lt l1.1) λk k1 k2 k3=>?_);simp only[Nat.zero_add]at k2 k3;have jA:=chA _ _ _ k k1 U aA j k3;dsimp -zeta only
      extract_lets _ _ jp
      refine yx8 (jp ()) (λm out=>m<=na/\0<m/\MHi κ a b out m nb/\∀i,i<m->i<a.size->κ.kle (KK κ a i) (ky κ b[nb-1])) (λm out h=>?_) λK=>n6 (λhp=>n6 (λe=>aT ⟨⟨z.1,z.2,z.3,z.4⟩,.inl ⟨_,rfl,a7 _ _ _ jA (by simpa using e)⟩⟩) λe1=>K _ _ ⟨aA,?_,jA,λi i1 i2=>k2 i i1⟩) λhn=>K _ _ ⟨aA,aA,j,λi i1 i2=>k2 i ?_⟩
      rotate_left
      .have e1:k≠0:=by simpa using e1
       lia
      .exact aq7 hn i1
      obtain⟨x1,x2,jx,fx⟩:=h;obtain⟨nb,rfl⟩:∃n,nb=n+1:=⟨nb-1,(Nat.sub_add_cancel (dk l2.1)).symm⟩;have U:nb<b.size:=aA;refine aO (k0 U ?_);have jy:=Y _ _ _ U jx fx;refine n6 (λe=>aT ⟨⟨z.1,z.2,z.3,z.4⟩,.inl ⟨_,rfl,lst _ _ _ jy (by simpa using e)⟩⟩) λe=>?_;have e:¬ (_:Nat)=1:=λh=>e (beq_iff_eq.mpr h)
      try dsimp only at e
      have ag:m-1<a.size:=bd (Nat.sub_one_lt_of_lt x2) (bE x1 l1.2);refine aO (k0 ag ?_);refine aO (zd5 (base:=0) (n:=nb) (hint:=nb-1) hg c (by exact z.kind.trans hk) (ha _ (cy ag)) hb aA (λi j i1 i2 i3=>sb i j (aY _) i2 aA) (Nat.sub_one_lt_of_lt (Nat.lt_of_succ_lt_succ l2.1)) λk' m1 m2 m3=>?_);simp only[Nat.zero_add]at m2 m3;have jB:=chB _ _ _ k' m1 ag aA jy m3;dsimp -zeta only
      extract_lets _ _ _ jp
      refine yx8 (jp ()) (λv out=>v<=nb/\1<v/\MHi κ a b out m v/\∀i,i<v->i<b.size->κ.kle (KK κ b i) (ky κ a[m-1])) (λv out h=>?_) λK=>n6 (λhp=>n6 (λe=>aT ⟨⟨z.1,z.2,z.3,z.4⟩,.inl ⟨_,rfl,lst _ _ _ jB (by simpa using e)⟩⟩) λe3=>n6 (λe=>aT ⟨⟨z.1,z.2,z.3,z.4⟩,.inl ⟨_,rfl,a6 _ _ _ jB (by simpa using e)⟩⟩) λe4=>K _ _ ⟨aA,?_,jB,λi i1 i2=>bO (m2 i i1)⟩) λhn=>K _ _ ⟨aA,aA,jy,λi i1 i2=>bO (m2 i ?_)⟩
      rotate_left
      .have e3:k'≠1:=by simpa using e3
       have e4:k'≠0:=by simpa using e4
       lia
      .exact aq7 hn i1
      obtain⟨y1,y2,jz,fz⟩:=h;obtain⟨m,rfl⟩:∃n,m=n+1:=⟨m-1,(Nat.sub_add_cancel x2).symm⟩;have a4:m<a.size:=aA;refine aO (k0 a4 ?_);have jw:=Z _ _ _ a4 jz fz;refine n6 (λe=>aT ⟨⟨z.1,z.2,z.3,z.4⟩,.inl ⟨_,rfl,a7 _ _ _ jw (by simpa using e)⟩⟩) λe=>?_;have e:¬ (_:Nat)=0:=λh=>e (beq_iff_eq.mpr h)
      try dsimp only at e
      refine n6 (λ_=>aT ⟨⟨z.1,z.2,z.3,z.4⟩,.inr ⟨rfl,jw,?_,?_,?_⟩⟩) λ_=>aT ⟨rfl,⟨z.1,z.2,z.3,z.4⟩,jw,?_,?_,?_⟩
      all_goals dsimp only;lia
     .refine pr7 λo na nb out mg ac bc=>?_;rintro a8 ⟨O,z,j,l1,l2,l4⟩;exact⟨z,.inr ⟨O,j,l1,l2,l4⟩⟩
     .refine pr7 λo na nb out mg ac bc=>?_;rintro a8 ⟨z,hh⟩;rcases hh with⟨m,O,gm⟩|⟨O,j,l8,l9,aj⟩
      .simp only at O;subst O;exact aT (aT (q _ _ z gm))
      .simp only at O j l8 l9 aj;subst O;refine aO (cV (aT ⟨rfl,⟨z.1,z.2,z.3,z.4⟩,j,l8,l9,by dsimp only;lia⟩))
  .refine pr5 λo na nb out mg=>?_;rintro st' ⟨O,z,j,l1,l2,l3⟩;simp only at l1 l2 l3;lia
end
end TS
namespace TS
section
variable {prog:Program}{w:World}{A:Around}{E:Value->Shared->Prop}{s:Shared}{a₀:Array Keyed}{κ:PyProof.Rows.KeyKind}{kd:SortKind}{st:SortSt}
theorem yn9(sa:Nat):∀(l:List Keyed)(n:Nat)(arr:Array Keyed),sa+n+l.length<=arr.size->∀k,(List.foldl (λ(a:Array Keyed)(x:Keyed×Nat)=>match x with | (p,j)=>a.setIfInBounds (sa+j) p) arr (l.zipIdx n))[k]? =if sa+n<=k/\k<sa+n+l.length then l[k-(sa+n)]? else arr[k]?
 |[],n,arr,h,k=>by rw[List.zipIdx_nil,List.foldl_nil,aI aD]
 |x::l,n,arr,h,k=>by
  simp only[List.length_cons]at h;rw[List.zipIdx_cons,List.foldl_cons,yn9 sa l (n+1) _ (by simp;lia)];simp only[List.length_cons];by_cases h1:k=sa+n
  .subst h1;rw[aI aA,aJ aA,Array.getElem?_setIfInBounds_self_of_lt aA];simp
  .by_cases h2:sa+(n+1)<=k/\k<sa+(n+1)+l.length
   .rw[aJ h2,aJ aA,show k-(sa+n)=(k-(sa+(n+1)))+1 by lia,List.getElem?_cons_succ]
   .rw[aI h2,aI aA,Array.getElem?_setIfInBounds_ne aA]
theorem yn8{arr m:Array Keyed}{sa:Nat}(h:sa+m.size<=arr.size):(wr arr sa m).toList=arr.toList.take sa++m.toList++arr.toList.drop (sa+m.size):=by
 refine List.ext_getElem? λk=>?_;have:=yn9 sa m.toList 0 arr (by simpa using h) k;rw[cu];unfold wr;rw[this];simp only[Array.length_toList,Nat.add_zero,Array.getElem?_toList];have j:(arr.toList.take sa).length=sa:=by simp;lia
 by_cases h1:k<sa
 .rw[aI aA,cH,List.getElem?_append_left aA,List.getElem?_take_of_lt h1,cu]
 .by_cases h2:k<sa+m.size
  .rw[aJ aA,cH,List.getElem?_append_right aA,List.getElem?_append_left (by simp;lia),j,cu]
  .rw[aI aA,List.getElem?_append_right (by simp;lia),List.getElem?_drop,cu];congr 1;simp only[List.length_append,j,Array.length_toList];lia
theorem wj8{arr m:Array Keyed}{sa:Nat}(h:sa+m.size<=arr.size)(k:Nat):KK κ (wr arr sa m) k=if sa<=k/\k<sa+m.size then KK κ m (k-sa)else KK κ arr k:=by
 have:=yn9 sa m.toList 0 arr (by simpa using h) k;simp only[Array.length_toList,Nat.add_zero,Array.getElem?_toList]at this;split
 .rename_i h1;rw[aJ h1]at this;exact KK_congr this
 .rename_i h1;rw[aI h1]at this;exact KK_congr this
theorem xj4{arr m:Array Keyed}{sa sb:Nat}(h:sb<=arr.size)(hs:sa<=sb)(p:m.toList.Perm (arr.extract sa sb).toList):(wr arr sa m).Perm arr:=by
 have j:m.size=sb-sa:=by have:=p.length_eq;simp at this;lia
 rw[dF,yn8 aA];have e:arr.toList=arr.toList.take sa++(arr.extract sa sb).toList++arr.toList.drop (sa+m.size):=by
  rw[j,Array.toList_extract,List.extract,show sa+(sb-sa)=sb by lia]
  conv=>lhs;rw[<-List.take_append_drop sb arr.toList]
  congr 1
  conv=>lhs;rw[show sb=sa+(sb-sa)by lia,List.take_add]
 conv=>rhs;rw[e]
 exact(p.append_left _).append_right _
theorem zq4{arr arr':Array Keyed}{lo p q hi:Nat}(h1:∀k,k<p\/q<=k->KK κ arr' k=KK κ arr k)(h2:Seg κ arr' p q)(U:∀k,p<=k->k<q->∃r,p<=r/\r<q/\KK κ arr' k=KK κ arr r)(s1:Seg κ arr lo p)(Z:Seg κ arr q hi)
  (N:∀i r,lo<=i->i<p->p<=r->r<q->κ.kle (KK κ arr i) (KK κ arr r)) (z:∀r j,p<=r->r<q->q<=j->j<hi->κ.kle (KK κ arr r) (KK κ arr j)) (G:∀i j,lo<=i->i<p->q<=j->j<hi->κ.kle (KK κ arr i) (KK κ arr j)):Seg κ arr' lo hi:=by
 intro i j i1 i2 i3;by_cases O:i<p
 .rw[h1 i (.inl O)];by_cases Y:j<p
  .rw[h1 j (.inl Y)];exact s1 i j i1 i2 Y
  .by_cases b2:j<q
   .obtain⟨r,r1,r2,e⟩:=U j aA b2;rw[e];exact N i r i1 O r1 r2
   .rw[h1 j (.inr aA)];exact G i j i1 O aA i3
 .by_cases a2:i<q
  .by_cases b2:j<q
   .exact h2 i j aA i2 b2
   .obtain⟨r,r1,r2,e⟩:=U i aA a2;rw[e,h1 j (.inr aA)];exact z r j r1 r2 aA i3
  .rw[h1 i (.inr aA),h1 j (.inr aA)];exact Z i j aA i2 i3
theorem zk6{arr:Array Keyed}{i j m:Nat}(z:j<=arr.size)(h:m<j-i):KK κ (arr.extract i j) m=KK κ arr (i+m):=by refine KK_congr ?_;rw[Array.getElem?_extract,aJ aA]
theorem ww1{a:Type}{st st':a}{Q:PUnit->a->Prop}(q:Q ⟨⟩ st'):wpS M A E s (set st') Q st:=aH ⟨rfl,q⟩
theorem yr5{i sa na pw sb nb pw2:Nat}(c:CL (model prog w) A E s a₀ κ kd)(h:SB a₀ kd st)(h1:(pendingOf st)[i]? =some (sa,na,pw))(h2:(pendingOf st)[i+1]? =some (sb,nb,pw2))(hs:sb=sa+na)(n1:1<=na)(n2:1<=nb)(hz:sb+nb<=a₀.size)(N:Seg κ (arrOf st) sa sb)(G:Seg κ (arrOf st) sb (sb+nb)){Q:Bool->SortSt->Prop}
  (q:∀st',SB a₀ kd st'->pendingOf st'=((pendingOf st).setIfInBounds i (sa,na+nb,pw)).eraseIdxIfInBounds (i+1)->Seg κ (arrOf st') sa (sb+nb)->(∀k,k<sa\/sb+nb<=k->KK κ (arrOf st') k=KK κ (arrOf st) k)->Q true st'):wpS (model prog w) A E s (mergeAt' i) Q st:=by
 obtain⟨g,a5,a6,eq,hg,a3,a4⟩:=wh6;rw[eq];unfold zo7;refine aO (dY ?_);rw[h1,h2];subst hs;have sz:=h.size;have U:(sa+na)<(arrOf st).size:=aA;refine aO (ww1 ?_);refine aO (k0 U ?_);refine aO (zd6 (base:=sa) (n:=na) (hint:=0) hg c (by exact h.kind) (h.mem _ (cy U)) h.mem aA N aA λk k1 k2 k3=>?_);rw[<-Y7 (aM U)]at k2 k3;have h':SB a₀ kd (setPending st (((pendingOf st).setIfInBounds i (sa,na+nb,pw)).eraseIdxIfInBounds (i+1))):=⟨h.perm,h.kind,h.failed⟩;refine n6 (λe=>aT (q _ h' rfl ?_ λ_ _=>rfl)) λe1=>?_
 .have e:na-k=0:=by simpa using e
  refine zq4 (p:=(sa+na)) (q:=(sa+na)) (arr:=arrOf st) (λ_ _=>rfl) (λ_ _ _ _ _=>by lia) (λ_ _ _=>by lia) N G (λ_ _ _ _ _ _=>by lia) (λ_ _ _ _ _ _=>by lia) λi j i1 i2 j1 O=>?_;have:=k2 (i-sa) aA;rw[show sa+(i-sa)=i by lia]at this;exact bu this (G _ _ (aN _) j1 O)
 have e1:na-k≠0:=by simpa using e1
 have hy:sa+k+(na-k)-1<(arrOf st).size:=aA;refine aO (k0 hy ?_);refine aO (zd5 (base:=(sa+na)) (n:=nb) (hint:=nb-1) hg c (by exact h.kind) (h.mem _ (cy hy)) h.mem aA G aA λm m1 m2 m3=>?_);rw[<-Y7 (aM hy),show sa+k+(na-k)-1=(sa+na)-1 by lia]at m2 m3;refine n6 (λe=>aT (q _ h' rfl ?_ λ_ _=>rfl)) λe2=>?_
 .have e:m=0:=by simpa using e
  refine zq4 (p:=(sa+na)) (q:=(sa+na)) (arr:=arrOf st) (λ_ _=>rfl) (λ_ _ _ _ _=>by lia) (λ_ _ _=>by lia) N G (λ_ _ _ _ _ _=>by lia) (λ_ _ _ _ _ _=>by lia) λi j i1 i2 j1 O=>?_;have:=m3 (j-(sa+na)) aA aA;rw[show (sa+na)+(j-(sa+na))=j by lia]at this;exact bu (N i ((sa+na)-1) i1 aA aA) this
 have e2:m≠0:=by simpa using e2
 have za:((arrOf st).extract (sa+k) (sa+na)).size=na-k:=by simp;lia
 have zb:((arrOf st).extract (sa+na) ((sa+na)+m)).size=m:=by simp;lia
 have fin:∀(z:Array Keyed)(st':SortSt),St (setPending st (((pendingOf st).setIfInBounds i (sa,na+nb,pw)).eraseIdxIfInBounds (i+1))) st'->M2 (Rk κ) (((arrOf st).extract (sa+k) (sa+na)).toList++((arrOf st).extract (sa+na) ((sa+na)+m)).toList) z.toList->wpS (model prog w) A E s (C8 (sa+k) z) Q st':=by
  intro z st' ss ⟨gp,gs⟩;unfold C8;refine aO (cV ?_);refine aO (dY ?_);have hf:failedOf (setArr st' (wr (arrOf st') (sa+k) z))=none:=ss.failed.trans h.failed;rw[hf];have ea:arrOf st'=arrOf st:=ss.arr;have Y:z.toList.Perm ((arrOf st).extract (sa+k) ((sa+na)+m)).toList:=by refine gp.trans ?_;rw[<-bR,Array.extract_append_extract,show min (sa+k) (sa+na)=sa+k by lia,show max (sa+na) ((sa+na)+m)=(sa+na)+m by lia]
  have zm:z.size=((sa+na)+m)-(sa+k):=by have:=Y.length_eq;simp at this;lia
  have kk:=wj8 (κ:=κ) (arr:=arrOf st) (m:=z) (sa:=sa+k) aA;refine aT (q _ ⟨?_,ss.kind.trans h.kind,hf⟩ ss.pend ?_ ?_)
  .show (wr (arrOf st') (sa+k) z).Perm a₀;rw[ea];exact(xj4 (sb:=(sa+na)+m) aA aA Y).trans h.perm
  .show Seg κ (wr (arrOf st') (sa+k) z) sa ((sa+na)+nb);rw[ea];have sg:=xu7 gs;refine zq4 (p:=sa+k) (q:=(sa+na)+m) (arr:=arrOf st) (λj hj=>?_) (λi j i1 i2 i3=>?_) (λj j1 O=>?_) (λi j i1 i2 i3=>N i j i1 i2 aA) (λi j i1 i2 i3=>G i j aA i2 i3) (λi r i1 i2 r1 r2=>?_) (λr j r1 r2 j1 O=>?_) λi j i1 i2 j1 O=>?_
   .rw[kk,aI aA]
   .rw[kk,kk,aJ aA,aJ aA];exact sg _ _ (aY _) aA aA
   .rw[kk,aJ aA];have hj:j-(sa+k)<z.size:=aA;rw[Y7 (aM hj)];have hm:=Y.mem_iff.mp (cy hj);obtain⟨r,hr,er⟩:=List.getElem_of_mem hm;have a2:r<(sa+na)+m-(sa+k):=by simp at hr;omega
    refine⟨sa+k+r,aA,aA,?_⟩;rw[<-er,<-zk6 (κ:=κ) (arr:=arrOf st) (i:=sa+k) (j:=(sa+na)+m) (m:=r) aA a2,Y7 (aM (by simp;lia))];simp
   .rcases bq r (sa+na)with hr|hr
    .exact N i r i1 aA hr
    .have:=k2 (i-sa) aA;rw[show sa+(i-sa)=i by lia]at this;exact bu this (G _ _ (aN _) hr aA)
   .rcases bq r (sa+na)with hr|hr
    .have:=m3 (j-(sa+na)) aA aA;rw[show (sa+na)+(j-(sa+na))=j by lia]at this;exact bu (N r ((sa+na)-1) aA aA aA) this
    .exact G r j hr aA O
   .have:=k2 (i-sa) aA;rw[show sa+(i-sa)=i by lia]at this;exact bu this (G _ _ (aN _) aA O)
  .intro j hj;show KK κ (wr (arrOf st') (sa+k) z) j=_;rw[ea,kk,aI aA]
 have ma:∀x,x∈((arrOf st).extract (sa+k) (sa+na)).toList->x∈a₀.toList:=λx hx=>h.mem x (by rw[Array.toList_extract,List.extract]at hx;exact List.mem_of_mem_drop (List.mem_of_mem_take hx))
 have mb:∀x,x∈((arrOf st).extract (sa+na) ((sa+na)+m)).toList->x∈a₀.toList:=λx hx=>h.mem x (by rw[Array.toList_extract,List.extract]at hx;exact List.mem_of_mem_drop (List.mem_of_mem_take hx))
 have a1:Seg κ ((arrOf st).extract (sa+k) (sa+na)) 0 ((arrOf st).extract (sa+k) (sa+na)).size:=λi j _ i2 i3=>by rw[za]at i3;rw[zk6 aA aA,zk6 aA aA];exact N _ _ aA aA aA
 have Z:Seg κ ((arrOf st).extract (sa+na) ((sa+na)+m)) 0 ((arrOf st).extract (sa+na) ((sa+na)+m)).size:=λi j _ i2 i3=>by rw[zb]at i3;rw[zk6 aA aA,zk6 aA aA];exact G _ _ aA aA aA
 have q0:κ.klt (KK κ ((arrOf st).extract (sa+na) ((sa+na)+m)) 0) (KK κ ((arrOf st).extract (sa+k) (sa+na)) 0):=by rw[zk6 aA aA,zk6 aA aA];exact k3 k (aN _) aA
 have q9:κ.klt (KK κ ((arrOf st).extract (sa+na) ((sa+na)+m)) (((arrOf st).extract (sa+na) ((sa+na)+m)).size-1)) (KK κ ((arrOf st).extract (sa+k) (sa+na)) (((arrOf st).extract (sa+k) (sa+na)).size-1)):=by rw[za,zb,zk6 aA aA,zk6 aA aA,show sa+k+(na-k-1)=(sa+na)-1 by lia];exact m2 (m-1) aA
 refine n6 (λ_=>?_) (λ_=>?_)
 .exact aO (a3 _ _ _ _ _ _ _ _ c _ h'.kind _ _ ma mb a1 Z aA aA q0 q9 _ fin)
 .exact aO (a4 _ _ _ _ _ _ _ _ c _ h'.kind _ _ ma mb a1 Z aA aA q0 q9 _ fin)
end
end TS
namespace TS
section
variable {prog:Program}{w:World}{A:Around}{E:Value->Shared->Prop}{s:Shared}{a₀:Array Keyed}{g:PyProof.Rows.KeyKind}{kd:SortKind}{st:SortSt}
noncomputable def Runs(g:PyProof.Rows.KeyKind)(arr:Array Keyed):List (Nat×Nat×Nat)->Nat->Nat->Prop
 |[],lo,hi=>lo=hi
 | (s,n,_)::ps,lo,hi=>s=lo/\1<=n/\Seg g arr s (s+n)/\Runs g arr ps (s+n) hi
variable {arr arr':Array Keyed}
theorem Runs.app:∀{l1 l2:List (Nat×Nat×Nat)}{lo hi:Nat},Runs g arr (l1++l2) lo hi↔∃m,Runs g arr l1 lo m/\Runs g arr l2 m hi
 |[],l2,lo,hi=>⟨λh=>⟨lo,rfl,h⟩,λj=>by obtain⟨m,e,h⟩:=j;cases e;exact h⟩
 | (s,n,p)::l1,l2,lo,hi=>⟨λj=>by obtain⟨a,b,c,d⟩:=j;obtain⟨m,h1,h2⟩:=Runs.app.mp d;exact⟨m,⟨a,b,c,h1⟩,h2⟩,λ⟨m,⟨a,b,c,d⟩,h⟩=>⟨a,b,c,Runs.app.mpr ⟨m,d,h⟩⟩⟩
theorem Runs.len:∀{l:List (Nat×Nat×Nat)}{lo hi:Nat},Runs g arr l lo hi->lo+l.length<=hi
 |[],lo,hi,h=>by cases h;simp
 | (s,n,p)::l,lo,hi,⟨a,b,_,d⟩=>by have:=d.len;simp only[List.length_cons];lia
theorem Runs.congr:∀{l:List (Nat×Nat×Nat)}{lo hi:Nat},Runs g arr l lo hi->(∀k,lo<=k->k<hi->KK g arr' k=KK g arr k)->Runs g arr' l lo hi
 |[],lo,hi,h,_=>h
 | (s,n,p)::l,lo,hi,⟨a,b,c,d⟩,e=>⟨a,b,c.congr λk z j=>e k aA (by have:=d.len;lia),d.congr λk z j=>e k aA j⟩
theorem yc3{j:Type}{l1 l2:List j}{x y z:j}:(((l1++x::y::l2).set l1.length z).eraseIdx (l1.length+1))=l1++z::l2:=by rw[List.set_append_right _ _ (aN _),Nat.sub_self,List.set_cons_zero,List.eraseIdx_append_of_length_le aA];simp
theorem ym0{i hi:Nat}(c:CL (model prog w) A E s a₀ g kd)(h:SB a₀ kd st)(hr:Runs g (arrOf st) (pendingOf st).toList 0 hi)(N:i+1<(pendingOf st).size)(hz:hi<=a₀.size){Q:Bool->SortSt->Prop}
  (q:∀st',SB a₀ kd st'->Runs g (arrOf st') (pendingOf st').toList 0 hi->(pendingOf st').size+1=(pendingOf st).size->(∀k,hi<=k->KK g (arrOf st') k=KK g (arrOf st) k)->Q true st'):wpS (model prog w) A E s (mergeAt' i) Q st:=by
 have hl:i+1<(pendingOf st).toList.length:=by simpa using N
 obtain⟨l1,x,y,l2,e,e1⟩:∃l1 x y l2,(pendingOf st).toList=l1++x::y::l2/\l1.length=i:=by refine⟨(pendingOf st).toList.take i,(pendingOf st).toList[i],(pendingOf st).toList[i+1],(pendingOf st).toList.drop (i+2),?_,by simp;lia⟩;rw[<-List.drop_eq_getElem_cons hl,<-List.drop_eq_getElem_cons aB,List.take_append_drop]
 obtain⟨sa,na,pw⟩:=x;obtain⟨sb,nb,pw2⟩:=y;rw[e]at hr;obtain⟨m,U,r2,r3,r4,z,r6,r7,O⟩:=Runs.app.mp hr;have Y:=O.len;refine yr5 c h (sa:=sa) (na:=na) (pw:=pw) (sb:=sb) (nb:=nb) (pw2:=pw2) (by rw[<-cu,e,<-e1];simp) (by rw[<-cu,e,<-e1];simp) z r3 r6 aA (z ▸ r4) r7 λst' h' ep Z G=>?_;have j:(pendingOf st').toList=l1++(sa,na+nb,pw)::l2:=by rw[ep,Array.toList_eraseIdxIfInBounds,Array.toList_setIfInBounds,e,<-e1,yc3]
 refine q st' h' ?_ ?_ λk hk=>G k (.inr aA)
 .rw[j];have a1:=U.len;refine Runs.app.mpr ⟨m,U.congr λk _ k2=>G k (.inl aA),r2,aA,by rw[<-dP,<-z];exact Z,?_⟩;rw[<-dP,<-z];exact O.congr λk k1 k2=>G k (.inr aB)
 .have a:=bi List.length j;have b:=bi List.length e;simp at a b;lia
theorem yw4{l:List (Nat×Nat×Nat)}{n:Nat}(h:Runs g arr l 0 n)(z:l.length<=1):Seg g arr 0 n:=by
 match l,h with
 |[],h=>cases h;exact λi j _ _ h=>aZ h (Nat.not_lt_zero _)
 |[(s,m,p)],⟨a,b,c,d⟩=>have d:s+m=n:=d;subst a;subst d;exact c
 |_::_::_,_=>simp at z
theorem Runs.mod{f:Nat×Nat×Nat->Nat×Nat×Nat}(j:∀x,(f x).1=x.1/\(f x).2.1=x.2.1):∀{l:List (Nat×Nat×Nat)}{lo hi:Nat}(i:Nat),Runs g arr l lo hi->Runs g arr (l.modify i f) lo hi
 |[],lo,hi,i,h=>by simpa using h
 | (s,n,p)::l,lo,hi,0,h=>by rw[List.modify_zero_cons];have:=j (s,n,p);revert this;generalize f (s,n,p)=x;obtain⟨a,b,c⟩:=x;rintro⟨e1,e2⟩;simp only at e1 e2;subst e1 e2;exact h
 | (s,n,p)::l,lo,hi,i+1,⟨a,b,c,d⟩=>by rw[List.modify_succ_cons];exact⟨a,b,c,Runs.mod j i d⟩
theorem zy6{ps:Array (Nat×Nat×Nat)}{lo hi pw:Nat}(h:Runs g arr ps.toList lo hi):Runs g arr (ps.modify (ps.size-1) λx=>match x with | (st,len,_)=>(st,len,pw)).toList lo hi:=by rw[Array.toList_modify];exact Runs.mod (f:=λx=>match x with | (st,len,_)=>(st,len,pw)) (λx=>⟨rfl,rfl⟩) _ h
theorem xj5(c:CL (model prog w) A E s a₀ g kd)(h:SB a₀ kd st)(hp:pendingOf st=#[]){Q:Unit->SortSt->Prop}
  (q:∀st',(arrOf st').Perm a₀->failedOf st'=none->SortedToK g (arrOf st') a₀.size->Q () st'):wpS (model prog w) A E s sortRuns' Q st:=by
 rw[sortRuns'_eq];refine aO (dY ?_);have sz:=h.size;refine aO (wpS_mono (Q:=λt st'=>t.1=none/\SB a₀ kd st'/\Runs g (arrOf st') (pendingOf st').toList 0 a₀.size) (j6 0 (arrOf st).size _ _ (λr t st'=>t.1=none/\SB a₀ kd st'/\Runs g (arrOf st') (pendingOf st').toList 0 t.2/\t.2<=a₀.size/\a₀.size<=t.2+r) _ ⟨rfl,h,by rw[hp];rfl,by dsimp only;lia,by dsimp only;lia⟩ ?_ ?_) ?_)
 .rintro _ r ⟨o,lo⟩ st1 _ _ _ ⟨ho,h1,r1,l1,l2⟩;simp only at ho r1 l1 l2;subst ho;refine n6 (λe=>aT ⟨rfl,h1,?_⟩) λe=>?_
  .have e:lo ≥ (arrOf st).size:=e;rw[show lo=a₀.size by lia]at r1;exact r1
  have e:¬ lo ≥ (arrOf st).size:=e;refine aO (zd7 c h1 (lo:=lo) (nrem:=(arrOf st).size-lo) aA aA λm O ch m1 m2 sg=>?_);have r2:Runs g (arrOf O) (pendingOf O).toList 0 lo:=by rw[ch.pend];exact r1.congr λk _ hk=>ch.pre k hk
  refine n6 (λe2=>?_) (λe2=>?_)
  .refine aO (wpS_lift (cB ⟨rfl,?_⟩));have e2:m<minRun' (arrOf st).size (arrOf st).size 0:=e2;refine aO (ww3 c ch.sb (lo:=lo) (n:=min ((arrOf st).size-lo) (minRun' (arrOf st).size (arrOf st).size 0)) m1 aA aA sg λZ a5 a8=>?_);have hS:=a5.sb;have hR:Runs g (arrOf Z) (pendingOf Z).toList 0 lo:=by rw[a5.pend];exact r2.congr λk _ hk=>a5.pre k hk
   have hG:=a8;have hN:1<=min ((arrOf st).size-lo) (minRun' (arrOf st).size (arrOf st).size 0):=aA;have hM:lo+min ((arrOf st).size-lo) (minRun' (arrOf st).size (arrOf st).size 0)<=a₀.size:=aA;refine n6 (λe=>aZ e aD) λ_=>?_;clear e2 m1 m2 r2 sg;revert hG hN hM;generalize min ((arrOf st).size-lo) (minRun' (arrOf st).size (arrOf st).size 0)=N;intro hG hN hM;refine aO (dY ?_);have a1:∀z:SortSt,SB a₀ kd z->Runs g (arrOf z) (pendingOf z).toList 0 lo->(∀k,lo<=k->KK g (arrOf z) k=KK g (arrOf Z) k)->Runs g (arrOf z) ((pendingOf z).push (lo,N,0)).toList 0 (lo+N):=λz G U Y=>by rw[cI];exact Runs.app.mpr ⟨lo,U,rfl,hN,hG.congr λk k1 _=>Y k k1,rfl⟩
   have a2:∀(z:SortSt)(pw:Nat),SB a₀ kd z->Runs g (arrOf z) (pendingOf z).toList 0 lo->(∀k,lo<=k->KK g (arrOf z) k=KK g (arrOf Z) k)->Runs g (arrOf z) (((pendingOf z).modify ((pendingOf z).size-1) λx=>match x with | (a,b,_)=>(a,b,pw)).push (lo,N,0)).toList 0 (lo+N):=λz pw G U Y=>a1 (setPending z ((pendingOf z).modify ((pendingOf z).size-1) λx=>match x with | (a,b,_)=>(a,b,pw))) ⟨G.perm,G.kind,G.failed⟩ (zy6 U) Y;rcases hb:(pendingOf Z).back? with _|⟨s1,n1,a9⟩
   .exact aO (cV (aT ⟨rfl,⟨hS.perm,hS.kind,hS.failed⟩,a1 Z hS hR λ_ _=>rfl,hM,by dsimp only;lia⟩))
   .refine aO (wpS_mono (Q:=λt st'=>t.1=none/\SB a₀ kd st'/\Runs g (arrOf st') (pendingOf st').toList 0 lo/\∀k,lo<=k->KK g (arrOf st') k=KK g (arrOf Z) k) (j6 0 _ _ _ (λ_ t st'=>t.1=none/\SB a₀ kd st'/\Runs g (arrOf st') (pendingOf st').toList 0 lo/\∀k,lo<=k->KK g (arrOf st') k=KK g (arrOf Z) k) _ ⟨rfl,hS,hR,λ_ _=>rfl⟩ ?_ ?_) ?_)
    .rintro _ r ⟨o,_⟩ z _ _ _ ⟨ho,G,U,Y⟩;simp only at ho;subst ho;refine aO (dY ?_);dsimp only;by_cases a3:(pendingOf z).size>1
     .rcases he:(pendingOf z)[(pendingOf z).size-2]? with _|⟨x1,x2,a4⟩
      .rw[aJ a3];exact aT ⟨rfl,G,U,Y⟩
      .rw[aJ a3];refine n6 (λ_=>aT ⟨rfl,G,U,Y⟩) λ_=>?_;exact aO (ym0 c G U aA aA λa7 h4 r4 _ k4=>aT ⟨rfl,h4,r4,λk hk=>(k4 k hk).trans (Y k hk)⟩)
     .rw[aI a3];exact aT ⟨rfl,G,U,Y⟩
    .rintro⟨o,_⟩ z h;exact h
    .rintro⟨o,_⟩ z ⟨ho,G,U,Y⟩;simp only at ho;subst ho;refine aO (cV ?_);exact aO (cV (aT ⟨rfl,⟨G.perm,G.kind,G.failed⟩,a2 z _ G U Y,hM,by dsimp only;lia⟩))
  .have hS:=ch.sb;have hR:=r2;have hG:=sg;have hN:=m1;have hM:lo+m<=a₀.size:=aA;refine aO (dY ?_);have a1:∀z:SortSt,SB a₀ kd z->Runs g (arrOf z) (pendingOf z).toList 0 lo->(∀k,lo<=k->KK g (arrOf z) k=KK g (arrOf O) k)->Runs g (arrOf z) ((pendingOf z).push (lo,m,0)).toList 0 (lo+m):=λz G U Y=>by rw[cI];exact Runs.app.mpr ⟨lo,U,rfl,hN,hG.congr λk k1 _=>Y k k1,rfl⟩
   have a2:∀(z:SortSt)(pw:Nat),SB a₀ kd z->Runs g (arrOf z) (pendingOf z).toList 0 lo->(∀k,lo<=k->KK g (arrOf z) k=KK g (arrOf O) k)->Runs g (arrOf z) (((pendingOf z).modify ((pendingOf z).size-1) λx=>match x with | (a,b,_)=>(a,b,pw)).push (lo,m,0)).toList 0 (lo+m):=λz pw G U Y=>a1 (setPending z ((pendingOf z).modify ((pendingOf z).size-1) λx=>match x with | (a,b,_)=>(a,b,pw))) ⟨G.perm,G.kind,G.failed⟩ (zy6 U) Y;rcases hb:(pendingOf O).back? with _|⟨s1,n1,a9⟩
   .exact aO (cV (aT ⟨rfl,⟨hS.perm,hS.kind,hS.failed⟩,a1 O hS hR λ_ _=>rfl,hM,by dsimp only;lia⟩))
   .refine aO (wpS_mono (Q:=λt st'=>t.1=none/\SB a₀ kd st'/\Runs g (arrOf st') (pendingOf st').toList 0 lo/\∀k,lo<=k->KK g (arrOf st') k=KK g (arrOf O) k) (j6 0 _ _ _ (λ_ t st'=>t.1=none/\SB a₀ kd st'/\Runs g (arrOf st') (pendingOf st').toList 0 lo/\∀k,lo<=k->KK g (arrOf st') k=KK g (arrOf O) k) _ ⟨rfl,hS,hR,λ_ _=>rfl⟩ ?_ ?_) ?_)
    .rintro _ r ⟨o,_⟩ z _ _ _ ⟨ho,G,U,Y⟩;simp only at ho;subst ho;refine aO (dY ?_);dsimp only;by_cases a3:(pendingOf z).size>1
     .rcases he:(pendingOf z)[(pendingOf z).size-2]? with _|⟨x1,x2,a4⟩
      .rw[aJ a3];exact aT ⟨rfl,G,U,Y⟩
      .rw[aJ a3];refine n6 (λ_=>aT ⟨rfl,G,U,Y⟩) λ_=>?_;exact aO (ym0 c G U aA aA λa7 h4 r4 _ k4=>aT ⟨rfl,h4,r4,λk hk=>(k4 k hk).trans (Y k hk)⟩)
     .rw[aI a3];exact aT ⟨rfl,G,U,Y⟩
    .rintro⟨o,_⟩ z h;exact h
    .rintro⟨o,_⟩ z ⟨ho,G,U,Y⟩;simp only at ho;subst ho;refine aO (cV ?_);exact aO (cV (aT ⟨rfl,⟨G.perm,G.kind,G.failed⟩,a2 z _ G U Y,hM,by dsimp only;lia⟩))
 .rintro⟨o,lo⟩ st1 ⟨ho,h1,r1,l1,l2⟩;simp only at r1 l1 l2;rw[show lo=a₀.size by lia]at r1;exact⟨ho,h1,r1⟩
 .rintro⟨o,lo⟩ st1 ⟨ho,h1,r1⟩;simp only at ho;subst ho;refine aO (wpS_mono (Q:=λt st'=>t.1=none/\SB a₀ kd st'/\Seg g (arrOf st') 0 a₀.size) (j6 0 _ _ _ (λr t st'=>t.1=none/\SB a₀ kd st'/\Runs g (arrOf st') (pendingOf st').toList 0 a₀.size/\(pendingOf st').size<=r+1) _ ⟨rfl,h1,r1,by have:=r1.len;simp at this;lia⟩ ?_ ?_) ?_)
  .rintro _ r ⟨o,_⟩ O _ _ _ ⟨ho,h2,r2,l2⟩;simp only at ho;subst ho;refine aO (dY ?_);refine n6 (λe=>aT ⟨rfl,h2,yw4 r2 (by simpa using e)⟩) λe=>?_;have e:¬ (pendingOf O).size<=1:=e;refine aO (ym0 c h2 r2 ?_ (aN _) λZ G U l3 _=>aT ⟨rfl,G,U,aA⟩);have a6:∀(p:Prop)[Decidable p](n:Nat),2<=n->(if p then n-2-1 else n-2)+1<n:=λp _ n h=>by split <;> lia
   exact a6 _ _ aA
  .rintro⟨o,_⟩ O ⟨ho,h2,r2,l2⟩;exact⟨ho,h2,yw4 r2 (by simpa using l2)⟩
  .rintro⟨o,_⟩ O ⟨ho,h2,sg⟩;simp only at ho;subst ho;exact aT (q O h2.perm h2.failed λi j h1 h2=>sg i j (aY _) h1 h2)
end
end TS
namespace TS
section
variable {prog:Program}{w:World}{A:Around}{E:Value->Shared->Prop}{s:Shared}{κ:PyProof.Rows.KeyKind}{kd:SortKind}
theorem zr3{n:Nat}{Q:Nat->Shared->Prop}(h:s.heap.get? a=some o)(hd:o.data= .seq xs n)(q:Q n s):wpAny M A (seqEpoch a) Q E s:=by
 wp_walk
 rw[hd];exact aH q
noncomputable def sHp(h:Heap)(a:Addr)(vs:List Value):Heap:=((h.update a (Obj.mapSeq λ_=>#[])).push (seqObj "tuple" vs.toArray 0)).push (seqObj "list" #[] 0)
theorem list_sort_G{n:Nat}{P:PySem.Fin->Shared->Prop}(Y:s.heap.get? a=some (seqObj "list" vs.toArray n))(hl:vs.length<=sizeLine)
  (hk:2<=vs.length->∀Q:SortKind->Shared->Prop,Q kd { s with heap:=sHp s.heap a vs }->wpAny (model prog w) A (keyKind' vs.toArray) Q E { s with heap:=sHp s.heap a vs })
  (hc:CL (model prog w) A E { s with heap:=sHp s.heap a vs } (pairsOf vs) κ kd)
  (fin:∀xs:Array Keyed,xs.Perm (pairsOf vs)->SortedToK κ xs (pairsOf vs).size->P (.done (.ret .none)) { s with heap:=sortedHeap s.heap a vs (xs.map (·.2)) }):wpAny (model prog w) A (Builtin.«list.sort» ⟨[.ref a],[]⟩) P E s:=by
 rw[list_sort_plain];have U:vs.toArray.size<=sizeLine:=by simpa using hl
 refine aF (wpAny_listItems Y rfl ?_);refine aF (m:=Builtin.List.listUpdate (.ref a) λ_=>#[]) (dm Y rfl ?_ U (aY _));have N:(s.heap.update a (Obj.mapSeq λ_=>#[])).get? a=some (Obj.mapSeq (λ_=>#[]) (seqObj "list" vs.toArray n)):=bK _ Y rfl;refine aF (m:=seqEpoch a) (zr3 N rfl ?_);refine aF (wpAny_newTuple ?_ (by simpa using hl));refine aF (wpAny_newList ?_ (aY _));refine cS ?_;have z:(sHp s.heap a vs).get? a=some (Obj.mapSeq (λ_=>#[]) (seqObj "list" vs.toArray n)):=aG _ (aG _ N);by_cases h2:vs.toArray.size<2
 .rw[aJ h2];refine aF (aH ?_);rw[aJ h2];have G:=fin (vs.toArray.zip vs.toArray) (.refl _) (λi j h1 h3=>by
   have:(pairsOf vs).size<2:=by rw[pairsOf_size];simpa using h2
   rw[show i=j by lia];exact cY _)
  have O:((vs.toArray.zip vs.toArray).map (·.2)).size<=sizeLine+1:=by simp;lia
  refine aF (m:=StateT.run (pure ()) _) (aH ?_);refine aF (m:=seqEpoch a) (zr3 z rfl ?_);refine aF (m:=Builtin.List.listUpdate (.ref a) _) (dm z rfl ?_ (aY _) O);show wpAny (model prog w) A (if (_ != _)=true then _ else ret Value.none) P E _;rw[aI aD];exact aH G
 .rw[aI h2];have Z:2<=vs.length:=by simpa using h2
  refine aF ?_;refine hk Z _ ?_;rw[aI h2];have hs:SB (pairsOf vs) kd (SortSt.mk' kd (vs.toArray.zip vs.toArray) #[] 7 none):=⟨.refl _,rfl,rfl⟩;refine aF (dA (xj5 hc hs rfl (Q:=λ_ st'=>(arrOf st').Perm (pairsOf vs)/\failedOf st'=none/\SortedToK κ (arrOf st') (pairsOf vs).size) λst' a b c=>⟨a,b,c⟩) ?_ λ_ _ h=>h);rintro⟨_,st'⟩ s' ⟨rfl,p1,p2,p3⟩;have G:=fin (arrOf st') p1 p3;have O:((arrOf st').map (·.2)).size<=sizeLine+1:=by have:=p1.size_eq;rw[pairsOf_size]at this;rw[Array.size_map,this];lia
  refine aF (m:=seqEpoch a) (zr3 z rfl ?_);refine aF (m:=Builtin.List.listUpdate (.ref a) _) (dm z rfl ?_ (aY _) O);rw[p2];show wpAny (model prog w) A (if (_ != _)=true then _ else ret Value.none) P E _;rw[aI aD];exact aH G
noncomputable def intKind:PyProof.Rows.KeyKind where
 α:=Int
 blt:=λa b=>decide (a<b)
 irrefl:=λa=>by simp
 trans:=λa b c h1 h2=>by simp at h1 h2 ⊢;lia
 negTrans:=λa b c h=>by simp at h ⊢;lia
 total:=λa b h1 h2=>by simp at h1 h2;lia
 keyOf:=λv=>match v with | .int n _=>some n|_=>none
 dflt:=0
theorem yu4:∀{vs:List Value}{ns:List Int},IntsAre vs ns->∀v,v∈vs->∃n t,v= .int n t
 |_,_,.nil,v,h=>by cases h
 |_,_,.cons n t r,v,h=>by
  rcases ba.mp h with e|h
  .exact⟨n,t,e⟩
  .exact yu4 r v h
theorem wx5{s:Shared}(h:IntsAre vs ns):CL (model prog w) A E s (pairsOf vs) intKind oneType':=by
 have hm:∀x:Keyed,x∈(pairsOf vs).toList->∃n t,x.1= .int n t:=λx j=>by rw[pairsOf_toList]at j;exact yu4 h _ (List.of_mem_zip j).1
 intro x y j N st Q O q;obtain⟨n,t,e1⟩:=hm x j;obtain⟨m,u,e2⟩:=hm y N;rw[lt'_eq];refine aO (dY ?_);rw[O,keyLt'_oneType,e1,e2];refine aO (wpS_lift (cT (oneLt_int ⟨rfl,aT ?_⟩)));have G:ky intKind x=n:=by unfold ky;rw[e1];rfl
 have z:ky intKind y=m:=by unfold ky;rw[e2];rfl
 rw[G,z]at q;exact q
theorem xk9{i:Nat}:KK intKind xs i=K xs i:=by
 unfold KK K;rcases xs[i]? with _|⟨v,q⟩
 .rfl
 .cases v <;> rfl
theorem list_sort_any{n:Nat}{P:PySem.Fin->Shared->Prop}(O:s.heap.get? a=some (seqObj "list" vs.toArray n))(N:vs.length<=sizeLine)(G:IntsAre vs ns)
  (fin:∀(out:Array Value)(z:List Int),IntsAre out.toList z->z.Perm ns->z.Pairwise (·<=·)->P (.done (.ret .none)) { s with heap:=sortedHeap s.heap a vs out }):wpAny (model prog w) A (Builtin.«list.sort» ⟨[.ref a],[]⟩) P E s:=by
 refine list_sort_G (κ:=intKind) (kd:=oneType') O N (λh2 Q q=>?_) (wx5 G) λxs p1 p2=>?_
 .match vs,G,h2 with
  |v₁::v₂::rest,G,_=>rw[keyKind_ints G];exact aH q
 .have st:SortedTo xs (pairsOf vs).size:=λi j h1 h2=>by have:=p2 i j h1 h2;rw[xk9,xk9]at this;simpa[KeyOrd.kle,intKind]using this
  obtain⟨z,Z,Y,U⟩:=sorted_out G p1 st;exact fin _ z Z Y U
end
end TS
section
variable {prog:Program}{w:World}{A:Around}{E:Value->Shared->Prop}{s:Shared}
end
section
variable {prog:Program}{w:World}{A:Around}{E:Value->Shared->Prop}{s:Shared}{a:Addr}
variable {S:Int->Bool}{n ep:Nat}{led:Bool}{o:Obj}{fs:Array (Int×Value)}{u:SetTable}
theorem yq0(hh:A.handled=none)(G:SG prog w s.heap a S n led o fs ep u)(N:led=zv6 w)(D:List Int)(hS:∀k,S k=D.any (·==k))(hn:n=D.length)(hd:D.Nodup)(a7:n<4096){Q:Value->Shared->Prop}
  (fin:∀(q:Addr) h' d out e,IntsAre out.toList (zv8 D)->h'.get? q=some (seqObj "list" out e)->s.heap.objs.size<=q->(∀b o,b<s.heap.objs.size->s.heap.get? b=some o->h'.get? b=some o)->Q (.ref q) { s with heap:=h',drawn:=d }):
  wpAny (model prog w) A (call (.builtin "sorted") [.ref a]) Q E s:=by
 obtain⟨ks,O,a6⟩:=yd6 G.el;have a5:ks.length=D.length:=by rw[<-hn,<-G.many,<-IntsAre.length O];simp
 have a4:D.Perm ks:=zz9 hd (λx hx=>(a6 x).mpr ((G.mem x).mp (by rw[hS];exact List.any_eq_true.mpr ⟨x,hx,by simp⟩))) a5.symm;refine Calls.call_function_entry kind_sorted plain_sorted entry_sorted (args_sorted1 _) ?_;unfold Builtin.«sorted»;refine aF (m:=checkCount "sorted" 1 1 _) (aH ?_);refine aF (yo3 (by simpa using hh) G N λws h' d hp keep j=>?_);obtain⟨ms,Z,Y⟩:=yd5 hp O;have a8:ws.length<4096:=by rw[hp.length_eq,aW,bX,G.many];exact a7
 refine aF (wpAny_newList ?_ (by rw[sizeLine_eq];lia));have z:(h'.push (seqObj "list" ws.toArray 0)).get? h'.objs.size=some (seqObj "list" ws.toArray 0):=aX _ rfl;show wpAny _ _ _ _ _ { s with heap:=h'.push (seqObj "list" ws.toArray 0),drawn:=d };refine aF (cS (bM slot_list_sort ⟨_,z,rfl⟩ entry_list_sort (TS.list_sort_any z (by rw[sizeLine_eq];lia) Z λout U a1 a2 a3=>⟨_,rfl,?_⟩) (args_list_sort _)));have e:U=zv8 D:=O9 ((a2.trans (Y.trans a4.symm)).trans (P4 D).symm) a3 (Q3 D);subst e;obtain⟨c,hc⟩:=sortedHeap_at (out:=out) z;refine aH ⟨_,rfl,fin _ _ d out c a1 hc (dk j) λb o hb e=>?_⟩;rw[sortedHeap_old (bv (da hb j)) (by rw[size_push'];exact bN (da hb j))];exact aG _ (keep b o hb e)
end
section
variable {X:Cx}{e:Expr}{pos:Pos}
end
def wh0(P:Program)(w:World)(K:W.Frag):List V->Hp->VK->Prop:=λvs H Q=>∃(p:Addr)(ns:List Int),vs=[.ref p]/\SqL K H p (ns.map V.int)/\ns.length<4000/\∀a,H a=none->Q (.ref a) (upd H a (SetH P w a ns))
def xg9(P:Program)(w:World):List V->Hp->VK->Prop:=λvs H Q=>∃(a:Addr)(ns:List Int),vs=[.ref a]/\H a=some (SetH P w a ns)/\ns.length<4000/\∀q,H q=none->Q (.ref q) (upd H q (.lst ((zv8 (ddI ns)).map V.int)))
section
variable {X:Cx}{e:Expr}{pos:Pos}
theorem yo6(hc:X.calm=true):J8 X (.type "set") (wh0 X.prog X.w X.K):=by
 intro pins s a H xs us Q I r h;obtain⟨p,ns,rfl,N,Y,q⟩:=h;obtain⟨v,rfl,O⟩:=A9 r;cases O;obtain⟨its,z,pl,hz⟩:=I.list N;have U:its.length=ns.length:=by rw[<-z.length,aW]
 have j:its.toArray.size=ns.length:=by simp[U]
 refine xp1 (items:=its.toArray) (ns:=ns) (I.ok.hd hc) pl.isList (by simpa using zx0 z) (by rw[j];unfold scanBound;lia) λh' tk g keep=>?_;rw[j]at g;refine⟨.ref s.heap.objs.size,_,I.laid (t':=tk) (o:=SetH X.prog X.w s.heap.objs.size ns) (λb u e=>keep b u (aS e) e) (aN _) ⟨g,?_,λh1 h2 Z k=>SetG.stay Z k⟩,rfl,q _ (I.hok.fresh (aN _))⟩;obtain⟨o,_,_,_,G⟩:=g;exact⟨o,G.at_⟩
theorem yy2(hc:X.calm=true):J8 X (.builtin "sorted") (xg9 X.prog X.w):=by intro pins s c H xs us Q I r h;obtain⟨a,ns,rfl,ha,O,q⟩:=h;obtain⟨v,rfl,z⟩:=A9 r;cases z;have ok:=I.hok a _ ha;obtain⟨g,_,_⟩:=ok;obtain⟨o,fs,ep,u,G⟩:=g;have N:(ddI ns).length<=ns.length:=firstMet_length_le _ _;refine yq0 (I.ok.hd hc) G rfl (ddI ns) (λk=>rfl) rfl (W6 _ _) aA λw h' d out e hi hw j keep=>?_;have U:Inv X pins c H { s with drawn:=d }:=⟨I.ok,I.os,I.bare,I.base,I.loc,I.cell,I.free,I.freeC,I.pin,I.hok,I.len⟩;refine⟨.ref w,_,U.laid (t':=s.toks) (o:=.lst ((zv8 (ddI ns)).map V.int)) (λb u e=>keep b u (aS e) e) j ⟨?_,out.toList,e,zu8 hi,by simpa using hw⟩,rfl,q _ (I.hok.fresh j)⟩;rw[aW,zg8,sizeLine_eq];lia
@[irreducible] def Q0(m:ML):ML:=λa=>match m a with |some ds=>(match Q4 ds with |some ns=>if ns.length<4000 then some ((zv8 (ddI ns)).map .int)else none|none=>none)|none=>none
theorem zc7(hc:X.calm=true)(hg:Gl X "sorted")(hm:X.mg "sorted"=none)(a3:Gl X "set")(a2:X.mg "set"=none)(ha:PB X e m)(hv:bootBuiltins "sorted"=some (.builtin "sorted"))(U:bootBuiltins "set"=some (.type "set"))
  (hs:starEach (e::[]) X.env=(false,eval e X.env)::starEach [] X.env:=by rfl) (he:starEach [e] X.env=(false,eval e X.env)::starEach [] X.env:=by rfl)
  (Y:starEach ((.Call (.Name "set" p2) [e] [] j)::[]) X.env=(false,eval (.Call (.Name "set" p2) [e] [] j) X.env)::starEach [] X.env:=by rfl) (a4:starEach [(.Call (.Name "set" p2) [e] [] j)] X.env=(false,eval (.Call (.Name "set" p2) [e] [] j) X.env)::starEach [] X.env:=by rfl)
  (G:(backTo j (starEach [] X.env)).any (·.1)=false:=by rfl) (Z:(backTo pos (starEach [] X.env)).any (·.1)=false:=by rfl):PF X (.Call (.Name "sorted" p) [.Call (.Name "set" p2) [e] [] j] [] pos) (Q0 m):=
 (Y1 (yy2 hc) hg hm hv (Y6 (L3 (yo6 hc) a3 a2 U (Y6 ha pa_nil hs) aC aC he G) pa_nil Y) aC aC a4 Z).imp λc H Q N=>by
  obtain⟨F0,H0,F,b,g,rl,e,q⟩:=N;unfold Q0 at e;cases h1:m b with
  |none=>simp only[h1]at e;cases e
  |some ds=>
   simp only[h1]at e;cases h2:Q4 ds with
   |none=>simp only[h2]at e;cases e
   |some ns=>
    simp only[h2]at e;split at e
    .rename_i h64;cases e;refine⟨F0,H0,F,b,ds,rl,h1,λp xs F1 H1 O s1 r1=>⟨p,ns,rfl,?_,h64,λa a1=>⟨a,ns,rfl,x8,h64,λw hw=>?_⟩⟩⟩
     .rw[<-V6 r1 h2];exact s1
     .have x2:Ext F1 H1 F1 (upd H1 a (SetH X.prog X.w a ns)):=Ext.own O.fh a1;have z:H1 w=none:=x2.hh.free hw;exact q w _ F1 _ (O.trans (x2.trans (Ext.own x2.fh hw))) (O.hh.free z) (O.fh.free z) x8 (zz4 _)
    .cases e
end
noncomputable def lxI:List Int->List Int->Bool
 |[],[]=>false
 |[],_::_=>true
 |_::_,[]=>false
 |a::l,b::m=>decide (a<b) || (decide (a=b)&&lxI l m)
theorem za5:∀l,lxI l l=false
 |[]=>rfl
 |a::l=>by simp[lxI,za5 l]
theorem ye4:∀a b c,lxI a b=true->lxI b c=true->lxI a c=true
 |[],b,[],h1,h2=>by cases b <;> simp[lxI]at h1 h2
 |[],b,_::_,h1,h2=>rfl
 |x::a,[],c,h1,h2=>by simp[lxI]at h1
 |x::a,y::b,[],h1,h2=>by simp[lxI]at h2
 |x::a,y::b,z::c,h1,h2=>by
  simp only[lxI,Bool.or_eq_true,Bool.and_eq_true,decide_eq_true_eq]at h1 h2 ⊢;rcases h1 with h1|⟨e1,h1⟩
  .rcases h2 with h2|⟨e2,h2⟩ <;> (left;lia)
  .rcases h2 with h2|⟨e2,h2⟩
   .left;lia
   .exact .inr ⟨aA,ye4 a b c h1 h2⟩
theorem za4:∀a b c,lxI a c=true->lxI a b=true\/lxI b c=true
 |[],[],c,h=>.inr h
 |[],_::_,c,h=>.inl rfl
 |x::a,[],[],h=>by simp[lxI]at h
 |x::a,[],_::_,h=>.inr rfl
 |x::a,y::b,[],h=>by simp[lxI]at h
 |x::a,y::b,z::c,h=>by
  simp only[lxI,Bool.or_eq_true,Bool.and_eq_true,decide_eq_true_eq]at h ⊢;rcases h with h|⟨e,h⟩
  .rcases Int.lt_trichotomy x y with h1|h1|h1
   .exact .inl (.inl h1)
   .exact .inr (.inl aA)
   .exact .inr (.inl aA)
  .rcases Int.lt_trichotomy x y with h1|h1|h1
   .exact .inl (.inl h1)
   .rcases za4 a b c h with h2|h2
    .exact .inl (.inr ⟨h1,h2⟩)
    .exact .inr (.inr ⟨aA,h2⟩)
   .exact .inr (.inl aA)
theorem za3:∀a b,lxI a b=false->lxI b a=false->a=b
 |[],[],_,_=>rfl
 |[],_::_,h,_=>by cases h
 |_::_,[],_,h=>by cases h
 |x::a,y::b,h1,h2=>by simp only[lxI,Bool.or_eq_false_iff,Bool.and_eq_false_iff,decide_eq_false_iff_not]at h1 h2;have e:x=y:=aB;subst e;rw[za3 a b (h1.2.resolve_left aD) (h2.2.resolve_left aD)]
def insL(a:List Int):List (List Int)->List (List Int)
 |[]=>[a]
 |b::r=>if lxI b a=false then a::b::r else b::insL a r
def R1:List (List Int)->List (List Int)
 |[]=>[]
 |a::r=>insL a (R1 r)
def leL(a b:List Int):Prop:=lxI b a=false
theorem wq8(h1:leL a b)(h2:leL b c):leL a c:=by
 unfold leL at*;cases h:lxI c a with
 |false=>rfl
 |true=>
  rcases za4 c b a h with h'|h'
  .rw[h']at h2;cases h2
  .rw[h']at h1;cases h1
theorem zx3(a:List Int):∀r,(insL a r).Perm (a::r)
 |[]=>.refl _
 |b::r=>by
  unfold insL;split
  .exact .refl _
  .exact((zx3 a r).cons b).trans (.swap a b r)
theorem N5:∀ns,(R1 ns).Perm ns
 |[]=>.refl _
 |a::r=>(zx3 a _).trans ((N5 r).cons a)
theorem zx2(a:List Int):∀r,r.Pairwise leL->(insL a r).Pairwise leL
 |[],_=>dj ..
 |b::r,h=>by
  have h':=bJ.mp h;unfold insL;split
  .rename_i j;refine bJ.mpr ⟨λx z=>?_,h⟩;rcases ba.mp z with e|z
   .rw[e];exact j
   .exact wq8 j (h'.1 x z)
  .rename_i j;have j:lxI b a=true:=by simpa using j
   refine bJ.mpr ⟨λx z=>?_,zx2 a r h'.2⟩;rcases ba.mp ((zx3 a r).mem_iff.mp z)with e|z
   .rw[e];show lxI a b=false;cases hq:lxI a b with
    |false=>rfl
    |true=>have:=ye4 a b a hq j;rw[za5]at this;cases this
   .exact h'.1 x z
theorem T8:∀ns,(R1 ns).Pairwise leL
 |[]=>.nil
 |a::r=>zx2 a _ (T8 r)
theorem F8:∀{a b:List (List Int)},a.Perm b->a.Pairwise leL->b.Pairwise leL->a=b
 |[],b,p,_,_=>(List.Perm.nil_eq p)
 |x::a,[],p,_,_=>aZ p.length_eq aD
 |x::a,y::b,p,ha,hb=>by
  have h1:=bJ.mp ha;have h2:=bJ.mp hb;have e:x=y:=by
   have m1:x∈y::b:=p.mem_iff.mp bV;have m2:y∈x::a:=p.mem_iff.mpr bV;rcases ba.mp m1 with e|m1
   .exact e
   .rcases ba.mp m2 with e|m2
    .exact e.symm
    .exact za3 x y (h2.1 x m1) (h1.1 y m2)
  subst e;rw[F8 ((perm_cons x).mp p) h1.2 h2.2]
noncomputable abbrev lsD(l:List Int):D:=.lst (l.map .int)
noncomputable def xr8:List Value->Option (List Int)
 |[]=>some []
 | .int n _::r=>(xr8 r).map (n::·)
 |_::_=>none
theorem yu5:∀{vs:List Value}{ns:List Int},IntsAre vs ns->xr8 vs=some ns
 |_,_,.nil=>rfl
 |_,_,.cons n t r=>by simp[xr8,yu5 r]
def zy9(h:Heap):Value->Option (List Int)
 | .ref a=>match h.get? a with
  |some o=>(match o.data with | .seq items _=>xr8 items.toList|_=>none)
  |none=>none
 |_=>none
def zy8(h:Heap):PyProof.Rows.KeyKind where
 α:=List Int
 blt:=lxI
 irrefl:=za5
 trans:=ye4
 negTrans:=za4
 total:=za3
 keyOf:=zy9 h
 dflt:=[]
theorem ye7(k:Nat):∀(l m:List Int),lexF (eqF (k+1)) (ltF (k+1)) (l.map .int) (m.map .int)=some (lxI l m)
 |[],[]=>rfl
 |[],_::_=>rfl
 |_::_,[]=>rfl
 |a::l,b::m=>by
  rw[bz,bz,lexF,show eqF (k+1) (D.int a) (D.int b)=some (a==b)from rfl];unfold lxI;by_cases h:a=b
  .subst h;simp only[beq_self_eq_true,Int.lt_irrefl,decide_false,decide_true,Bool.true_and,Bool.false_or];exact ye7 k l m
  .have e:(a==b)=false:=by simpa using h
   rw[e];simp only[h,decide_false,Bool.false_and,Bool.or_false];rfl
section
variable {X:Cx}{pins:List (Addr×Obj)}{f:St}{H:Hp}{s:Shared}
theorem N1(I:Inv X pins f H s)(r:Rep X.K H x (lsD ns))(q:RelV x v):∃a,v= .ref a/\∃its,PlainL s.heap a its/\zy9 s.heap v=some ns:=by
 obtain⟨a,xs,rfl,z,G⟩:=r.l';cases q;obtain⟨its,j,pl,_⟩:=I.list z;have hi:IntsAre its ns:=by have e:=V6 G (V7 ns);subst e;exact zx0 j
 refine⟨a,rfl,its.toArray,pl,?_⟩;obtain⟨o,n,h1,_,_,N⟩:=pl;simp only[zy9,h1,N];exact yu5 hi
theorem yg7(I:Inv X pins f H s){E:Value->Shared->Prop}(hu:A.units+8<cLine)(r1:Rep X.K H x (lsD ns))(r2:Rep X.K H y (lsD j))(q1:RelV x v)(q2:RelV y u){Q:Bool->Shared->Prop}(q:Q (lxI ns j) s){prog:Program}:wpAny (model prog w) A (oneLt' true v u) Q E s:=by
 obtain⟨a1,a8,rfl,sq,rs⟩:=r1.l';obtain⟨a2,a7,rfl,U,Z⟩:=r2.l';cases q1;cases q2;obtain⟨its,vr,⟨⟨cls,dd,data,sl⟩,m,ho,hc,a9,hd⟩,_⟩:=I.list sq;obtain⟨z,O,⟨⟨a6,a4,data2,Y⟩,m2,a3,N,a5,G⟩,_⟩:=I.list U;simp only at hc hd N G;subst hc hd N G;have L:=ye6 I 1 (A:=A.in1) (by show A.units+1+1<cLine;lia) (λa b c d e=>xc8 I 1 (by show A.units+1+1<cLine;lia) a b c d e) rs Z vr O (ye7 0 ns j);rw[oneLt'_eq];refine aF (wpAny_cRoomFor aA ?_);refine aF (wpAny_callSpecialIfBound?_slot ⟨_,ho,rfl⟩ PySem.F.slot_list_lt (call_meets PySem.F.slot_list_lt ⟨_,ho,rfl⟩ PySem.F.entry_list_lt (PySem.F.args_list_lt_2 _ _) (xm8 _ _ its.toArray z.toArray m m2 dd a4 sl Y (lxI ns j)) ⟨ho,a3,by simpa using L,?_⟩));show wpAny _ _ (truthOfDropped (.bool (lxI ns j))) _ _ _
 wp_walk
 exact q
theorem W8:∀{xs:List V}{vs:List Value}{j:List (List Int)},Vals xs vs->Reps X.K H xs (j.map lsD)->∀v,v∈vs->∃x ns,x∈xs/\RelV x v/\Rep X.K H x (lsD ns)
 |_,_,_,.nil,_,v,h=>by cases h
 |x::xs,_,[],.cons q p,r,v,h=>by cases r
 |x::xs,_,l::j,.cons q p,r,v,h=>by
  cases r with
  |cons z r2=>
   rcases ba.mp h with e|h
   .subst e;exact⟨x,l,bV,q,z⟩
   .obtain⟨y,ns,h1,h2,h3⟩:=W8 p r2 v h;exact⟨y,ns,bt _ h1,h2,h3⟩
theorem wx4(I:Inv X pins f H s){A:Around}{E:Value->Shared->Prop}{prog:Program}{w:World}(hu:A.units+8<cLine){xs:List V}{vs:List Value}{j:List (List Int)}(z:Vals xs vs)(G:Reps X.K H xs (j.map lsD)):TS.CL (model prog w) A E s (pairsOf vs) (zy8 s.heap) oneType':=by
 intro x y Z Y st Q hk q;rw[pairsOf_toList]at Z Y;obtain⟨x1,ns,_,U,N⟩:=W8 z G x.1 (of_mem_zip Z).1;obtain⟨y1,ms,_,O,r2⟩:=W8 z G y.1 (of_mem_zip Y).1;obtain⟨a,_,_,_,k1⟩:=N1 I N U;obtain⟨b,_,_,_,k2⟩:=N1 I r2 O;rw[lt'_eq];refine aO (dY ?_);rw[hk,keyLt'_oneType];refine aO (wpS_lift (cT (yg7 I hu N r2 U O ⟨rfl,aT ?_⟩)));have e1:TS.ky (zy8 s.heap) x=ns:=by unfold TS.ky;show (zy9 s.heap x.1).getD []=_;rw[k1];rfl
 have e2:TS.ky (zy8 s.heap) y=ms:=by unfold TS.ky;show (zy9 s.heap y.1).getD []=_;rw[k2];rfl
 rw[e1,e2]at q;exact q
def E5(h:Heap)(vs:List Value):List (List Int):=vs.map λv=>(zy9 h v).getD []
theorem yd1(I:Inv X pins f H s)(p:Vals xs vs)(r:Reps X.K H xs (j.map lsD)):E5 s.heap vs=j:=by
 induction p generalizing j with
 |nil=>
  cases j with
  |nil=>rfl
  |cons l j=>rw[bz]at r;cases r
 |cons q p G=>
  cases j with
  |nil=>rw[map_nil]at r;cases r
  |cons l j=>
   rw[bz]at r;cases r with
   |cons z r2=>obtain⟨_,_,_,_,k⟩:=N1 I z q;have:=G r2;unfold E5 at this ⊢;rw[bz,this,k];rfl
theorem yw9{K:W.Frag}{F:Hp}{h:Heap}:∀{out:List Value},(∀v,v∈out->∃x ns,RelV x v/\Rep K F x (lsD ns)/\zy9 h v=some ns)->∃xs,Vals xs out/\Reps K F xs ((E5 h out).map lsD)
 |[],_=>⟨[],.nil,.nil⟩
 |v::out,hv=>by obtain⟨xs,h1,h2⟩:=yw9 (out:=out) λu j=>hv u (bt _ j);obtain⟨x,ns,q,r,k⟩:=hv v bV;refine⟨x::xs,.cons q h1,?_⟩;unfold E5 at h2 ⊢;rw[bz,bz,k];exact .cons r h2
def xw6(K:W.Frag):List V->Hp->VK->Prop:=λvs H Q=>∃(p:Addr)(xs:List V)(lss:List (List Int))(F:Hp),vs=[.ref p]/\SqL K H p xs/\Same F H/\Reps K F xs (lss.map lsD)/\∀q ys,H q=none->Reps K F ys ((R1 lss).map lsD)->Q (.ref q) (upd H q (.lst ys))
theorem ze2(hu:X.A.units+64<cLine):J8 X (.builtin "sorted") (xw6 X.K):=by
 intro pins s f H xs us Q I r h;obtain⟨p,xs,N,F,rfl,sq,sm,rs,q⟩:=h;obtain⟨u,rfl,rx⟩:=A9 r;cases rx;obtain⟨its,vr,pl,hz⟩:=I.list sq;have hl:its.length<=sizeLine:=by rw[<-vr.length];exact hz
 have G:=rs.mono sm;have a1:((s.heap.push (seqObj "list" #[] 0)).update s.heap.objs.size (Obj.mapSeq λx=>x++its.toArray)).objs.size=s.heap.objs.size+1:=by simp[Heap.update,Heap.push]
 have a3:(((s.heap.push (seqObj "list" #[] 0)).update s.heap.objs.size (Obj.mapSeq λx=>x++its.toArray)).push (seqObj "list" its.toArray 0)).get? (s.heap.objs.size+1)=some (seqObj "list" its.toArray 0):=by
  have:=aX (((s.heap.push (seqObj "list" #[] 0)).update s.heap.objs.size (Obj.mapSeq λx=>x++its.toArray))) (o:=seqObj "list" its.toArray 0) rfl
  rwa [a1]at this
 have Z:∀b o,s.heap.get? b=some o->(((s.heap.push (seqObj "list" #[] 0)).update s.heap.objs.size (Obj.mapSeq λx=>x++its.toArray)).push (seqObj "list" its.toArray 0)).get? b=some o:=λb o e=>by have hb:=aS e;refine aG _ ?_;rw[ck _ _ (cM hb)];exact aG _ e
 have Y:∀b o,s.heap.get? b=some o->(TS.sHp (((s.heap.push (seqObj "list" #[] 0)).update s.heap.objs.size (Obj.mapSeq λx=>x++its.toArray)).push (seqObj "list" its.toArray 0)) (s.heap.objs.size+1) its).get? b=some o:=λb o e=>by have hb:=aS e;unfold TS.sHp;refine aG _ (aG _ ?_);rw[ck _ _ (cM (bN hb))];exact Z b o e
 refine Calls.call_function_entry kind_sorted plain_sorted entry_sorted (args_sorted1 _) ?_;unfold Builtin.«sorted»;refine aF (m:=checkCount "sorted" 1 1 _) (aH ?_);refine aF (collect_list pl.isList ?_ hl);refine aF (wpAny_newList ?_ hl);simp only[a1];have I2:Inv X pins f H { s with heap:=TS.sHp (((s.heap.push (seqObj "list" #[] 0)).update s.heap.objs.size (Obj.mapSeq λx=>x++its.toArray)).push (seqObj "list" its.toArray 0)) (s.heap.objs.size+1) its }:=I.turnedL (fp:=[]) (t':=s.toks) (λb o _ e=>Y b o e) (λb hb=>by cases hb);refine aF (cS (bM slot_list_sort ⟨_,a3,rfl⟩ entry_list_sort (TS.list_sort_G (κ:=zy8 _) (kd:=oneType') a3 hl (λh2 Q q=>W.kas_kind (T:=.type "list") h2 (λv hv=>?_) aC aC q) (wx4 I2 ?_ vr G) λys p1 p2=>⟨_,rfl,?_⟩) (args_list_sort _)))
 .obtain⟨x,ns,_,U,O⟩:=W8 vr G v hv;obtain⟨a,rfl,its',⟨o,n,g1,g2,_,_⟩,_⟩:=N1 I2 O U;intro A' Q' E' s' hk q';exact wpAny_typeOf ⟨o,hk a o g1,g2⟩ q'
 .show X.A.units+1+1+8<cLine;lia
 .refine aH ⟨_,rfl,?_⟩;have hp:(ys.map (·.2)).toList.Perm its:=by rw[Array.toList_map];have:=(dF.mp p1).map (·.2);rw[pairsOf_toList]at this;refine this.trans ?_;rw[map_snd_zip aD]
  obtain⟨zs,z1,z2⟩:=yw9 (K:=X.K) (F:=F) (h:=s.heap) (out:=(ys.map (·.2)).toList) λv hv=>by have hv:=hp.mem_iff.mp hv;obtain⟨x,ns,_,U,O⟩:=W8 (H:=F) vr rs v hv;obtain⟨_,_,_,_,k1⟩:=N1 I (O.mono sm) U;exact⟨x,ns,U,O,k1⟩
  have hk:E5 s.heap (ys.map (·.2)).toList=ys.toList.map (TS.ky (zy8 (TS.sHp (((s.heap.push (seqObj "list" #[] 0)).update s.heap.objs.size (Obj.mapSeq λx=>x++its.toArray)).push (seqObj "list" its.toArray 0)) (s.heap.objs.size+1) its))):=by
   unfold E5;rw[Array.toList_map,bI];refine br λpr a5=>?_;have hm:=(dF.mp p1).mem_iff.mp a5;rw[pairsOf_toList]at hm;have he:pr.1=pr.2:=by obtain⟨i,hi,e⟩:=dD hm;rw[<-e];simp
   obtain⟨x,ns,_,U,O⟩:=W8 vr G pr.1 (of_mem_zip hm).1;obtain⟨_,_,_,_,k1⟩:=N1 I O U;obtain⟨_,_,_,_,k2⟩:=N1 I2 O U;show (zy9 s.heap pr.2).getD []=(zy9 _ pr.1).getD [];rw[<-he,k1];rw[k2]
  have a2:(E5 s.heap (ys.map (·.2)).toList).Pairwise leL:=by rw[hk];have a4:ys.size=(pairsOf its).size:=p1.size_eq;exact List.pairwise_map.mpr (TS.seg_pair (a:=ys) λi j _ h1 h2=>p2 i j h1 (a4 ▸ h2))
  have a6:(E5 s.heap (ys.map (·.2)).toList).Perm N:=by have:=hp.map λv=>(zy9 s.heap v).getD [];exact this.trans (by rw[show its.map (λv=>(zy9 s.heap v).getD [])=N from yd1 I vr G])
  have e:=F8 (a6.trans (N5 N).symm) a2 (T8 N);rw[e]at z2;obtain⟨c,hc⟩:=sortedAll_at s.heap its (ys.map (·.2));refine⟨.ref (s.heap.objs.size+1),_,I.laid (t':=s.toks) (o:=.lst zs) (λb o z=>sortedAll_old z) (Nat.le_succ _) ⟨?_,(ys.map (·.2)).toList,c,z1,by rw[Array.toArray_toList];exact hc⟩,rfl,q _ zs (I.hok.fresh (Nat.le_succ _)) z2⟩;rw[z1.length,hp.length_eq];exact hl
theorem zg9:∀{ds:List D}{ns:List Int},Q4 ds=some ns->ds=ns.map D.int
 |[],ns,h=>by cases h;rfl
 | .int i::r,ns,h=>by
  unfold Q4 at h;cases h1:Q4 r with
  |none=>rw[h1]at h;cases h
  |some j=>rw[h1]at h;cases h;rw[bz,<-zg9 h1]
 | .lst _::_,_,h=>by cases h
 | .non::_,_,h=>by cases h
 | .bl _::_,_,h=>by cases h
 | .str _::_,_,h=>by cases h
 | .tup _::_,_,h=>by cases h
 | .exc _::_,_,h=>by cases h
 | .ptr _::_,_,h=>by cases h
 | .obj _ _ _::_,_,h=>by cases h
def E3:List D->Option (List (List Int))
 |[]=>some []
 | .lst ds::r=>(match Q4 ds,E3 r with |some ns,some ls=>some (ns::ls)|_,_=>none)
 |_::_=>none
theorem zs0:∀j:List (List Int),E3 (j.map lsD)=some j
 |[]=>rfl
 |l::j=>by rw[bz,E3,V7,zs0 j]
theorem zs1:∀{ds:List D}{j:List (List Int)},E3 ds=some j->ds=j.map lsD
 |[],j,h=>by cases h;rfl
 | .lst es::r,j,h=>by
  unfold E3 at h;cases h1:Q4 es with
  |none=>rw[h1]at h;cases h
  |some ns=>
   cases h2:E3 r with
   |none=>rw[h1,h2]at h;cases h
   |some ls=>rw[h1,h2]at h;cases h;rw[bz,<-zs1 h2,zg9 h1]
 | .int _::_,_,h=>by cases h
 | .non::_,_,h=>by cases h
 | .bl _::_,_,h=>by cases h
 | .str _::_,_,h=>by cases h
 | .tup _::_,_,h=>by cases h
 | .exc _::_,_,h=>by cases h
 | .ptr _::_,_,h=>by cases h
 | .obj _ _ _::_,_,h=>by cases h
variable {e:Expr}{pos:Pos}
@[irreducible] def L8(m:ML):ML:=λa=>match m a with |some ds=>(match E3 ds with |some lss=>some ((R1 lss).map lsD)|none=>none)|none=>none
theorem yq6(Y:X.A.units+64<cLine)(Z:Gl X "sorted")(hm:X.mg "sorted"=none)(ha:PB X e m)(U:bootBuiltins "sorted"=some (.builtin "sorted"))(hs:starEach (e::[]) X.env=(false,eval e X.env)::starEach [] X.env:=by rfl)(he:starEach [e] X.env=(false,eval e X.env)::starEach [] X.env:=by rfl)(N:(backTo pos (starEach [] X.env)).any (·.1)=false:=by rfl):PF X (.Call (.Name "sorted" p) [e] [] pos) (L8 m):=
 (Y1 (ze2 Y) Z hm U (Y6 ha pa_nil hs) aC aC he N).imp λf H Q z=>by
  obtain⟨F0,H0,F,a,g,rl,e,q⟩:=z;unfold L8 at e;cases h1:m a with
  |none=>simp only[h1]at e;cases e
  |some ds=>
   simp only[h1]at e;cases h2:E3 ds with
   |none=>simp only[h2]at e;cases e
   |some G=>simp only[h2]at e;cases e;refine⟨F0,H0,F,a,ds,rl,h1,λp xs F1 H1 j s1 O=>⟨p,xs,G,F1,rfl,s1,j.fh,zs1 h2 ▸ O,λw ys hw hr=>?_⟩⟩;exact q w _ F1 _ (j.trans (Ext.own j.fh hw)) (j.hh.free hw) (j.fh.free hw) x8 hr
end
structure BlkC(X:Cx)(sc:Scope)(N:List Str)(src:List (Option Nat)):Prop where
 kind:sc.kind= .function
 cells:∀y∈sc.names,y.2= .cell->sc.names.lookup y.1=some .cell
 names:∀y∈sc.names,y.2= .local->sc.names.lookup y.1=some .local
 free:∀y∈sc.names,y.2= .free->X.env.kindOf y.1=some .cell\/X.env.kindOf y.1=some .free
 fv:∀(j i:Nat),src[j]? =some (some i)->∃x,N[j]? =some x/\X.N[i]? =some x/\sc.names.lookup x=some .free
 len:src.length=N.length
section
variable {X:Cx}{pins:List (Addr×Obj)}{a:St}{H:Hp}{s:Shared}
end
section
variable {X:Cx}
end
section
variable {X:Cx}{pos:Pos}
end
def delB(p:Addr):Bx->Bx
 |[]=>[]
 | (q,c)::a=>match p==q with |true=>a|false=>(q,c)::delB p a
noncomputable def flS:Fl->D
 | .v d=>d
 | .l ds=>.lst ds
section
variable {K:W.Frag}{F0 H0 F H B:Hp}{g:St}{f:Ro}{β:Bx}{fp:List Addr}
theorem BxR.take{p:Addr}{c:Cell}:∀{fp:List Addr}{β:Bx},BxR K F B fp β->β.lookup p=some c->∃fq fr,CellR K F B fq p c/\BxR K F B fr (delB p β)/\(fq++fr).Perm fp
 |_,_,.nil,e=>by cases e
 |_,_,.cons (fp:=f1) (fq:=f2) (p:=q) (c:=c') (β:=β) h t,e=>by
  rw[lookup_cons]at e;unfold delB;cases hq:p==q with
  |true=>
   rw[hq]at e;cases e;have:p=q:=by simpa using hq
   subst this;exact⟨f1,f2,h,t,List.Perm.refl _⟩
  |false=>rw[hq]at e;obtain⟨fq,fr,G,z,j⟩:=BxR.take t e;refine⟨fq,f1++fr,G,.cons h z,?_⟩;rw[<-dI];refine(List.Perm.append_right fr perm_append_comm).trans ?_;rw[dI];exact ey f1 j
theorem FlR.shared(h:FlR K F B fq xs fs)(s:Same F F')(k:∀a∈fq,F' a=B a):Reps K F' xs (fs.map flS):=by
 induction h with
 |nil=>exact .nil
 |v r _ j=>exact .cons (r.mono s) (j k)
 |l b r _ j=>exact .cons (.lst (SqL.of (by rw[k _ aD];exact b)) (r.mono s)) (j λa ha=>k a (bt _ ha))
theorem FlR.memL(h:FlR K F B fq xs fs):∀a∈fq,∃ys,B a=some (.lst ys):=by
 induction h with
 |nil=>intro a ha;cases ha
 |v _ _ j=>exact j
 |l b _ _ j=>
  intro a ha;rcases ba.mp ha with rfl|ha
  .exact⟨_,b⟩
  .exact j a ha
theorem xx6{g:St}{i:Nat}(h:g[i]? =some x):g.set i x=g:=by
 apply dH;intro j;by_cases z:i=j
 .subst z;rw[aR (bp.mp h).1,h]
 .rw[aU z]
theorem RlW.openB(r:RlW K F0 H0 F H g f β)(Y:β.lookup p=some (.row fs)):∃F',Same F F'/\RlW K F0 H0 F' H g f (delB p β)/\Rep K F' (.ref p) (.lst (fs.map flS)):=by
 obtain⟨B,fp,rl,ok⟩:=r;obtain⟨fq,fr,hc,G,perm⟩:=ok.bx.take Y;cases hc with
 |@row fq0 _ xs _ b0 fl=>
  have at':∀a∈p::fq0,∃ys,B a=some (.lst ys):=λa ha=>by
   rcases ba.mp ha with rfl|ha
   .exact⟨_,b0⟩
   .exact fl.memL a ha
  have nb:∀a∈p::fq0,B a≠none:=λa ha=>by obtain⟨ys,e⟩:=at' a ha;rw[e];simp
  have N:∀a∈p::fq0,F a=none:=λa ha=>by
   cases hF:F a with
   |none=>rfl
   |some o=>have h1:=rl.ext.new a (ok.out a (nb a ha)).2 (by rw[hF];simp);exact aZ (Z4 h1).1 (nb a ha)
  have nd:(p::fq0++fr).Nodup:=(perm.nodup_iff).mpr ok.nd;have Z:∀a∈fr,a∉p::fq0:=λa ha Y=>(cP.mp nd).2.2 a Y a ha rfl;refine⟨λa=>if a∈p::fq0 then B a else F a,λa o e=>?_,⟨λa=>if a∈p::fq0 then none else B a,fr,?_,?_⟩,?_⟩
  .have:a∉p::fq0:=λz=>by rw[N a z]at e;cases e
   show (if a∈p::fq0 then B a else F a)=some o;rw[aI this];exact e
  .have sF:Same F (λa=>if a∈p::fq0 then B a else F a):=λa o e=>by
    have:a∉p::fq0:=λz=>by rw[N a z]at e;cases e
    show (if a∈p::fq0 then B a else F a)=some o;rw[aI this];exact e
   have O:∀a,a∉p::fq0->jn H0 (λa=>if a∈p::fq0 then none else B a) a=jn H0 B a:=λa ha=>by unfold jn;simp only[if_neg ha]
   have ji:∀a,a∈p::fq0->jn H0 (λa=>if a∈p::fq0 then none else B a) a=none:=λa ha=>by unfold jn;simp only[if_pos ha];exact(ok.out a (nb a ha)).1
   have own:∀a,jn H0 B a=none->a∉p::fq0:=λa h z=>nb a z (Z4 h).1;have U:Rl K F0 (jn H0 (λa=>if a∈p::fq0 then none else B a)) (λa=>if a∈p::fq0 then B a else F a) H g f:=by
    refine⟨⟨rl.ext.ff.trans sF,λb u e=>?_,λb u e=>?_,λb e n=>?_,λb o u e=>?_⟩,rl.len,λj d e=>?_,λj ds e=>?_,rl.inj,λj q ds e=>?_,rl.obn,rl.ob1⟩
    .by_cases z:b∈p::fq0
     .rw[ji b z]at e;cases e
     .rw[O b z]at e;exact rl.ext.hh b u e
    .by_cases z:b∈p::fq0
     .have e:B b=some u:=by have e:(if b∈p::fq0 then B b else F b)=some u:=e;rw[aJ z]at e;exact e
      exact rl.ext.hh b u (Z9 e)
     .have e:F b=some u:=by have e:(if b∈p::fq0 then B b else F b)=some u:=e;rw[aI z]at e;exact e
      exact rl.fh b u e
    .by_cases z:b∈p::fq0
     .exact ji b z
     .rw[O b z];have n:(if b∈p::fq0 then B b else F b)≠none:=n;rw[aI z]at n;exact rl.ext.new b e n
    .by_cases z:b∈p::fq0
     .have e:(if b∈p::fq0 then B b else F b)=some (.frz o u):=e;rw[aJ z]at e;exact aZ e (ok.plain b o u)
     .have e:(if b∈p::fq0 then B b else F b)=some (.frz o u):=e;rw[aI z]at e;exact rl.ext.nf b o u e
    .obtain⟨v,a1,a2⟩:=rl.sh j d e;exact⟨v,a1,a2.mono sF⟩
    .obtain⟨q,ys,a1,a2,a3,a4,a5⟩:=rl.own j ds e;have z:=own q a5;exact⟨q,ys,a1,by show (if q∈p::fq0 then B q else F q)=none;rw[aI z];exact a2,a3,a4.mono sF,by rw[O q z];exact a5⟩
    .obtain⟨a1,a2,a3,ys,a4,a5⟩:=rl.ob j q ds e;have z:=own q a3;exact⟨a1,by show (if q∈p::fq0 then B q else F q)=none;rw[aI z];exact a2,by rw[O q z];exact a3,ys,a4,a5.mono sF⟩
   exact U
  .have sF:Same F (λa=>if a∈p::fq0 then B a else F a):=λa o e=>by
    have:a∉p::fq0:=λz=>by rw[N a z]at e;cases e
    show (if a∈p::fq0 then B a else F a)=some o;rw[aI this];exact e
   refine⟨λa h=>?_,G.mono sF λa ha=>?_,(cP.mp nd).2.1,λa o u e=>?_⟩
   .have h:(if a∈p::fq0 then none else B a)≠none:=h;by_cases z:a∈p::fq0
    .rw[aJ z]at h;exact aZ rfl h
    .rw[aI z]at h;exact ok.out a h
   .show (if a∈p::fq0 then none else B a)=B a;rw[aI (Z a ha)]
   .have e:(if a∈p::fq0 then none else B a)=some (.frz o u):=e;by_cases z:a∈p::fq0
    .rw[aJ z]at e;cases e
    .rw[aI z]at e;exact ok.plain a o u e
  .have sF:Same F (λa=>if a∈p::fq0 then B a else F a):=λa o e=>by
    have:a∉p::fq0:=λz=>by rw[N a z]at e;cases e
    show (if a∈p::fq0 then B a else F a)=some o;rw[aI this];exact e
   exact .lst (SqL.of (by show (if p∈p::fq0 then B p else F p)=_;rw[aJ aD];exact b0)) (fl.shared sF λa ha=>by show (if a∈p::fq0 then B a else F a)=_;rw[aJ (bt _ ha)])
theorem RlW.freezeR{i:Nat}(r:RlW K F0 H0 F H g f β)(hi:f[i]? =some (some (.sh (.ptr p))))(N:β.lookup p=some (.row fs)):∃F',Same F F'/\RlW K F0 H0 F' H g (f.set i (some (.sh (.lst (fs.map flS))))) (delB p β):=by obtain⟨F',j,⟨B,fp,rl,ok⟩,rp⟩:=r.openB N;obtain⟨v,G,z⟩:=rl.sh i _ hi;cases z;have:=rl.set (i:=i) rp;rw[xx6 G]at this;exact⟨F',j,B,fp,this,ok⟩
end
def C7(i:Nat)(m:MW):MW:=λa b=>match a[i]? with
 |some (some (.sh (.ptr p)))=>(match b.lookup p with |some (.row fs)=>m (a.set i (some (.sh (.lst (fs.map flS))))) (delB p b)|_=>none)
 |_=>none
theorem zi1{X:Cx}{sts:List Stmt}(i:Nat)(h:PSsw X sts m):PSsw X sts (C7 i m):=PSs.imp h λD b H j=>by
 obtain⟨F0,H0,F,a,c,o,β',r,e,ok⟩:=j;unfold C7 at e;split at e
 .rename_i p h1;split at e
  .rename_i fs h2;obtain⟨F',s,z⟩:=r.freezeR h1 h2;exact⟨F0,H0,F',_,_,o,β',z,e,ok.mono s⟩
  .cases e
 .cases e
section
variable {K:W.Frag}{F0 J F H:Hp}{c:St}{a:Ro}
theorem Rl.share(rl:Rl K F0 J F H c a)(G:H q=some (.lst ys))(N:F q=none)(hJ:J q=none)(hn:∀(i:Nat) ds,a[i]? =some (some (.own ds))->c[i]? ≠some (some (.ref q)))(j:∀(i:Nat) p ds,a[i]? =some (some (.ob p ds))->p≠q):Rl K F0 J (upd F q (.lst ys)) H c a:=by
 have s:Same F (upd F q (.lst ys)):=(Same.refl F).put N;refine⟨⟨rl.ext.ff.trans s,rl.ext.hh,λb u e=>?_,λb e n=>?_,λb o u e=>?_⟩,rl.len,λi d e=>?_,λi ds e=>?_,rl.inj,λi p ds e=>?_,rl.obn,rl.ob1⟩
 .by_cases z:b=q
  .subst z;rw[x8]at e;cases e;exact G
  .rw[x9 z]at e;exact rl.fh b u e
 .by_cases z:b=q
  .subst z;exact hJ
  .rw[x9 z]at n;exact rl.ext.new b e n
 .by_cases z:b=q
  .subst z;rw[x8]at e;cases e
  .rw[x9 z]at e;exact rl.ext.nf b o u e
 .obtain⟨v,a1,a2⟩:=rl.sh i d e;exact⟨v,a1,a2.mono s⟩
 .obtain⟨p,xs,a1,a2,a3,a4,a5⟩:=rl.own i ds e;have z:p≠q:=λw=>hn i ds e (by rw[<-w];exact a1);exact⟨p,xs,a1,by rw[x9 z];exact a2,a3,a4.mono s,a5⟩
 .obtain⟨a1,a2,a3,xs,a4,a5⟩:=rl.ob i p ds e;exact⟨a1,by rw[x9 (j i p ds e)];exact a2,a3,xs,a4,a5.mono s⟩
end
noncomputable def lsW(m:Ro->Bx->Option (List D)):Ro->Bx->Option D:=λa b=>(m a b).map D.lst
section
variable {X:Cx}{a b c e e1 e2:Expr}{pos p1 p2:Pos}{st:Stmt}
theorem yh6(h:PF X e m):PDw X e (lsW (yp4 m)):=PE.imp h λc H Q ⟨F0,H0,F,a,f,d,⟨B,fp,rl,ok⟩,e,q⟩=>by
 unfold lsW yp4 at e;cases h1:m (thaw a f)with
 |none=>rw[h1]at e;cases e
 |some d'=>
  rw[h1,aP]at e;split at e
  .rename_i hs;cases e;obtain⟨Z,fb⟩:=RlW.frozen rl ok;refine⟨_,_,_,_,_,Z,h1,λp xs F' H' x hp hF hH r=>?_⟩;have G:=rl.go ⟨Same.refl F,x.hh,rl.fh.trans x.hh,λb e n=>aZ e n,λ_ _ _ z=>z⟩;have j:=rl.fh.free hp;have sh:=G.share hH j (rl.ext.hh.free hp) (λi ds e z=>by
    obtain⟨N,xs,Y,_,U,_⟩:=rl.own i ds e;rw[z]at Y;cases Y;rw[hp]at U;cases U) (λi N ds e z=>by
    obtain⟨_,_,_,xs,O,_⟩:=rl.ob i N ds e;rw[z,hp]at O;cases O)
   have s:Same F (upd F p (.lst xs)):=(Same.refl F).put j;exact q (.ref p) (upd F p (.lst xs)) H' ⟨B,fp,sh,ok.mono s⟩ s x.hh (.lst (SqL.of x8) (yk9 hs r))
  .cases e
end
section
variable {X:Cx}{a b e:Expr}{pos:Pos}{ta tb:TE}{ma mb:Ro->Bx->Option D}
end
section
variable {X:Cx}{pos:Pos}
end
section
variable {X:Cx}{st:Stmt}{rest:List Stmt}{e o c:Expr}{es:List Expr}{pos apos:Pos}{mo:ME}{m:ML}
end
section
variable {X:Cx}{pos np hpos:Pos}
end
section
variable {X:Cx}{e:Expr}{es:List Expr}{st:Stmt}{E:XK}{mf:MFW}{m:ML}
end
section
variable {X:Cx}{e:Expr}{es:List Expr}{st:Stmt}{E:XK}{mf:MF}{m:ML}{pos:Pos}
end
section
variable {X:Cx}{e:Expr}{es:List Expr}{pos:Pos}{x:Ro->Bx->Option D}{m:Ro->Bx->Option (List D)}
end
section
variable {K:W.Frag}{F0 J F H:Hp}{b:St}{a:Ro}
end
section
variable {X:Cx}{e:Expr}{E:XK}{mf:MF}
end
section
variable {X:Cx}{e o:Expr}{E:XK}{mf:MF}{mo:ME}
end
section
variable {X:Cx}{e:Expr}{es:List Expr}{st:Stmt}{rest:List Stmt}{E:XK}{mf:MFW}{m:MLm}
end
end L2
namespace L2
open List
open PySem PySem.Spec PyProof.Rows PySem.W
section
variable {M:Model}{A:Around}{E:Value->Shared->Prop}{s:Shared}
end
section
variable {B h h':Heap}{l:List Env}{e C L:Addr}{cls a0 fl:Value}
end
section
variable {X:Cx}{e:Expr}{es:List Expr}{pos:Pos}
end
section
variable {X:Cx}
end
section
variable {X:Cx}{e:Expr}{pos:Pos}
end
section
variable {X:Cx}{pins:List (Addr×Obj)}{a:St}{H:Hp}{s:Shared}
end
section
variable {X:Cx}{st:Stmt}{rest:List Stmt}{e c:Expr}{es:List Expr}{pos:Pos}
end
open Classical in
section
variable {X:Cx}
end
end L2
namespace L2
open List
open PySem PySem.Spec PyProof.Rows
section
variable {X:Cx}{pos np hpos:Pos}
end
section
variable {X:Cx}{a b:Expr}{ma mb:ME}{na nb:MEm}{pos:Pos}
end
section
variable {X:Cx}{a b:Expr}{ca cb:Ro->Bx->Option (Bool×Bx)}{pos:Pos}
end
section
variable {X:Cx}{e:Expr}{es:List Expr}{st:Stmt}{E:XK}{mf:MFW}{m:ML}
end
section
variable {X:Cx}{e o:Expr}{pos:Pos}{ma mo:ME}
end
section
variable {X:Cx}{pos:Pos}{e:Expr}{ma mb:ME}
end
section
variable {X:Cx}{tg e:Expr}{ma mb:ME}{pos:Pos}
variable {a b:Expr}
end
section
variable {es:List Expr}{env:Env}
theorem se_c{k:Nat}:starEach (.Constant c k p::es) env=(false,eval (.Constant c k p) env)::starEach es env:=rfl
theorem se_n:starEach (.Name x p::es) env=(false,eval (.Name x p) env)::starEach es env:=rfl
end
section
variable {prog:Program}{w:World}{A:Around}{E:Value->Shared->Prop}{s:Shared}
end
section
variable {X:Cx}{a:Addr}{pos:Pos}{e:Expr}
end
section
variable {K:W.Frag}{F0 H0 F H B:Hp}{b:St}{a:Ro}{c:Bx}{fp:List Addr}
end
section
variable {X:Cx}{a b c e:Expr}{pos:Pos}{st:Stmt}{rest:List Stmt}
end
section
variable {K:W.Frag}{F0 H0 F H B:Hp}{b:St}{a:Ro}{c:Bx}{fp:List Addr}
end
section
variable {X:Cx}{a b c e:Expr}{pos:Pos}{st:Stmt}{rest:List Stmt}{E:XK}
end
open Classical in
section
variable {X:Cx}{e:Expr}{es:List Expr}{pos:Pos}{mf:MG}{m:ML}{E:XK}
end
section
variable {X:Cx}{pos:Pos}{es:List Expr}
theorem PSd.or{st:Stmt}{m m1 m2:MS}(h1:PSd X st m1)(h2:PSd X st m2)(hm:∀a o,m a=some o->m1 a=some o\/m2 a=some o):PSd X st m:=λpins s b H D I q=>by
 obtain⟨F0,H0,F,a,o,rl,e,ok⟩:=q;rcases hm a o e with j|j
 .exact h1 pins s b H D I ⟨F0,H0,F,a,o,rl,j,ok⟩
 .exact h2 pins s b H D I ⟨F0,H0,F,a,o,rl,j,ok⟩
noncomputable def zh7(i:Nat)(mf:MF)(m:ML):MS:=λa=>match m a with
 |some ds=>(match mf ds with |some (.fr gs)=>some (.nx (a.set i (some (.own gs))))|some (.sh d)=>some (.nx (a.set i (some (.sh d))))|_=>none)
 |none=>none
theorem yi0{i n:Nat}{pos':Pos}(O:X.N.Nodup)(hi:X.N[i]? =some x)(j:Loc X.env.scope x)(h:∀t,PA X es t->PE X e (yr9 (spR X.K n mf) [] E t))(z:es.length=n)(ha:PAs X es m)(hm:∀a ds,m a=some ds->ds.length=es.length)
  (hs:swapsWith e (some (.Name x pos')) pos.line X.env=pure false:=by rfl) (G:X.fn x=true\/X.env.scope.names.lookup x=some .local:=by first|exact .inl rfl|exact .inr rfl|assumption):PSd X (.Assign [.Name x pos'] e pos) (zh7 i mf m):=by
 refine PSd.or (c6 O hi j (zp2 h z ha hm) hs G) (v6 O hi j (p0 h z ha hm) hs G) λa o e=>?_;unfold zh7 at e;cases h1:m a with
 |none=>rw[h1]at e;cases e
 |some ds=>
  rw[h1]at e;simp only at e;split at e
  .rename_i gs h2;refine .inl ?_;unfold W4 V4;rw[h1,aP,h2];exact e
  .rename_i d h2;refine .inr ?_;unfold mset l0;rw[h1,aP,h2];exact e
  .cases e
end
section
variable {K:W.Frag}{F B:Hp}
theorem FlR.putRow{q:Addr}{ys:List V}{ds:List D}(G:B q=some (.lst ys))(hr:Reps K F ys ds):∀{n:Nat}{fp:List Addr}{xs:List V}{fs:List Fl},FlR K F B fp xs fs->fp.Nodup->q∉fp->n<fs.length->∃j,FlR K F B j (xs.set n (.ref q)) (fs.set n (.l ds))/\j.Nodup/\∀a∈j,a=q\/a∈fp
 |_,_,_,_,.nil,_,_,h=>by cases h
 |0,_,_,_,.v (fp:=fp) _ t,nd,hn,_=>⟨q::fp,.l G hr t,bC.mpr ⟨hn,nd⟩,λa ha=>by simpa using ha⟩
 |0,_,_,_,.l (fp:=fp) _ _ t,nd,hn,_=>⟨q::fp,.l G hr t,bC.mpr ⟨λz=>hn (bt _ z),(bC.mp nd).2⟩,λa ha=>by
   rcases ba.mp ha with e|ha
   .exact .inl e
   .exact .inr (bt _ ha)⟩
 |n+1,_,_,_,.v r t,nd,hn,h=>by obtain⟨j,U,O,N⟩:=FlR.putRow G hr (n:=n) t nd hn (by simpa using h);exact⟨j,.v r U,O,N⟩
 |n+1,_,_,_,.l (fp:=fp) (q:=q0) b r t,nd,hn,h=>by
  have hc:=bC.mp nd;obtain⟨j,U,O,N⟩:=FlR.putRow G hr (n:=n) t hc.2 (λz=>hn (bt _ z)) (by simpa using h);refine⟨q0::j,.l b r U,bC.mpr ⟨λz=>?_,O⟩,λa ha=>?_⟩
  .rcases N q0 z with e|e
   .exact hn (by rw[e];simp)
   .exact hc.1 e
  .rcases ba.mp ha with e|ha
   .exact .inr (by rw[e];simp)
   .rcases N a ha with e|e
    .exact .inl e
    .exact .inr (bt _ e)
end
def zo6(i:Nat)(k1:ME)(m:ML):MW:=λb c=>match m b,b[i]?,k1 b with
 |some ds,some (some (.sh (.ptr p))),some (.int a)=>(match c.lookup p with
  |some (.row fs)=>(match ixN fs.length a with |some n=>some (.nx b,updB p (.row (fs.set n (.l ds))) c)|none=>none)
  |_=>none)
 |_,_,_=>none
section
variable {X:Cx}{st:Stmt}
theorem yq4{i:Nat}(hE:PS X st (tAsg (TF X.K m) (gSub (tVar i) (TD X.K k1) xw7))):PSw X st (zo6 i k1 m):=PS.imp hE λDn d H ⟨F0,H0,F,c,f,o,β',⟨B,fp,rl,ok⟩,e,k⟩=>by
 unfold zo6 at e;split at e
 .rename_i ds p a h1 hp hk1;split at e
  .rename_i fs G;split at e
   .rename_i n hn;cases e;refine⟨F0,jn H0 B,F,c,ds,rl,h1,λq ys F1 H1 x1 U a9 Y rq=>?_⟩;have hj:jn H0 B q=none:=rl.ext.hh.free U;have al:B q=none:=(Z4 hj).1;have ac:H0 q=none:=(Z4 hj).2;have N:q∉fp:=λz=>ok.bx.mem q z al;have a7:=(rl.go x1).takeBs (L:=[q]) (λb G=>by rw[bm.mp G,Y];simp) (λb G=>by rw[bm.mp G];exact a9) (λb G=>by rw[bm.mp G];exact hj) (λb G j gs hg z=>by
     rw[bm.mp G]at z;obtain⟨p',xs,a1,_,a3,_⟩:=rl.own j gs hg;rw[z]at a1;cases a1;rw[U]at a3;cases a3) (λb G j p' gs hg z=>by
     rw[bm.mp G]at z;obtain⟨_,_,_,xs,a4,_⟩:=rl.ob j p' gs hg;rw[z,U]at a4;cases a4)
    have Z:insB B H1 [q] q=some (.lst ys):=by rw[zx6 aD];exact Y
    have a5:∀b,b≠q->insB B H1 [q] b=B b:=λb G=>K4 (by simpa using G);have ag:BxOk X.K F0 H0 F1 (insB B H1 [q]) fp f:=⟨λb G=>by
     by_cases z:b=q
     .subst z;exact⟨ac,rl.ext.ff.free (rl.fh.free U)⟩
     .rw[a5 b z]at G;exact ok.out b G,ok.bx.mono x1.ff λb G=>a5 b λz=>N (z ▸ G),ok.nd,λb u w G=>by
     by_cases z:b=q
     .subst z;rw[Z]at G;cases G
     .rw[a5 b z]at G;exact ok.plain b u w G⟩
    obtain⟨w,ai,ae⟩:=rl.sh i _ hp;cases ae;refine⟨_,ai,F0,jn H0 (insB B H1 [q]),F1,c,_,a7,hk1,λw3 F3 H3 x3 r3=>?_⟩;cases r3;have a6:=a7.go x3;have O:=ag.mono x3.ff;obtain⟨fq,hc,nq,ab,up⟩:=O.bx.upd O.nd G;cases hc with
    |@row fq0 _ xs _ b0 fl=>
     have a8:=bC.mp nq;have pq:p≠q:=λz=>N (z ▸ ab p aD);have aj:q∉fq0:=λz=>N (ab q (by simp[z]));have ak:n<fs.length:=(za9 hn).2.1;refine⟨p,xs,a,n,rfl,rfl,a6.ext.hh _ _ (Z9 b0),by rw[fl.length];exact hn,?_⟩;obtain⟨af,_,h4,h5⟩:=a6.putB (a:=p) (o:=.lst (xs.set n (.ref q))) O.out (.inl (by rw[b0];simp));obtain⟨ad,c1,c2,c3⟩:=FlR.putRow (n:=n) (ds:=ds) Z (rq.mono x3.ff) fl a8.2 aj ak;have aa:p∉ad:=λz=>by
      rcases c3 p z with e|e
      .exact pq e
      .exact a8.1 e
     have a2:CellR X.K F3 (upd (insB B H1 [q]) p (.lst (xs.set n (.ref q)))) (p::ad) p (.row (fs.set n (.l ds))):=.row x8 (c1.mono (Same.refl _) λb G=>x9 λz=>aa (z ▸ G));obtain⟨am,r',ah,an⟩:=up _ _ _ F3 (Same.refl _) a2 (bC.mpr ⟨aa,c2⟩) (λb _ hn=>x9 λz=>hn (by rw[z];simp)) λb G=>by
      rcases ba.mp G with e|G
      .exact .inl (by rw[e];simp)
      .rcases c3 b G with e|e
       .exact .inr (by rw[e];exact N)
       .exact .inl (bt _ e)
     exact k F3 _ d ⟨_,am,af,ym8 O.out ⟨h4,h5⟩,r',ah,zj1 O.plain λ_ _ z=>by cases z⟩ (x1.ff.trans x3.ff)
   .cases e
  .cases e
 .cases e
end
def wj4(_ j:Int):Prop:=0<j/\j.natAbs.log2<9000
theorem xt1{X:Cx}:OpR X (binaryOp .FloorDiv) (rI wj4 λi j=>.int (i / j)):=opI λi j _ _ _ _ _ hc q=>by have h1:(0:Int)<j:=hc.1;exact floordiv_int aB (by rw[Int.fdiv_eq_ediv_of_nonneg i aB];exact q) (.inl (PyProof.noPylong_of_log2 hc.2))
noncomputable def yu8(_ j:Int):Bool:=decide (0<j)&&decide (j.natAbs.log2<9000)
def yu9:D->D->Option D:=int2 λi j=>if yu8 i j=true then some (.int (i / j))else none
theorem yg6{K:W.Frag}:OpD K (rI wj4 λi j=>.int (i / j)) yu9:=zh1 (λi j h=>by unfold yu8 at h;simp only[Bool.and_eq_true,decide_eq_true_eq]at h;exact h) λF i j=>.int _
theorem xu5{X:Cx}{pos:Pos}(ha:PD X a ma)(j:PD X b mb):PD X (.BinOp a .FloorDiv b pos) (m2 yu9 ma mb):=zc9 xt1 yg6 ha j
theorem yc1{i j:Int}(h:0<j)(h2:j.natAbs<2^400):yu8 i j=true:=by have z:j.natAbs.log2<400:=(Nat.log2_lt aB).mpr h2;unfold yu8;rw[aV h,aV aB];rfl
end L2
set_option maxHeartbeats 4000000
namespace Lw
open List
open PySem L2
noncomputable abbrev k0a(r:List Int):Option S:=some (.sh (.lst (r.map .int)))
noncomputable abbrev k0b(k:Nat):Option S:=some (.sh (.int (k:Int)))
noncomputable abbrev k0c(k:Int):Option S:=some (.sh (.int k))
noncomputable section
def b_Z3:MS:=(mif (w5 (m2 ltD (mvar 0) (mc (.int 1)))) yv6 f7)
def m_Z3:MF:=runB 1 b_Z3
def xz0:MS:=(mseq (mapp 2 (mlst (d6 [none,some 1,some 5,some 0] (m5 rng2 (z7 (m2 addD (mvar 4) (mc (.int 1))) (z7 (mlen (bvar 0)) anil))) (.nm 0) (w5 (m2 geD (m2 subD (mix (bvar 3) (mvar 0)) (mvar 2)) (mvar 1))) (mvar 0)))) (mapp 3 (mlst (d6 [none,some 1,some 5,some 0] (m5 rng2 (z7 (m2 addD (mvar 4) (mc (.int 1))) (z7 (mlen (bvar 0)) anil))) (.nm 0) (w5 (m2 geD (m2 subD (mvar 2) (mix (bvar 3) (mvar 0))) (mvar 1))) (mvar 0)))))
def ya9:MS:=(Q2 3 (Q2 2 (mret (mtup (z7 (mvar 2) (z7 (mvar 3) anil))))))
def b_Z2:MS:=(mseq (W4 2 (v5 anil)) (mseq (W4 3 (v5 anil)) (mseq (mfor (m5 zx8 (z7 (mvar 0) anil)) (.tp [4,5]) xz0) ya9)))
def m_Z2:MF:=runB 6 b_Z2
def zm2:MS:=(mseq (mif (cor (w5 (m2 ltD (mvar 3) (mvar 2))) (w5 (m2 geD (mvar 3) (mlen (bvar 0))))) (mret (mc (.bl false))) f7) (mset 2 (m2 addD (mvar 3) (mc (.int 1)))))
def b_Z6:MS:=(mseq (mset 2 (mc (.int 0))) (mseq (mfor (k8 (mvar 1)) (.nm 3) zm2) (mret (mc (.bl true)))))
def m_Z6:MF:=runB 4 b_Z6
def ys3:MS:=(mif (cor (w5 (m2 ltD (m6 V5 (z7 (mvar 2) (z7 (mvar 4) anil))) (mvar 3))) (w5 (m2 ltD (mvar 3) (m6 zb8 (z7 (mvar 2) (z7 (mvar 4) anil)))))) (maug 1 (mc (.int 1))) f7)
def wy5:MS:=(mseq (mset 1 (mc (.int 0))) (mseq (mfor (m5 zip3 (z7 (mvar 0) (z7 (mlst (mcut (bvar 0) (j3 (mc (.int 1))) R8)) (z7 (mlst (mcut (bvar 0) (j3 (mc (.int 2))) R8)) anil)))) (.tp [2,3,4]) ys3) (L9 1)))
def xs7:MF:=runB 5 wy5
def yy6:MS:=(mif (w5 (m2 ltD (m6 absF (z7 (m2 subD (mvar 3) (mvar 2)) anil)) (mvar 1))) (mret (mc (.bl false))) f7)
def b_Z1:MS:=(mseq (mfor (m5 zip2 (z7 (mvar 0) (z7 (mlst (mcut (bvar 0) (j3 (mc (.int 1))) R8)) anil))) (.tp [2,3]) yy6) (mret (m2 eqSD (l0 xs7 (z7 (mvar 0) anil)) (m6 V5 (z7 (mc (.int 0)) (z7 (m2 subD (mlen (bvar 0)) (mc (.int 2))) anil))))))
def m_Z1:MF:=runB 4 b_Z1
def wy3:MS:=(mseq (zb9 (l0 m_Z3 (z7 (mvar 1) anil))) (mret (mand (l0 m_Z6 (z7 (mvar 0) (z7 (mvar 2) anil))) (l0 m_Z1 (z7 (mlst (d6 [none,some 0] (k8 (mvar 2)) (.nm 0) cyes (mix (bvar 1) (mvar 0)))) (z7 (mvar 1) anil))))))
def ye2:MF:=runB 3 wy3
def wy1:MS:=(zv2 (d6 [none,some 0] (k8 (mvar 1)) (.nm 0) cyes (msum (d6 [none,some 1] (k8 (mvar 0)) (.nm 0) cyes (mix (bvar 1) (mvar 0))))))
def yp3:MF:=runB 2 wy1
def zm1:MS:=(mseq (mapp 8 (mtup (z7 (mvar 5) (z7 (mvar 6) (z7 (mvar 7) anil))))) (mseq (mpar 6 7 (z7 (l0 yp3 (z7 (mvar 7) (z7 (mvar 3) anil))) (z7 (l0 yp3 (z7 (mvar 6) (z7 (mvar 4) anil))) anil))) (mset 5 (mlst (d6 [none,none] (m5 zip2 (z7 (mvar 6) (z7 (mvar 7) anil))) (.tp [0,1]) cyes (m2 addD (mvar 0) (mvar 1)))))))
def b_Z9:MS:=(mseq (masg (.tp [3,4]) (l0 m_Z2 (z7 (mvar 0) (z7 (mvar 1) anil)))) (mseq (yq8 5 6 7 (mlst (mrep (v5 (z7 (mc (.int 1)) anil)) (mlen (bvar 0))))) (mseq (W4 8 (v5 anil)) (mseq (S4 (cand (w5 (m2 ltD (mlen (bvar 8)) (mvar 2))) (mtru (many (bvar 5)))) zm1 1000) (L9 8)))))
def m_Z9:MF:=runB 9 b_Z9
def wz6:MS:=(mseq (masg (.tp [5,6,7]) (mvar 2)) (mseq (mif (cnot (mtru (mvar 3))) (mret (mix (bvar 5) (mvar 4))) f7) (mseq (mif (cnot (mtru (l0 ye2 (z7 (mvar 0) (z7 (mvar 1) (z7 (mlst (mcat (mcut (bvar 3) (j3 (m1 negD (mc (.int 2)))) R8) (v5 (z7 (mvar 4) anil)))) anil)))))) (mret (mc (.int 0))) f7) (mret (mite (w5 (m2 gtD (mix (bvar 0) (mvar 4)) (mix (bvar 0) (mix (bvar 3) (m1 negD (mc (.int 1))))))) (mix (bvar 7) (mvar 4)) (mix (bvar 6) (mvar 4)))))))
def yp1:MF:=runB 8 wz6
def A0:MS:=(mseq (xs4 3 (mvar 7)) (mseq (maug 5 (mc (.int 1))) (mset 7 (D9 4 (l0 yp1 (z7 (mvar 0) (z7 (mvar 1) (z7 (mvar 6) (z7 (mvar 4) (z7 (mvar 5) anil))))))))))
def ys2:MS:=(mseq (mapp 4 (mvar 5)) (maug 5 (mc (.int 1))))
def zm5:MS:=(mseq (mset 7 (D9 4 (l0 yp1 (z7 (mvar 0) (z7 (mvar 1) (z7 (mvar 6) (z7 (mvar 4) (z7 (mvar 5) anil)))))))) (mseq (S4 (w5 (m2 ltD (mvar 7) (mvar 3))) A0 1000) ys2))
def xp2:MS:=(mseq (W4 4 (v5 anil)) (mseq (mset 5 (mc (.int 0))) (mseq (mfor (m5 revL (z7 (mvar 2) anil)) (.nm 6) zm5) (L9 4))))
def yp2:MF:=runB 8 xp2
def b_Z0:MS:=(mret (mite (mtru (mvar 0)) (msum (k8 (m2 ixTD (mix (bvar 0) (m1 negD (mc (.int 1)))) (mc (.int 0))))) (mc (.int 1))))
def m_Z0:MF:=runB 1 b_Z0
def b_Z7:MS:=(mseq (zb9 (l0 m_Z3 (z7 (mvar 1) anil))) (mseq (mif (cor (w5 (m2 ltD (mvar 3) (mc (.int 1)))) (w5 (m2 ltD (mvar 2) (mc (.int 0))))) yv6 f7) (mseq (mset 4 (l0 m_Z9 (z7 (mvar 0) (z7 (mvar 1) (z7 (mvar 2) anil))))) (mseq (mif (cor (w5 (m2 ltD (mlen (bvar 4)) (mvar 2))) (w5 (m2 ltD (l0 m_Z0 (z7 (mvar 4) anil)) (mvar 3)))) (mret (mc .non)) f7) (zv2 (V4 yp2 (z7 (mvar 0) (z7 (mvar 1) (z7 (mvar 4) (z7 (mvar 3) anil))))))))))
def m_Z7:MF:=runB 5 b_Z7
def wy2:MS:=(zv2 (v5 (z7 (m6 absF (z7 (mvar 0) anil)) (z7 (m2 modD (m2 mulD (m2 addD (m2 modD (mvar 0) (mc (.int 2147483647))) (mc (.int 1))) (mc (.int 742938285))) (mc (.int 2147483647))) anil))))
def xs5:MF:=runB 1 wy2
def zm9:MS:=(mseq (mif (w5 (m2 geD (mix (bvar 0) (mc (.int 0))) (m2 powD (mc (.int 10)) (mc (.int 18))))) (mseq (mset 2 (m2 modD (mix (bvar 0) (mc (.int 0))) (mvar 1))) (mseq (R0 0 (mc (.int 0)) (m2 yu9 (mix (bvar 0) (mc (.int 0))) (mvar 1))) (zv1 0 (mpu (mvar 2))))) f7) (mseq (R0 0 (mc (.int 1)) (m2 modD (m2 addD (m2 mulD (mix (bvar 0) (mc (.int 1))) (mc (.int 48271))) (mc (.int 11))) (mc (.int 2147483647)))) (mseq (mset 3 (m2 modD (m2 mulD (mix (bvar 0) (mc (.int 1))) (mix (bvar 0) (mc (.int 1)))) (mc (.int 2147483629)))) (zv1 0 (mpu (m2 modD (m2 yp9 (m2 modD (m2 mulD (mvar 3) (mc (.int 69621))) (mc (.int 2147483587))) (mc (.int 8))) (mvar 1)))))))
def i7:MG:=runG 4 zm9
def A6:MS:=(mseq (W3 7 (u6 i7 0 (apu (z7 (mvar 4) anil)))) (mseq (mif (w5 (m2 eqSD (mvar 3) (mc (.int 1)))) (mset 7 (m2 subD (mvar 7) (m2 yp9 (mvar 4) (mc (.int 2))))) f7) (mseq (mif (w5 (m2 eqSD (mvar 3) (mc (.int 2)))) (mset 7 (m2 subD (m2 mulD (mvar 7) (m2 powD (mc (.int 10)) (mc (.int 27)))) (m2 mulD (mvar 4) (m2 powD (mc (.int 10)) (mc (.int 26)))))) f7) (mseq (mif (w5 (m2 eqSD (mvar 3) (mc (.int 3)))) (mset 7 (mix (v5 (z7 (mvar 7) (z7 (m2 addD (mvar 4) (mvar 7)) anil))) (m2 modD (mvar 6) (mc (.int 2))))) f7) (mseq (mif (w5 (m2 eqSD (mvar 3) (mc (.int 4)))) (mset 7 (m2 addD (mvar 7) (mvar 6))) f7) (mseq (mif (w5 (m2 eqSD (mvar 3) (mc (.int 5)))) (W3 7 (m2m mulD (D1 intF (t4 (m2m eqSD (u6 i7 0 (apu (z7 (mc (.int 4)) anil))) (mpu (mc (.int 0)))) (apu anil))) (mpu (mvar 7)))) f7) (mapp 5 (mvar 7))))))))
def xp3:MS:=(mseq (W3 2 (m2m ixLD (D8 (t4 (u6 i7 0 (apu (z7 (m2 addD (mvar 1) (mc (.int 1))) anil))) (t4 (mpu (mvar 1)) (t4 (u6 i7 0 (apu (z7 (m2 addD (m6 zb8 (z7 (mvar 1) (z7 (mc (.int 4)) anil))) (mc (.int 1))) anil))) (apu anil))))) (u6 i7 0 (apu (z7 (mc (.int 3)) anil))))) (mseq (W3 3 (u6 i7 0 (apu (z7 (mc (.int 6)) anil)))) (mseq (W3 4 (m2m ixLD (mpu (mlst (v5 (z7 (mc (.int 2)) (z7 (mc (.int 4)) (z7 (mc (.int 10)) (z7 (mc (.int 100)) anil))))))) (u6 i7 0 (apu (z7 (mc (.int 4)) anil))))) (mseq (W4 5 (v5 anil)) (mseq (mfor (m5 rng1 (z7 (mvar 2) anil)) (.nm 6) A6) (yv5 0 5))))))
def xc4:MG:=runG 8 xp3
def xp4:MS:=(mseq (W3 2 (D8 (t4 (mpu (mc (.int 1))) (t4 (mpu (mc (.int 1))) (t4 (m2m addD (mpu (mc (.int 1))) (u6 i7 0 (apu (z7 (mc (.int 4)) anil)))) (t4 (m2m addD (mpu (mc (.int 1))) (u6 i7 0 (apu (z7 (mc (.int 100)) anil)))) (apu (z7 (m2 powD (mc (.int 10)) (mc (.int 27))) (z7 (m2 powD (mc (.int 10)) (mc (.int 29))) anil))))))))) (mseq (mif (w5 (meqB true (bvar 1) (v5 anil))) (mseq (W3 3 (D1 absF (t4 (m2m subD (m2m ixLD (mpu (mvar 1)) (u6 i7 0 (apu (z7 (mlen (bvar 1)) anil)))) (m2m ixLD (mpu (mvar 1)) (u6 i7 0 (apu (z7 (mlen (bvar 1)) anil))))) (apu anil)))) (mset 2 (mlst (mcat (bvar 2) (v5 (z7 (m6 V5 (z7 (mc (.int 1)) (z7 (mvar 3) anil))) (z7 (m2 addD (mvar 3) (mc (.int 1))) anil))))))) f7) (zv1 0 (m2m ixLD (mpu (mvar 2)) (u6 i7 0 (apu (z7 (mlen (bvar 2)) anil)))))))
def xc5:MG:=runG 4 xp4
def zm8:MS:=(mseq (mset 4 (mix (bvar 0) (mix (bvar 2) (m2 subD (mvar 3) (mc (.int 1)))))) (mseq (mset 5 (m2 subD (mix (bvar 0) (mix (bvar 2) (mvar 3))) (mvar 4))) (mseq (mif (w5 (m2 ltD (m6 absF (z7 (mvar 5) anil)) (mvar 1))) (mret (mc (.bl false))) f7) (mif (cand (w5 (m2 gtD (mvar 3) (mc (.int 1)))) (w5 (m2 eqSD (m2 gtD (mvar 5) (mc (.int 0))) (m2 gtD (mvar 4) (mix (bvar 0) (mix (bvar 2) (m2 subD (mvar 3) (mc (.int 2))))))))) (mret (mc (.bl false))) f7))))
def wy0:MS:=(mseq (mfor (m5 rng2 (z7 (mc (.int 1)) (z7 (mlen (bvar 2)) anil))) (.nm 3) zm8) (mret (mc (.bl true))))
def zo9:MF:=runB 6 wy0
def zm6:MS:=(mseq (mset 4 (mlst (d6 [none,some 3] (k8 (mvar 2)) (.nm 0) cyes (mlst (mcat (bvar 0) (v5 (z7 (mvar 1) anil))))))) (mset 2 (mlst (mcat (bvar 2) (d6 [none,some 0,some 1] (k8 (mvar 4)) (.nm 0) (mtru (l0 zo9 (z7 (mvar 1) (z7 (mvar 2) (z7 (mlst (mcut (bvar 0) (j3 (m1 negD (mc (.int 3)))) R8)) anil))))) (mvar 0))))))
def wz8:MS:=(mseq (mset 2 (mlst (v5 (z7 (mlst (v5 anil)) anil)))) (mseq (mfor (m5 rng1 (z7 (mlen (bvar 0)) anil)) (.nm 3) zm6) (zv2 (L8 (bvar 2)))))
def za2:MF:=runB 5 wz8
def zm7:MS:=(R0 2 (m2 addD (mvar 3) (mc (.int 1))) (m2 addD (mix (bvar 2) (m2 addD (mvar 3) (mc (.int 1)))) (mvar 4)))
def wz9:MS:=(mseq (W4 2 (mcat (bvar 0) (mrep (v5 (z7 (mc (.int 0)) anil)) (m2 subD (m2 addD (mlen (bvar 1)) (mc (.int 1))) (mlen (bvar 0)))))) (mseq (mfor (m5 zx8 (z7 (mvar 1) anil)) (.tp [3,4]) zm7) (L9 2)))
def zv5:MF:=runB 5 wz9
def yy5:MS:=(mseq (mset 8 (m6 intF (z7 (m2 geD (m2 subD (mix (bvar 0) (mvar 7)) (mvar 5)) (mvar 1)) anil))) (mif (w5 (m2 geD (m6 absF (z7 (m2 subD (mvar 5) (mix (bvar 0) (mvar 7))) anil)) (mvar 1))) (R0 6 (mvar 8) (l0 zv5 (z7 (mix (bvar 6) (mvar 8)) (z7 (mix (k8 (mix (bvar 2) (mvar 7))) (m2 subD (mc (.int 1)) (mvar 8))) anil)))) f7))
def ya8:MS:=(R0 3 (mvar 10) (m2 addD (mix (bvar 3) (mvar 10)) (mix (bvar 9) (mvar 10))))
def yy4:MS:=(mseq (W4 3 (mcat (bvar 3) (mrep (v5 (z7 (mc (.int 0)) anil)) (m2 subD (mlen (bvar 9)) (mlen (bvar 3)))))) (mfor (m5 rng2 (z7 (mc (.int 2)) (z7 (mlen (bvar 9)) anil))) (.nm 10) ya8))
def ya6:MS:=(Q2 6 (mseq (mapp 2 (mvar 6)) (mfor (k8 (mvar 6)) (.nm 9) yy4)))
def ya7:MS:=(mseq (W4 6 (v5 (z7 (mlst (v5 (z7 (mc (.int 0)) (z7 (mc (.int 1)) anil)))) (z7 (mlst (v5 (z7 (mc (.int 0)) (z7 (mc (.int 1)) anil)))) anil)))) (mseq (mfor (m5 rng1 (z7 (mvar 4) anil)) (.nm 7) yy5) ya6))
def b_Z5:MS:=(mseq (W4 2 (v5 anil)) (mseq (W4 3 (mcut (v5 (z7 (mc (.int 1)) (z7 (mlen (bvar 0)) anil))) R8 (j3 (m2 addD (mc (.int 1)) (mlen (bvar 0)))))) (mseq (mfor (m5 zx8 (z7 (mvar 0) anil)) (.tp [4,5]) ya7) (L9 3))))
def m_Z5:MF:=runB 11 b_Z5
def S3:MW:=(zb5 (wS (mset 5 (m6 intF (z7 (m2 geD (m2 subD (mix (bvar 0) (mvar 3)) (mix (bvar 0) (mvar 4))) (mvar 1)) anil)))) (mifW (wE (w5 (m2 geD (m6 absF (z7 (m2 subD (mix (bvar 0) (mvar 4)) (mix (bvar 0) (mvar 3))) anil)) (mvar 1)))) (yf4 2 (mvar 3) (mvar 5) (lsW (yp4 (V4 zv5 (z7 (mix (k8 (mix (bvar 2) (mvar 3))) (mvar 5)) (z7 (mix (k8 (mix (bvar 2) (mvar 4))) (m2 subD (mc (.int 1)) (mvar 5))) anil)))))) (wS f7)))
def S2:MW:=(zb5 (zo6 2 (mvar 3) (v5 (z7 (mlst (v5 (z7 (mc (.int 0)) (z7 (mc (.int 1)) anil)))) (z7 (mlst (v5 (z7 (mc (.int 0)) (z7 (mc (.int 1)) anil)))) anil)))) (yq9 (m5 rng2 (z7 (m2 addD (mvar 3) (mc (.int 1))) (z7 (mlen (bvar 0)) anil))) (.nm 4) S3))
def zw3:MW:=(C7 2 (xc2 (wE (mvar 2))))
def S1:MW:=(zb5 (yq9 (m5 rng3 (z7 (m2 subD (mlen (bvar 0)) (mc (.int 1))) (z7 (m1 negD (mc (.int 1))) (z7 (m1 negD (mc (.int 1))) anil)))) (.nm 3) S2) zw3)
def B8:MW:=(xt6 2 (zy7 [none] (k8 (mvar 0)) (.nm 0) (v5 anil)) S1)
def C9:MF:=plainW (runW 6 B8)
def wz7:MS:=(mret (mix (mcat (mcut (bvar 0) (j3 (mvar 1)) (j3 (m2 addD (mvar 1) (mc (.int 1))))) (v5 (z7 (mc (.int 0)) anil))) (mc (.int 0))))
def za1:MF:=runB 2 wz7
def zm3:MS:=(mif (cand (w5 (m2 eqSD (mvar 4) (mc (.int 0)))) (w5 (m2 eqSD (mvar 5) (mc (.int 1))))) (mset 6 (m2 addD (mvar 6) (mc (.int 1)))) (mif (w5 (m2 eqSD (mvar 4) (mc (.int 0)))) (mseq (mset 6 (m2 addD (mvar 6) (l0 za1 (z7 (mix (k8 (mix (bvar 2) (mvar 7))) (mc (.int 0))) (z7 (mvar 5) anil))))) (mset 6 (m2 addD (mvar 6) (l0 za1 (z7 (mix (k8 (mix (bvar 2) (mvar 7))) (mc (.int 1))) (z7 (mvar 5) anil)))))) (mif (mtru (l0 zo9 (z7 (mvar 0) (z7 (mvar 1) (z7 (mlst (mcat (mcut (bvar 3) (j3 (m6 V5 (z7 (mc (.int 0)) (z7 (m2 subD (mvar 4) (mc (.int 2))) anil)))) (j3 (mvar 4))) (v5 (z7 (mvar 7) anil)))) anil))))) (mseq (mset 8 (mix (k8 (mix (bvar 2) (mvar 7))) (m6 intF (z7 (m2 gtD (mix (bvar 0) (mvar 7)) (mix (bvar 0) (mix (bvar 3) (m2 subD (mvar 4) (mc (.int 1)))))) anil)))) (mset 6 (m2 addD (mvar 6) (l0 za1 (z7 (mvar 8) (z7 (mvar 5) anil)))))) f7)))
def b_Z4:MS:=(mseq (mset 5 (m2 subD (mlen (bvar 3)) (mvar 4))) (mseq (mset 6 (mc (.int 0))) (mseq (mfor (m5 rng2 (z7 (m2 addD (mix (mcat (v5 (z7 (m1 negD (mc (.int 1))) anil)) (bvar 3)) (mvar 4)) (mc (.int 1))) (z7 (mix (bvar 3) (mvar 4)) anil))) (.nm 7) zm3) (L9 6))))
def m_Z4:MF:=runB 9 b_Z4
def A7:MS:=(mset 4 (m2 addD (mvar 4) (l0 m_Z4 (z7 (mvar 0) (z7 (mvar 1) (z7 (mvar 2) (z7 (mvar 3) (z7 (mvar 5) anil))))))))
def wy4:MS:=(mseq (mset 4 (mc (.int 1))) (mseq (mfor (m5 rng1 (z7 (mlen (bvar 3)) anil)) (.nm 5) A7) (L9 4)))
def xs6:MF:=runB 6 wy4
def b_Z8:MS:=(mseq (mset 5 (l0 m_Z5 (z7 (mvar 0) (z7 (mvar 1) anil)))) (mseq (mif (cor (w5 (m2 geD (mvar 2) (mlen (bvar 5)))) (w5 (m2 gtD (mvar 3) (mix (bvar 5) (mvar 2))))) (mret (m2 (isND false) (mvar 4) (mc .non))) f7) (mseq (mif (cor (cnot (mtru (misi "list" (mvar 4)))) (w5 (meqB true (d6 [none] (k8 (mvar 4)) (.nm 0) (mtru (misi "bool" (mvar 0))) (mvar 0)) (v5 anil)))) (mret (mc (.bl false))) f7) (mseq (mif (cor (w5 (m2 neSD (mlen (bvar 4)) (mvar 2))) (w5 (meqB true (bvar 4) (Q0 (bvar 4))))) (mret (mc (.bl false))) f7) (mseq (mif (cor (cand (w5 (meqB true (bvar 4) (v5 anil))) (cor (w5 (m2 ltD (mix (bvar 4) (mc (.int 0))) (mc (.int 0)))) (w5 (m2 geD (mix (bvar 4) (m1 negD (mc (.int 1)))) (mlen (bvar 0)))))) (cnot (mtru (l0 zo9 (z7 (mvar 0) (z7 (mvar 1) (z7 (mvar 4) anil))))))) (mret (mc (.bl false))) f7) (mseq (mif (w5 (m2 ltD (mlen (bvar 0)) (mc (.int 10)))) (mret (meqB false (bvar 4) (k8 (mix (d6 [none,some 2] (k8 (l0 za2 (z7 (mvar 0) (z7 (mvar 1) anil)))) (.nm 0) (w5 (m2 eqSD (mlen (bvar 0)) (mvar 1))) (mvar 0)) (m2 subD (mvar 3) (mc (.int 1))))))) f7) (mret (m2 eqSD (l0 xs6 (z7 (mvar 0) (z7 (mvar 1) (z7 (l0 C9 (z7 (mvar 0) (z7 (mvar 1) anil))) (z7 (mvar 4) anil))))) (mvar 3)))))))))
def m_Z8:MF:=runB 6 b_Z8
def B9:MS:=(mseq (W3 10 (m2m ixLD (D8 (t4 (mpu (mc (.int 0))) (t4 (mpu (mc (.int 1))) (t4 (mpu (mc (.int 2))) (t4 (mpu (mvar 8)) (t4 (mpu (m2 addD (mvar 8) (mc (.int 1)))) (t4 (u6 i7 3 (apu (z7 (m2 addD (mvar 8) (mc (.int 1))) anil))) (apu (z7 (m2 powD (mc (.int 10)) (mc (.int 29))) anil))))))))) (u6 i7 3 (apu (z7 (mc (.int 7)) anil))))) (mseq (mset 11 (mix (mcat (mcut (bvar 7) (j3 (mvar 10)) (j3 (m2 addD (mvar 10) (mc (.int 1))))) (v5 (z7 (mc (.int 0)) anil))) (mc (.int 0)))) (mseq (W3 12 (m2m ixLD (D8 (t4 (mpu (mc (.int 1))) (t4 (mpu (m6 V5 (z7 (mc (.int 1)) (z7 (mvar 11) anil)))) (t4 (mpu (m2 addD (mvar 11) (mc (.int 1)))) (t4 (m2m addD (mpu (mc (.int 1))) (u6 i7 3 (apu (z7 (m6 V5 (z7 (mc (.int 1)) (z7 (mvar 11) anil))) anil)))) (apu (z7 (m2 powD (mc (.int 10)) (mc (.int 29))) anil))))))) (u6 i7 3 (apu (z7 (mc (.int 5)) anil))))) (mseq (mset 13 (mlst (bvar 5))) (mseq (zh7 14 m_Z7 (z7 (mvar 13) (z7 (mvar 6) (z7 (mvar 10) (z7 (mvar 12) anil))))) (mseq (mif (cor (cnot (mtru (D9 14 (l0 m_Z8 (z7 (mvar 5) (z7 (mvar 6) (z7 (mvar 10) (z7 (mvar 12) (z7 (mvar 14) anil))))))))) (w5 (meqB true (bvar 13) (bvar 5)))) (mret (mc (.bl false))) f7) (mif (zo8 14 (w5 (m2 (isND true) (mvar 14) (mc .non)))) (mseq (mset 15 (mlst (bvar 14))) (mseq (mapp 14 (mc (.int 0))) (mif (w5 (meqB true (k8 (l0 m_Z7 (z7 (mvar 13) (z7 (mvar 6) (z7 (mvar 10) (z7 (mvar 12) anil)))))) (bvar 15))) (mret (mc (.bl false))) f7))) f7)))))))
def zm4:MS:=(mseq (W4 3 (V4 xs5 (z7 (mvar 2) anil))) (mseq (W3 4 (m2m ixLD (mpu (mlst (v5 (z7 (mc (.int 9)) (z7 (mc (.int 40)) anil))))) (u6 i7 3 (apu (z7 (mc (.int 2)) anil))))) (mseq (mifm (yy1 (cpu (w5 (m2 eqSD (mvar 1) (mc (.int 0))))) (zy4 (m2m eqSD (u6 i7 3 (apu (z7 (mc (.int 16)) anil))) (mpu (mc (.int 0)))))) (W3 4 (m2m ixLD (mpu (mlst (v5 (z7 (mc (.int 150)) (z7 (mc (.int 150)) (z7 (mc (.int 150)) (z7 (mc (.int 300)) anil))))))) (u6 i7 3 (apu (z7 (mc (.int 4)) anil))))) f7) (mseq (W3 5 (u6 xc4 3 (apu (z7 (mvar 4) anil)))) (mseq (W3 6 (u6 xc5 3 (apu (z7 (mvar 5) anil)))) (mseq (mset 7 (l0 m_Z5 (z7 (mvar 5) (z7 (mvar 6) anil)))) (mseq (mset 8 (m2 subD (mlen (bvar 7)) (mc (.int 1)))) (mfor (m5 rng1 (z7 (mix (v5 (z7 (mc (.int 5)) (z7 (mc (.int 1)) anil))) (m6 intF (z7 (m2 gtD (mvar 4) (mc (.int 40))) anil))) anil)) (.nm 9) B9))))))))
def wz5:MS:=(mseq (mfor (m5 zx8 (z7 (mlst (mcat (mcut (bvar 0) R8 (j3 (mc (.int 3)))) (v5 (z7 (mlen (bvar 0)) anil)))) anil)) (.tp [1,2]) zm4) (mret (mc (.bl true))))
def za0:MF:=runB 16 wz5
end
section
theorem wo9(i j:Int):eqS (.int i) (.int j)=some (i==j):=rfl
theorem wn1(i j:Bool):eqS (.bl i) (.bl j)=some (i==j):=rfl
theorem wo4(i j:Str):eqS (.str i) (.str j)=some (i==j):=rfl
theorem wo5:eqS .non .non=some true:=rfl
theorem wo7(j:Bool):eqS .non (.bl j)=some false:=rfl
theorem wn0(j:Bool):eqS (.bl j) .non=some false:=rfl
theorem wo6(j:Int):eqS .non (.int j)=some false:=rfl
theorem wo8(j:Int):eqS (.int j) .non=some false:=rfl
local macro_rules|`(tactic|simp_arith [$ls,*])=>do let a<-("runB L2.m8 map_cons map_nil length_cons length_nil List.replicate cons_append nil_append mvar bvar L2.mc mlst L2.k8 L2.m2 L2.w5 subD mulD yp9 modD powD ltD leD gtD geD eqSD neSD wo9 wn1 wo4 wo5 wo7 wn0 wo6 wo8 L2.m1 negD mand mtru truD cand cor cnot mite anil L2.z7 L2.v5 mtup mlen mix L2.R8 L2.j3 mcut mcat addD L2.m6 absF L2.V5 zb8 two2 intF L2.f7 mseq mif yv6 mset L2.W4 maug zb9 mret zv2 L2.L9 mapp L2.R0 L2.Q2 masg L2.m5 zip2 zip3 zx8 cyes L2.l0 L2.V4 meqB misi tyD int2 bl2 tgD zz2 Option.bind_some Option.map_some Option.bind_none Option.map_none getElem?_cons_zero getElem?_cons_succ set_cons_zero set_cons_succ isEmpty_cons isEmpty_nil Bool.not_true Bool.not_false".splitOn " ").toArray.mapM λs=>`(Lean.Parser.Tactic.simpLemma|$(Lean.mkIdent s.toName):ident);let b:=a++ls.getElems;`(tactic|simp(config:={decide:=true,implicitDefEqProofs:=false}) only[$b,*])
noncomputable def stir(c k:Int):Int:=if 10^18<=c then (c-10^18) / 2^(28*k).toNat % 2^28 else
 (((c+1013*k+1)*16807 % 2147483647)*((c+1013*k+1)*16807 % 2147483647) % 2147483629)*39373 % 2147483587 / 8
theorem zb4(i j:Int)(h1:-(2^64)<j)(h2:j<2^64):L7 i j=true:=by unfold L7;simp only[h1,h2,decide_true,Bool.and_self,Bool.or_true]
theorem zo5(i j:Int)(h1:-(2^64)<i)(h2:i<2^64):L7 i j=true:=by unfold L7;simp only[h1,h2,decide_true,Bool.and_self,Bool.true_or]
theorem T7(i j:Int)(h:0<j):zh9 i j=true:=by unfold zh9;simp only[h,decide_true]
theorem seqI(h:x a=some (.nx ρ'))(h2:y ρ'=o):mseq x y a=o:=by unfold mseq;rw[h];exact h2
theorem seqR(h:x a=some (.rt d)):mseq x y a=some (.rt d):=by unfold mseq;rw[h]
def xx5{α:Type}(I:List α->Ro->Prop)(Q:Out->Prop)(ds:List α):Out->Prop
 | .nx a=>I ds a| .ct a=>I ds a| .bk a=>Q (.nx a)| .rt d=>Q (.rt d)| .rf es=>Q (.rf es)| .rp d es=>Q (.rp d es)| .rg d p r=>Q (.rg d p r)| .rgf d p r=>Q (.rgf d p r)
theorem K5{G:Type}{g:Tg}{body:MS}{f:G->D}(I:List G->Ro->Prop)(Q:Out->Prop)
  (hs:∀d ds a,I (d::ds) a->∃ρ1 o,tgD g (f d) a=some ρ1/\body ρ1=some o/\xx5 I Q ds o) (hd:∀a,I [] a->Q (.nx a)):
  ∀(ds:List G)(a:Ro),I ds a->∃o,forD g body (ds.map f) a=some o/\Q o
 |[],a,h=>⟨.nx a,rfl,hd a h⟩
 |d::ds,a,h=>by
  obtain⟨ρ1,o,h1,h2,z⟩:=hs d ds a h;rw[bz];unfold forD;rw[h1];simp only[h2];cases o with
  |nx j=>exact K5 I Q hs hd ds j z
  |ct j=>exact K5 I Q hs hd ds j z
  |bk j=>exact⟨_,rfl,z⟩
  |rt d=>exact⟨_,rfl,z⟩
  |rf d=>exact⟨_,rfl,z⟩
  |rp d es=>exact⟨_,rfl,z⟩
  |rg d p r=>exact⟨_,rfl,z⟩
  |rgf d p r=>exact⟨_,rfl,z⟩
theorem V9{z:Type}{g:Tg}{c:MB}{j:ME}{f:z->D}{G:z->D}(I:List z->Ro->Prop)
  (hs:∀d ds a,I (d::ds) a->∃ρ1,tgD g (f d) a=some ρ1/\c ρ1=some true/\j ρ1=some (G d)/\I ds ρ1):
  ∀(ds:List z)(a:Ro)(acc:List D),I ds a->acc.length+ds.length<=sizeLine->X3 g c j (ds.map f) a acc=some (acc++ds.map G)
 |[],a,acc,h,hl=>by simp[X3]
 |d::ds,a,acc,h,hl=>by obtain⟨ρ1,h1,h2,O,N⟩:=hs d ds a h;rw[bz];unfold X3;rw[h1];simp only[h2,O];rw[bH]at hl;rw[aJ aA,V9 I hs ds ρ1 _ N (by simp;lia)];simp
def cutI{α:Type}(xs:List α)(lo hi:Option Int):List α:=(xs.drop (HT.sIx xs.length 0 lo)).take (HT.sIx xs.length xs.length hi-HT.sIx xs.length 0 lo)
theorem P5{j:Type}(f:j->D)(xs:List j)(lo hi:Option Int):cutL (xs.map f) lo hi=(cutI xs lo hi).map f:=by unfold cutL cutI;rw[aW,<-map_drop,<-map_take]
theorem zx9{j:Type}(xs:List j)(k:Nat):cutI xs (some (k:Int)) none=xs.drop k:=by
 unfold cutI;rw[HT.sIx_nat,HT.sIx_none];rcases Nat.le_total k xs.length with h|h
 .rw[Nat.min_eq_left h];exact dy aD
 .rw[Nat.min_eq_right h];simp[drop_eq_nil_of_le h]
theorem yb0{j:Type}(xs:List j)(k:Nat):cutI xs none (some (k:Int))=xs.take k:=by unfold cutI;rw[HT.sIx_nat,HT.sIx_none];simp
theorem zn3{j:Type}(xs:List j)(k l:Nat):cutI xs (some (k:Int)) (some (l:Int))=(xs.take l).drop k:=by
 unfold cutI;rw[HT.sIx_nat,HT.sIx_nat,List.drop_take];rcases Nat.le_total k xs.length with h|h
 .rw[Nat.min_eq_left h];rcases Nat.le_total l xs.length with h2|h2
  .rw[Nat.min_eq_left h2]
  .rw[Nat.min_eq_right h2,dy aD,dy (by simp;lia)]
 .rw[Nat.min_eq_right h,eu h];simp
theorem M0{j:Type}(f:j->D)(xs:List j)(k:Int)(G:0<=k)(h1:k<xs.length)(dflt:j):atI (xs.map f) k=some (f (xs.getD k.toNat dflt)):=by unfold atI ixN;rw[aW,aJ G,aJ h1];have z:k.toNat<xs.length:=aB;simp[getElem?_map,z]
theorem atI_last{j:Type}(f:j->D)(xs:List j)(x:j):atI ((xs++[x]).map f) (-1)=some (f x):=by
 unfold atI ixN;rw[aW,aI aC,aJ (by simp;lia)];have e:(-1+((xs++[x]).length:Int)).toNat=xs.length:=by simp;lia
 rw[e];simp
theorem Y5{n:Nat}(h:m (m8 n ds)=some (.rt d)):runB n m ds=some (.sh d):=by unfold runB;rw[h]
theorem zz3{n:Nat}(h:m (m8 n ds)=some (.rf d)):runB n m ds=some (.fr d):=by unfold runB;rw[h]
def after(rest:MS):Out->Option Out
 | .nx a=>rest a| .bk a=>some (.bk a)| .ct a=>some (.ct a)| .rt d=>some (.rt d)| .rf d=>some (.rf d)| .rp d es=>some (.rp d es)| .rg d p r=>some (.rg d p r)| .rgf d p r=>some (.rgf d p r)
theorem Y3(h:x a=some o):mseq x y a=after y o:=by unfold mseq;rw[h];cases o <;> rfl
theorem zc2{j:Type}{body rest:MS}{res:Option Out}{f:j->D}(ds:List j)(hi:z a=some (ds.map f))(I:List j->Ro->Prop)(Q:Out->Prop)(N:I ds a)
  (hs:∀d ds a,I (d::ds) a->∃ρ1 o,tgD g (f d) a=some ρ1/\body ρ1=some o/\xx5 I Q ds o) (hd:∀a,I [] a->Q (.nx a)) (G:∀o,Q o->after rest o=res):mseq (mfor z g body) rest a=res:=by
 obtain⟨o,e,q⟩:=K5 (g:=g) (body:=body) I Q hs hd ds a N;rw[Y3 (o:=o) (by unfold mfor;rw[hi];exact e)];exact G o q
theorem zg2(i j:Int):(if j>i then j else i)=max i j:=aA
theorem yv7(i j:Int):(if j<i then j else i)=min i j:=aA
theorem xk7(i:Int):(if i<0 then -i else i)=(i.natAbs:Int):=aA
theorem j5:1000000<=sizeLine:=by rw[show sizeLine=2^24 from rfl];decide
theorem w8{n:Nat}(h:n<=1000000):n<=sizeLine:=bE h j5
theorem G2(j n:Nat)(h:j<n):List.range' j (n-j)=j::List.range' (j+1) (n-(j+1)):=by have:n-j=(n-(j+1))+1:=aA;rw[this,range'_succ]
theorem zh8{x n:Int}(hn:0<n):0<=x % n/\x % n<n:=⟨Int.emod_nonneg _ aA,Int.emod_lt_of_pos _ hn⟩
def Run(m:MS)(a:Ro)(R:Out->Prop):Prop:=∃o,m a=some o/\R o
def wm5(rest:MS)(R:Out->Prop):Out->Prop
 | .nx a=>Run rest a R| .bk a=>R (.bk a)| .ct a=>R (.ct a)| .rt d=>R (.rt d)| .rf d=>R (.rf d)| .rp d es=>R (.rp d es)| .rg d p r=>R (.rg d p r)| .rgf d p r=>R (.rgf d p r)
theorem h6{R:Out->Prop}(h:x ρ=some (.nx ρ'))(h2:Run y ρ' R):Run (mseq x y) ρ R:=by obtain⟨o,e,r⟩:=h2;exact⟨o,seqI h e,r⟩
theorem X6{R:Out->Prop}(h:Run x a (wm5 y R)):Run (mseq x y) a R:=by
 obtain⟨o,e,r⟩:=h;cases o with
 |nx ρ'=>exact h6 e r
 |bk ρ'=>exact⟨_,Y3 e,r⟩
 |ct ρ'=>exact⟨_,Y3 e,r⟩
 |rt d=>exact⟨_,Y3 e,r⟩
 |rf d=>exact⟨_,Y3 e,r⟩
 |rp d es=>exact⟨_,Y3 e,r⟩
 |rg d z j=>exact⟨_,Y3 e,r⟩
 |rgf d z j=>exact⟨_,Y3 e,r⟩
theorem xg5{j:Type}{body:MS}{f:j->D}(ds:List j)(hi:z i=some (ds.map f))(I:List j->Ro->Prop)(Q:Out->Prop)(G:I ds i)
  (hs:∀d ds i,I (d::ds) i->∃ρ1,tgD g (f d) i=some ρ1/\Run body ρ1 (xx5 I Q ds)) (hd:∀i,I [] i->Q (.nx i)):Run (mfor z g body) i Q:=by
 obtain⟨o,e,q⟩:=K5 (g:=g) (body:=body) I Q (λd ds i h=>by obtain⟨ρ1,a,o,b,c⟩:=hs d ds i h;exact⟨ρ1,o,a,b,c⟩) hd ds i G;exact⟨o,by unfold mfor;rw[hi];exact e,q⟩
theorem Z2{body:MS}{f:Nat->D}(n:Nat)(hi:O a=some ((List.range n).map f))(I:Nat->Ro->Prop)(Q:Out->Prop)(Y:I 0 a)
  (hs:∀j a,j<n->I j a->∃ρ1,tgD g (f j) a=some ρ1/\Run body ρ1 (xx5 (λ(_:List Unit) a=>I (j+1) a) Q [])) (hd:∀a,I n a->Q (.nx a)):Run (mfor O g body) a Q:=by
 refine xg5 (List.range n) hi (I:=λks a=>∃j,j<=n/\ks=List.range' j (n-j)/\I j a) (Q:=Q) ⟨0,aA,by rw[range_eq_range'];rfl,Y⟩ ?_ ?_
 .rintro d ds a ⟨j,hj,e,h⟩;have N:j<n:=by
   rcases bq j n with z|z
   .exact z
   .rw[show n-j=0 by lia]at e;cases e
  rw[G2 j n N]at e;obtain⟨e1,e2⟩:=List.cons.inj e;subst e1;obtain⟨ρ1,a1,o,Z,G⟩:=hs d a N h;refine⟨ρ1,a1,o,Z,?_⟩;cases o with
  |nx r=>exact⟨d+1,aA,e2,G⟩
  |ct r=>exact⟨d+1,aA,e2,G⟩
  |bk r=>exact G
  |rt r=>exact G
  |rf r=>exact G
  |rp r r2=>exact G
  |rg r r2 U=>exact G
  |rgf r r2 U=>exact G
 .rintro a ⟨j,hj,e,h⟩;have:n-j=0:=by
   rcases Nat.eq_zero_or_pos (n-j)with z|z
   .exact z
   .rw[G2 j n aA]at e;cases e
  have:j=n:=aA;subst this;exact hd a h
theorem J9{i:Nat}{R:Out->Prop}(h:a[i]? =some (some (.own ds)))(h2:Run m (a.set i (some (.sh (.lst ds)))) R):Run (Q2 i m) a R:=by obtain⟨o,e,r⟩:=h2;exact⟨o,by unfold Q2;rw[h];exact e,r⟩
theorem wq6{x:Int}(h:0<=x):∃n:Nat,x=n:=⟨x.toNat,aA⟩
theorem G3(lo:Int)(n:Nat):R5 lo n=(List.range n).map λ(i:Nat)=>D.int (lo+(i:Int)):=rfl
theorem M7(n:Nat):R5 0 n=((List.range n).map λ(i:Nat)=>(i:Int)).map .int:=by rw[G3,bI];apply br;intro i _;simp
theorem S7{j:Int}(h1:-(2^62)<=j)(h2:j<2^62):okR j=true:=by unfold okR;simp only[h1,h2,decide_true,Bool.and_self]
theorem G0{j:Int}(h:okR j=true):rng1 [.int j]=some (R5 0 j.toNat):=by unfold rng1;simp only[h,if_true]
theorem zq6{i j:Int}(h:okR i=true)(h2:okR j=true):rng2 [.int i,.int j]=some (R5 i (j-i).toNat):=by unfold rng2;simp only[h,h2,Bool.and_self,if_true]
theorem C2{n:Nat}{P:List D->Prop}(h:Run m (m8 n ds) (λo=>∃es,o= .rf es/\P es)):∃es,runB n m ds=some (.fr es)/\P es:=by obtain⟨o,e,es,rfl,p⟩:=h;exact⟨es,zz3 e,p⟩
theorem xw0{i:Nat}{R:Out->Prop}(h:a[i]? =some (some (.own ds)))(h2:R (.rf ds)):Run (L9 i) a R:=⟨_,by unfold L9;rw[h],h2⟩
theorem zf2(i j:Int)(h:0<j)(h2:j<1073741824):zf3 i j=true:=by unfold zf3;simp only[h,h2,decide_true,Bool.and_self]
theorem at4(a b c d:Int)(k:Int)(j:0<=k)(h1:k<4):∃x,atI [D.int a,.int b,.int c,.int d] k=some (.int x)/\(x=a\/x=b\/x=c\/x=d):=by
 have:k=0\/k=1\/k=2\/k=3:=aA;rcases this with h|h|h|h <;> subst h
 .exact⟨_,rfl,by simp⟩
 .exact⟨_,rfl,by simp⟩
 .exact⟨_,rfl,by simp⟩
 .exact⟨_,rfl,by simp⟩
theorem at2(a b:Int)(k:Int)(j:0<=k)(h1:k<2):∃x,atI [D.int a,.int b] k=some (.int x):=by have:k=0\/k=1:=aA;rcases this with h|h <;> subst h <;> exact⟨_,rfl⟩
theorem K6:∀(a:List Int)(k:Nat),N7 k (a.map .int)=(List.range a.length).map λ(i:Nat)=>D.tup [.int ((k+i:Nat):Int),.int (a.getD i 0)]
 |[],k=>rfl
 |x::a,k=>by rw[bz,N7,K6 a (k+1),bH,cq,bz,bI];congr 1;apply br;intro i _;simp only[Function.comp,Nat.succ_eq_add_one,getD_cons_succ];rw[show k+1+i=k+(i+1)by lia]
theorem xb7(ds:List D):eqFD false (.lst ds) (.lst [])=some (.bl ds.isEmpty):=by
 unfold eqFD eqF;cases ds with
 |nil=>rfl
 |cons d ds=>rfl
theorem yc4(ds:List D):eqFD true (.lst ds) (.lst [])=some (.bl (!ds.isEmpty)):=by
 unfold eqFD eqF;cases ds with
 |nil=>rfl
 |cons d ds=>rfl
theorem xq7{j:Type}(xs:List j)(lo hi:Option Int):(cutI xs lo hi).length<=xs.length:=by unfold cutI;rw[cO,length_drop];omega
theorem yx2(n:Nat):∀xs:List Int,zipE (eqF (n+1)) (xs.map .int) (xs.map .int)=some true
 |[]=>rfl
 |x::xs=>by rw[bz,zipE,yx2 n xs];show (some (x==x)).bind _=_;rw[cJ];rfl
theorem xk3(n:Nat)(xs:List Int):eqF (n+2) (.lst (xs.map .int)) (.lst (xs.map .int))=some true:=by show (if _=_ then zipE (eqF (n+1)) (xs.map .int) (xs.map .int)else some false)=_;rw[aJ rfl,yx2]
theorem zq5{n:Nat}(h:Run m (m8 n ds) (λo=>o= .rt d)):runB n m ds=some (.sh d):=by obtain⟨o,e,rfl⟩:=h;exact Y5 e
theorem Y8(h:m a=some ds)(h2:f ds=some (.fr es)):l0 f m a=some (.lst es):=by unfold l0;rw[h];show (match f ds with |some (.sh d)=>some d|some (.fr es)=>some (D.lst es)|some (.pr d es)=>some (.tup [d,.lst es])|none=>none)=_;rw[h2]
theorem i9(h:m ρ=some ds)(h2:f ds=some (.sh d)):l0 f m ρ=some d:=by unfold l0;rw[h];show (match f ds with |some (.sh d)=>some d|some (.fr es)=>some (D.lst es)|some (.pr d es)=>some (.tup [d,.lst es])|none=>none)=_;rw[h2]
theorem z8(h:x ρ=some d)(h2:r ρ=some ds):z7 x r ρ=some (d::ds):=by unfold z7;rw[h,h2];rfl
theorem y7:anil ρ=some []:=rfl
theorem J5(a:List Int)(i:Nat)(h:i<a.length):atI (a.map D.int) (i:Int)=some (.int (a.getD i 0)):=by have:=M0 D.int a (i:Int) aA aA 0;rw[bB]at this;exact this
theorem zu9{i j:Int}(h1:x a=some (.int i))(h2:y a=some (.int j)):w5 (m2 ltD x y) a=some (decide (i<j)):=by unfold w5 m2;rw[h1,h2];rfl
theorem b9{j:Type}{g:Tg}{c:MB}{z:ME}{f:j->D}{p:j->Bool}{G:j->D}(I:List j->Ro->Prop)
  (hs:∀d ds a,I (d::ds) a->∃ρ1,tgD g (f d) a=some ρ1/\c ρ1=some (p d)/\(p d=true->z ρ1=some (G d))/\I ds ρ1):
  ∀(ds:List j)(a:Ro)(acc:List D),I ds a->acc.length+ds.length<=sizeLine->X3 g c z (ds.map f) a acc=some (acc++(ds.filter p).map G)
 |[],a,acc,h,hl=>by simp[X3]
 |d::ds,a,acc,h,hl=>by
  obtain⟨ρ1,h1,h2,O,N⟩:=hs d ds a h;rw[bH]at hl;rw[bz];unfold X3;rw[h1];simp only[h2];cases hp:p d with
  |false=>simp only;rw[b9 I hs ds ρ1 acc N aB,filter_cons,hp];rfl
  |true=>simp only[O hp];rw[aJ aB,b9 I hs ds ρ1 _ N (by simp;omega),filter_cons,hp];simp
theorem xb9(h:m a=some ds):w5 (meqB true m (v5 anil)) a=some (!ds.isEmpty):=by
 have j:0<=sizeLine:=aY _;have e:v5 anil a=some []:=by simp_arith [j,if_true]
 unfold w5 meqB;rw[h,e];simp only[Option.bind_some,yc4]
theorem O7{a b:Bool}(h1:x ρ=some a)(h2:y ρ=some b):cor x y ρ=some (a || b):=by unfold cor;rw[h1];cases a <;> simp[h2]
theorem zn8{a b:Bool}(h1:x ρ=some a)(h2:y ρ=some b):cand x y ρ=some (a&&b):=by unfold cand;rw[h1];cases a <;> simp[h2]
theorem wy6(d:D)(ds:List D):atI (d::ds) 0=some d:=by unfold atI ixN;rw[bH,aJ aC,aJ aB];rfl
theorem n9{i:Nat}(h:x a=some d):mset i x a=some (.nx (a.set i (some (.sh d)))):=by unfold mset;rw[h];rfl
theorem h8(h:m a=some ds):mlst m a=some (.lst ds):=by unfold mlst;rw[h];rfl
theorem v7(h:m ρ=some ds)(j:ds.length<=sizeLine):v5 m ρ=some ds:=by unfold v5;rw[h];show (if ds.length<=sizeLine then some ds else none)=_;rw[aJ j]
theorem n4{k:Int}(h1:m ρ=some ds)(h2:i ρ=some (.int k))(j:atI ds k=some d):mix m i ρ=some d:=by unfold mix;rw[h1,h2];exact j
theorem wz0(h:x a=some false):cand x y a=some false:=by unfold cand;rw[h]
theorem yt0(h:m a=some ds)(neg:Bool):meqB neg m (v5 anil) a=some (.bl (if neg then !ds.isEmpty else ds.isEmpty)):=by
 have j:0<=sizeLine:=aY _;have e:v5 anil a=some []:=by simp_arith [j,if_true]
 unfold meqB;rw[h,e];cases neg
 .simp only[Option.bind_some,xb7];rfl
 .simp only[Option.bind_some,yc4];rfl
theorem xb3{r:Bool}(hm:m b=some (.bl r))(z:x b=some a)(j:y b=some c):mix (v5 (z7 x (z7 y anil))) (m6 intF (z7 m anil)) b=some (if r then c else a):=by
 have i2:0+1+1<=sizeLine:=w8 aC;have e1:=v7 (z8 z (z8 j y7)) i2;have e2:m6 intF (z7 m anil) b=some (.int (if r then 1 else 0)):=by unfold m6;rw[z8 hm y7];rfl
 refine n4 e1 e2 ?_;cases r <;> rfl
theorem Y2(h:m a=some (.lst ds)):k8 m a=some ds:=by unfold k8;rw[h]
theorem X0(h1:x a=some ds)(h2:y a=some es)(j:ds.length+es.length<=sizeLine):mcat x y a=some (ds++es):=by unfold mcat;rw[h1,h2];show (if ds.length+es.length<=sizeLine then some (ds++es)else none)=_;rw[aJ j]
theorem yf1(h:m a=some ds)(j:ds.length<=sizeLine):mtup m a=some (.tup ds):=by unfold mtup;rw[v7 h j];rfl
theorem Q1(h:x a=some d):mret x a=some (.rt d):=by unfold mret;rw[h];rfl
theorem wf4:kitB "list" "list"=some true:=by decide +kernel
theorem wf5:kitB "int" "bool"=some false:=by decide +kernel
theorem yz2{j:Type}(xs:List j):xs.filter (λ_=>false)=[]:=by
 induction xs with
 |nil=>rfl
 |cons x xs z=>rw[filter_cons];exact z
theorem wo3(xs:List Int):eqFD true (.lst (xs.map .int)) (.lst (xs.map .int))=some (.bl false):=by unfold eqFD;rw[xk3 6];rfl
section
open PySem L2
noncomputable def lx:List Nat->List Nat->Bool
 |[],[]=>false
 |[],_::_=>true
 |_::_,[]=>false
 |a::l,b::m=>decide (a<b) || (a==b&&lx l m)
theorem ye3:∀l,lx l l=false
 |[]=>rfl
 |a::l=>by unfold lx;simp[ye3 l]
theorem yv9:∀{a b c:List Nat},lx a b=true->lx b c=true->lx a c=true
 |[],[],_,h,_=>by cases h
 |[],_::_,[],_,h=>by cases h
 |[],_::_,_::_,_,_=>rfl
 |_::_,[],_,h,_=>by cases h
 |_::_,_::_,[],_,h=>by cases h
 |a::l,b::m,c::k,h1,h2=>by
  unfold lx at*;simp only[Bool.or_eq_true,Bool.and_eq_true,decide_eq_true_eq,beq_iff_eq]at*;rcases h1 with h1|⟨rfl,h1⟩ <;> rcases h2 with h2|⟨rfl,h2⟩
  .exact .inl aA
  .exact .inl h1
  .exact .inl h2
  .exact .inr ⟨rfl,yv9 h1 h2⟩
theorem xm6:∀(a b:List Nat),a=b\/lx a b=true\/lx b a=true
 |[],[]=>.inl rfl
 |[],_::_=>.inr (.inl rfl)
 |_::_,[]=>.inr (.inr rfl)
 |a::l,b::m=>by
  unfold lx;simp only[Bool.or_eq_true,Bool.and_eq_true,decide_eq_true_eq,beq_iff_eq];rcases Nat.lt_trichotomy a b with h|h|h
  .exact .inr (.inl (.inl h))
  .subst h;rcases xm6 l m with h|h|h
   .exact .inl (by rw[h])
   .exact .inr (.inl (.inr ⟨rfl,h⟩))
   .exact .inr (.inr (.inr ⟨rfl,h⟩))
  .exact .inr (.inr (.inl h))
def far(s:Int)(d:Bool)(a b:Int):Prop:=if d then s<=b-a else s<=a-b
noncomputable instance (s:Int) (d:Bool) (a b:Int):Decidable (far s d a b):=by unfold far;exact inferInstance
noncomputable def Wd(x:Nat->Int)(n:Nat)(s:Int):Bool->List Nat->Prop
 |_,[]=>False
 |_,[p]=>p<n
 |d,p::q::l=>p<q/\far s d (x p) (x q)/\Wd x n s (!d) (q::l)
def Wv(x:Nat->Int)(n:Nat)(s:Int)(l:List Nat):Prop:=l=[]\/∃d,Wd x n s d l
variable {x:Nat->Int}{n:Nat}{s:Int}
theorem Wd.lt:∀{l:List Nat}{d:Bool}{p:Nat},Wd x n s d (p::l)->p<n
 |[],d,p,h=>h
 |q::l,d,p,h=>da h.1 h.2.2.lt
end
section
open PySem L2
noncomputable def dN(p:Nat):D:=.int (p:Int)
def L(l:List Nat):D:=.lst (l.map dN)
noncomputable abbrev xr(a:List Int):Nat->Int:=λi=>a.getD i 0
theorem zt0{i j:Int}(h1:x a=some (.int i))(h2:y a=some (.int j)):w5 (m2 geD x y) a=some (decide (j<=i)):=by unfold w5 m2;rw[h1,h2];rfl
theorem i6(h:m ρ=some ds):mlen m ρ=some (.int ds.length):=by unfold mlen;rw[h];rfl
theorem P9(step:Int)(h:1<=step):m_Z3 [.int step]=some (.sh .non):=by have:¬ step<1:=aA;unfold m_Z3 b_Z3;simp_arith [this,decide_false]
noncomputable def pok(n:Nat):Int->List Int->Bool
 |_,[]=>true
 |l,p::ps=>if p<l\/(n:Int)<=p then false else pok n (p+1) ps
theorem J7(a j:List Int):m_Z6 [.lst (a.map .int),.lst (j.map .int)]=some (.sh (.bl (pok a.length 0 j))):=by
 unfold m_Z6 b_Z6;refine Y5 ?_
 ((apply seqI;focus (simp_arith [];rfl)))
 refine zc2 j (f:=D.int) (by simp_arith []) (I:=λps b=>∃l x,b=[k0a a,k0a j,k0c l,x]/\pok a.length 0 j=pok a.length l ps)
  (Q:=λo=>(∃b,o= .nx b/\pok a.length 0 j=true)\/(o= .rt (.bl false)/\pok a.length 0 j=false)) ⟨0,none,rfl,rfl⟩ ?_ ?_ ?_
 .rintro p ps b ⟨l,x,rfl,e⟩;simp only[pok]at e;by_cases h1:p<l
  .rw[aJ (Or.inl h1)]at e;exact⟨_,.rt (.bl false),rfl,by unfold zm2;simp_arith [length_map,h1,decide_true],Or.inr ⟨rfl,e⟩⟩
  .by_cases h2:(a.length:Int)<=p
   .rw[aJ (Or.inr h2)]at e;exact⟨_,.rt (.bl false),rfl,by unfold zm2;simp_arith [length_map,h1,h2,decide_true,decide_false],Or.inr ⟨rfl,e⟩⟩
   .rw[aI aA]at e;exact⟨_,.nx _,rfl,by unfold zm2;simp_arith [length_map,h1,h2,decide_true,decide_false];rfl,_,_,rfl,e⟩
 .rintro b ⟨l,x,rfl,e⟩;exact Or.inl ⟨_,rfl,e⟩
 .rintro o (⟨b,rfl,e⟩|⟨rfl,e⟩)
  .rw[e];rfl
  .rw[e];rfl
noncomputable def turn(t:Int×Int×Int):Bool:=decide (max t.1 t.2.2<t.2.1) || decide (t.2.1<min t.1 t.2.2)
noncomputable def trip:List Int->List (Int×Int×Int)
 |a::b::c::r=>(a,b,c)::trip (b::c::r)
 |_=>[]
theorem zu3:∀ns:List Int,D2 (ns.map .int) ((ns.drop 1).map .int) ((ns.drop 2).map .int)=(trip ns).map λt=>.tup [.int t.1,.int t.2.1,.int t.2.2]
 |[]=>rfl
 |[_]=>rfl
 |[_,_]=>rfl
 |a::b::c::r=>by have:=zu3 (b::c::r);simp only[drop_succ_cons,drop_zero,map_cons]at this;simp only[drop_succ_cons,drop_zero,map_cons,trip,D2,List.cons.injEq,true_and];exact this
theorem zc0(ns:List Int):xs7 [.lst (ns.map .int)]=some (.sh (.int (((trip ns).filter turn).length:Nat))):=by
 unfold xs7 wy5;refine Y5 ?_
 ((apply seqI;focus (simp_arith [];rfl)))
 have h1:cutI ns (some 1) none=ns.drop 1:=zx9 ns 1;have h2:cutI ns (some 2) none=ns.drop 2:=zx9 ns 2;refine zc2 (trip ns) (f:=λt=>.tup [.int t.1,.int t.2.1,.int t.2.2]) (by simp_arith [P5,h1,h2,zu3]) (I:=λG d=>∃k:Nat,∃x y z,d=[k0a ns,some (.sh (.int (k:Nat))),x,y,z]/\((trip ns).filter turn).length=k+(G.filter turn).length)
  (Q:=λo=>∃x y z,o= .nx [k0a ns,some (.sh (.int (((trip ns).filter turn).length:Nat))),x,y,z]) ⟨0,none,none,none,rfl,by simp⟩ ?_ ?_ ?_
 .rintro⟨a,b,c⟩ G d ⟨k,x,y,z,rfl,e⟩;refine⟨_,.nx [k0a ns,some (.sh (.int ((k+if turn (a,b,c)then 1 else 0:Nat):Nat))),k0c a,k0c b,k0c c],rfl,?_,?_⟩
  .unfold ys3;by_cases j:max a c<b
   .have t:turn (a,b,c)=true:=by unfold turn;simp[j]
    simp_arith [zg2,yv7,j,decide_true,t,if_true];simp
   .by_cases q2:b<min a c
    .have t:turn (a,b,c)=true:=by unfold turn;simp[q2]
     simp_arith [zg2,yv7,j,q2,decide_true,decide_false,t,if_true];simp
    .have t:turn (a,b,c)=false:=by unfold turn;simp[j,q2]
     simp_arith [zg2,yv7,j,q2,decide_true,decide_false,t,if_true];simp
  .refine⟨_,_,_,_,rfl,?_⟩;rw[e,filter_cons];split <;> simp_all <;> lia
 .rintro d ⟨k,x,y,z,rfl,e⟩;exact⟨x,y,z,by rw[e];simp⟩
 .rintro o ⟨x,y,z,rfl⟩;unfold after;simp_arith []
noncomputable def num(a:List Int)(p:Int):Int:=a.getD p.toNat 0
noncomputable def P7(ns:List Int):List (Int×Int):=ns.zip (ns.drop 1)
noncomputable def V8(step:Int)(p:Int×Int):Bool:=decide (step<=((p.2-p.1).natAbs:Int))
def areW(a:List Int)(step:Int)(places:List Int):Bool:=
 pok a.length 0 places&&((P7 (places.map (num a))).all (V8 step)&&decide ((((trip (places.map (num a))).filter turn).length:Int)=max 0 ((places.length:Int)-2)))
theorem yi6{n:Nat}:∀{l:Int}{ps:List Int},0<=l->pok n l ps=true->∀p∈ps,0<=p/\p<n
 |l,[],_,_,p,hp=>by simp at hp
 |l,q::ps,hl,h,p,hp=>by
  simp only[pok]at h;split at h
  .cases h
  .rename_i hn;rcases ba.mp hp with rfl|hp
   .omega
   .exact yi6 aB h p hp
theorem zk7:∀(j bs:List Int),List.zipWith (λd e=>D.tup [d,e]) (j.map .int) (bs.map .int)=(j.zip bs).map λp=>.tup [.int p.1,.int p.2]
 |[],_=>by simp
 |_::_,[]=>by simp
 |a::j,b::bs=>by simp[zk7 j bs]
theorem zv9(ns:List Int)(step:Int):m_Z1 [.lst (ns.map .int),.int step]=some (.sh (.bl ((P7 ns).all (V8 step)&&decide ((((trip ns).filter turn).length:Int)=max 0 ((ns.length:Int)-2))))):=by
 unfold m_Z1 b_Z1;refine Y5 ?_;have j:cutI ns (some 1) none=ns.drop 1:=zx9 _ 1;refine zc2 (P7 ns) (f:=λp=>.tup [.int p.1,.int p.2]) (by simp_arith [P5,j,zk7];rfl)
  (I:=λps c=>∃x y,c=[k0a ns,k0c step,x,y]/\(P7 ns).all (V8 step)=ps.all (V8 step))
  (Q:=λo=>(∃x y,o= .nx [k0a ns,k0c step,x,y]/\(P7 ns).all (V8 step)=true)\/(o= .rt (.bl false)/\(P7 ns).all (V8 step)=false))
  ⟨none,none,rfl,rfl⟩ ?_ ?_ ?_
 .rintro⟨a,b⟩ ps c ⟨x,y,rfl,e⟩;rw[all_cons]at e;by_cases h2:((b-a).natAbs:Int)<step
  .have hf:V8 step (a,b)=false:=by unfold V8;exact aQ aA
   rw[hf,Bool.false_and]at e;exact⟨_,.rt (.bl false),rfl,by unfold yy6;simp_arith [xk7,h2,decide_true],Or.inr ⟨rfl,e⟩⟩
  .have hf:V8 step (a,b)=true:=by unfold V8;exact aV aA
   rw[hf,dQ]at e;exact⟨_,.nx _,rfl,by unfold yy6;simp_arith [xk7,h2,decide_false];rfl,_,_,rfl,e⟩
 .rintro c ⟨x,y,rfl,e⟩;exact Or.inl ⟨x,y,rfl,e⟩
 .rintro o (⟨x,y,rfl,e⟩|⟨rfl,e⟩)
  .rw[e,dQ];unfold after;simp_arith [zc0,length_map,zg2];rfl
  .rw[e];rfl
theorem yy8(a j:List Int)(step:Int)(h1:1<=step)(N:j.length<sizeLine):ye2 [.lst (a.map .int),.int step,.lst (j.map .int)]=some (.sh (.bl (areW a step j))):=by
 unfold ye2 wy3 areW;refine Y5 ?_;refine seqI (ρ':=[k0a a,k0c step,k0a j]) (by simp_arith [P9 step h1];rfl) ?_;cases hp:pok a.length 0 j with
 |false=>simp_arith [J7,hp];rfl
 |true=>
  have hm:=yi6 (Int.le_refl 0) hp;have hc:d6 [none,some 0] (k8 (mvar 2)) (.nm 0) cyes (mix (bvar 1) (mvar 0)) [k0a a,k0c step,k0a j]=some ((j.map (num a)).map .int):=by
   unfold d6;simp_arith [G8];rw[V9 (f:=D.int) (G:=λp=>D.int (num a p)) (λps b=>∃x,b=[x,k0a a]/\∀p∈ps,0<=p/\p<a.length)
    (by rintro p ps b ⟨x,rfl,hh⟩;have:=hh p aD;exact⟨_,rfl,rfl,by simp_arith [M0 D.int a p this.1 this.2 0];rfl,_,rfl,λq z=>hh q (by simp[z])⟩) j _ [] ⟨none,rfl,hm⟩ (by simp;lia)]
   simp
  simp_arith [J7,hp,hc,zv9,length_map,Bool.true_and]
def P6(a:List Int)(step:Int):Int->Option Bool->List Int->Bool
 |_,_,[]=>true
 |last,way,p::ps=>if p<=last\/(a.length:Int)<=p then false else
  if -1<last then (if ((num a p-num a last).natAbs:Int)<step\/way=some (decide (0<num a p-num a last))then false else P6 a step p (some (decide (0<num a p-num a last))) ps)
  else P6 a step p way ps
noncomputable def altW(step:Int):Option Bool->List Int->Bool
 |way,a::b::r=>if ((b-a).natAbs:Int)<step\/way=some (decide (0<b-a))then false else altW step (some (decide (0<b-a))) (b::r)
 |_,_=>true
theorem zu7(a:List Int)(step:Int):∀(ps:List Int)(last:Int)(way:Option Bool),0<=last->P6 a step last way ps=(pok a.length (last+1) ps&&altW step way (num a last::ps.map (num a)))
 |[],last,way,h=>by simp[P6,pok,altW]
 |p::ps,last,way,h=>by
  simp only[P6,pok,altW,map_cons];by_cases h1:p<=last\/(a.length:Int)<=p
  .rw[aJ h1,aJ aB];rfl
  .rw[aI h1,aJ (show -1<last by omega),aI (show ¬ (p<last+1\/(a.length:Int)<=p)by omega)];by_cases h2:((num a p-num a last).natAbs:Int)<step\/way=some (decide (0<num a p-num a last))
   .rw[aJ h2,aJ h2,Bool.and_false]
   .rw[aI h2,aI h2,zu7 a step ps p _ aA]
theorem zd3(a:List Int)(step:Int)(ps:List Int):P6 a step (-1) none ps=(pok a.length 0 ps&&altW step none (ps.map (num a))):=by
 cases ps with
 |nil=>rfl
 |cons p ps=>
  simp only[P6,pok,map_cons];by_cases h1:p<= -1\/(a.length:Int)<=p
  .rw[aJ h1,aJ aB];rfl
  .rw[aI h1,aI (show ¬ (-1:Int) < -1 by lia),aI (show ¬ (p<0\/(a.length:Int)<=p)by omega),zu7 a step ps p none aA]
theorem zz0:∀ns:List Int,(trip ns).length=ns.length-2
 |[]=>rfl
 |[_]=>rfl
 |[_,_]=>rfl
 |a::b::c::r=>by have:=zz0 (b::c::r);simp only[trip,length_cons]at this ⊢;lia
theorem yp8(j:List (Int×Int×Int))(n:Nat)(h:j.length=n-2):decide (((j.filter turn).length:Int)=max 0 ((n:Int)-2))=j.all turn:=by
 have e:max 0 ((n:Int)-2)=(j.length:Int):=aA;rw[e];have:((((j.filter turn).length:Int)=(j.length:Int))↔j.all turn=true):=by rw[Int.natCast_inj,length_filter_eq_length_iff,all_eq_true]
 cases h2:j.all turn with
 |true=>exact aV (this.mpr h2)
 |false=>exact aQ λz=>by rw[this.mp z]at h2;cases h2
theorem zd1(step:Int)(hs:1<=step):∀(r:List Int)(a b:Int),step<=((b-a).natAbs:Int)->altW step (some (decide (0<b-a))) (b::r)=((P7 (b::r)).all (V8 step)&&(trip (a::b::r)).all turn)
 |[],a,b,h=>by simp[altW,P7,trip]
 |c::r,a,b,h=>by
  have j:=zd1 step hs r b c;have hp:P7 (b::c::r)=(b,c)::P7 (c::r):=by simp[P7]
  simp only[altW,hp,trip,all_cons];by_cases h1:((c-b).natAbs:Int)<step
  .rw[aJ (Or.inl h1)];have:V8 step (b,c)=false:=by unfold V8;exact aQ (by simp only;omega)
   rw[this];rfl
  .have hf:V8 step (b,c)=true:=by unfold V8;exact aV (by simp only;omega)
   rw[hf,dQ];by_cases h2:some (decide (0<b-a))=some (decide (0<c-b))
   .rw[aJ (Or.inr h2)];have z:(0<b-a)↔(0<c-b):=by simpa using h2
    have:turn (a,b,c)=false:=by unfold turn;simp only[Bool.or_eq_false_iff,decide_eq_false_iff_not];omega
    rw[this,Bool.false_and,Bool.and_false]
   .rw[aI (by simp only[h1,h2,or_self,not_false_eq_true]),j aB];have z:¬ ((0<b-a)↔(0<c-b)):=by simpa using h2
    have:turn (a,b,c)=true:=by unfold turn;simp only[Bool.or_eq_true,decide_eq_true_eq];omega
    rw[this,dQ]
theorem xz6(step:Int)(hs:1<=step)(ns:List Int):altW step none ns=((P7 ns).all (V8 step)&&(trip ns).all turn):=by
 match ns with
 |[]=>rfl
 |[a]=>simp[altW,P7,trip]
 |a::b::r=>
  have hp:P7 (a::b::r)=(a,b)::P7 (b::r):=by simp[P7]
  simp only[altW,hp,all_cons];by_cases h1:((b-a).natAbs:Int)<step
  .rw[aJ (Or.inl h1)];have:V8 step (a,b)=false:=by unfold V8;exact aQ (by simp only;omega)
   rw[this];rfl
  .have hf:V8 step (a,b)=true:=by unfold V8;exact aV (by simp only;omega)
   rw[aI (by simp[h1]),hf,dQ,zd1 step hs r a b aB]
theorem xz3(a j:List Int)(step:Int)(hs:1<=step):areW a step j=P6 a step (-1) none j:=by unfold areW;rw[zd3,xz6 step hs,yp8 _ j.length (by rw[zz0];simp)]
noncomputable def NI(cs:List Nat):List Int:=cs.map λ(c:Nat)=>(c:Int)
theorem yf0(a:List Int)(p:Nat):num a (p:Int)=xr a p:=by unfold num;rw[bB]
theorem xb6{s:Int}(hs:1<=s){d:Bool}{a b:Int}(h:far s d a b):¬ ((b-a).natAbs:Int)<s/\decide (0<b-a)=d:=by
 unfold far at h;cases d
 .simp only[Bool.false_eq_true,if_false]at h;exact⟨aA,aQ aA⟩
 .simp only[if_true]at h;exact⟨aA,aV aA⟩
theorem zs3{s:Int}{a b:Int}(h:¬ ((b-a).natAbs:Int)<s):far s (decide (0<b-a)) a b:=by
 unfold far;by_cases z:0<b-a
 .rw[aV z];simp;omega
 .rw[aQ z];simp;omega
variable {x y:Nat->Int}{n k:Nat}{s t:Int}
end
section
open PySem L2
theorem d5(h:m a=some d):mpu m a=some (d,a):=by unfold mpu;rw[h]
theorem Q6(h:m ρ=some d):apu m ρ=some (d,ρ):=by unfold apu;rw[h]
theorem X1{f:D->D->Option D}(h1:x a=some (d,ρ1))(h2:y ρ1=some (e,j))(z:f d e=some g):m2m f x y a=some (g,j):=by unfold m2m;rw[h1];simp only;rw[h2];simp only;rw[z]
theorem n5(h1:x a=some (d,ρ1))(h2:r ρ1=some (ds,j)):t4 x r a=some (d::ds,j):=by unfold t4;rw[h1];simp only;rw[h2]
theorem C6(h:m a=some (ds,ρ1))(j:ds.length<=sizeLine):D8 m a=some (.lst ds,ρ1):=by unfold D8;rw[h];simp only[j,if_true]
theorem ze6{f:List D->Option D}(h:m a=some (ds,ρ1))(h2:f ds=some d):D1 f m a=some (d,ρ1):=by unfold D1;rw[h];simp only;rw[h2]
theorem f9{i:Nat}(h:x ρ=some (d,ρ1)):W3 i x ρ=some (.nx (ρ1.set i (some (.sh d)))):=by unfold W3;rw[h]
theorem xt5{i:Nat}(h:x a=some (d,ρ1))(h2:ρ1[i]? =some (some (.ob p r))):zv1 i x a=some (.rg d p r):=by unfold zv1;rw[h];simp only;rw[h2]
theorem yf8{i:Nat}(N:a[i]? =some (some (.ob p r2)))(h1:m a=some (ds,ρ1))(h2:ρ1[i]? =some (some (.ob p r0)))(G:f p r0 ds=some (t,j))(z:rtD t=some d):u6 f i m a=some (d,ρ1.set i (some (.ob p j))):=by unfold u6;rw[N];simp only;rw[h1];simp only;rw[h2];simp only;rw[G];simp only;rw[z]
theorem P3{i:Nat}(N:ρ[i]? =some (some (.own r2)))(h1:m ρ=some (ds,ρ1))(h2:ρ1[i]? =some (some (.own r0)))(G:∀p,f p r0 ds=some (t,j))(z:rtD t=some d):u6 f i m ρ=some (d,ρ1.set i (some (.own j))):=by unfold u6;rw[N];simp only;rw[h1];simp only;rw[h2];simp only;rw[wy7 G];simp only;rw[z]
def URun(m:MS)(a:Addr->Ro)(R:(Addr->Out)->Prop):Prop:=∃o,(∀p,m (a p)=some (o p))/\R o
theorem Z0{a ρ':Addr->Ro}{R:(Addr->Out)->Prop}(h:∀p,x (a p)=some (.nx (ρ' p)))(h2:URun y ρ' R):URun (mseq x y) a R:=by obtain⟨o,e,r⟩:=h2;exact⟨o,λp=>seqI (h p) (e p),r⟩
theorem ym6{a:Addr->Ro}{R:(Addr->Out)->Prop}(h:URun x a (λo=>∃ρ',(o=λp=>.nx (ρ' p))/\URun y ρ' R)):URun (mseq x y) a R:=by obtain⟨o,e,ρ',rfl,h2⟩:=h;exact Z0 e h2
theorem wi0{a:Addr->Ro}{R:(Addr->Out)->Prop}{b:Bool}(h:∀p,c (a p)=some b)(h2:URun (if b then x else y) a R):URun (mif c x y) a R:=by obtain⟨o,e,r⟩:=h2;refine⟨o,λp=>?_,r⟩;unfold mif;rw[h p];cases b <;> exact e p
theorem xj9{a:Addr->Ro}{R:(Addr->Out)->Prop}(h:R λp=>.nx (a p)):URun f7 a R:=⟨_,λ_=>rfl,h⟩
theorem ym7{a ρ':Addr->Ro}{R:(Addr->Out)->Prop}(h:∀p,x (a p)=some (.nx (ρ' p)))(h2:R λp=>.nx (ρ' p)):URun x a R:=⟨_,h,h2⟩
theorem xi0{body:MS}{a:Addr->Ro}{f:Nat->D}{R:(Addr->Out)->Prop}(n:Nat)(hi:∀p,U (a p)=some ((List.range n).map f))(I:Nat->(Addr->Ro)->Prop)(h0:I 0 a)
  (hs:∀j a,j<n->I j a->∃ρ1,(∀p,tgD g (f j) (a p)=some (ρ1 p))/\URun body ρ1 (λo=>∃z,(o=λp=>.nx (z p))/\I (j+1) z)) (hd:∀a,I n a->R (λp=>.nx (a p))):URun (mfor U g body) a R:=by
 have G:∀(k j:Nat)(a:Addr->Ro),n-j=k->j<=n->I j a->∃ρ',(∀p,forD g body ((List.range' j k).map f) (a p)=some (.nx (ρ' p)))/\I n ρ':=by
  intro k;induction k with
  |zero=>intro j a Z hj h;have:j=n:=aB;subst this;exact⟨a,λ_=>rfl,h⟩
  |succ k Y=>intro j a Z hj h;obtain⟨ρ1,a1,o,a2,z,rfl,a3⟩:=hs j a aB h;obtain⟨ρ',O,N⟩:=Y (j+1) z aB aB a3;refine⟨ρ',λp=>?_,N⟩;rw[range'_succ,bz];unfold forD;rw[a1 p];simp only[a2 p];exact O p
 obtain⟨ρ',O,N⟩:=G n 0 a aB aB h0;refine⟨_,λp=>?_,hd ρ' N⟩;unfold mfor;rw[hi p,range_eq_range'];exact O p
theorem yj2{n:Nat}(h:m (X5 n p r ds)=some (.rg d p j)):runG n m p r ds=some (.sh d,j):=by unfold runG;rw[h];simp only[if_true]
theorem xw1{n:Nat}(h:m (X5 n p r ds)=some (.rgf es p j)):runG n m p r ds=some (.fr es,j):=by unfold runG;rw[h];simp only[if_true]
noncomputable def RL(a b:Int):List D:=[.int a,.int b]
noncomputable def tkX(a b m:Int):Int:=if 10^18<=a then a % m else ((((b*48271+11) % 2147483647)*((b*48271+11) % 2147483647) % 2147483629)*69621 % 2147483587 / 8) % m
noncomputable def tkA(a m:Int):Int:=if 10^18<=a then a / m else a
noncomputable def tkB(a b:Int):Int:=if 10^18<=a then b else (b*48271+11) % 2147483647
theorem R4(a b m:Int)(h:0<m):0<=tkX a b m:=by unfold tkX;split <;> exact Int.emod_nonneg _ aB
theorem D3(a b m:Int)(h:0<m):tkX a b m<m:=by unfold tkX;split <;> exact Int.emod_lt_of_pos _ h
def FB(m:Int):Prop:=m.natAbs<2^400
theorem xq2{m:Int}(h:0<m)(h2:m<1073741824):FB m:=by unfold FB;exact da (show m.natAbs<2^30 by omega) (Nat.pow_lt_pow_right aC aC)
theorem yw1(p:Addr)(a b m:Int)(h:0<m)(h2:FB m):i7 p (RL a b) [.int m]=some (.sh (.int (tkX a b m)),RL (tkA a m) (tkB a b)):=by
 unfold i7;refine yj2 ?_;have hp:((10:Int)^(18:Int).toNat)=10^18:=rfl;have z:zi5 10 18=true:=by decide
 have G:∀x y:Int,atI [D.int x,D.int y] 0=some (.int x):=λ_ _=>rfl;have c1:∀x y:Int,atI [D.int x,D.int y] 1=some (.int y):=λ_ _=>rfl;have Z:ixN (0+1+1) 0=some 0:=rfl;have Y:ixN (0+1+1) 1=some 1:=rfl;unfold zm9;by_cases j:10^18<=a
 .have e:zm9 (X5 4 p (RL a b) [.int m])=some (.rg (.int (a % m)) p (RL (a / m) b)):=by unfold zm9 X5 RL;simp_arith [hp,z,G,j,decide_true,if_true,T7 a m h,yu9,int2,yc1 (i:=a) h h2,Z,zv1,mpu,set_cons_zero]
  unfold zm9 at e;rw[e];unfold tkX tkA tkB;rw[aJ j,aJ j,aJ j]
 .have q3:∀i,zh9 i 2147483647=true:=λi=>T7 _ _ aC;have U:∀i,zh9 i 2147483629=true:=λi=>T7 _ _ aC;have O:∀i,zh9 i 2147483587=true:=λi=>T7 _ _ aC;have N:∀i,zh9 i m=true:=λi=>T7 _ _ h;have f8:∀i,zf3 i 8=true:=λi=>zf2 _ _ aC aC;have m1:L7 b 48271=true:=zb4 _ _ aC aC;have bb:=zh8 (x:=b*48271+11) (show (0:Int)<2147483647 by decide);have m2:L7 ((b*48271+11) % 2147483647) ((b*48271+11) % 2147483647)=true:=zo5 _ _ aB aB;have m3:∀i,L7 i 69621=true:=λi=>zb4 _ _ aC aC;have e:zm9 (X5 4 p (RL a b) [.int m])=some (.rg (.int (((((b*48271+11) % 2147483647)*((b*48271+11) % 2147483647) % 2147483629)*69621 % 2147483587 / 8) % m)) p (RL a ((b*48271+11) % 2147483647))):=by unfold zm9 X5 RL;simp_arith [hp,z,G,c1,j,decide_false,if_true,q3,U,O,N,f8,m1,m2,m3,Y,zv1,mpu,set_cons_zero,set_cons_succ]
  unfold zm9 at e;rw[e];unfold tkX tkA tkB;rw[aI j,aI j,aI j]
theorem yk4(p:Addr)(a b m:Int)(h:0<m)(h2:m<1073741824):i7 p (RL a b) [.int m]=some (.sh (.int (tkX a b m)),RL (tkA a m) (tkB a b)):=yw1 p a b m h (xq2 h h2)
theorem xi3{a b m:Int}(j:ρ[0]? =some (some (.ob p (RL a b))))(z:x ρ=some (.int m))(h:0<m)(h2:m<1073741824):u6 i7 0 (apu (z7 x anil)) ρ=some (.int (tkX a b m),ρ.set 0 (some (.ob p (RL (tkA a m) (tkB a b))))):=
 yf8 j (Q6 (z8 z y7)) j (yk4 p a b m h h2) rfl
theorem d9{a b m:Int}{tl:List (Option S)}(j:x (some (.ob p (RL a b))::tl)=some (.int m))(h:0<m)(h2:m<1073741824):u6 i7 0 (apu (z7 x anil)) (some (.ob p (RL a b))::tl)=some (.int (tkX a b m),some (.ob p (RL (tkA a m) (tkB a b)))::tl):=
 xi3 (ρ:=some (.ob p (RL a b))::tl) rfl j h h2
def envR(p:Addr)(a b most many kind span:Int)(f:List Int)(o6 o7:Option S):Ro:=[some (.ob p (RL a b)),k0c most,k0c many,k0c kind,k0c span,some (.own (f.map .int)),o6,o7]
theorem at3(x y z:Int)(k:Int)(j:0<=k)(h1:k<3):∃w,atI [D.int x,.int y,.int z] k=some (.int w)/\(w=x\/w=y\/w=z):=by
 have:k=0\/k=1\/k=2:=aA;rcases this with h|h|h <;> subst h
 .exact⟨_,rfl,by simp⟩
 .exact⟨_,rfl,by simp⟩
 .exact⟨_,rfl,by simp⟩
theorem zp7{c:Int}{kind:Int}{env:Addr->Int->Ro}{x:Int}(P:Int->Prop)(G:∀p x,mvar 3 (env p x)=some (.int kind))(j:∀p x y,(env p x).set 7 (k0c y)=env p y)(z:kind≠c->P x)(N:kind=c->∃y,P y/\∀p,E (env p x)=some (.int y)):
  ∃y,P y/\∀p,mif (w5 (m2 eqSD (mvar 3) (mc (.int c)))) (mset 7 E) f7 (env p x)=some (.nx (env p y)):=by
 have ht:∀p,w5 (m2 eqSD (mvar 3) (mc (.int c))) (env p x)=some (kind==c):=λp=>by unfold w5 m2;rw[G p x];rfl
 by_cases h:kind=c
 .obtain⟨y,py,hy⟩:=N h;refine⟨y,py,λp=>?_⟩;unfold mif;rw[ht p,show (kind==c)=true by rw[h];exact cJ _];show mset 7 E (env p x)=_;rw[n9 (hy p),j]
 .refine⟨x,z h,λp=>?_⟩;unfold mif;rw[ht p,dO.mpr h];rfl
theorem xw2(a b j many kind span:Int)(f:List Int)(k:Nat)(o7:Option S)(hs:0<span)(ac:span<=100)(hf:f.length<1000):
  ∃a' b' x,URun A6 (λp=>envR p a b j many kind span f (k0b k) o7) (λo=>o=λp=>.nx (envR p a' b' j many kind span (f++[x]) (k0b k) (k0c x))):=by
 have ad:=j5;have O:=R4 a b span hs;have U:=D3 a b span hs;generalize ab:tkA a span=a1;generalize aa:tkB a b=b1;have N:∀p,W3 7 (u6 i7 0 (apu (z7 (mvar 4) anil))) (envR p a b j many kind span f (k0b k) o7)=some (.nx (envR p a1 b1 j many kind span f (k0b k) (some (.sh (.int (tkX a b span)))))):=λp=>by rw[<-ab,<-aa];exact(f9 (d9 (x:=mvar 4) (m:=span) rfl hs aA)).trans rfl
 generalize tkX a b span=x0 at O U N
 let env:Addr->Int->Ro:=λp x=>envR p a1 b1 j many kind span f (k0b k) (k0c x)
 have hk:∀p x,mvar 3 (env p x)=some (.int kind):=λ_ _=>rfl;have z:∀p x y,(env p x).set 7 (k0c y)=env p y:=λ_ _ _=>rfl;have i2:0+1+1<=sizeLine:=w8 aC;have a3:(10:Int)^(27:Int).toNat=1000000000000000000000000000:=by decide
 have a4:(10:Int)^(26:Int).toNat=100000000000000000000000000:=by decide
 have a5:zi5 10 27=true:=by decide
 have a6:zi5 10 26=true:=by decide
 obtain⟨x1,⟨l1,u1⟩,s1⟩:=zp7 (c:=1) (E:=m2 subD (mvar 7) (m2 yp9 (mvar 4) (mc (.int 2)))) (env:=env) (x:=x0) (λy=>-1000<=y/\y<=1000) hk z (λ_=>by lia)
  (λ_=>⟨x0-span / 2,aA,λp=>by show m2 subD _ _ (envR _ _ _ _ _ _ _ _ _ _)=_;unfold envR;simp_arith [zf2 span 2 aC aC,if_true]⟩)
 have a9:L7 x1 1000000000000000000000000000=true:=zo5 _ _ aA aA;have a8:L7 span 100000000000000000000000000=true:=zo5 _ _ aA aA;obtain⟨x2,_,s2⟩:=zp7 (c:=2) (E:=m2 subD (m2 mulD (mvar 7) (m2 powD (mc (.int 10)) (mc (.int 27)))) (m2 mulD (mvar 4) (m2 powD (mc (.int 10)) (mc (.int 26))))) (env:=env) (x:=x1) (λ_=>True) hk z (λ_=>True.intro)
  (λ_=>⟨x1*1000000000000000000000000000-span*100000000000000000000000000,True.intro,λp=>by show m2 subD _ _ (envR _ _ _ _ _ _ _ _ _ _)=_;unfold envR;simp_arith [a3,a4,a5,a6,a9,a8,if_true]⟩)
 have Y:=zh8 (x:=(k:Int)) (show (0:Int)<2 by decide);obtain⟨y3,e3⟩:=at2 x2 (span+x2) ((k:Int) % 2) Y.1 Y.2;obtain⟨x3,_,s3⟩:=zp7 (c:=3) (E:=mix (v5 (z7 (mvar 7) (z7 (m2 addD (mvar 4) (mvar 7)) anil))) (m2 modD (mvar 6) (mc (.int 2)))) (env:=env) (x:=x2) (λ_=>True) hk z (λ_=>True.intro)
  (λ_=>⟨y3,True.intro,λp=>by show mix _ _ (envR _ _ _ _ _ _ _ _ _ _)=_;unfold envR;simp_arith [i2,if_true,T7 (k:Int) 2 aC,e3]⟩)
 obtain⟨G,_,s4⟩:=zp7 (c:=4) (E:=m2 addD (mvar 7) (mvar 6)) (env:=env) (x:=x3) (λ_=>True) hk z (λ_=>True.intro)
  (λ_=>⟨x3+k,True.intro,λp=>by show m2 addD _ _ (envR _ _ _ _ _ _ _ _ _ _)=_;unfold envR;simp_arith []⟩)
 have lf:(f.map D.int).length<sizeLine:=by simp;lia
 have fin:∀a2 b2 x,URun (mapp 5 (mvar 7)) (λp=>envR p a2 b2 j many kind span f (k0b k) (k0c x)) (λo=>o=λp=>.nx (envR p a2 b2 j many kind span (f++[x]) (k0b k) (k0c x))):=λa2 b2 x=>
  ym7 (ρ':=λp=>envR p a2 b2 j many kind span (f++[x]) (k0b k) (k0c x)) (λp=>by unfold envR;simp_arith [lf,if_true,map_append]) rfl
 have Z:∀p,w5 (m2 eqSD (mvar 3) (mc (.int 5))) (env p G)=some (kind==5):=λp=>by unfold w5 m2;rw[hk p G];rfl
 by_cases h5:kind=5
 .have t4lo:=R4 a1 b1 4 aC;have a7:L7 (if (tkX a1 b1 4==0)=true then 1 else 0) G=true:=zo5 _ _ (by split <;> decide) (by split <;> decide);refine⟨tkA a1 4,tkB a1 b1,(if (tkX a1 b1 4==0)=true then 1 else 0)*G,?_⟩;unfold A6;refine Z0 N (Z0 s1 (Z0 s2 (Z0 s3 (Z0 s4 (Z0 (ρ':=λp=>envR p (tkA a1 4) (tkB a1 b1) j many kind span f (k0b k) (some (.sh (.int ((if (tkX a1 b1 4==0)=true then 1 else 0)*G))))) (λp=>?_) (fin _ _ _))))));unfold mif;rw[Z p,show (kind==5)=true by rw[h5];rfl];show W3 7 _ (env p G)=_;refine(f9 (X1 (ze6 (n5 (X1 (d9 (x:=mc (.int 4)) (m:=4) rfl aC aC) (d5 (d:=.int 0) rfl) (g:=.bl (tkX a1 b1 4==0)) rfl) (Q6 (d:=[]) rfl)) (d:=.int (if (tkX a1 b1 4==0)=true then 1 else 0)) rfl) (d5 (d:=.int G) rfl) (g:=.int ((if (tkX a1 b1 4==0)=true then 1 else 0)*G)) ?_)).trans rfl;show (if L7 _ _=true then _ else none)=_;rw[aJ a7]
 .refine⟨a1,b1,G,?_⟩;unfold A6;refine Z0 N (Z0 s1 (Z0 s2 (Z0 s3 (Z0 s4 (Z0 (ρ':=λp=>env p G) (λp=>?_) (fin a1 b1 G))))));unfold mif;rw[Z p,dO.mpr h5];rfl
theorem wu4(a b:Int)(z:Nat)(hm:z<=300):∃(f:List Int)(N b':Int),f.length<=300/\∀p,xc4 p (RL a b) [.int z]=some (.fr (f.map .int),RL N b'):=by
 suffices h:URun xp3 (λp=>X5 8 p (RL a b) [.int z]) (λo=>∃(f:List Int)(N b':Int),f.length<=300/\o=λp=>.rgf (f.map .int) p (RL N b'))by obtain⟨o,e,f,N,b',O,rfl⟩:=h;exact⟨f,N,b',O,λp=>xw1 (e p)⟩
 have i0:0<=sizeLine:=aY _;have i3:[D.int (tkX a b ((z:Int)+1)),D.int (z:Int),D.int (tkX (tkA a ((z:Int)+1)) (tkB a b) (min (z:Int) 4+1))].length<=sizeLine:=w8 aD;have i4:0+1+1+1+1<=sizeLine:=w8 aC;have Y:(0:Int)<(z:Int)+1:=aA;have U:(0:Int)<min (z:Int) 4+1:=aA;have l1:=R4 a b ((z:Int)+1) Y;have u1:=D3 a b ((z:Int)+1) Y;generalize a9:tkA a ((z:Int)+1)=A1 at i3;generalize a4:tkB a b=B1 at i3;have l2:=R4 A1 B1 (min (z:Int) 4+1) U;have u2:=D3 A1 B1 (min (z:Int) 4+1) U;generalize a8:tkA A1 (min (z:Int) 4+1)=A2;generalize a3:tkB A1 B1=B2;have l3:=R4 A2 B2 3 aC;have u3:=D3 A2 B2 3 aC;obtain⟨many,em,ab⟩:=at3 (tkX a b ((z:Int)+1)) (z:Int) (tkX A1 B1 (min (z:Int) 4+1)) (tkX A2 B2 3) l3 u3;have G:0<=many/\many<=z:=aA;unfold xp3;generalize a7:tkA A2 3=A3;generalize a2:tkB A2 B2=B3;refine Z0 (ρ':=λp=>[some (.ob p (RL A3 B3)),k0b z,k0c many,none,none,none,none,none]) (λp=>?_) ?_
 .have e2:(m6 zb8 (z7 (mvar 1) (z7 (mc (.int 4)) anil))) [some (.ob p (RL A1 B1)),k0b z,none,none,none,none,none,none]=some (.int (min (z:Int) 4)):=by simp_arith [yv7]
  have e3:m2 addD (m6 zb8 (z7 (mvar 1) (z7 (mc (.int 4)) anil))) (mc (.int 1)) [some (.ob p (RL A1 B1)),k0b z,none,none,none,none,none,none]=some (.int (min (z:Int) 4+1)):=by unfold m2;rw[e2];rfl
  have t1:=d9 (p:=p) (a:=a) (b:=b) (m:=(z:Int)+1) (x:=m2 addD (mvar 1) (mc (.int 1))) (tl:=[k0b z,none,none,none,none,none,none]) (by simp_arith []) Y aA;rw[a9,a4]at t1;have t2:=d9 (p:=p) (a:=A1) (b:=B1) (m:=min (z:Int) 4+1) (x:=m2 addD (m6 zb8 (z7 (mvar 1) (z7 (mc (.int 4)) anil))) (mc (.int 1))) (tl:=[k0b z,none,none,none,none,none,none]) e3 U aA;rw[a8,a3]at t2;have t3:=d9 (p:=p) (a:=A2) (b:=B2) (m:=3) (x:=mc (.int 3)) (tl:=[k0b z,none,none,none,none,none,none]) rfl aC aC;rw[a7,a2]at t3;exact(f9 (X1 (C6 (n5 t1 (n5 (d5 (d:=.int (z:Int)) rfl) (n5 t2 (Q6 (d:=[]) rfl)))) i3) t3 (g:=.int many) em)).trans rfl
 have l4:=R4 A3 B3 6 aC;have u4:=D3 A3 B3 6 aC;generalize a6:tkA A3 6=A4;generalize a1:tkB A3 B3=B4;refine Z0 (ρ':=λp=>[some (.ob p (RL A4 B4)),k0b z,k0c many,some (.sh (.int (tkX A3 B3 6))),none,none,none,none]) (λp=>?_) ?_
 .have t:=d9 (p:=p) (a:=A3) (b:=B3) (m:=6) (x:=mc (.int 6)) (tl:=[k0b z,k0c many,none,none,none,none,none]) rfl aC aC;rw[a6,a1]at t;exact(f9 t).trans rfl
 generalize tkX A3 B3 6=kind;have l5:=R4 A4 B4 4 aC;have u5:=D3 A4 B4 4 aC;obtain⟨span,es,aa⟩:=at4 2 4 10 100 (tkX A4 B4 4) l5 u5;generalize a5:tkA A4 4=A5;generalize Z:tkB A4 B4=B5;refine Z0 (ρ':=λp=>[some (.ob p (RL A5 B5)),k0b z,k0c many,k0c kind,k0c span,none,none,none]) (λp=>?_) ?_
 .have t:=d9 (p:=p) (a:=A4) (b:=B4) (m:=4) (x:=mc (.int 4)) (tl:=[k0b z,k0c many,k0c kind,none,none,none,none]) rfl aC aC;rw[a5,Z]at t;exact(f9 (X1 (d5 (d:=.lst [.int 2,.int 4,.int 10,.int 100]) (by simp_arith [i4,if_true])) t (g:=.int span) es)).trans rfl
 refine Z0 (ρ':=λp=>envR p A5 B5 z many kind span [] none none) (λp=>by unfold envR;simp_arith [i0,if_true]) ?_;obtain⟨n,en⟩:=wq6 G.1;subst en;have k1:okR (n:Int)=true:=S7 aA aA;refine ym6 (xi0 n (f:=λ(j:Nat)=>D.int (j:Int)) (λp=>by unfold envR;simp_arith [G0 k1,Int.toNat_natCast];rw[M7,bI];rfl)
  (I:=λj c=>∃(f:List Int)(a b:Int)(o6 o7:Option S),f.length=j/\c=λp=>envR p a b z n kind span f o6 o7) ⟨[],A5,B5,none,none,rfl,rfl⟩ ?_ ?_)
 .rintro j c hj ⟨f,a,b,o6,o7,O,rfl⟩;obtain⟨N,b',x,o,e,rfl⟩:=xw2 a b z n kind span f j o7 aA aA aA;exact⟨λp=>envR p a b z n kind span f (k0b j) o7,λp=>rfl,_,e,_,rfl,f++[x],N,b',_,_,by simp[O],rfl⟩
 .rintro c ⟨f,a,b,o6,o7,O,rfl⟩;refine⟨_,rfl,λp=>.rgf (f.map .int) p (RL a b),λp=>?_,f,a,b,aA,rfl⟩;unfold yv5 envR;rfl
theorem zs7{ds:List Int}{P:Int->Prop}(h:∀x∈ds,P x)(k:Int)(z:0<=k)(h1:k<ds.length):∃x,atI (ds.map D.int) k=some (.int x)/\P x:=by have j:k.toNat<ds.length:=aB;refine⟨ds.getD k.toNat 0,M0 D.int ds k z h1 0,h _ ?_⟩;rw[aL,aK j];exact getElem_mem j
theorem xi7(a b:Int)(c:List Int)(hr:c.length<=300):∃(s z b':Int),1<=s/\∀p,xc5 p (RL a b) [.lst (c.map .int)]=some (.sh (.int s),RL z b'):=by
 suffices h:URun xp4 (λp=>X5 4 p (RL a b) [.lst (c.map .int)]) (λo=>∃(s z b':Int),1<=s/\o=λp=>.rg (.int s) p (RL z b'))by obtain⟨o,e,s,z,b',hs,rfl⟩:=h;exact⟨s,z,b',hs,λp=>yj2 (e p)⟩
 have i0:0<=sizeLine:=aY _;have Y:(10:Int)^(27:Int).toNat=1000000000000000000000000000:=by decide
 have U:(10:Int)^(29:Int).toNat=100000000000000000000000000000:=by decide
 have a1:zi5 10 27=true:=by decide
 have Z:zi5 10 29=true:=by decide
 have l1:=R4 a b 4 aC;generalize ad:tkA a 4=A1;generalize a9:tkB a b=B1;have l2:=R4 A1 B1 100 aC;generalize ac:tkA A1 100=A2;generalize a8:tkB A1 B1=B2;generalize a3:tkX a b 4=x1 at l1;generalize a2:tkX A1 B1 100=x2 at l2
 let so:List Int:=[1,1,1+x1,1+x2,1000000000000000000000000000,100000000000000000000000000000]
 have N:∀x∈so,1<=x:=by intro x O;simp only[so,mem_cons,mem_nil_iff,or_false]at O;rcases O with h|h|h|h|h|h <;> lia
 unfold xp4;refine Z0 (ρ':=λp=>[some (.ob p (RL A2 B2)),k0a c,k0a so,none]) (λp=>?_) ?_
 .have t1:=d9 (p:=p) (a:=a) (b:=b) (m:=4) (x:=mc (.int 4)) (tl:=[k0a c,none,none]) rfl aC aC;rw[ad,a9,a3]at t1;have G:=d9 (p:=p) (a:=A1) (b:=B1) (m:=100) (x:=mc (.int 100)) (tl:=[k0a c,none,none]) rfl aC aC;rw[ac,a8,a2]at G;refine(f9 (C6 (ds:=so.map .int) (n5 (d5 (d:=.int 1) rfl) (n5 (d5 (d:=.int 1) rfl) (n5 (X1 (d5 (d:=.int 1) rfl) t1 (g:=.int (1+x1)) rfl) (n5 (X1 (d5 (d:=.int 1) rfl) G (g:=.int (1+x2)) rfl) (Q6 (d:=[.int 1000000000000000000000000000,.int 100000000000000000000000000000]) ?_))))) (w8 (by simp[so])))).trans rfl;simp_arith [Y,U,a1,Z,if_true]
 have last:∀(A B:Int)(zs:List Int)(o3:Option S),zs≠[]->zs.length<=1000->(∀x∈zs,1<=x)->URun (zv1 0 (m2m ixLD (mpu (mvar 2)) (u6 i7 0 (apu (z7 (mlen (bvar 2)) anil))))) (λp=>[some (.ob p (RL A B)),k0a c,k0a zs,o3]) (λo=>∃(s z b':Int),1<=s/\o=λp=>.rg (.int s) p (RL z b')):=by
  intro A B zs o3 a4 hl hz;have hpos:(0:Int)<(zs.length:Int):=by
   cases zs with
   |nil=>exact aZ rfl a4
   |cons x r=>rw[bH];lia
  obtain⟨s,e,hs⟩:=zs7 hz (tkX A B zs.length) (R4 A B _ hpos) (D3 A B _ hpos);refine⟨λp=>.rg (.int s) p (RL (tkA A zs.length) (tkB A B)),λp=>?_,s,_,_,hs,rfl⟩;exact xt5 (X1 (d5 (d:=.lst (zs.map .int)) rfl) (d9 (m:=(zs.length:Int)) (by simp_arith [length_map]) hpos aA) (g:=.int s) e) rfl
 refine ym6 (wi0 (b:=!(c.map D.int).isEmpty) (λp=>xb9 (ds:=c.map .int) rfl) ?_);cases hrow:c with
 |nil=>subst hrow;exact xj9 ⟨_,rfl,last A2 B2 so none (by simp[so]) (by simp[so]) N⟩
 |cons r0 rs=>
  rw[<-hrow];have hpos:(0:Int)<(c.length:Int):=by rw[hrow,bH];lia
  rw[show (!(c.map D.int).isEmpty)=true by rw[hrow];rfl];show URun (mseq _ _) _ _;obtain⟨v1,e1,_⟩:=zs7 (ds:=c) (P:=λ_=>True) (λ_ _=>True.intro) (tkX A2 B2 c.length) (R4 _ _ _ hpos) (D3 _ _ _ hpos);generalize ab:tkA A2 c.length=A3;generalize a7:tkB A2 B2=B3;obtain⟨j,e2,_⟩:=zs7 (ds:=c) (P:=λ_=>True) (λ_ _=>True.intro) (tkX A3 B3 c.length) (R4 _ _ _ hpos) (D3 _ _ _ hpos);generalize aa:tkA A3 c.length=A4;generalize a6:tkB A3 B3=B4;refine Z0 (ρ':=λp=>[some (.ob p (RL A4 B4)),k0a c,k0a so,some (.sh (.int (if v1-j<0 then -(v1-j)else v1-j)))]) (λp=>?_) ?_
  .have t1:=d9 (p:=p) (a:=A2) (b:=B2) (m:=(c.length:Int)) (x:=mlen (bvar 1)) (tl:=[k0a c,k0a so,none]) (by simp_arith [length_map]) hpos aA;rw[ab,a7]at t1;have G:=d9 (p:=p) (a:=A3) (b:=B3) (m:=(c.length:Int)) (x:=mlen (bvar 1)) (tl:=[k0a c,k0a so,none]) (by simp_arith [length_map]) hpos aA;rw[aa,a6]at G;exact(f9 (ze6 (n5 (X1 (X1 (d5 (d:=.lst (c.map .int)) rfl) t1 (g:=.int v1) e1) (X1 (d5 (d:=.lst (c.map .int)) rfl) G (g:=.int j) e2) (g:=.int (v1-j)) rfl) (Q6 (d:=[]) rfl)) rfl)).trans rfl
  generalize a5:(if v1-j<0 then -(v1-j)else v1-j)=ap;have ae:0<=ap:=by rw[<-a5];split <;> lia
  have i2:0+1+1<=sizeLine:=w8 aC;refine ym7 (ρ':=λp=>[some (.ob p (RL A4 B4)),k0a c,some (.sh (.lst ((so++[max 1 ap,ap+1]).map .int))),k0c ap]) (λp=>?_) ⟨_,rfl,last A4 B4 (so++[max 1 ap,ap+1]) _ aD (by simp[so]) ?_⟩
  .have e:mcat (bvar 2) (v5 (z7 (m6 V5 (z7 (mc (.int 1)) (z7 (mvar 3) anil))) (z7 (m2 addD (mvar 3) (mc (.int 1))) anil))) [some (.ob p (RL A4 B4)),k0a c,k0a so,k0c ap]=some (so.map .int++[.int (max 1 ap),.int (ap+1)]):=
    X0 (ds:=so.map .int) rfl (v7 (z8 (d:=.int (max 1 ap)) (by simp_arith [zg2]) (z8 (d:=.int (ap+1)) (by simp_arith []) y7)) i2) (w8 (by simp[so]))
   rw[n9 (h8 e),cm];rfl
  .intro x O;rcases bA.mp O with h|h
   .exact N x h
   .simp only[mem_cons,mem_nil_iff,or_false]at h;rcases h with h|h <;> lia
theorem w9{f:D->D->Option D}(h1:x c=some a)(h2:y c=some b):m2 f x y c=f a b:=by unfold m2;rw[h1,h2];rfl
theorem K2{z:Type}(f:Nat->z)(j:Nat):(List.range (j+1)).map f=(List.range j).map f++[f j]:=by rw[range_succ,cm];rfl
def abv(a:List Int)(s:Int)(d:Bool)(p:Nat):List Nat:=((List.range (a.length-(p+1))).map λj=>p+1+j).filter λq=>decide (far s d (xr a p) (xr a q))
theorem abv_mem{s:Int}{d:Bool}{p q:Nat}:q∈abv a s d p↔p<q/\q<a.length/\far s d (xr a p) (xr a q):=by
 unfold abv;rw[mem_filter,mem_map,decide_eq_true_eq];constructor
 .rintro⟨⟨j,hj,rfl⟩,h⟩;have:=bS.mp hj;exact⟨aB,aB,h⟩
 .rintro⟨h1,h2,h3⟩;exact⟨⟨q-(p+1),bS.mpr aB,aB⟩,h3⟩
theorem wx1(a:List Int)(s:Int)(d:Bool)(p:Nat):(abv a s d p).length<=a.length:=by unfold abv;refine bE (length_filter_le _ _) ?_;rw[aW,length_range];omega
def zf4(a:List Int)(s:Int)(A B:List (List Nat))(o4 o5:Option S):Ro:=[k0a a,k0c s,some (.own (A.map L)),some (.own (B.map L)),o4,o5]
theorem xw3(a:List Int)(p:Nat)(hr:a.length<=300)(hp:p<a.length):R5 ((p:Int)+1) ((a.length:Int)-((p:Int)+1)).toNat=((List.range (a.length-(p+1))).map λj=>p+1+j).map dN:=by rw[G3,show ((a.length:Int)-((p:Int)+1)).toNat=a.length-(p+1)by lia,bI];apply br;intro i _;show D.int _=D.int _;congr 1
theorem ys8(a:List Int)(s:Int)(d:Bool)(p:Nat)(hr:a.length<=300)(hp:p<a.length)(A B:List (List Nat))(z:MB)
  (ht:∀q:Nat,q<a.length->z [some (.sh (dN q)),k0c s,some (.sh (.int (xr a p))),k0a a]=some (decide (far s d (xr a p) (xr a q)))):
  d6 [none,some 1,some 5,some 0] (m5 rng2 (z7 (m2 addD (mvar 4) (mc (.int 1))) (z7 (mlen (bvar 0)) anil))) (.nm 0) z (mvar 0) (zf4 a s A B (k0b p) (some (.sh (.int (xr a p)))))=some ((abv a s d p).map dN):=by
 have U:okR ((p:Int)+1)=true:=S7 aA aA;have O:okR (a.length:Int)=true:=S7 aA aA;have e1:m5 rng2 (z7 (m2 addD (mvar 4) (mc (.int 1))) (z7 (mlen (bvar 0)) anil)) (zf4 a s A B (k0b p) (some (.sh (.int (xr a p)))))=some (((List.range (a.length-(p+1))).map λj=>p+1+j).map dN):=by unfold zf4;simp_arith [length_map,zq6 U O,xw3 a p hr hp]
 unfold d6;rw[e1,aP];show X3 _ _ _ _ [none,k0c s,some (.sh (.int (xr a p))),k0a a] []=_;rw[b9 (f:=dN) (p:=λq=>decide (far s d (xr a p) (xr a q))) (G:=dN) (λqs b=>(∀q∈qs,q<a.length)/\∃o,b=[o,k0c s,some (.sh (.int (xr a p))),k0a a])
  (by
   rintro q qs b ⟨N,o,rfl⟩;exact⟨_,rfl,ht q (N q aD),λ_=>rfl,λr hr=>N r (by simp[hr]),_,rfl⟩) _ _ [] ⟨λq N=>by obtain⟨j,Y,rfl⟩:=bG.mp N;have:=bS.mp Y;lia,_,rfl⟩ (w8 (by simp;lia)),dC]
 rfl
theorem zv7(a:List Int)(s:Int)(hr:a.length<=300):m_Z2 [.lst (a.map .int),.int s]=some (.sh (.tup [.lst (((List.range a.length).map (abv a s true)).map L),.lst (((List.range a.length).map (abv a s false)).map L)])):=by
 unfold m_Z2 b_Z2;refine zq5 ?_;have a1:=j5;have N:0<=sizeLine:=aY _;have i2:2<=sizeLine:=w8 aC;refine h6 (ρ':=[k0a a,k0c s,some (.own []),none,none,none]) (by unfold W4;rw[v7 y7 N];rfl) ?_;refine h6 (ρ':=zf4 a s [] [] none none) (by unfold W4;rw[v7 y7 N];rfl) ?_;have Y:m5 zx8 (z7 (mvar 0) anil) (zf4 a s [] [] none none)=some ((List.range a.length).map λ(i:Nat)=>D.tup [.int (i:Int),.int (xr a i)]):=by unfold m5;rw[z8 (x:=mvar 0) (d:=.lst (a.map .int)) rfl y7,aP];show some (N7 0 (a.map .int))=_;rw[K6];congr 1;apply br;intro i _;rw[cF]
 refine X6 (Z2 a.length (f:=λ(i:Nat)=>D.tup [.int (i:Int),.int (xr a i)]) Y
  (I:=λj ρ=>∃G o5,ρ=zf4 a s ((List.range j).map (abv a s true)) ((List.range j).map (abv a s false)) G o5) _ ⟨_,_,rfl⟩ ?_ ?_)
 .rintro j ρ hj ⟨G,o5,rfl⟩;refine⟨zf4 a s ((List.range j).map (abv a s true)) ((List.range j).map (abv a s false)) (k0b j) (some (.sh (.int (xr a j)))),rfl,?_⟩;unfold xz0;have O:∀q:Nat,q<a.length->mix (bvar 3) (mvar 0) [some (.sh (dN q)),k0c s,some (.sh (.int (xr a j))),k0a a]=some (.int (xr a q)):=λq z=>n4 rfl rfl (J5 a q z);have c1:=ys8 a s true j hr hj ((List.range j).map (abv a s true)) ((List.range j).map (abv a s false)) (w5 (m2 geD (m2 subD (mix (bvar 3) (mvar 0)) (mvar 2)) (mvar 1))) (λq z=>by rw[zt0 ((w9 (O q z) rfl).trans (show subD (.int (xr a q)) (.int (xr a j))=some (.int (xr a q-xr a j))from rfl)) rfl];unfold far;simp)
  have Z:=ys8 a s false j hr hj ((List.range (j+1)).map (abv a s true)) ((List.range j).map (abv a s false)) (w5 (m2 geD (m2 subD (mvar 2) (mix (bvar 3) (mvar 0))) (mvar 1))) (λq z=>by rw[zt0 ((w9 (show mvar 2 _=some (.int (xr a j))from rfl) (O q z)).trans (show subD (.int (xr a j)) (.int (xr a q))=some (.int (xr a j-xr a q))from rfl)) rfl];unfold far;simp)
  have app:∀(ρ:Ro)(i:Nat)(M:List (List Nat))(m:ML)(l:List Nat),ρ[i]? =some (some (.own (M.map L)))->m ρ=some (l.map dN)->M.length<sizeLine->mapp i (mlst m) ρ=some (.nx (ρ.set i (some (.own ((M++[l]).map L))))):=by intro ρ i M m l h1 h2 U;unfold mapp;rw[h1,h8 h2];show (some (D.lst (l.map dN))).bind (λd=>if (M.map L).length<sizeLine then some (Out.nx (ρ.set i (some (.own (M.map L++[d])))))else none)=_;rw[aP,aJ (by rw[aW];exact U),cm];rfl
  refine h6 (ρ':=zf4 a s ((List.range (j+1)).map (abv a s true)) ((List.range j).map (abv a s false)) (k0b j) (some (.sh (.int (xr a j))))) ?_ ?_
  .rw[app _ 2 _ _ _ rfl c1 (by simp;lia),<-K2];rfl
  .refine⟨_,app _ 3 _ _ _ rfl Z (by simp;lia),?_⟩;rw[<-K2];exact⟨_,_,rfl⟩
 .rintro ρ ⟨G,o5,rfl⟩;unfold ya9;refine J9 (ds:=((List.range a.length).map (abv a s false)).map L) rfl (J9 (ds:=((List.range a.length).map (abv a s true)).map L) rfl ⟨_,Q1 (yf1 (z8 (d:=.lst (((List.range a.length).map (abv a s true)).map L)) rfl (z8 (d:=.lst (((List.range a.length).map (abv a s false)).map L)) rfl y7)) i2),rfl⟩)
def cnt(a:List Int)(s:Int):Nat->Bool->Nat->Nat
 |0,_,_=>1
 |k+1,d,p=>((abv a s d p).map (cnt a s k (!d))).sum
theorem xx4(ns:List Nat):(ns.map λ(k:Nat)=>(k:Int)).sum=((ns.sum:Nat):Int):=by
 induction ns with
 |nil=>rfl
 |cons n ns j=>rw[bz,dB,dB,j];lia
theorem dns(ns:List Nat):ns.map dN=(ns.map λ(k:Nat)=>(k:Int)).map .int:=by rw[bI];rfl
theorem yf3{m:ML}{a:Ro}{ns:List Nat}(h:m a=some (ns.map dN)):msum m a=some (dN ns.sum):=by unfold msum;rw[h,dns];simp only[V7,xx4];rfl
theorem xc3{m:ML}{a:Ro}{ns:List Nat}(h:m a=some (ns.map dN)):many m a=some (.bl (ns.any λn=>n != 0)):=by
 unfold many;rw[h,dns];simp only[V7];congr 2;rw[any_map];congr 1;funext n;show ((n:Int) != 0)=(n != 0);by_cases z:n=0
 .subst z;rfl
 .rw[bne_iff_ne.mpr z,bne_iff_ne.mpr aA]
theorem G9(ns:List Nat)(q:Nat)(h:q<ns.length):atI (ns.map dN) (q:Int)=some (dN (ns.getD q 0)):=by have:=M0 dN ns (q:Int) aA aA 0;rw[bB]at this;exact this
theorem yy9(ns:List Nat)(N:List (List Nat))(Y:∀a∈N,a.length<=300/\∀q∈a,q<ns.length)(hl:N.length<=300):yp3 [.lst (ns.map dN),.lst (N.map L)]=some (.fr ((N.map λa=>(a.map λq=>ns.getD q 0).sum).map dN)):=by
 unfold yp3 wy1;refine zz3 ?_;have Z:=j5;have j:∀a:List Nat,(a.length<=300/\∀q∈a,q<ns.length)->d6 [none,some 1] (k8 (mvar 0)) (.nm 0) cyes (mix (bvar 1) (mvar 0)) [some (.sh (L a)),some (.sh (.lst (ns.map dN)))]=some ((a.map λq=>ns.getD q 0).map dN):=by
  rintro a ⟨la,ha⟩;unfold d6;rw[show k8 (mvar 0) [some (.sh (L a)),some (.sh (.lst (ns.map dN)))]=some (a.map dN)from rfl,aP];show X3 _ _ _ _ [none,some (.sh (.lst (ns.map dN)))] []=_;rw[V9 (f:=dN) (G:=λq=>dN (ns.getD q 0)) (λes b=>(∀q∈es,q<ns.length)/\∃o,b=[o,some (.sh (.lst (ns.map dN)))]) (by rintro q es b ⟨U,o,rfl⟩;exact⟨_,rfl,rfl,n4 (ds:=ns.map dN) (k:=(q:Int)) rfl rfl (G9 ns q (U q aD)),λz O=>U z (by simp[O]),_,rfl⟩) a _ [] ⟨ha,none,rfl⟩ (by simp;lia),dC,bI]
  rfl
 unfold zv2 d6;rw[show k8 (mvar 1) (m8 2 [.lst (ns.map dN),.lst (N.map L)])=some (N.map L)from rfl,aP];show (X3 _ _ _ _ [none,some (.sh (.lst (ns.map dN)))] []).map _=_;rw[V9 (f:=L) (G:=λa=>dN (a.map λq=>ns.getD q 0).sum) (λes b=>(∀a∈es,a.length<=300/\∀q∈a,q<ns.length)/\∃o,b=[o,some (.sh (.lst (ns.map dN)))]) (by rintro a es b ⟨ha,o,rfl⟩;refine⟨[some (.sh (L a)),some (.sh (.lst (ns.map dN)))],rfl,rfl,?_,λz O=>ha z (by simp[O]),_,rfl⟩;have e:=j a (ha a aD);unfold d6 at e;exact yf3 e) N _ [] ⟨Y,none,rfl⟩ (by simp;lia),dC]
 show some (Out.rf _)=_;rw[bI];rfl
theorem zn6(a:List Int)(s:Int):∀(k:Nat)(d:Bool)(p:Nat),p<a.length->a.length<=p+k->cnt a s k d p=0
 |0,d,p,hp,h=>by lia
 |k+1,d,p,hp,h=>by rw[cnt,List.sum_eq_zero_iff_forall_eq_nat];intro v j;obtain⟨q,z,e⟩:=bG.mp j;obtain⟨h1,h2,_⟩:=abv_mem.mp z;rw[<-e];exact zn6 a s k (!d) q h2 aA
def CL(a:List Int)(s:Int)(k:Nat)(d:Bool):List Nat:=(List.range a.length).map (cnt a s k d)
def bgn(a:List Int)(s:Int):Nat->Nat->Nat
 |0,_=>1
 |k+1,p=>cnt a s (k+1) true p+cnt a s (k+1) false p
def BL(a:List Int)(s:Int)(k:Nat):List Nat:=(List.range a.length).map (bgn a s k)
def lay(a:List Int)(s:Int)(k:Nat):D:=.tup [.lst ((BL a s k).map dN),.lst ((CL a s k true).map dN),.lst ((CL a s k false).map dN)]
def anyB(a:List Int)(s:Int)(k:Nat):Bool:=(BL a s k).any λn=>n != 0
theorem zk2(a:List Int)(s:Int)(k:Nat)(h:a.length<=k):anyB a s k=false:=by
 unfold anyB BL;rw[any_map,any_eq_false];intro p hp;have hp:=bS.mp hp;have:bgn a s k p=0:=by
  cases k with
  |zero=>lia
  |succ k=>rw[bgn,zn6 a s _ _ p hp aA,zn6 a s _ _ p hp aA]
 simp[this]
theorem xa7(a:List Int)(s:Int)(k:Nat)(d:Bool)(q:Nat)(h:q<a.length):(CL a s k d).getD q 0=cnt a s k d q:=by unfold CL;rw[aL,bF,db h];rfl
theorem yb8(a:List Int)(s:Int)(k:Nat)(d:Bool):(CL a s k d).length=a.length:=by unfold CL;simp
theorem ys7(b:List Int)(s:Int)(hr:b.length<=300)(k:Nat)(d:Bool):yp3 [.lst ((CL b s k (!d)).map dN),.lst (((List.range b.length).map (abv b s d)).map L)]=some (.fr ((CL b s (k+1) d).map dN)):=by
 rw[yy9 (CL b s k (!d)) ((List.range b.length).map (abv b s d)) ?_ (by simp;omega)]
 .congr 3;rw[bI];unfold CL;apply br;intro p hp;show ((abv b s d p).map λq=>(CL b s k (!d)).getD q 0).sum=cnt b s (k+1) d p;rw[cnt];congr 1;apply br;intro q j;exact xa7 b s k (!d) q (abv_mem.mp j).2.1
 .intro a ha;obtain⟨p,_,rfl⟩:=bG.mp ha;refine⟨bE (wx1 b s d p) hr,λq j=>?_⟩;rw[yb8];exact(abv_mem.mp j).2.1
def envY(a:List Int)(s:Int)(most:Int)(k:Nat):Ro:=[k0a a,k0c s,k0c most,some (.sh (.lst (((List.range a.length).map (abv a s true)).map L))),some (.sh (.lst (((List.range a.length).map (abv a s false)).map L))),some (.sh (.lst ((BL a s k).map dN))),some (.sh (.lst ((CL a s k true).map dN))),some (.sh (.lst ((CL a s k false).map dN))),some (.own ((List.range k).map (lay a s)))]
theorem xj0(n:Nat)(f g:Nat->Nat):List.zipWith (λd e=>D.tup [d,e]) (((List.range n).map f).map dN) (((List.range n).map g).map dN)=(List.range n).map λp=>D.tup [dN (f p),dN (g p)]:=by rw[bI,bI,zipWith_map,zipWith_self];rfl
theorem xs9(c:List Int)(s:Int)(hr:c.length<=300)(j:Int)(k:Nat)(O:k<=400):zm1 (envY c s j k)=some (.nx (envY c s j (k+1))):=by
 have N:=j5;unfold zm1;refine seqI (ρ':=(envY c s j k).set 8 (some (.own ((List.range (k+1)).map (lay c s))))) ?_ ?_
 .unfold mapp;rw[yf1 (z8 (d:=.lst ((BL c s k).map dN)) rfl (z8 (d:=.lst ((CL c s k true).map dN)) rfl (z8 (d:=.lst ((CL c s k false).map dN)) rfl y7))) (w8 aD)];show (if ((List.range k).map (lay c s)).length<sizeLine then _ else none)=_;rw[aJ (by simp;lia),K2];rfl
 have e1:=ys7 c s hr k true;have e2:=ys7 c s hr k false;rw[Bool.not_true]at e1;rw[Bool.not_false]at e2;refine seqI (ρ':=(((envY c s j k).set 8 (some (.own ((List.range (k+1)).map (lay c s))))).set 6 (some (.sh (.lst ((CL c s (k+1) true).map dN))))).set 7 (some (.sh (.lst ((CL c s (k+1) false).map dN))))) ?_ ?_
 .unfold mpar;rw[z8 (Y8 (z8 (d:=.lst ((CL c s k false).map dN)) rfl (z8 (d:=.lst (((List.range c.length).map (abv c s true)).map L)) rfl y7)) e1) (z8 (Y8 (z8 (d:=.lst ((CL c s k true).map dN)) rfl (z8 (d:=.lst (((List.range c.length).map (abv c s false)).map L)) rfl y7)) e2) y7)]
 .have e3:d6 [none,none] (m5 zip2 (z7 (mvar 6) (z7 (mvar 7) anil))) (.tp [0,1]) cyes (m2 addD (mvar 0) (mvar 1)) ((((envY c s j k).set 8 (some (.own ((List.range (k+1)).map (lay c s))))).set 6 (some (.sh (.lst ((CL c s (k+1) true).map dN))))).set 7 (some (.sh (.lst ((CL c s (k+1) false).map dN)))))=some ((BL c s (k+1)).map dN):=by
   have z:m5 zip2 (z7 (mvar 6) (z7 (mvar 7) anil)) ((((envY c s j k).set 8 (some (.own ((List.range (k+1)).map (lay c s))))).set 6 (some (.sh (.lst ((CL c s (k+1) true).map dN))))).set 7 (some (.sh (.lst ((CL c s (k+1) false).map dN)))))=some ((List.range c.length).map λp=>D.tup [dN (cnt c s (k+1) true p),dN (cnt c s (k+1) false p)]):=by unfold m5;rw[z8 (d:=.lst ((CL c s (k+1) true).map dN)) rfl (z8 (d:=.lst ((CL c s (k+1) false).map dN)) rfl y7),aP];show some (List.zipWith _ _ _)=_;unfold CL;rw[xj0]
   unfold d6;rw[z,aP];show X3 _ _ _ _ [none,none] []=_;rw[V9 (f:=λp=>D.tup [dN (cnt c s (k+1) true p),dN (cnt c s (k+1) false p)]) (G:=λp=>dN (bgn c s (k+1) p)) (λ_ e=>∃x y,e=[x,y]) (by rintro p ps e ⟨x,y,rfl⟩;refine⟨[some (.sh (dN (cnt c s (k+1) true p))),some (.sh (dN (cnt c s (k+1) false p)))],rfl,rfl,?_,_,_,rfl⟩;refine(w9 (a:=dN (cnt c s (k+1) true p)) (b:=dN (cnt c s (k+1) false p)) rfl rfl).trans ?_;show some (D.int (((cnt c s (k+1) true p:Nat):Int)+((cnt c s (k+1) false p:Nat):Int)))=_;rw[bgn];unfold dN;congr 2) (List.range c.length) _ [] ⟨none,none,rfl⟩ (by simp;lia),dC]
   unfold BL;rw[bI];rfl
  exact(n9 (h8 e3)).trans rfl
theorem R9{b:Bool}(h:x a=some (.bl b)):mtru x a=some b:=by unfold mtru;rw[h];rfl
theorem j8{b:Bool}(h:x a=some (.bl b)):w5 x a=some b:=by unfold w5;rw[h]
theorem X8{i:Nat}(h:x a=some ds):W4 i x a=some (.nx (a.set i (some (.own ds)))):=by unfold W4;rw[h];rfl
def O8(a:List Int)(s most:Int)(J:Nat):Prop:=J<=a.length/\(∀i,i<J->anyB a s i=true/\(i:Int)<most)/\(most<=(J:Int)\/anyB a s J=false)
theorem yu1(c:List Int)(s j:Int)(hr:c.length<=300):∀(f k:Nat),c.length+1<=k+f->k<=c.length->(∀i,i<k->anyB c s i=true/\(i:Int)<j)->
  ∃J,O8 c s j J/\S4 (cand (w5 (m2 ltD (mlen (bvar 8)) (mvar 2))) (mtru (many (bvar 5)))) zm1 f (envY c s j k)=some (.nx (envY c s j J))
 |0,k,h,hk,_=>by lia
 |f+1,k,h,hk,hall=>by
  have O:w5 (m2 ltD (mlen (bvar 8)) (mvar 2)) (envY c s j k)=some (decide ((k:Int)<j)):=by refine j8 ((w9 (a:=.int (k:Int)) (b:=.int j) ?_ rfl).trans rfl);rw[i6 (show bvar 8 (envY c s j k)=some ((List.range k).map (lay c s))from rfl)];simp
  have N:mtru (many (bvar 5)) (envY c s j k)=some (anyB c s k):=R9 (xc3 (ns:=BL c s k) rfl);have cc:=zn8 O N;unfold S4;rw[cc];by_cases z:(k:Int)<j/\anyB c s k=true
  .rw[aV z.1,z.2];have G:k<c.length:=by
    rcases bq k c.length with w|w
    .exact w
    .rw[zk2 c s k w]at z;cases z.2
   simp only[Bool.and_self,xs9 c s hr j k aA];refine yu1 c s j hr f (k+1) aA aA λi hi=>?_;rcases bq i k with w|w
   .exact hall i w
   .have:i=k:=aA;subst this;exact⟨z.2,z.1⟩
  .have:(decide ((k:Int)<j)&&anyB c s k)=false:=by rw[<-Bool.not_eq_true,Bool.and_eq_true,decide_eq_true_eq];exact z
   rw[this];refine⟨k,⟨hk,hall,?_⟩,rfl⟩;by_cases w:(k:Int)<j
   .right;rw[<-Bool.not_eq_true];exact λy=>z ⟨w,y⟩
   .left;lia
theorem xt2(n:Nat):(List.replicate n [D.int 1]).flatten=((List.range n).map λ_=>1).map dN:=by
 induction n with
 |zero=>rfl
 |succ n j=>rw[replicate_succ',flatten_append,j,range_succ,cm,cm];rfl
theorem ya4(a:List Int)(s:Int):BL a s 0=(List.range a.length).map λ_=>1:=by unfold BL;apply br;intro p _;rw[bgn]
theorem yb7(a:List Int)(s:Int)(d:Bool):CL a s 0 d=(List.range a.length).map λ_=>1:=by unfold CL;apply br;intro p _;rw[cnt]
theorem xt4{i j k:Nat}(h:x a=some d):yq8 i j k x a=some (.nx (((a.set i (some (.sh d))).set j (some (.sh d))).set k (some (.sh d)))):=by unfold yq8;rw[h]
theorem ye9(a:List Int)(s j:Int)(hr:a.length<=300):yq8 5 6 7 (mlst (mrep (v5 (z7 (mc (.int 1)) anil)) (mlen (bvar 0)))) [k0a a,k0c s,k0c j,some (.sh (.lst (((List.range a.length).map (abv a s true)).map L))),some (.sh (.lst (((List.range a.length).map (abv a s false)).map L))),none,none,none,none]=some (.nx [k0a a,k0c s,k0c j,some (.sh (.lst (((List.range a.length).map (abv a s true)).map L))),some (.sh (.lst (((List.range a.length).map (abv a s false)).map L))),some (.sh (.lst ((BL a s 0).map dN))),some (.sh (.lst ((CL a s 0 true).map dN))),some (.sh (.lst ((CL a s 0 false).map dN))),none]):=by
 have G:=j5;have i1:1<=sizeLine:=w8 aC;have z:zw7 1 (a.length:Int)=true:=by unfold zw7;rw[aV aA,aV aA,aV (by rw[bB];lia)];rfl
 have el:mlen (bvar 0) [k0a a,k0c s,k0c j,some (.sh (.lst (((List.range a.length).map (abv a s true)).map L))),some (.sh (.lst (((List.range a.length).map (abv a s false)).map L))),none,none,none,none]=some (.int (a.length:Int)):=by rw[i6 (show bvar 0 _=some (a.map .int)from rfl),aW]
 have rp:=zb6 (x:=v5 (z7 (mc (.int 1)) anil)) (v7 (z8 (d:=.int 1) rfl y7) i1) el z;rw[bB,xt2]at rp;rw[ya4,yb7,yb7];exact(xt4 (h8 rp)).trans rfl
theorem ye8(a:List Int)(s j:Int)(hr:a.length<=300):masg (.tp [3,4]) (l0 m_Z2 (z7 (mvar 0) (z7 (mvar 1) anil))) [k0a a,k0c s,k0c j,none,none,none,none,none,none]=some (.nx [k0a a,k0c s,k0c j,some (.sh (.lst (((List.range a.length).map (abv a s true)).map L))),some (.sh (.lst (((List.range a.length).map (abv a s false)).map L))),none,none,none,none]):=by have e:=i9 (ρ:=[k0a a,k0c s,k0c j,none,none,none,none,none,none]) (z8 (x:=mvar 0) (d:=.lst (a.map .int)) rfl (z8 (x:=mvar 1) (d:=.int s) rfl y7)) (zv7 a s hr);unfold masg;rw[e];rfl
theorem E4(a:List Int)(s j:Int)(hr:a.length<=300):∃J,O8 a s j J/\m_Z9 [.lst (a.map .int),.int s,.int j]=some (.fr ((List.range J).map (lay a s))):=by
 obtain⟨J,hJ,e⟩:=yu1 a s j hr 1000 0 aA aA (λi hi=>by lia);refine⟨J,hJ,?_⟩;have h:b_Z9 [k0a a,k0c s,k0c j,none,none,none,none,none,none]=some (.rf ((List.range J).map (lay a s))):=by unfold b_Z9;refine seqI (ye8 a s j hr) (seqI (ye9 a s j hr) (seqI (ρ':=envY a s j 0) ((X8 (v7 y7 (aY _))).trans rfl) (seqI e ?_)));unfold L9 envY;rfl
 unfold m_Z9;exact zz3 h
theorem wv6{ns:List Nat}:ns.sum≠0↔∃n∈ns,n≠0:=by
 induction ns with
 |nil=>simp
 |cons a ns j=>
  rw[dB];constructor
  .intro h;by_cases z:a=0
   .obtain⟨n,hn,e⟩:=j.mp aA;exact⟨n,bt _ hn,e⟩
   .exact⟨a,by simp,z⟩
  .rintro⟨n,hn,e⟩;rcases ba.mp hn with z|z
   .rw[<-z];lia
   .have:=j.mpr ⟨n,z,e⟩;lia
theorem N8(c:List Int)(s:Int):∀(k:Nat)(d:Bool)(p:Nat),p<c.length->(cnt c s k d p≠0↔∃m,Wd (xr c) c.length s d (p::m)/\m.length=k)
 |0,d,p,hp=>⟨λ_=>⟨[],hp,rfl⟩,λ_=>by rw[cnt];lia⟩
 |k+1,d,p,hp=>by
  rw[cnt,wv6];constructor
  .rintro⟨v,hv,e⟩;obtain⟨q,z,rfl⟩:=bG.mp hv;obtain⟨h1,h2,j⟩:=abv_mem.mp z;obtain⟨m,a,b⟩:=(N8 c s k (!d) q h2).mp e;exact⟨q::m,⟨h1,j,a⟩,by rw[bH,b]⟩
  .rintro⟨m,a,b⟩;cases m with
   |nil=>cases b
   |cons q m=>obtain⟨h1,h2,j⟩:=a;exact⟨_,bG.mpr ⟨q,abv_mem.mpr ⟨h1,j.lt,h2⟩,rfl⟩,(N8 c s k (!d) q j.lt).mpr ⟨m,j,by simpa using b⟩⟩
theorem wz4(b:List Int)(s:Int)(k p:Nat)(hp:p<b.length):bgn b s k p≠0↔∃d m,Wd (xr b) b.length s d (p::m)/\m.length=k:=by
 cases k with
 |zero=>exact⟨λ_=>⟨true,[],hp,rfl⟩,λ_=>by rw[bgn];lia⟩
 |succ k=>
  rw[bgn];constructor
  .intro h;by_cases z:cnt b s (k+1) true p=0
   .obtain⟨m,a⟩:=(N8 b s (k+1) false p hp).mp aA;exact⟨false,m,a⟩
   .obtain⟨m,a⟩:=(N8 b s (k+1) true p hp).mp z;exact⟨true,m,a⟩
  .rintro⟨d,m,a⟩;have:=(N8 b s (k+1) d p hp).mpr ⟨m,a⟩;cases d <;> lia
theorem yn7{x:Nat->Int}{n:Nat}{s:Int}:∀(k:Nat){l:List Nat},Wv x n s l->Wv x n s (l.drop k)
 |0,l,h=>h
 |k+1,[],h=>.inl rfl
 |k+1,[p],h=>by simp;exact .inl rfl
 |k+1,p::q::l,h=>by
  rcases h with z|⟨d,z⟩
  .cases z
  .exact yn7 k (l:=q::l) (.inr ⟨_,z.2.2⟩)
theorem wo2(a b:Nat):eqSD (.int (a:Int)) (.int (b:Int))=some (.bl (decide (a=b))):=by
 show some (D.bl ((a:Int)==(b:Int)))=_;by_cases h:a=b
 .rw[h,cJ,aV rfl]
 .rw[aQ h,dO.mpr aA]
section
variable {x:Nat->Int}{n:Nat}{s:Int}
end
noncomputable def tl(U V:List (List Nat))(d:Bool)(p:Nat):Nat:=if d then (U.getD p []).length else (V.getD p []).length
end
section
open PySem L2
theorem xi6(l:List Nat)(f g:Nat->Nat):(l.map λp=>f p+g p).sum=(l.map f).sum+(l.map g).sum:=by
 induction l with
 |nil=>rfl
 |cons a l j=>rw[bz,bz,bz,dB,dB,dB,j];lia
noncomputable abbrev St':=Option (Nat×Option Bool)
def wy(a:List Int)(s:Int)(k:Nat):St'->Nat->Nat
 |none,q=>bgn a s k q
 |some (p,e),q=>(if far s true (xr a p) (xr a q)/\e≠some true then cnt a s k false q else 0)+(if far s false (xr a p) (xr a q)/\e≠some false then cnt a s k true q else 0)
theorem zx7{s:Int}(hs:1<=s){a b:Int}{d e:Bool}(h1:far s d a b)(h2:far s e a b):d=e:=by unfold far at h1 h2;cases d <;> cases e <;> simp at* <;> lia
theorem zn1{s:Int}(hs:1<=s){a b:Int}{d:Bool}(h1:far s d a b):¬ far s (!d) a b:=λh=>by have:=zx7 hs h1 h;cases d <;> cases this
def nxS:St'->Bool->Nat->St'
 |none,_,q=>some (q,none)
 |some _,d,q=>some (q,some d)
def aft:St'->Nat
 |none=>0
 |some (p,_)=>p+1
def sumF(b:List Int)(s:Int)(k:Nat)(st:St')(a:Nat):Nat:=((List.range (b.length-a)).map λj=>wy b s k st (a+j)).sum
theorem Q9(b:List Int)(s:Int)(k:Nat)(st:St')(a:Nat)(h:b.length<=a):sumF b s k st a=0:=by unfold sumF;rw[show b.length-a=0 by lia];rfl
theorem zz1(b:List Int)(s:Int)(k:Nat)(st:St')(a:Nat)(h:a<b.length):sumF b s k st a=wy b s k st a+sumF b s k st (a+1):=by unfold sumF;rw[show b.length-a=(b.length-(a+1))+1 by lia,cq,bz,dB,bI];congr 2;apply br;intro j _;show wy b s k st (a+(j+1))=wy b s k st (a+1+j);congr 1;lia
theorem xi5{j:Type}(l:List j)(p:j->Prop)[DecidablePred p](f:j->Nat):((l.filter λx=>decide (p x)).map f).sum=(l.map λx=>if p x then f x else 0).sum:=by
 induction l with
 |nil=>rfl
 |cons a l z=>
  rw[filter_cons,bz,dB];by_cases h:p a
  .rw[aJ (aV h),aJ h,bz,dB,z]
  .rw[aI (by simpa using h),aI h,z,cF]
theorem zn7(a:List Int)(s:Int)(k:Nat)(d:Bool)(q:Nat):cnt a s (k+1) d q=((List.range (a.length-(q+1))).map λj=>if far s d (xr a q) (xr a (q+1+j))then cnt a s k (!d) (q+1+j)else 0).sum:=by rw[cnt];unfold abv;rw[xi5,bI];rfl
def zd9(a:List Int)(s:Int):St'->Bool->Nat->Prop
 |none,_,_=>True
 |some (p,e),d,q=>far s d (xr a p) (xr a q)/\e≠some d
theorem zu5{s:Int}(hs:1<=s){k:Nat}{p:Nat}{q:Nat}{d:Bool}(h:far s d (xr a p) (xr a q))(j:e≠some d):wy a s k (some (p,e)) q=cnt a s k (!d) q:=by
 have hn:=zn1 hs h;cases d with
 |true=>rw[wy,aJ ⟨h,j⟩,aI (λz=>hn z.1),cG];rfl
 |false=>rw[wy,aI (λz=>hn z.1),aJ ⟨h,j⟩,cF];rfl
theorem xy8{s:Int}{k:Nat}{p:Nat}{q:Nat}(h:wy a s k (some (p,e)) q≠0):∃d,far s d (xr a p) (xr a q)/\e≠some d:=by
 rw[wy]at h;by_cases h1:far s true (xr a p) (xr a q)/\e≠some true
 .exact⟨true,h1⟩
 .by_cases h2:far s false (xr a p) (xr a q)/\e≠some false
  .exact⟨false,h2⟩
  .rw[aI h1,aI h2]at h;exact aZ rfl h
theorem xo3{s:Int}(hs:1<=s)(k:Nat)(st:St')(d:Bool)(q:Nat)(h:zd9 a s st d q):wy a s (k+1) st q=sumF a s k (nxS st d q) (q+1):=by
 cases st with
 |none=>show bgn a s (k+1) q=_;rw[bgn,zn7,zn7,<-xi6];unfold sumF;congr 1;apply br;intro j _;show _=wy a s k (some (q,none)) (q+1+j);rw[wy];simp
 |some z=>obtain⟨p,e⟩:=z;rw[zu5 hs h.1 h.2,zn7];unfold sumF;congr 1;apply br;intro j _;show _=wy a s k (some (q,some d)) (q+1+j);rw[wy];cases d <;> simp
def Tld(a:List Int)(s:Int)(T:List Nat):St'->Prop
 |none=>T=[]
 |some (p,none)=>T=[p]/\p<a.length
 |some (p,some d)=>∃T1 o,T=T1++[o,p]/\o<p/\p<a.length/\far s d (xr a o) (xr a p)/\∃d0,Wd (xr a) a.length s d0 T
theorem Tld.wv{a:List Int}{s:Int}{T:List Nat}:∀{st:St'},Tld a s T st->Wv (xr a) a.length s T
 |none,h=>.inl h
 |some (p,none),h=>.inr ⟨true,by rw[h.1];exact h.2⟩
 |some (p,some d),h=>by obtain⟨z,o,_,_,_,_,j,w⟩:=h;exact .inr ⟨j,w⟩
section
variable {x:Nat->Int}{n:Nat}{s:Int}
theorem ym3{d:Bool}{t:Nat}(h:Wd x n s d (t::l))(j:l≠[]):∃c r,l=c::r/\t<c/\far s d (x t) (x c)/\Wd x n s (!d) (c::r):=by
 cases l with
 |nil=>exact aZ rfl j
 |cons c r=>exact⟨c,r,rfl,h⟩
theorem zd8(hs:1<=s){o p q:Nat}{d:Bool}(O:far s d (x o) (x p))(z:p<q)(G:q<n)(N:far s (!d) (x p) (x q)):∀(T:List Nat)(j:Bool),Wd x n s j (T++[o,p])->Wd x n s j (T++[o,p]++[q])
 |[],j,h=>by have e:=zx7 hs h.2.1 O;subst e;exact⟨h.1,h.2.1,z,N,G⟩
 |t::T,j,h=>by obtain⟨c,r,e,h1,h2,U⟩:=ym3 (l:=T++[o,p]) h aD;rw[<-e]at U;have:=zd8 hs O z G N T (!j) U;show Wd x n s j (t::(T++[o,p]++[q]));rw[e]at this ⊢;exact⟨h1,h2,this⟩
theorem M3{p:Nat}{l:List Nat}:∀(T:List Nat)(j:Bool),Wd x n s j (T++p::l)->∃d,Wd x n s d (p::l)
 |[],j,h=>⟨j,h⟩
 |t::T,j,h=>by obtain⟨c,r,e,_,_,z⟩:=ym3 (l:=T++p::l) h aD;rw[<-e]at z;exact M3 T _ z
end
theorem Q8{a:List Int}{s:Int}(hs:1<=s){T:List Nat}{q:Nat}(j:q<a.length){d:Bool}:∀{st:St'},Tld a s T st->aft st<=q->zd9 a s st d q->Tld a s (T++[q]) (nxS st d q)
 |none,h,_,_=>by have h:T=[]:=h;subst h;exact⟨rfl,j⟩
 |some (p,none),h,ha,hw=>by obtain⟨rfl,hp⟩:=h;have ha:p+1<=q:=ha;exact⟨[],p,rfl,aA,j,hw.1,d,aA,hw.1,j⟩
 |some (p,some e),h,ha,hw=>by
  obtain⟨N,o,rfl,U,hp,O,G,w⟩:=h;have ha:p+1<=q:=ha;have z:d= !e:=by have:=hw.2;cases d <;> cases e <;> simp at*
  refine⟨N++[o],p,by simp,aA,j,hw.1,G,?_⟩;exact zd8 hs O aA j (by rw[<-z];exact hw.1) N G w
theorem yx4{a:List Int}{s:Int}(hs:1<=s){T:List Nat}{q:Nat}{r:List Nat}{k:Nat}(hr:r.length=k)(hw:Wv (xr a) a.length s (T++q::r)):∀{st:St'},Tld a s T st->wy a s k st q≠0/\aft st<=q/\q<a.length
 |none,h=>by
  have h:T=[]:=h;subst h;rcases hw with z|⟨d,z⟩
  .cases z
  .exact⟨(wz4 a s k q z.lt).mpr ⟨d,r,z,hr⟩,aY _,z.lt⟩
 |some (p,none),h=>by
  obtain⟨rfl,hp⟩:=h;rcases hw with z|⟨d,z⟩
  .cases z
  .have z:Wd (xr a) a.length s d (p::q::r):=z;refine⟨?_,z.1,z.2.2.lt⟩;rw[zu5 hs z.2.1 aD];exact(N8 a s k (!d) q z.2.2.lt).mpr ⟨r,z.2.2,hr⟩
 |some (p,some e),h=>by
  obtain⟨N,o,rfl,O,hp,j,_⟩:=h;rcases hw with z|⟨G,z⟩
  .simp at z
  .rw[dI]at z;obtain⟨d,z⟩:=M3 N G z;have z:Wd (xr a) a.length s d (o::p::q::r):=z;have hd:=zx7 hs z.2.1 j;subst hd;refine⟨?_,z.2.2.1,z.2.2.2.2.lt⟩;rw[zu5 hs z.2.2.2.1 (by cases d <;> simp)];exact(N8 a s k _ q z.2.2.2.2.lt).mpr ⟨r,z.2.2.2.2,hr⟩
end
section
open PySem L2
theorem zd4{s:Int}{p q:Nat}(j:p<q)(z:q<a.length):P6 a s (p:Int) w ((q:Int)::ps)=if ((xr a q-xr a p).natAbs:Int)<s\/w=some (decide (0<xr a q-xr a p))then false else P6 a s (q:Int) (some (decide (0<xr a q-xr a p))) ps:=by rw[P6,aI aA,aJ (show (-1:Int)<(p:Int)by lia),yf0,yf0]
theorem yx5{s:Int}{p:Nat}(hp:p<a.length):P6 a s (-1) none ((p:Int)::ps)=P6 a s (p:Int) none ps:=by rw[P6,aI aA,aI (show ¬ (-1:Int) < -1 by lia)]
theorem N6{s:Int}(hs:1<=s){a b:Int}{d:Bool}(h:far s d a b):¬ ((b-a).natAbs:Int)<s/\decide (0<b-a)=d:=xb6 hs h
theorem xp5{s:Int}(hs:1<=s){p q:Nat}(hp:p<a.length)(j:p<q)(G:q<a.length):areW a s (NI [p,q])=true↔∃d,far s d (xr a p) (xr a q)/\(none:Option Bool)≠some d:=by
 rw[xz3 _ _ _ hs];show P6 a s (-1) none [(p:Int),(q:Int)]=true↔_;rw[yx5 hp,zd4 j G];constructor
 .intro h;by_cases z:((xr a q-xr a p).natAbs:Int)<s
  .rw[aJ (.inl z)]at h;cases h
  .exact⟨_,zs3 z,by simp⟩
 .rintro⟨d,h,_⟩;rw[aI]
  .rfl
  .rintro(z|z)
   .exact(N6 hs h).1 z
   .cases z
theorem yo9{s:Int}(hs:1<=s){o p q:Nat}{e:Bool}(N:o<p)(hp:p<a.length)(O:far s e (xr a o) (xr a p))(j:p<q)(G:q<a.length):areW a s (NI [o,p,q])=true↔∃d,far s d (xr a p) (xr a q)/\some e≠some d:=by
 rw[xz3 _ _ _ hs];show P6 a s (-1) none [(o:Int),(p:Int),(q:Int)]=true↔_;obtain⟨f1,Z⟩:=N6 hs O;rw[yx5 aA,zd4 N hp,aI (by rintro(z|z);exact f1 z;cases z),Z,zd4 j G];constructor
 .intro h;by_cases z:((xr a q-xr a p).natAbs:Int)<s\/some e=some (decide (0<xr a q-xr a p))
  .rw[aJ z]at h;cases h
  .exact⟨_,zs3 (λy=>z (.inl y)),λy=>z (.inr y)⟩
 .rintro⟨d,h,hne⟩;obtain⟨Y,U⟩:=N6 hs h;rw[aI]
  .rfl
  .rintro(z|z)
   .exact Y z
   .rw[U]at z;exact hne z
theorem xa3{j:Type}(T:List j)(a b:j):cutI (T++[a,b]) (some (-2)) none=[a,b]:=by
 unfold cutI;have e:HT.sIx (T++[a,b]).length 0 (some (-2))=T.length:=by show (if (-2:Int)<0 then ((-2:Int)+((T++[a,b]).length:Int)).toNat else min (-2:Int).toNat (T++[a,b]).length)=_;rw[aJ aC,bL];simp;lia
 rw[e,HT.sIx_none,drop_left,bL];simp
theorem xr1{s:Int}(hs:1<=s){T:List Nat}{p:Nat}(h:Tld a s T (some (p,e))){q:Nat}(j:p<q)(G:q<a.length):
  ∃T0 z,T=T0++[p]/\cutI T (some (-2)) none=z/\z.length<=2/\(areW a s (NI (z++[q]))=true↔∃d,far s d (xr a p) (xr a q)/\e≠some d):=by
 cases e with
 |none=>obtain⟨rfl,hp⟩:=h;exact⟨[],[p],rfl,rfl,by simp,xp5 hs hp j G⟩
 |some e=>obtain⟨N,o,rfl,O,hp,U,_⟩:=h;exact⟨N++[o],[o,p],by simp,xa3 N o p,by simp,yo9 hs O hp U j G⟩
theorem xt9{lo hi:MO}(h1:m ρ=some (ws.map dN))(h2:lo ρ=some l)(j:hi ρ=some h):mcut m lo hi ρ=some ((cutI ws l h).map dN):=by unfold mcut;rw[h1,aP,h2,aP,j,aP,P5]
theorem we5(a:List Int)(s:Int)(k q:Nat)(h:q<a.length):(BL a s k).getD q 0=bgn a s k q:=by unfold BL;rw[aL,bF,db h];rfl
theorem wm0(a:List Int)(s:Int)(k:Nat):(BL a s k).length=a.length:=by unfold BL;simp
abbrev envV(a:List Int)(s:Int)(k:Nat)(T:List Nat)(q:Nat):Ro:=[k0a a,k0c s,some (.sh (lay a s k)),some (.sh (L T)),some (.sh (dN q)),some (.sh (.lst ((BL a s k).map dN))),some (.sh (.lst ((CL a s k true).map dN))),some (.sh (.lst ((CL a s k false).map dN)))]
theorem j4{b:Bool}(h:c a=some b):mif c x y a=(if b then x else y) a:=by unfold mif;rw[h];cases b <;> rfl
theorem xj7(a:List Int)(s:Int)(hs:1<=s)(hr:a.length<=300)(k:Nat)(T:List Nat)(st:St')(hT:Tld a s T st)(q:Nat)(ha:aft st<=q)(j:q<a.length):yp1 [.lst (a.map .int),.int s,lay a s k,L T,dN q]=some (.sh (dN (wy a s k st q))):=by
 have a1:=j5;unfold yp1 wz6;refine Y5 ?_;refine seqI (ρ':=envV a s k T q) rfl ?_;cases st with
 |none=>have hT:T=[]:=hT;subst hT;refine seqR ((j4 (b:=true) rfl).trans ?_);refine Q1 (n4 (ds:=(BL a s k).map dN) (k:=(q:Int)) rfl rfl ?_);rw[G9 _ q (by rw[wm0];exact j),we5 a s k q j];rfl
 |some pe=>
  obtain⟨p,e⟩:=pe;have ha:p+1<=q:=ha;obtain⟨T0,N,eT,e2,l2,G⟩:=xr1 hs hT (q:=q) aA j;have c0:cnot (mtru (mvar 3)) (envV a s k T q)=some false:=by subst eT;unfold cnot mtru;show ((truD (L (T0++[p]))).map _)=_;unfold L;rw[cm];cases T0 <;> rfl
  refine seqI (ρ':=envV a s k T q) ((j4 c0).trans rfl) ?_;have cut:mcut (bvar 3) (j3 (m1 negD (mc (.int 2)))) R8 (envV a s k T q)=some (N.map dN):=by rw[<-e2];exact xt9 rfl rfl rfl
  have Y:mlst (mcat (mcut (bvar 3) (j3 (m1 negD (mc (.int 2)))) R8) (v5 (z7 (mvar 4) anil))) (envV a s k T q)=some (.lst ((NI (N++[q])).map .int)):=by refine(h8 (X0 cut (v7 (z8 (d:=dN q) rfl y7) (w8 aD)) (by simp;lia))).trans ?_;unfold NI;rw[<-dns,cm];rfl
  have aw:=yy8 a (NI (N++[q])) s hs (by unfold NI;simp;lia);have call:=i9 (z8 (x:=mvar 0) (ρ:=envV a s k T q) (d:=.lst (a.map .int)) rfl (z8 (x:=mvar 1) (d:=.int s) rfl (z8 Y y7))) aw;have O:cnot (mtru (l0 ye2 (z7 (mvar 0) (z7 (mvar 1) (z7 (mlst (mcat (mcut (bvar 3) (j3 (m1 negD (mc (.int 2)))) R8) (v5 (z7 (mvar 4) anil)))) anil))))) (envV a s k T q)=some (!(areW a s (NI (N++[q])))):=by unfold cnot;rw[R9 call];rfl
  by_cases hw:areW a s (NI (N++[q]))=true
  .obtain⟨d,hf,hne⟩:=G.mp hw;rw[hw]at O;refine seqI (ρ':=envV a s k T q) ((j4 O).trans rfl) ?_;rw[zu5 hs hf hne];have Z:mix (bvar 0) (mvar 4) (envV a s k T q)=some (.int (xr a q)):=n4 (ds:=a.map .int) (k:=(q:Int)) rfl rfl (J5 a q j);have lst:mix (bvar 3) (m1 negD (mc (.int 1))) (envV a s k T q)=some (dN p):=by subst eT;exact n4 (ds:=(T0++[p]).map dN) (k:=-1) rfl rfl (atI_last dN T0 p)
   have xp:mix (bvar 0) (mix (bvar 3) (m1 negD (mc (.int 1)))) (envV a s k T q)=some (.int (xr a p)):=n4 (ds:=a.map .int) (k:=(p:Int)) rfl lst (J5 a p aA);have U:w5 (m2 gtD (mix (bvar 0) (mvar 4)) (mix (bvar 0) (mix (bvar 3) (m1 negD (mc (.int 1)))))) (envV a s k T q)=some d:=by refine j8 ((w9 Z xp).trans ?_);show some (D.bl (decide (xr a p<xr a q)))=_;congr 2;have g:=(N6 hs hf).2;rw[<-g];apply de.mpr;lia
   refine Q1 ?_;unfold mite;rw[U];cases d with
   |true=>refine n4 (ds:=(CL a s k false).map dN) (k:=(q:Int)) rfl rfl ?_;rw[G9 _ q (by rw[yb8];exact j),xa7 a s k false q j];rfl
   |false=>refine n4 (ds:=(CL a s k true).map dN) (k:=(q:Int)) rfl rfl ?_;rw[G9 _ q (by rw[yb8];exact j),xa7 a s k true q j];rfl
  .have hz:wy a s k (some (p,e)) q=0:=Classical.byContradiction λz=>hw (G.mpr (xy8 z));rw[Bool.not_eq_true]at hw;rw[hw]at O;rw[hz];exact seqR ((j4 O).trans rfl)
def envQ(b:List Int)(s:Int)(Ls:List D)(N:Nat)(T:List Nat)(a:Nat)(o6 o7:Option S):Ro:=[k0a b,k0c s,some (.sh (.lst Ls)),some (.sh (dN N)),some (.own (T.map dN)),some (.sh (dN a)),o6,o7]
theorem zg1{i:Nat}(h:a[i]? =some (some (.own ds)))(h2:m (a.set i (some (.sh (.lst ds))))=some d)(hn:noL d=true):D9 i m a=some d:=by unfold D9;rw[h];simp only;rw[h2];simp only[hn,if_true]
section
variable (b:List Int)(s:Int)(hs:1<=s)(hr:b.length<=300)(Ls:List D)(k:Nat)(T:List Nat)(st:St')(hT:Tld b s T st)
include hs hr hT
theorem xz2(N a:Nat)(o7:Option S)(ha:aft st<=a)(j:a<b.length):mset 7 (D9 4 (l0 yp1 (z7 (mvar 0) (z7 (mvar 1) (z7 (mvar 6) (z7 (mvar 4) (z7 (mvar 5) anil))))))) (envQ b s Ls N T a (some (.sh (lay b s k))) o7)=some (.nx (envQ b s Ls N T a (some (.sh (lay b s k))) (some (.sh (dN (wy b s k st a)))))):=by refine(n9 (zg1 (ds:=T.map dN) rfl (i9 (z8 (d:=.lst (b.map .int)) rfl (z8 (d:=.int s) rfl (z8 (d:=lay b s k) rfl (z8 (d:=L T) rfl (z8 (d:=dN a) rfl y7))))) (xj7 b s hs hr k T st hT a ha j)) rfl)).trans rfl
theorem yh1(N a:Nat)(ha:aft st<=a)(j:a+1<b.length)(z:wy b s k st a<N):A0 (envQ b s Ls N T a (some (.sh (lay b s k))) (some (.sh (dN (wy b s k st a)))))=some (.nx (envQ b s Ls (N-wy b s k st a) T (a+1) (some (.sh (lay b s k))) (some (.sh (dN (wy b s k st (a+1))))))):=by
 unfold A0;refine seqI (ρ':=envQ b s Ls (N-wy b s k st a) T a (some (.sh (lay b s k))) (some (.sh (dN (wy b s k st a))))) ?_ ?_
 .have e:dN (N-wy b s k st a)= .int ((N:Int)-(wy b s k st a:Int)):=by unfold dN;congr 1;lia
  unfold xs4 envQ;rw[e];rfl
 refine seqI (ρ':=envQ b s Ls (N-wy b s k st a) T (a+1) (some (.sh (lay b s k))) (some (.sh (dN (wy b s k st a))))) ?_ ?_
 .have e:dN (a+1)= .int ((a:Int)+1):=rfl;unfold maug envQ;rw[e];rfl
 exact xz2 b s hs hr Ls k T st hT _ (a+1) _ aA j
end
theorem zs8(st:St')(d:Bool)(q:Nat):aft (nxS st d q)=q+1:=by cases st <;> rfl
theorem ym4{s:Int}{k:Nat}{st:St'}{q:Nat}(h:wy η s k st q≠0):∃d,zd9 η s st d q:=by
 cases st with
 |none=>exact⟨true,True.intro⟩
 |some j=>obtain⟨p,e⟩:=j;exact xy8 h
theorem zr8(a:List Int)(s:Int)(k:Nat):sumF a s k none 0=(BL a s k).sum:=by unfold sumF BL;rw[Nat.sub_zero];congr 1;apply br;intro p _;show bgn a s k (0+p)=_;rw[cF]
theorem xb5{n a:Nat}(h:n<=300):n+1<=a+1000:=aA
theorem yd2{J j k:Nat}(z:J-1-j=k)(h:j+1<J):J-1-(j+1)=k-1/\k-1+1=k:=aA
theorem yq2{n:Nat}{l:List D}(h:l.length<=n)(hn:n<=300):l.length<sizeLine:=by have:=j5;lia
def tot(a:List Int)(s:Int)(J:Nat):Nat:=if J=0 then 1 else (BL a s (J-1)).sum
end
section
open PySem L2
def stN(a:List Int)(s:Int):St'->Nat->Option St'
 |none,q=>some (some (q,none))
 |some (p,e),q=>if far s true (xr a p) (xr a q)/\e≠some true then some (some (q,some true))else if far s false (xr a p) (xr a q)/\e≠some false then some (some (q,some false))else none
def cts(b:List Int)(s:Int):Nat->St'->Nat->List (List Nat)
 |0,st,a=>(List.range' a (b.length-a)).flatMap λq=>if (stN b s st q).isSome then [[q]]else []
 |k+1,st,a=>(List.range' a (b.length-a)).flatMap λq=>match stN b s st q with |none=>[]|some st'=>(cts b s k st' (q+1)).map (q::·)
def blk(a:List Int)(s:Int):Nat->St'->Nat->List (List Nat)
 |0,st,q=>if (stN a s st q).isSome then [[q]]else []
 |k+1,st,q=>match stN a s st q with |none=>[]|some st'=>(cts a s k st' (q+1)).map (q::·)
theorem zn5(b:List Int)(s:Int)(k:Nat)(st:St')(a:Nat):cts b s k st a=(List.range' a (b.length-a)).flatMap (blk b s k st):=by
 cases k with
 |zero=>rfl
 |succ k=>rfl
theorem S0(b:List Int)(s:Int)(k:Nat)(st:St')(a:Nat)(h:a<b.length):cts b s k st a=blk b s k st a++cts b s k st (a+1):=by rw[zn5,zn5,G2 a b.length h,flatMap_cons]
theorem zw0(b:List Int)(s:Int)(k:Nat)(st:St')(a:Nat)(h:b.length<=a):cts b s k st a=[]:=by rw[zn5,show b.length-a=0 by omega];rfl
theorem zr9{s:Int}(hs:1<=s){st:St'}{d:Bool}{q:Nat}(h:zd9 a s st d q):stN a s st q=some (nxS st d q):=by
 cases st with
 |none=>rfl
 |some j=>
  obtain⟨p,e⟩:=j;have hn:=zn1 hs h.1;cases d with
  |true=>rw[stN,aJ (show far s true (xr a p) (xr a q)/\e≠some true from h)];rfl
  |false=>rw[stN,aI (λz=>hn z.1),aJ (show far s false (xr a p) (xr a q)/\e≠some false from h)];rfl
theorem M5{s:Int}{st st':St'}{q:Nat}(h:stN a s st q=some st'):∃d,zd9 a s st d q/\st'=nxS st d q:=by
 cases st with
 |none=>cases h;exact⟨true,True.intro,rfl⟩
 |some j=>
  obtain⟨p,e⟩:=j;rw[stN]at h;split at h
  .rename_i z;cases h;exact⟨true,z,rfl⟩
  .split at h
   .rename_i z;cases h;exact⟨false,z,rfl⟩
   .cases h
theorem zq0{s:Int}{k:Nat}{st:St'}{q:Nat}(h:stN a s st q=none):wy a s k st q=0:=by
 cases st with
 |none=>cases h
 |some j=>
  obtain⟨p,e⟩:=j;rw[stN]at h;split at h
  .cases h
  .rename_i z;split at h
   .cases h
   .rename_i z2;rw[wy,aI z,aI z2]
theorem xj2{s:Int}(hs:1<=s){st:St'}{q:Nat}{d:Bool}(h:zd9 a s st d q):wy a s 0 st q=1:=by
 cases st with
 |none=>rfl
 |some j=>obtain⟨p,e⟩:=j;rw[zu5 hs h.1 h.2];rfl
theorem G7(b:List Int)(s:Int)(hs:1<=s):∀(k:Nat),(∀st q,(blk b s k st q).length=wy b s k st q)/\∀(n:Nat) st a,b.length-a=n->(cts b s k st a).length=sumF b s k st a:=by
 intro k;induction k with
 |zero=>
  have j:∀st q,(blk b s 0 st q).length=wy b s 0 st q:=λst q=>by
   cases h:stN b s st q with
   |none=>rw[zq0 h];rw[blk,h];rfl
   |some st'=>obtain⟨d,hd,_⟩:=M5 h;rw[xj2 hs hd];rw[blk,h];rfl
  refine⟨j,λn=>?_⟩;induction n with
  |zero=>intro st a h;rw[zw0 _ _ _ _ _ aB,Q9 _ _ _ _ _ aB];rfl
  |succ n G=>intro st a h;rw[S0 _ _ _ _ _ aB,zz1 _ _ _ _ _ aB,bL,j,G st (a+1) aB]
 |succ k z=>
  have j:∀st q,(blk b s (k+1) st q).length=wy b s (k+1) st q:=λst q=>by
   cases h:stN b s st q with
   |none=>rw[zq0 h];rw[blk,h];rfl
   |some st'=>obtain⟨d,hd,e⟩:=M5 h;rw[xo3 hs k st d q hd];rw[blk,h];simp only[length_map];rw[z.2 _ _ _ rfl,e]
  refine⟨j,λn=>?_⟩;induction n with
  |zero=>intro st a h;rw[zw0 _ _ _ _ _ aB,Q9 _ _ _ _ _ aB];rfl
  |succ n G=>intro st a h;rw[S0 _ _ _ _ _ aB,zz1 _ _ _ _ _ aB,bL,j,G st (a+1) aB]
theorem zn4(b:List Int)(s:Int)(k:Nat)(st:St')(a:Nat)(m:List Nat):m∈cts b s k st a↔∃q,a<=q/\q<b.length/\m∈blk b s k st q:=by
 rw[zn5,mem_flatMap];constructor
 .rintro⟨q,hq,h⟩;rw[mem_range'_1]at hq;exact⟨q,hq.1,aB,h⟩
 .rintro⟨q,h1,h2,h⟩;exact⟨q,by rw[mem_range'_1];omega,h⟩
theorem yb1(e:List Int)(s:Int)(hs:1<=s):∀(k:Nat)(st:St')(T:List Nat)(m:List Nat),Tld e s T st->(m∈cts e s k st (aft st)↔m.length=k+1/\Wv (xr e) e.length s (T++m))
 |0,st,T,m,hT=>by
  rw[zn4];constructor
  .rintro⟨q,h1,h2,h⟩;rw[blk]at h;cases j:stN e s st q with
   |none=>rw[j]at h;cases h
   |some st'=>rw[j]at h;have h:m∈[[q]]:=h;rw[bm.mp h];obtain⟨d,hd,_⟩:=M5 j;exact⟨rfl,(Q8 hs h2 hT h1 hd).wv⟩
  .rintro⟨h1,h2⟩
   match m,h1 with
   |[q],_=>
    obtain⟨a,b,c⟩:=yx4 hs (T:=T) (q:=q) (r:=[]) (k:=0) rfl h2 hT;refine⟨q,b,c,?_⟩;rw[blk];cases j:stN e s st q with
    |none=>exact aZ (zq0 j) a
    |some st'=>exact bm.mpr rfl
 |k+1,st,T,m,hT=>by
  rw[zn4];constructor
  .rintro⟨q,h1,h2,h⟩;rw[blk]at h;cases j:stN e s st q with
   |none=>rw[j]at h;cases h
   |some st'=>rw[j]at h;obtain⟨G,N,rfl⟩:=bG.mp (show m∈(cts e s k st' (q+1)).map (q::·)from h);obtain⟨d,hd,rfl⟩:=M5 j;have z:=Q8 hs h2 hT h1 hd;rw[<-zs8 st d q]at N;obtain⟨e1,e2⟩:=(yb1 e s hs k _ _ G z).mp N;rw[dI]at e2;exact⟨by rw[bH,e1],e2⟩
  .rintro⟨h1,h2⟩
   match m,h1 with
   |q::G,h1=>
    have O:G.length=k+1:=by simpa using h1
    obtain⟨a,b,c⟩:=yx4 hs (T:=T) (q:=q) (r:=G) (k:=k+1) O h2 hT;refine⟨q,b,c,?_⟩;obtain⟨d,hd⟩:=ym4 a;have j:=zr9 hs hd;rw[blk,j];have z:=Q8 hs c hT b hd;refine bG.mpr ⟨G,?_,rfl⟩;rw[<-zs8 st d q];exact(yb1 e s hs k _ _ G z).mpr ⟨O,by rw[dI];exact h2⟩
theorem zg3(q:Nat)(a b:List Nat):lx (q::a) (q::b)=lx a b:=by rw[lx];simp
theorem zt9{p q:Nat}(h:p<q)(a b:List Nat):lx (p::a) (q::b)=true:=by rw[lx];simp[h]
theorem J4(a:List Int)(s:Int)(k:Nat)(st:St')(q:Nat)(m:List Nat)(h:m∈blk a s k st q):∃r,m=q::r:=by
 cases k with
 |zero=>
  rw[blk]at h;split at h
  .exact⟨[],bm.mp h⟩
  .cases h
 |succ k=>
  rw[blk]at h;split at h
  .cases h
  .obtain⟨m',_,e⟩:=bG.mp h;exact⟨m',e.symm⟩
theorem wn7(c:List Int)(s:Int):∀(k:Nat),(∀st q,(blk c s k st q).Pairwise (λa b=>lx a b=true))/\∀(n:Nat) st a,c.length-a=n->(cts c s k st a).Pairwise (λa b=>lx a b=true):=by
 intro k;have go:(∀st q,(blk c s k st q).Pairwise (λa b=>lx a b=true))->∀(n:Nat) st a,c.length-a=n->(cts c s k st a).Pairwise (λa b=>lx a b=true):=λj n=>by
  induction n with
  |zero=>intro st a h;rw[zw0 _ _ _ _ _ aB];exact .nil
  |succ n z=>intro st a h;rw[S0 _ _ _ _ _ aB,eF];refine⟨j st a,z st (a+1) aB,λx O y N=>?_⟩;obtain⟨r,rfl⟩:=J4 _ _ _ _ _ _ O;obtain⟨q,h1,_,h2⟩:=(zn4 _ _ _ _ _ _).mp N;obtain⟨U,rfl⟩:=J4 _ _ _ _ _ _ h2;exact zt9 aB _ _
 induction k with
 |zero=>
  have j:∀st q,(blk c s 0 st q).Pairwise (λa b=>lx a b=true):=λst q=>by
   rw[blk];split
   .exact dj _ _
   .exact .nil
  exact⟨j,go j⟩
 |succ k G=>
  have z:=G (λj n=>by
   induction n with
   |zero=>intro st a h;rw[zw0 _ _ _ _ _ aB];exact .nil
   |succ n z=>intro st a h;rw[S0 _ _ _ _ _ aB,eF];refine⟨j st a,z st (a+1) aB,λx O y N=>?_⟩;obtain⟨r,rfl⟩:=J4 _ _ _ _ _ _ O;obtain⟨q,h1,_,h2⟩:=(zn4 _ _ _ _ _ _).mp N;obtain⟨U,rfl⟩:=J4 _ _ _ _ _ _ h2;exact zt9 aB _ _)
  have j:∀st q,(blk c s (k+1) st q).Pairwise (λa b=>lx a b=true):=λst q=>by
   rw[blk];split
   .exact .nil
   .rw[pairwise_map];exact(z.2 _ _ _ rfl).imp λh=>by rw[zg3];exact h
  exact⟨j,go j⟩
theorem ym9:∀{a b:List (List Nat)},a.Pairwise (λx y=>lx x y=true)->b.Pairwise (λx y=>lx x y=true)->(∀m,m∈a↔m∈b)->a=b
 |[],[],_,_,_=>rfl
 |[],y::b,_,_,h=>aZ ((h y).mpr aD) aD
 |x::a,[],_,_,h=>aZ ((h x).mp aD) aD
 |x::a,y::b,ha,hb,h=>by
  rw[pairwise_cons]at ha hb;have e:x=y:=by
   rcases ba.mp ((h x).mp aD)with z|z
   .exact z
   .rcases ba.mp ((h y).mpr aD)with w|w
    .exact w.symm
    .have:=yv9 (hb.1 x z) (ha.1 y w);rw[ye3]at this;cases this
  subst e;have ne:∀{c:List (List Nat)},(∀m∈c,lx x m=true)->x∉c:=λhc z=>by have:=hc x z;rw[ye3]at this;cases this
  rw[ym9 ha.2 hb.2 λm=>?_];constructor
  .intro z;rcases ba.mp ((h m).mp (bt _ z))with w|w
   .rw[w]at z;exact aZ z (ne ha.1)
   .exact w
  .intro z;rcases ba.mp ((h m).mpr (bt _ z))with w|w
   .rw[w]at z;exact aZ z (ne hb.1)
   .exact w
def ctsJ(a:List Int)(s:Int):Nat->List (List Nat)
 |0=>[[]]
 |J+1=>cts a s J none 0
theorem B6(a:List Int)(s:Int)(hs:1<=s)(J:Nat)(m:List Nat):m∈ctsJ a s J↔Wv (xr a) a.length s m/\m.length=J:=by
 cases J with
 |zero=>show m∈[[]]↔_;rw[cU];exact⟨λh=>by rw[h];exact⟨.inl rfl,rfl⟩,λh=>cQ.mp h.2⟩
 |succ J=>have:=yb1 a s hs J none [] m rfl;rw[dC]at this;exact this.trans And.comm
theorem xa4(c:List Int)(s:Int)(J:Nat):(ctsJ c s J).Pairwise (λa b=>lx a b=true):=by
 cases J with
 |zero=>exact dj _ _
 |succ J=>exact(wn7 c s J).2 _ none 0 rfl
theorem yt4(a:List Int)(s:Int)(hs:1<=s)(J:Nat):(ctsJ a s J).length=tot a s J:=by
 cases J with
 |zero=>rfl
 |succ J=>show (cts a s J none 0).length=_;rw[(G7 a s hs J).2 _ none 0 rfl,zr8];rfl
section
variable (b:List Int)(s:Int)(hs:1<=s)(hr:b.length<=300)(Ls:List D)(k:Nat)(T:List Nat)(st:St')(hT:Tld b s T st)
include hs hr hT
theorem zi7:∀(f N a:Nat),1<=N->N<=sumF b s k st a->b.length+1<=a+f->aft st<=a->∃z O,a<=z/\z<b.length/\1<=O/\O<=wy b s k st z/\(cts b s k st a).drop (N-1)=(cts b s k st z).drop (O-1)/\
  S4 (w5 (m2 ltD (mvar 7) (mvar 3))) A0 f (envQ b s Ls N T a (some (.sh (lay b s k))) (some (.sh (dN (wy b s k st a)))))=some (.nx (envQ b s Ls O T z (some (.sh (lay b s k))) (some (.sh (dN (wy b s k st z))))))
 |0,N,a,h1,h2,h3,_=>by rw[Q9 b s k st a aA]at h2;lia
 |f+1,N,a,h1,h2,h3,h4=>by
  have G:a<b.length:=by
   rcases bq a b.length with w|w
   .exact w
   .rw[Q9 b s k st a w]at h2;lia
  have nx:=zz1 b s k st a G;have c:w5 (m2 ltD (mvar 7) (mvar 3)) (envQ b s Ls N T a (some (.sh (lay b s k))) (some (.sh (dN (wy b s k st a)))))=some (decide (wy b s k st a<N)):=by refine(zu9 (i:=(wy b s k st a:Int)) (j:=(N:Int)) rfl rfl).trans ?_;congr 1;apply de.mpr;omega
  unfold S4;rw[c];by_cases U:wy b s k st a<N
  .have hlt2:a+1<b.length:=by
    rcases bq (a+1) b.length with w|w
    .exact w
    .rw[Q9 b s k st (a+1) w]at nx;lia
   rw[aV U];simp only[yh1 b s hs hr Ls k T st hT N a h4 hlt2 U];obtain⟨z,O,g1,g2,g3,g4,Z,Y⟩:=zi7 f (N-wy b s k st a) (a+1) aA aA aA aA;refine⟨z,O,aA,g2,g3,g4,?_,Y⟩;rw[<-Z,S0 b s k st a G,drop_append,eu (by rw[(G7 b s hs k).1];lia),dC,(G7 b s hs k).1];congr 1;lia
  .rw[aQ U];refine⟨a,N,aN _,G,h1,aA,rfl,rfl⟩
end
abbrev Pk(a:List Int)(s:Int)(J N:Nat)(T:List Nat):Prop:=T=(ctsJ a s J).getD (N-1) []
def InvP(a:List Int)(s:Int)(Ls:List D)(J:Nat)(G:List Nat)(j:Nat)(b:Ro):Prop:=∃T st M o6 o7,b=envQ a s Ls M T (aft st) o6 o7/\T.length=j/\Tld a s T st/\(j<J->1<=M/\M<=sumF a s (J-1-j) st (aft st)/\∃X,(cts a s (J-1-j) st (aft st))[M-1]? =some X/\G=T++X)/\(j=J->G=T)
theorem E7{j:Type}(l:List j)(n:Nat):l[n]? =(l.drop n)[0]?:=by rw[getElem?_drop,cG]
theorem yi8{s:Int}(hs:1<=s)(hr:η.length<=300){J:Nat}(hJ:J<=300){j:Nat}(hj:j<J)(hI:InvP η s Ls J G j b):∃ρ1,tgD (.nm 6) (lay η s (J-1-j)) b=some ρ1/\∃Y,zm5 ρ1=some (.nx Y)/\InvP η s Ls J G (j+1) Y:=by
 obtain⟨T,st,M,o6,o7,rfl,hl,hT,hM,_⟩:=hI;obtain⟨m1,m2,X,hX,hG⟩:=hM hj;generalize hk:J-1-j=k at m2 hX;refine⟨envQ η s Ls M T (aft st) (some (.sh (lay η s k))) o7,rfl,?_⟩;have Z:aft st<η.length:=by
  rcases bq (aft st) η.length with w|w
  .exact w
  .rw[Q9 η s k st _ w]at m2;exact aZ (bE m1 m2) aC
 obtain⟨a,U,g1,g2,g3,g4,g5,g7⟩:=zi7 η s hs hr Ls k T st hT 1000 M (aft st) m1 m2 (xb5 hr) (aN _);obtain⟨d,hd⟩:=ym4 (η:=η) (s:=s) (k:=k) (st:=st) (q:=a) (λz=>by rw[z]at g4;exact aZ (bE g3 g4) aC);have a1:=Q8 hs g2 hT g1 hd;have lT:(T.map dN).length<sizeLine:=yq2 (n:=J) (by rw[aW,hl];exact dk hj) hJ;have N:(blk η s k st a)[U-1]? =some X:=by rw[E7,g5,<-E7,S0 η s k st a g2,bT (by rw[(G7 η s hs k).1];omega)]at hX;exact hX
 refine⟨envQ η s Ls U (T++[a]) (a+1) (some (.sh (lay η s k))) (some (.sh (dN (wy η s k st a)))),?_,T++[a],nxS st d a,U,_,_,by rw[zs8],by rw[bL,hl];rfl,a1,λO=>⟨g3,?_,?_⟩,λO=>?_⟩
 .unfold zm5;refine seqI (xz2 η s hs hr Ls k T st hT M (aft st) _ (aN _) Z) (seqI g7 ?_);unfold ys2;refine seqI (ρ':=envQ η s Ls U (T++[a]) a (some (.sh (lay η s k))) (some (.sh (dN (wy η s k st a))))) ?_ ?_
  .unfold mapp;show (if (T.map dN).length<sizeLine then _ else none)=_;rw[aJ lT];unfold envQ;rw[cm];rfl
  .have e:dN (a+1)= .int ((a:Int)+1):=rfl;unfold maug envQ;rw[e];rfl
 .rw[zs8,(yd2 hk O).1,<-xo3 hs (k-1) st d a hd,(yd2 hk O).2];exact g4
 .obtain⟨e1,e2⟩:=yd2 hk O;rw[<-e2,blk,zr9 hs hd]at N;simp only[getElem?_map]at N;cases hc:(cts η s (k-1) (nxS st d a) (a+1))[U-1]? with
  |none=>rw[hc]at N;cases N
  |some X'=>rw[hc]at N;have N:a::X'=X:=bn N;refine⟨X',by rw[e1,zs8];exact hc,?_⟩;rw[hG,<-N,dI];rfl
 .have hk0:k=0:=aA;rw[hk0,blk,zr9 hs hd]at N;have N:([[a]]:List (List Nat))[U-1]? =some X:=N;have a2:U-1=0:=by
   rcases Nat.eq_zero_or_pos (U-1)with z|z
   .exact z
   .rw[bg (show ([[a]]:List (List Nat)).length<=U-1 from z)]at N;cases N
  rw[a2]at N;have N:[a]=X:=bn N;rw[hG,<-N]
theorem yi7(g:List Int)(s:Int)(hs:1<=s)(hr:g.length<=300)(J N:Nat)(hJ:J<=300)(Z:J=0\/(1<=N/\N<=(BL g s (J-1)).sum)):
  ∃T,Pk g s J N T/\yp2 [.lst (g.map .int),.int s,.lst ((List.range J).map (lay g s)),dN N]=some (.fr (T.map dN)):=by
 suffices h:Run xp2 (m8 8 [.lst (g.map .int),.int s,.lst ((List.range J).map (lay g s)),dN N]) (λo=>∃es,o= .rf es/\∃T,Pk g s J N T/\es=T.map dN)by obtain⟨es,e,T,hT,rfl⟩:=C2 h;exact⟨T,hT,by unfold yp2;exact e⟩
 unfold xp2;generalize U:(List.range J).map (lay g s)=Ls;refine h6 (ρ':=[k0a g,k0c s,some (.sh (.lst Ls)),some (.sh (dN N)),some (.own []),none,none,none]) ((X8 (v7 y7 (aY _))).trans rfl) ?_;refine h6 (ρ':=envQ g s Ls N [] 0 none none) rfl ?_;have rev:m5 revL (z7 (mvar 2) anil) (envQ g s Ls N [] 0 none none)=some ((List.range J).map λj=>lay g s (J-1-j)):=by
  unfold m5;rw[z8 (d:=.lst Ls) rfl y7,aP];show some Ls.reverse=_;rw[<-U,<-map_reverse];congr 1;have er:(List.range J).reverse=(List.range J).map λx=>0+J-1-x:=by rw[range_eq_range',reverse_range',<-range_eq_range']
  rw[er,bI];apply br;intro j _;show lay g s (0+J-1-j)=_;rw[cF]
 refine X6 (Z2 J (f:=λj=>lay g s (J-1-j)) rev (I:=InvP g s Ls J ((ctsJ g s J).getD (N-1) [])) _ ⟨[],none,N,none,none,rfl,rfl,rfl,λO=>?_,λe=>?_⟩ (λj i O Y=>?_) ?_)
 .rcases Z with z|z
  .rw[z]at O;exact aZ O (bP 0)
  .have hs':sumF g s (J-1-0) none 0=(BL g s (J-1)).sum:=by rw[Nat.sub_zero,zr8]
   refine⟨z.1,by show N<=sumF g s (J-1-0) none 0;rw[hs'];exact z.2,?_⟩;cases J with
   |zero=>exact aZ O (bP 0)
   |succ J=>
    show ∃X,(cts g s (J+1-1-0) none 0)[N-1]? =some X/\(cts g s J none 0).getD (N-1) []=[]++X;rw[show J+1-1-0=J by lia];have G:N-1<(cts g s J none 0).length:=by rw[(G7 g s hs J).2 _ none 0 rfl,zr8];have:=z.2;rw[cX]at this;omega
    refine⟨(cts g s J none 0)[N-1],aK G,?_⟩;rw[aL,aK G];rfl
 .rw[<-e];show ([[]]:List (List Nat)).getD (N-1) []=[];rcases N-1 with _|n <;> rfl
 .obtain⟨ρ1,a,ρ2,b,c⟩:=yi8 hs hr hJ O Y;exact⟨ρ1,a,.nx ρ2,b,c⟩
 .intro i Y;obtain⟨T,st,M,o6,o7,rfl,hl,hT,_,h1⟩:=Y;exact xw0 (ds:=T.map dN) rfl ⟨_,rfl,T,(h1 rfl).symm,rfl⟩
end
section
open PySem L2
theorem zv4(a:List Int)(s:Int)(J:Nat):m_Z0 [.lst ((List.range J).map (lay a s))]=some (.sh (dN (tot a s J))):=by
 unfold m_Z0 b_Z0;refine Y5 (Q1 ?_);unfold mite tot;cases J with
 |zero=>rfl
 |succ J=>
  have t:mtru (mvar 0) (m8 1 [.lst ((List.range (J+1)).map (lay a s))])=some true:=by unfold mtru;show truD (.lst ((List.range (J+1)).map (lay a s)))=_;rw[cq];rfl
  rw[t,aI aA,cX];refine yf3 (ns:=BL a s J) (Y2 ?_);have e:mix (bvar 0) (m1 negD (mc (.int 1))) (m8 1 [.lst ((List.range (J+1)).map (lay a s))])=some (lay a s J):=by refine n4 (ds:=(List.range (J+1)).map (lay a s)) (k:=-1) rfl rfl ?_;rw[range_succ];exact atI_last (lay a s) (List.range J) J
  exact(w9 e (b:=.int 0) rfl).trans rfl
abbrev wj0(a:List Int)(s most:Int)(J:Nat):Prop:=m_Z9 [.lst (a.map .int),.int s,.int most]=some (.fr ((List.range J).map (lay a s)))
abbrev wk7(a:List Int)(s:Int)(J:Nat)(F:Nat->List Nat):Prop:=∀N,1<=N->N<=tot a s J->Pk a s J N (F N)/\yp2 [.lst (a.map .int),.int s,.lst ((List.range J).map (lay a s)),dN N]=some (.fr ((F N).map dN))
theorem xv9(c:List Int)(s:Int)(hs:1<=s)(hr:c.length<=300)(J:Nat)(hJ:J<=300):∃F,wk7 c s J F:=by
 have h:∀N,∃T,1<=N->N<=tot c s J->Pk c s J N T/\yp2 [.lst (c.map .int),.int s,.lst ((List.range J).map (lay c s)),dN N]=some (.fr (T.map dN)):=by
  intro N;by_cases h:1<=N/\N<=tot c s J
  .have h2:J=0\/(1<=N/\N<=(BL c s (J-1)).sum):=by
    by_cases z:J=0
    .exact .inl z
    .refine .inr ⟨h.1,?_⟩;have:=h.2;unfold tot at this
     rwa [aI z]at this
   obtain⟨T,a⟩:=yi7 c s hs hr J N hJ h2;exact⟨T,λ_ _=>a⟩
  .exact⟨[],λa b=>aZ ⟨a,b⟩ h⟩
 exact⟨λN=>Classical.choose (h N),λN=>dv (h N)⟩
theorem xt8(h:x a=some d):zb9 x a=some (.nx a):=by unfold zb9;rw[h];rfl
theorem xm7{a b:Nat}(h1:x ρ=some (dN a))(h2:y ρ=some (dN b)):w5 (m2 ltD x y) ρ=some (decide (a<b)):=by rw[zu9 (i:=(a:Int)) (j:=(b:Int)) h1 h2];congr 1;apply de.mpr;omega
theorem zq1(f:List Int)(s:Int)(hs:1<=s){J G N:Nat}(hL:wj0 f s (G:Int) J)(hN:1<=N){F:Nat->List Nat}(hF:wk7 f s J F):
  m_Z7 [.lst (f.map .int),.int s,dN G,dN N]=some (if J<G\/tot f s J<N then .sh .non else .fr ((F N).map dN)):=by
 unfold m_Z7;suffices h:b_Z7 (m8 5 [.lst (f.map .int),.int s,dN G,dN N])=some (if J<G\/tot f s J<N then .rt .non else .rf ((F N).map dN))by
  by_cases z:J<G\/tot f s J<N
  .rw[aJ z]at h ⊢;exact Y5 h
  .rw[aI z]at h ⊢;exact zz3 h
 unfold b_Z7;refine seqI (ρ':=[k0a f,k0c s,some (.sh (dN G)),some (.sh (dN N)),none]) (xt8 (i9 (z8 (d:=.int s) rfl y7) (P9 s hs))) ?_;have c:cor (w5 (m2 ltD (mvar 3) (mc (.int 1)))) (w5 (m2 ltD (mvar 2) (mc (.int 0)))) [k0a f,k0c s,some (.sh (dN G)),some (.sh (dN N)),none]=some false:=by
  refine O7 (a:=false) (b:=false) ?_ ?_
  .rw[zu9 (i:=(N:Int)) (j:=1) rfl rfl,aQ aA]
  .rw[zu9 (i:=(G:Int)) (j:=0) rfl rfl,aQ aA]
 refine seqI (ρ':=[k0a f,k0c s,some (.sh (dN G)),some (.sh (dN N)),none]) ((j4 c).trans rfl) ?_;refine seqI (ρ':=[k0a f,k0c s,some (.sh (dN G)),some (.sh (dN N)),some (.sh (.lst ((List.range J).map (lay f s))))]) ((n9 (Y8 (z8 (d:=.lst (f.map .int)) rfl (z8 (d:=.int s) rfl (z8 (d:=dN G) rfl y7))) hL)).trans rfl) ?_;have U:=zv4 f s J;have Z:((List.range J).map (lay f s)).length=J:=by simp
 have O:=λh=>(hF N hN h).2;generalize a1:(List.range J).map (lay f s)=Ls at U Z O;have Y:=O7 (xm7 (x:=mlen (bvar 4)) (y:=mvar 2) (ρ:=[k0a f,k0c s,some (.sh (dN G)),some (.sh (dN N)),some (.sh (.lst Ls))]) (a:=J) (b:=G) ((i6 (ds:=Ls) rfl).trans (by rw[Z];rfl)) rfl) (xm7 (x:=l0 m_Z0 (z7 (mvar 4) anil)) (y:=mvar 3) (a:=tot f s J) (b:=N) (i9 (z8 (d:=.lst Ls) rfl y7) U) rfl);by_cases h:J<G\/tot f s J<N
 .rw[aJ h];have e:(decide (J<G) || decide (tot f s J<N))=true:=by simpa using h
  rw[e]at Y;exact seqR ((j4 Y).trans rfl)
 .rw[aI h];have e:(decide (J<G) || decide (tot f s J<N))=false:=by rw[<-Bool.not_eq_true];simpa using h
  rw[e]at Y;refine seqI ((j4 Y).trans rfl) ?_;unfold zv2 V4;rw[z8 (d:=.lst (f.map .int)) rfl (z8 (d:=.int s) rfl (z8 (d:=.lst Ls) rfl (z8 (d:=dN N) rfl y7))),aP,O aA];rfl
def allW(a:List Int)(s:Int):Nat->Bool->Nat->List (List Nat)
 |0,_,p=>[[p]]
 |k+1,d,p=>(abv a s d p).flatMap λq=>(allW a s k (!d) q).map (p::·)
theorem zk3(a:List Int)(s:Int):∀(k:Nat)(d:Bool)(p:Nat),(allW a s k d p).length=cnt a s k d p
 |0,d,p=>rfl
 |k+1,d,p=>by rw[allW,cnt,length_flatMap];congr 1;apply br;intro q _;rw[aW,zk3 a s k (!d) q]
theorem W0(a:List Int)(s:Int):∀(k:Nat)(d:Bool)(p:Nat),p<a.length->∀l,l∈allW a s k d p↔∃m,l=p::m/\Wd (xr a) a.length s d (p::m)/\m.length=k
 |0,d,p,hp,l=>by
  rw[allW,cU];constructor
  .intro e;exact⟨[],e,hp,rfl⟩
  .rintro⟨m,e,_,z⟩;rw[e,eq_nil_of_length_eq_zero z]
 |k+1,d,p,hp,l=>by
  rw[allW,mem_flatMap];constructor
  .rintro⟨q,hq,hl⟩;obtain⟨l',j,e⟩:=bG.mp hl;obtain⟨h1,h2,G⟩:=abv_mem.mp hq;obtain⟨m,e2,w,z⟩:=(W0 a s k (!d) q h2 l').mp j;exact⟨q::m,by rw[<-e,e2],⟨h1,G,w⟩,by rw[bH,z]⟩
  .rintro⟨m,e,w,z⟩;cases m with
   |nil=>cases z
   |cons q m=>exact⟨q,abv_mem.mpr ⟨w.1,w.2.2.lt,w.2.1⟩,bG.mpr ⟨q::m,(W0 a s k (!d) q w.2.2.lt _).mpr ⟨m,rfl,w.2.2,by simpa using z⟩,e.symm⟩⟩
theorem xz9(c:List Int)(s:Int)(d:Bool)(p:Nat):(abv c s d p).Nodup:=by unfold abv;refine List.Pairwise.filter _ (List.pairwise_map.mpr ?_);exact List.Pairwise.imp (λ{a b} h=>by lia) (nodup_range (n:=c.length-(p+1)))
theorem zw4{s:Int}{k:Nat}{d:Bool}{p:Nat}(h:l∈allW a s k d p):l.head? =some p:=by
 cases k with
 |zero=>rw[allW,cU]at h;rw[h];rfl
 |succ k=>rw[allW,mem_flatMap]at h;obtain⟨q,_,h⟩:=h;obtain⟨m,_,e⟩:=bG.mp h;rw[<-e];rfl
theorem F6(c:List Int)(s:Int):∀(k:Nat)(d:Bool)(p:Nat),(allW c s k d p).Nodup
 |0,d,p=>by rw[allW];simp
 |k+1,d,p=>by
  rw[allW];unfold List.Nodup;rw[pairwise_flatMap];constructor
  .intro q _;rw[pairwise_map];exact List.Pairwise.imp (λ{a b} h=>by simpa using h) (F6 c s k (!d) q)
  .refine List.Pairwise.imp (λ{a b} h=>?_) (xz9 c s d p);intro x N y G e;obtain⟨U,z,e1⟩:=bG.mp N;obtain⟨O,j,e2⟩:=bG.mp G;rw[<-e1,<-e2]at e;have e:=(List.cons.inj e).2;have:=zw4 z;rw[e,zw4 j]at this;exact h (bn this).symm
def allB(a:List Int)(s:Int)(k:Nat):List (List Nat):=(List.range a.length).flatMap λp=>if k=0 then [[p]]else allW a s k true p++allW a s k false p
abbrev cN(a:List Int)(s:Int)(k:Nat):Nat:=(BL a s k).sum
theorem xp7(a:List Int)(s:Int)(k:Nat):(allB a s k).length=cN a s k:=by
 unfold allB cN BL;rw[length_flatMap];congr 1;apply br;intro p _;cases k with
 |zero=>rfl
 |succ k=>rw[aI aA,bL,zk3,zk3,bgn]
theorem ys5(a:List Int)(s:Int)(k:Nat)(l:List Nat):l∈allB a s k↔Wv (xr a) a.length s l/\l.length=k+1:=by
 unfold allB;rw[mem_flatMap];constructor
 .rintro⟨p,hp,h⟩;have hp:=bS.mp hp;by_cases z:k=0
  .rw[aJ z,cU]at h;rw[h,z];exact⟨.inr ⟨true,hp⟩,rfl⟩
  .rw[aI z,mem_append]at h;rcases h with h|h
   .obtain⟨m,e,w,y⟩:=(W0 a s k true p hp l).mp h;rw[e];exact⟨.inr ⟨_,w⟩,by rw[bH,y]⟩
   .obtain⟨m,e,w,y⟩:=(W0 a s k false p hp l).mp h;rw[e];exact⟨.inr ⟨_,w⟩,by rw[bH,y]⟩
 .rintro⟨h,hl⟩;rcases h with z|⟨d,z⟩
  .rw[z]at hl;cases hl
  .cases l with
   |nil=>cases hl
   |cons p m=>
    refine⟨p,bS.mpr z.lt,?_⟩;by_cases y:k=0
    .rw[aJ y,cU,eq_nil_of_length_eq_zero (l:=m) (by simp at hl;lia)]
    .rw[aI y,mem_append];cases d with
     |true=>exact .inl ((W0 a s k true p z.lt _).mpr ⟨m,rfl,z,by simpa using hl⟩)
     |false=>exact .inr ((W0 a s k false p z.lt _).mpr ⟨m,rfl,z,by simpa using hl⟩)
theorem yn0(c:List Int)(s:Int)(hs:1<=s)(k:Nat):(allB c s k).Nodup:=by
 unfold allB List.Nodup;rw[pairwise_flatMap];constructor
 .intro p hp;have hp:=bS.mp hp;by_cases z:k=0
  .rw[aJ z];simp
  .rw[aI z,eF];refine⟨F6 c s k true p,F6 c s k false p,λx j y G e=>?_⟩;obtain⟨m,e1,O,l1⟩:=(W0 c s k true p hp x).mp j;obtain⟨U,e2,N,l2⟩:=(W0 c s k false p hp y).mp G;rw[e1,e2]at e;have e:=(List.cons.inj e).2;subst e;cases m with
   |nil=>exact z l1.symm
   |cons q m=>cases zx7 hs O.2.1 N.2.1
 .refine List.Pairwise.imp (λ{a b} h=>?_) (nodup_range (n:=c.length));intro x j y G e;have hd:∀(p:Nat)(x:List Nat),x∈(if k=0 then [[p]]else allW c s k true p++allW c s k false p)->x.head? =some p:=by
   intro p x j;by_cases z:k=0
   .rw[aJ z,cU]at j;rw[j];rfl
   .rw[aI z,mem_append]at j;rcases j with h|h <;> exact zw4 h
  have h1:=hd a x j;rw[e,hd b y G]at h1;exact h (bn h1).symm
theorem xm9{A B:List (List Nat)}(f:List Nat->List Nat)(O:A.Nodup):(∀a∈A,∀b∈A,f a=f b->a=b)->(∀a∈A,f a∈B)->A.length<=B.length:=by
 induction A generalizing B with
 |nil=>intro _ _;exact aY _
 |cons a A G=>
  intro hi hm;have z:=bC.mp O;have ha:=hm a aD;have:=G (B:=B.erase (f a)) z.2 (λx j y N=>hi x (by simp[j]) y (by simp[N])) (λx j=>by refine(mem_erase_of_ne λe=>?_).mpr (hm x (by simp[j]));have:=hi x (by simp[j]) a aD e;subst this;exact z.1 j)
  rw[length_erase_of_mem ha]at this;have hp:0<B.length:=length_pos_of_mem ha;rw[bH];lia
theorem xo7:∀{x:Nat->Int}{n:Nat}{s:Int}{l:List Nat}{d:Bool}{p:Nat},Wd x n s d (p::l)->∀q∈p::l,q<n
 |x,n,s,[],d,p,h,q,hq=>by simp at hq;subst hq;exact h
 |x,n,s,r::l,d,p,h,q,hq=>by
  rcases ba.mp hq with z|z
  .subst z;exact h.lt
  .exact xo7 h.2.2 q z
theorem zu6{x:Nat->Int}{n:Nat}{s:Int}(h:Wv x n s l):∀q∈l,q<n:=by
 rcases h with z|⟨d,z⟩
 .rw[z];simp
 .cases l with
  |nil=>simp
  |cons p l=>exact xo7 z
def cl(a:List Int)(s:Int)(J:Nat):List Nat:=1::(List.range J).map (cN a s)
theorem wz1(a:List Int)(s:Int):cN a s 0=a.length:=by
 unfold cN;rw[ya4];generalize a.length=n;induction n with
 |zero=>rfl
 |succ n j=>rw[range_succ,cm,sum_append,j];rfl
noncomputable def sm(n:Nat)(f:Nat->Nat):Nat:=((List.range n).map f).sum
theorem c7(n:Nat)(f:Nat->Nat):sm (n+1) f=sm n f+f n:=by unfold sm;rw[K2];simp
theorem Z1{n:Nat}{f g:Nat->Nat}(h:∀i,i<n->f i=g i):sm n f=sm n g:=by
 induction n with
 |zero=>rfl
 |succ n j=>rw[c7,c7,j λi hi=>h i aA,h n aA]
theorem yk5(n:Nat)(f g:Nat->Nat):sm n (λi=>f i+g i)=sm n f+sm n g:=by
 induction n with
 |zero=>rfl
 |succ n j=>rw[c7,c7,c7,j];lia
theorem xo9(n:Nat)(f:Nat->Nat)(c:Nat):sm n (λi=>f i*c)=sm n f*c:=by
 induction n with
 |zero=>simp[sm]
 |succ n j=>rw[c7,c7,j,Nat.add_mul]
theorem zq2(n:Nat):sm n (λ_=>0)=0:=by
 induction n with
 |zero=>rfl
 |succ n j=>rw[c7,j]
theorem xh1(n m:Nat)(f:Nat->Nat->Nat):sm n (λi=>sm m λj=>f i j)=sm m λj=>sm n λi=>f i j:=by
 induction n with
 |zero=>rw[show (λj=>sm 0 λi=>f i j)=λ_=>0 from rfl,zq2];rfl
 |succ n z=>rw[c7,z,<-yk5];exact Z1 λj _=>(c7 n λi=>f i j).symm
def rl(a:List Int)(s:Int)(d:Bool)(p q:Nat):Nat:=if p<q/\far s d (xr a p) (xr a q)then 1 else 0
theorem yw2(f:Nat->Nat)(p:Nat->Bool):∀l:List Nat,((l.filter p).map f).sum=(l.map λq=>if p q then f q else 0).sum
 |[]=>rfl
 |a::l=>by
  rw[filter_cons,bz,dB,<-yw2 f p l];cases h:p a with
  |true=>rw[aJ rfl,aJ rfl,bz,dB]
  |false=>rw[aI bf,aI bf,cF]
theorem xh0(n p:Nat)(hp:p<n)(f:Nat->Nat):((List.range (n-(p+1))).map λj=>f (p+1+j)).sum=sm n λq=>if p<q then f q else 0:=by
 have h:∀m,sm (p+1+m) (λq=>if p<q then f q else 0)=((List.range m).map λj=>f (p+1+j)).sum:=λm=>by
  induction m with
  |zero=>rw[cG,Z1 (g:=λ_=>0) λi hi=>aI aB,zq2];rfl
  |succ m z=>rw[<-dP,c7,z,K2,aJ aB];simp
 rw[<-h,show p+1+(n-(p+1))=n by omega]
theorem xk6(a:List Int)(s:Int)(k:Nat)(d:Bool)(p:Nat)(hp:p<a.length):cnt a s (k+1) d p=sm a.length λq=>rl a s d p q*cnt a s k (!d) q:=by
 rw[cnt,abv,yw2,bI];have:=xh0 a.length p hp λq=>if decide (far s d (xr a p) (xr a q))then cnt a s k (!d) q else 0;rw[show ((λq=>if decide (far s d (xr a p) (xr a q))=true then cnt a s k (!d) q else 0)∘λj=>p+1+j)=λj=>if decide (far s d (xr a p) (xr a (p+1+j)))=true then cnt a s k (!d) (p+1+j)else 0 from rfl,this];refine Z1 λq _=>?_;unfold rl;by_cases h1:p<q
 .rw[aJ h1];by_cases h2:far s d (xr a p) (xr a q)
  .rw[aJ (aV h2),aJ ⟨h1,h2⟩,Nat.one_mul]
  .rw[aI (by rw[aQ h2];exact bf),aI (λz=>h2 z.2),Nat.zero_mul]
 .rw[aI h1,aI (λz=>h1 z.1),Nat.zero_mul]
def ecnt(a:List Int)(s:Int):Nat->Bool->Nat->Nat
 |0,_,_=>1
 |k+1,d,q=>sm a.length λp=>rl a s d p q*ecnt a s k (!d) p
def Sx(a:List Int)(s:Int)(i j:Nat)(d:Bool):Nat:=sm a.length λr=>ecnt a s i (!d) r*cnt a s j d r
theorem xy1(a:List Int)(s:Int)(i j:Nat)(d:Bool):Sx a s (i+1) j d=Sx a s i (j+1) (!d):=by
 have h1:Sx a s (i+1) j d=sm a.length λr=>sm a.length λp=>rl a s (!d) p r*ecnt a s i d p*cnt a s j d r:=by unfold Sx;refine Z1 λr _=>?_;rw[ecnt,Bool.not_not,xo9]
 have h2:Sx a s i (j+1) (!d)=sm a.length λp=>sm a.length λr=>rl a s (!d) p r*ecnt a s i d p*cnt a s j d r:=by unfold Sx;refine Z1 λp hp=>?_;rw[xk6 a s j (!d) p hp,Bool.not_not,Nat.mul_comm,<-xo9];refine Z1 λr _=>?_;rw[Nat.mul_assoc,Nat.mul_assoc,Nat.mul_comm (cnt a s j d r)]
 rw[h1,h2,xh1]
theorem xk8(a:List Int)(s:Int):∀(i j:Nat),Sx a s i j true+Sx a s i j false=Sx a s 0 (i+j) true+Sx a s 0 (i+j) false
 |0,j=>by rw[cF]
 |i+1,j=>by rw[xy1,xy1,Bool.not_true,Bool.not_false,Nat.add_comm,xk8 a s i (j+1),show i+(j+1)=i+1+j by lia]
theorem xa1(a:List Int)(s:Int)(k:Nat):cN a s (k+1)=sm a.length λq=>ecnt a s (k+1) true q+ecnt a s (k+1) false q:=by
 have h:=xk8 a s (k+1) 0;have j:∀d,Sx a s 0 (k+1+0) d=sm a.length (cnt a s (k+1) d):=λd=>Z1 λr _=>by rw[ecnt,Nat.one_mul]
 have h1:∀d,Sx a s (k+1) 0 d=sm a.length (ecnt a s (k+1) (!d)):=λd=>Z1 λr _=>by rw[cnt,Nat.mul_one]
 rw[j,j,h1,h1,<-yk5,<-yk5]at h;show sm a.length (bgn a s (k+1))=_;rw[show bgn a s (k+1)=λp=>cnt a s (k+1) true p+cnt a s (k+1) false p from rfl,<-h];exact Z1 λq _=>Nat.add_comm _ _
noncomputable def ptN(a b:List Nat)(k m:Nat):Nat:=a.getD m 0+(if 1<=m/\m<=k then b.getD (m-1) 0 else 0)
def ptL(a b:List Nat)(k:Nat):List Nat:=(List.range (max a.length (b.length+1))).map (ptN a b k)
theorem Z5(a b:List Nat)(k:Nat):(ptL a b k).length=max a.length (b.length+1):=by unfold ptL;simp
theorem zt3(a b:List Nat)(k m:Nat)(h:m<max a.length (b.length+1)):(ptL a b k)[m]? =some (ptN a b k m):=by unfold ptL;rw[bF,db h];rfl
theorem xv0(a b:List Nat):a++List.replicate (b.length+1-a.length) 0=ptL a b 0:=by
 refine dH λm=>?_;by_cases h:m<max a.length (b.length+1)
 .rw[zt3 a b 0 m h,ptN,aI aB,cG];by_cases h2:m<a.length
  .rw[bT h2,aL,aK h2];rfl
  .rw[cr aB,dX,aJ aB,aL,bg aB];rfl
 .rw[bg (by simp;omega),bg (by rw[Z5];omega)]
theorem xv1(a b:List Nat)(k:Nat)(j:k<b.length):(ptL a b k).set (k+1) (ptN a b k (k+1)+b.getD k 0)=ptL a b (k+1):=by
 refine dH λm=>?_;rw[ef];by_cases h:m<max a.length (b.length+1)
 .by_cases e:k+1=m
  .subst e;rw[aJ rfl,aJ (by rw[Z5];exact h),zt3 a b _ _ h];unfold ptN;rw[aI aA,aJ aA];simp
  .rw[aI e,zt3 a b k m h,zt3 a b (k+1) m h];unfold ptN;by_cases h1:1<=m/\m<=k
   .rw[aJ h1,aJ aA]
   .rw[aI h1,aI aA]
 .rw[aI aA,bg (by rw[Z5];lia),bg (by rw[Z5];lia)]
theorem yw3{i:Nat}{ns:List Nat}{p:Nat}{v:Nat}{j x:ME}{a:Ro}(hi:a[i]? =some (some (.own (ns.map dN))))(hp:j a=some (.int (p:Int)))(z:x a=some (dN v))(G:p<ns.length):R0 i j x a=some (.nx (a.set i (some (.own ((ns.set p v).map dN))))):=by
 unfold R0;rw[z,aP];simp only[hi];rw[hp,aP];simp only;have e:ixN (ns.map dN).length (p:Int)=some p:=by unfold ixN;rw[aW,aJ aA,aJ aA];simp
 rw[e,Option.map_some,<-map_set]
theorem yt1:∀(ns:List Nat)(k:Nat),N7 k (ns.map dN)=(List.range ns.length).map λ(i:Nat)=>D.tup [.int ((k+i:Nat):Int),dN (ns.getD i 0)]
 |[],k=>rfl
 |n::ns,k=>by rw[bz,N7,yt1 ns (k+1),bH,cq,bz,bI];refine congr (bi List.cons rfl) (br λi _=>?_);show _=D.tup [.int ((k+(i+1):Nat):Int),dN ((n::ns).getD (i+1) 0)];rw[show k+(i+1)=k+1+i by lia];rfl
def eP(a b f:List Nat)(o3 o4:Option S):Ro:=[some (.sh (L a)),some (.sh (L b)),some (.own (f.map dN)),o3,o4]
theorem yw6(a b:List Nat)(ha:a.length<=1000)(Z:b.length<=1000):zv5 [L a,L b]=some (.fr ((ptL a b b.length).map dN)):=by
 have Y:=j5;have i1:1<=sizeLine:=w8 aC;unfold zv5 wz9;have key:Run (mseq (W4 2 (mcat (bvar 0) (mrep (v5 (z7 (mc (.int 0)) anil)) (m2 subD (m2 addD (mlen (bvar 1)) (mc (.int 1))) (mlen (bvar 0)))))) (mseq (mfor (m5 zx8 (z7 (mvar 1) anil)) (.tp [3,4]) zm7) (L9 2))) (m8 5 [L a,L b]) (λo=>∃es,o= .rf es/\es=(ptL a b b.length).map dN):=by
  refine h6 (ρ':=eP a b (ptL a b 0) none none) ?_ ?_
  .have e0:m2 subD (m2 addD (mlen (bvar 1)) (mc (.int 1))) (mlen (bvar 0)) (m8 5 [L a,L b])=some (.int ((b.length:Int)+1-(a.length:Int))):=by refine(w9 ((w9 (i6 (m:=bvar 1) (ds:=b.map dN) rfl) (b:=.int 1) rfl).trans rfl) (i6 (m:=bvar 0) (ds:=a.map dN) rfl)).trans ?_;rw[aW,aW];rfl
   have O:zw7 1 ((b.length:Int)+1-(a.length:Int))=true:=by unfold zw7;rw[aV aA,aV aA,aV aA];rfl
   have rp:=zb6 (x:=v5 (z7 (mc (.int 0)) anil)) (v7 (z8 (d:=.int 0) rfl y7) i1) e0 O;have e1:(List.replicate ((b.length:Int)+1-(a.length:Int)).toNat [D.int 0]).flatten=(List.replicate (b.length+1-a.length) 0).map dN:=by
    rw[show ((b.length:Int)+1-(a.length:Int)).toNat=b.length+1-a.length by lia,map_replicate];generalize b.length+1-a.length=n;induction n with
    |zero=>rfl
    |succ n U=>rw[cE,dG,U,cE];rfl
   rw[e1]at rp;refine(X8 (X0 (x:=bvar 0) (ds:=a.map dN) rfl rp (w8 (by rw[aW,aW,length_replicate];lia)))).trans ?_;rw[<-cm,xv0];rfl
  refine X6 (Z2 b.length (f:=λ(i:Nat)=>D.tup [.int (i:Int),dN (b.getD i 0)]) ?_ (I:=λk c=>∃z j,c=eP a b (ptL a b k) z j) _ ⟨_,_,rfl⟩ ?_ ?_)
  .unfold m5;rw[z8 (x:=mvar 1) (d:=.lst (b.map dN)) rfl y7,aP];show some (N7 0 (b.map dN))=_;rw[yt1];congr 1;apply br;intro i _;rw[cF]
  .rintro k c hk ⟨z,j,rfl⟩;refine⟨eP a b (ptL a b k) (k0b k) (some (.sh (dN (b.getD k 0)))),rfl,?_⟩;unfold zm7;have N:m2 addD (mvar 3) (mc (.int 1)) (eP a b (ptL a b k) (k0b k) (some (.sh (dN (b.getD k 0)))))=some (.int ((k+1:Nat):Int)):=(w9 (a:=.int (k:Int)) (b:=.int 1) rfl rfl).trans rfl;have hm:k+1<max a.length (b.length+1):=aA;have G:atI ((ptL a b k).map dN) ((k+1:Nat):Int)=some (dN (ptN a b k (k+1))):=by rw[G9 _ _ (by rw[Z5];exact hm),aL,zt3 _ _ _ _ hm];rfl
   refine⟨_,yw3 (ns:=ptL a b k) (v:=ptN a b k (k+1)+b.getD k 0) rfl N ((w9 (n4 (m:=bvar 2) (ds:=(ptL a b k).map dN) rfl N G) (b:=dN (b.getD k 0)) rfl).trans rfl) (by rw[Z5];exact hm),?_⟩;rw[xv1 a b k hk];exact⟨_,_,rfl⟩
  .rintro c ⟨z,j,rfl⟩;exact⟨_,rfl,_,rfl,rfl⟩
 obtain⟨es,e,h⟩:=C2 key;rw[e,h]
noncomputable def gp(e:List Nat×List Nat)(d:Bool):List Nat:=if d then e.1 else e.2
def owL(a:List Int)(s:Int)(en:List (List Nat×List Nat))(q:Nat):Nat->List Nat×List Nat
 |0=>([0,1],[0,1])
 |j+1=>
  if far s true (xr a j) (xr a q)then (ptL (owL a s en q j).1 (gp (en.getD j ([],[])) false) (gp (en.getD j ([],[])) false).length,(owL a s en q j).2)
  else if far s false (xr a j) (xr a q)then ((owL a s en q j).1,ptL (owL a s en q j).2 (gp (en.getD j ([],[])) true) (gp (en.getD j ([],[])) true).length)
  else owL a s en q j
def enL(a:List Int)(s:Int):Nat->List (List Nat×List Nat)
 |0=>[]
 |q+1=>enL a s q++[owL a s (enL a s q) q q]
theorem yz4(a:List Int)(s:Int)(q:Nat):(enL a s q).length=q:=by
 induction q with
 |zero=>rfl
 |succ q j=>rw[enL,bL,j];rfl
noncomputable def adN(f o:List Nat)(k m:Nat):Nat:=f.getD m 0+(if 2<=m/\m<k then o.getD m 0 else 0)
def adL(f o:List Nat)(k:Nat):List Nat:=(List.range (max f.length o.length)).map (adN f o k)
def foL(a:List Int)(s:Int):Nat->List Nat
 |0=>[1,a.length].take (1+a.length)
 |q+1=>adL (adL (foL a s q) (owL a s (enL a s q) q q).1 (owL a s (enL a s q) q q).1.length) (owL a s (enL a s q) q q).2 (owL a s (enL a s q) q q).2.length
theorem zy1(a:List Int)(s:Int)(z:List (List Nat×List Nat))(q:Nat)(h:∀e∈z,e.1.length<=q+1/\e.2.length<=q+1):∀j,(owL a s z q j).1.length<=q+2/\(owL a s z q j).2.length<=q+2
 |0=>⟨by show 2<=q+2;lia,by show 2<=q+2;lia⟩
 |j+1=>by
  have G:=zy1 a s z q h j;have N:∀d,(gp (z.getD j ([],[])) d).length<=q+1:=λd=>by
   have:(z.getD j ([],[])).1.length<=q+1/\(z.getD j ([],[])).2.length<=q+1:=by
    rw[aL];cases e:z[j]? with
    |none=>exact⟨aY _,aY _⟩
    |some x=>exact h x (dR e)
   cases d
   .exact this.2
   .exact this.1
  unfold owL;split
  .exact⟨by rw[Z5];have:=N false;lia,G.2⟩
  .split
   .exact⟨G.1,by rw[Z5];have:=N true;lia⟩
   .exact G
theorem yt2(a:List Int)(s:Int):∀q,∀e∈enL a s q,e.1.length<=q+1/\e.2.length<=q+1
 |0,e,j=>by cases j
 |q+1,e,j=>by
  rw[enL,mem_append,cU]at j;rcases j with j|rfl
  .have:=yt2 a s q e j;lia
  .exact zy1 a s (enL a s q) q (yt2 a s q) q
theorem X4(f o:List Nat)(k:Nat):(adL f o k).length=max f.length o.length:=by unfold adL;simp
theorem yz1(a:List Int)(s:Int):∀q,(foL a s q).length<=q+2
 |0=>by rw[foL,cO];show min _ 2<=2;lia
 |q+1=>by have h1:=zy1 a s (enL a s q) q (yt2 a s q) q;have:=yz1 a s q;rw[foL,X4,X4];lia
theorem zs9(f o:List Nat)(k m:Nat)(h:m<max f.length o.length):(adL f o k)[m]? =some (adN f o k m):=by unfold adL;rw[bF,db h];rfl
theorem xp9(f o:List Nat):f++List.replicate (o.length-f.length) 0=adL f o 2:=by
 refine dH λm=>?_;by_cases h:m<max f.length o.length
 .rw[zs9 f o 2 m h,adN,aI aA,cG];by_cases h2:m<f.length
  .rw[bT h2,aL,aK h2];rfl
  .rw[cr aB,dX,aJ aB,aL,bg aB];rfl
 .rw[bg (by simp;omega),bg (by rw[X4];lia)]
theorem xo0(f o:List Nat)(k:Nat)(z:2<=k)(j:k<o.length):(adL f o k).set k (adN f o k k+o.getD k 0)=adL f o (k+1):=by
 refine dH λm=>?_;rw[ef];by_cases h:m<max f.length o.length
 .by_cases e:k=m
  .subst e;rw[aJ rfl,aJ (by rw[X4];exact h),zs9 f o _ _ h];unfold adN;rw[aI aA,aJ aA];simp
  .rw[aI e,zs9 f o k m h,zs9 f o (k+1) m h];unfold adN;by_cases h1:2<=m/\m<k
   .rw[aJ h1,aJ aA]
   .rw[aI h1,aI aA]
 .rw[aI aB,bg (by rw[X4];lia),bg (by rw[X4];lia)]
theorem xy0{i:Int}(h:x a=some (.int i)):m6 absF (z7 x anil) a=some (.int (i.natAbs:Int)):=by unfold m6;rw[z8 h y7];show some (D.int (if i<0 then -i else i))=_;congr 2;split <;> lia
theorem ye1{i:Nat}(h:a[i]? =some (some (.own ds)))(h2:x a=some d)(j:ds.length<sizeLine):mapp i x a=some (.nx (a.set i (some (.own (ds++[d]))))):=by unfold mapp;rw[h];simp only[h2,Option.bind_some,j,if_true]
theorem zy5(h:x a=some (.nx ρ')):mseq x y a=y ρ':=by unfold mseq;rw[h]
def LP(e:List Nat×List Nat):D:=.lst [L e.1,L e.2]
def eC(a:List Int)(s:Int)(en:List (List Nat×List Nat))(f:List Nat)(q:Nat)(o:List Nat×List Nat)(o7 o8 o9 o10:Option S):Ro:=
 [k0a a,k0c s,some (.own (en.map LP)),some (.own (f.map dN)),k0b q,some (.sh (.int (xr a q))),some (.own [L o.1,L o.2]),o7,o8,o9,o10]
theorem wm1(z:List (List Nat×List Nat))(j:Nat)(h:j<z.length):atI (z.map LP) (j:Int)=some (LP (z.getD j ([],[]))):=by rw[M0 LP z (j:Int) aA aA ([],[])];simp
theorem xd1(c:List Int)(s:Int)(hs:1<=s)(hr:c.length<=300)(z:List (List Nat×List Nat))(f:List Nat)(q j:Nat)(hq:q<c.length)(hj:j<q)(a1:z.length=q)(Y:∀e∈z,e.1.length<=q+1/\e.2.length<=q+1)(o8 o9 o10:Option S):
  ∃O,yy5 (eC c s z f q (owL c s z q j) (k0b j) o8 o9 o10)=some (.nx (eC c s z f q (owL c s z q (j+1)) (k0b j) O o9 o10)):=by
 have U:=zy1 c s z q Y j;have G:∀d,(gp (z.getD j ([],[])) d).length<=q+1:=λd=>by
  have hm:z.getD j ([],[])∈z:=by rw[aL,aK aA];exact getElem_mem _
  cases d
  .exact(Y _ hm).2
  .exact(Y _ hm).1
 generalize ho:owL c s z q j=o at U;have Z:∀o8,mix (bvar 0) (mvar 7) (eC c s z f q o (k0b j) o8 o9 o10)=some (.int (xr c j)):=λ_=>n4 (m:=bvar 0) (ds:=c.map .int) rfl rfl (J5 c j aA);have k1:m6 intF (z7 (m2 geD (m2 subD (mix (bvar 0) (mvar 7)) (mvar 5)) (mvar 1)) anil) (eC c s z f q o (k0b j) o8 o9 o10)=some (.int (if s<=xr c j-xr c q then 1 else 0)):=by
  have e:=(w9 (f:=geD) (y:=mvar 1) ((w9 (f:=subD) (y:=mvar 5) (Z o8) (b:=.int (xr c q)) rfl).trans rfl) (b:=.int s) rfl).trans (show geD (.int (xr c j-xr c q)) (.int s)=some (.bl (decide (s<=xr c j-xr c q)))from rfl);unfold m6;rw[z8 e y7];by_cases h:s<=xr c j-xr c q
  .rw[aV h,aJ h];rfl
  .rw[aQ h,aI h];rfl
 refine⟨some (.sh (.int (if s<=xr c j-xr c q then 1 else 0))),?_⟩;unfold yy5;rw[zy5 (ρ':=eC c s z f q o (k0b j) (some (.sh (.int (if s<=xr c j-xr c q then 1 else 0)))) o9 o10) ((n9 k1).trans rfl)];have t1:w5 (m2 geD (m6 absF (z7 (m2 subD (mvar 5) (mix (bvar 0) (mvar 7))) anil)) (mvar 1)) (eC c s z f q o (k0b j) (some (.sh (.int (if s<=xr c j-xr c q then 1 else 0)))) o9 o10)=some (decide (s<=((xr c q-xr c j).natAbs:Int))):=
  zt0 (xy0 ((w9 (f:=subD) (x:=mvar 5) (a:=.int (xr c q)) rfl (Z _)).trans rfl)) rfl
 rw[j4 t1];have ej:∀o8,k8 (mix (bvar 2) (mvar 7)) (eC c s z f q o (k0b j) o8 o9 o10)=some [L (z.getD j ([],[])).1,L (z.getD j ([],[])).2]:=λ_=>Y2 (n4 (m:=bvar 2) (ds:=z.map LP) rfl rfl (wm1 z j aA));have next:owL c s z q (j+1)=if far s true (xr c j) (xr c q)then (ptL o.1 (gp (z.getD j ([],[])) false) (gp (z.getD j ([],[])) false).length,o.2)
  else if far s false (xr c j) (xr c q)then (o.1,ptL o.2 (gp (z.getD j ([],[])) true) (gp (z.getD j ([],[])) true).length)else o:=by
  rw[<-ho];rfl
 by_cases ht:far s true (xr c j) (xr c q)
 .have ht':s<=xr c q-xr c j:=ht;have hn:¬ s<=xr c j-xr c q:=aA;rw[next,aJ ht,aI hn,aV aA,aJ rfl];have N:=yw6 o.1 (gp (z.getD j ([],[])) false) aA (by have:=G false;lia);have v:l0 zv5 (z7 (mix (bvar 6) (mvar 8)) (z7 (mix (k8 (mix (bvar 2) (mvar 7))) (m2 subD (mc (.int 1)) (mvar 8))) anil)) (eC c s z f q o (k0b j) (some (.sh (.int 0))) o9 o10)=some (.lst ((ptL o.1 (gp (z.getD j ([],[])) false) (gp (z.getD j ([],[])) false).length).map dN)):=
   Y8 (z8 (d:=L o.1) (n4 (m:=bvar 6) (ds:=[L o.1,L o.2]) (k:=0) rfl rfl rfl) (z8 (d:=L (gp (z.getD j ([],[])) false)) (n4 (ej _) (k:=1) ((w9 (f:=subD) (a:=.int 1) (b:=.int 0) rfl rfl).trans rfl) rfl) y7)) N
  unfold R0;rw[v];rfl
 .by_cases hf:far s false (xr c j) (xr c q)
  .have hf':s<=xr c j-xr c q:=hf;rw[next,aI ht,aJ hf,aJ hf',aV aA,aJ rfl];have N:=yw6 o.2 (gp (z.getD j ([],[])) true) aA (by have:=G true;lia);have v:l0 zv5 (z7 (mix (bvar 6) (mvar 8)) (z7 (mix (k8 (mix (bvar 2) (mvar 7))) (m2 subD (mc (.int 1)) (mvar 8))) anil)) (eC c s z f q o (k0b j) (some (.sh (.int 1))) o9 o10)=some (.lst ((ptL o.2 (gp (z.getD j ([],[])) true) (gp (z.getD j ([],[])) true).length).map dN)):=
    Y8 (z8 (d:=L o.2) (n4 (m:=bvar 6) (ds:=[L o.1,L o.2]) (k:=1) rfl rfl rfl) (z8 (d:=L (gp (z.getD j ([],[])) true)) (n4 (ej _) (k:=0) ((w9 (f:=subD) (a:=.int 1) (b:=.int 1) rfl rfl).trans rfl) rfl) y7)) N
   unfold R0;rw[v];rfl
  .have h1:¬ s<=xr c q-xr c j:=ht;have h2:¬ s<=xr c j-xr c q:=hf;rw[next,aI ht,aI hf,aI h2,aQ aA,aI bf];rfl
def eD(a:List Int)(s:Int)(en:List (List Nat×List Nat))(f:List Nat)(q:Nat)(o:List Nat×List Nat)(o7 o8 o9 o10:Option S):Ro:=
 [k0a a,k0c s,some (.own (en.map LP)),some (.own (f.map dN)),k0b q,some (.sh (.int (xr a q))),some (.sh (LP o)),o7,o8,o9,o10]
theorem yg3(a:List Int)(s:Int)(G:List (List Nat×List Nat))(q:Nat):∀j,2<=(owL a s G q j).1.length/\2<=(owL a s G q j).2.length
 |0=>⟨aN _,aN _⟩
 |j+1=>by
  have z:=yg3 a s G q j;unfold owL;split
  .exact⟨by rw[Z5];lia,z.2⟩
  .split
   .exact⟨z.1,by rw[Z5];lia⟩
   .exact z
theorem xy7(n:Nat):(List.replicate n [D.int 0]).flatten=(List.replicate n 0).map dN:=by
 rw[map_replicate];induction n with
 |zero=>rfl
 |succ n j=>rw[cE,dG,j,cE];rfl
theorem xz7(a:List Int)(s:Int)(z:List (List Nat×List Nat))(f g:List Nat)(q:Nat)(o:List Nat×List Nat)(o7 o8 o10:Option S)(hf:f.length<=1000)(hg:g.length<=1000)(h2:2<=g.length):
  Run yy4 (eD a s z f q o o7 o8 (some (.sh (L g))) o10) (λout=>∃G,out= .nx (eD a s z (adL f g g.length) q o o7 o8 (some (.sh (L g))) G)):=by
 have Z:=j5;have i1:1<=sizeLine:=w8 aC;unfold yy4;have O:∀f o10,mlen (bvar 9) (eD a s z f q o o7 o8 (some (.sh (L g))) o10)=some (.int (g.length:Int)):=λf o10=>by rw[i6 (m:=bvar 9) (ds:=g.map dN) rfl,aW]
 refine h6 (ρ':=eD a s z (adL f g 2) q o o7 o8 (some (.sh (L g))) o10) ?_ ?_
 .have lf:mlen (bvar 3) (eD a s z f q o o7 o8 (some (.sh (L g))) o10)=some (.int (f.length:Int)):=by rw[i6 (m:=bvar 3) (ds:=f.map dN) rfl,aW]
  have Y:=(w9 (f:=subD) (O f o10) lf).trans (show subD (.int (g.length:Int)) (.int (f.length:Int))=some (.int ((g.length:Int)-(f.length:Int)))from rfl);have U:zw7 1 ((g.length:Int)-(f.length:Int))=true:=by unfold zw7;rw[aV aA,aV aA,aV aA];rfl
  have rp:=zb6 (x:=v5 (z7 (mc (.int 0)) anil)) (v7 (z8 (d:=.int 0) rfl y7) i1) Y U;rw[xy7,show ((g.length:Int)-(f.length:Int)).toNat=g.length-f.length by lia]at rp;refine(X8 (X0 (x:=bvar 3) (ds:=f.map dN) rfl rp (w8 (by rw[aW,aW,length_replicate];lia)))).trans ?_;rw[<-cm,xp9];rfl
 .refine Z2 (g.length-2) (f:=λ(i:Nat)=>D.int (2+(i:Int))) ?_ (I:=λk b=>∃o10,b=eD a s z (adL f g (2+k)) q o o7 o8 (some (.sh (L g))) o10) _ ⟨_,rfl⟩ ?_ ?_
  .unfold m5;rw[z8 (d:=.int 2) rfl (z8 (O _ _) y7),aP,zq6 (i:=2) (j:=(g.length:Int)) aC (S7 aA aA),show ((g.length:Int)-2).toNat=g.length-2 by lia];rfl
  .rintro k b hk ⟨o10,rfl⟩;refine⟨eD a s z (adL f g (2+k)) q o o7 o8 (some (.sh (L g))) (some (.sh (.int (2+(k:Int))))),rfl,?_⟩;unfold ya8;have hm:2+k<max f.length g.length:=aA;have N:mvar 10 (eD a s z (adL f g (2+k)) q o o7 o8 (some (.sh (L g))) (some (.sh (.int (2+(k:Int))))))=some (.int ((2+k:Nat):Int)):=rfl;have a1:atI ((adL f g (2+k)).map dN) ((2+k:Nat):Int)=some (dN (adN f g (2+k) (2+k))):=by rw[G9 _ _ (by rw[X4];exact hm),aL,zs9 _ _ _ _ hm];rfl
   have a2:atI (g.map dN) ((2+k:Nat):Int)=some (dN (g.getD (2+k) 0)):=G9 _ _ aA;refine⟨_,yw3 (ns:=adL f g (2+k)) (v:=adN f g (2+k) (2+k)+g.getD (2+k) 0) rfl N ((w9 (n4 (m:=bvar 3) (ds:=(adL f g (2+k)).map dN) rfl N a1) (n4 (m:=bvar 9) (ds:=g.map dN) rfl N a2)).trans rfl) (by rw[X4];exact hm),?_⟩;rw[xo0 f g (2+k) aA aA];exact⟨_,rfl⟩
  .rintro b ⟨o10,rfl⟩;rw[show 2+(g.length-2)=g.length by lia];exact⟨_,rfl⟩
def eG(a:List Int)(s:Int)(en:List (List Nat×List Nat))(f:List Nat)(o4 o5 o6 o7 o8 o9 o10:Option S):Ro:=
 [k0a a,k0c s,some (.own (en.map LP)),some (.own (f.map dN)),o4,o5,o6,o7,o8,o9,o10]
theorem zn0(b:List Int)(s:Int)(hs:1<=s)(hr:b.length<=300):m_Z5 [.lst (b.map .int),.int s]=some (.fr ((foL b s b.length).map dN)):=by
 have a3:=j5;have i1:1<=sizeLine:=w8 aC;have i2:2<=sizeLine:=w8 aC;unfold m_Z5;suffices key:Run b_Z5 (m8 11 [.lst (b.map .int),.int s]) (λo=>∃es,o= .rf es/\es=(foL b s b.length).map dN)by obtain⟨es,e,h⟩:=C2 key;rw[e,h]
 unfold b_Z5;refine h6 (ρ':=[k0a b,k0c s,some (.own []),none,none,none,none,none,none,none,none]) ((X8 (v7 y7 (aY _))).trans rfl) ?_;refine h6 (ρ':=eG b s [] (foL b s 0) none none none none none none none) ?_ ?_
 .have lr:mlen (bvar 0) [k0a b,k0c s,some (.own []),none,none,none,none,none,none,none,none]=some (.int (b.length:Int)):=by rw[i6 (m:=bvar 0) (ds:=b.map .int) rfl,aW]
  have c:=v7 (z8 (x:=mc (.int 1)) (d:=.int 1) rfl (z8 lr y7)) i2;have hc:mcut (v5 (z7 (mc (.int 1)) (z7 (mlen (bvar 0)) anil))) R8 (j3 (m2 addD (mc (.int 1)) (mlen (bvar 0)))) [k0a b,k0c s,some (.own []),none,none,none,none,none,none,none,none]=some ((foL b s 0).map dN):=by unfold mcut;rw[c,aP];show ((j3 (m2 addD (mc (.int 1)) (mlen (bvar 0))) _).bind λh=>some (cutL [D.int 1,.int (b.length:Int)] none h))=_;unfold j3;rw[(w9 (f:=addD) (x:=mc (.int 1)) (a:=.int 1) rfl lr).trans (show addD (.int 1) (.int (b.length:Int))=some (.int (1+(b.length:Int)))from rfl)];show some (cutL ([1,b.length].map dN) none (some (1+(b.length:Int))))=_;rw[P5,show (1+(b.length:Int))=((1+b.length:Nat):Int)by lia,yb0];rfl
  exact(X8 hc).trans rfl
 have ee:m5 zx8 (z7 (mvar 0) anil) (eG b s [] (foL b s 0) none none none none none none none)=some ((List.range b.length).map λ(i:Nat)=>D.tup [.int (i:Int),.int (xr b i)]):=by unfold m5;rw[z8 (x:=mvar 0) (d:=.lst (b.map .int)) rfl y7,aP];show some (N7 0 (b.map .int))=_;rw[K6];congr 1;apply br;intro i _;rw[cF]
 refine X6 (Z2 b.length (f:=λ(i:Nat)=>D.tup [.int (i:Int),.int (xr b i)]) ee (I:=λq ρ=>∃Y o5 o6 o7 o8 o9 o10,ρ=eG b s (enL b s q) (foL b s q) Y o5 o6 o7 o8 o9 o10) _ ⟨_,_,_,_,_,_,_,rfl⟩ ?_ ?_)
 .rintro q ρ hq ⟨Y,o5,o6,o7,o8,o9,o10,rfl⟩;refine⟨eG b s (enL b s q) (foL b s q) (k0b q) (some (.sh (.int (xr b q)))) o6 o7 o8 o9 o10,rfl,?_⟩;have O:=yz4 b s q;have U:=yt2 b s q;have a2:=yz1 b s q;unfold ya7;refine h6 (ρ':=eC b s (enL b s q) (foL b s q) q (owL b s (enL b s q) q 0) o7 o8 o9 o10) ?_ ?_
  .have c:=λρ=>v7 (ρ:=ρ) (z8 (x:=mc (.int 0)) (d:=.int 0) rfl (z8 (x:=mc (.int 1)) (d:=.int 1) rfl y7)) i2;exact(X8 (v7 (z8 (h8 (c _)) (z8 (h8 (c _)) y7)) i2)).trans rfl
  refine X6 (Z2 q (f:=λ(i:Nat)=>D.int (0+(i:Int))) ?_ (I:=λj ρ=>∃o7 o8,ρ=eC b s (enL b s q) (foL b s q) q (owL b s (enL b s q) q j) o7 o8 o9 o10) _ ⟨_,_,rfl⟩ ?_ ?_)
  .unfold m5;rw[z8 (x:=mvar 4) (d:=.int (q:Int)) rfl y7,aP,G0 (S7 aA aA),bB];rfl
  .rintro j ρ hj ⟨o7,o8,rfl⟩;obtain⟨a1,e⟩:=xd1 b s hs hr (enL b s q) (foL b s q) q j hq hj O U o8 o9 o10;exact⟨_,by rw[Int.zero_add];rfl,_,e,_,_,rfl⟩
  .rintro ρ ⟨o7,o8,rfl⟩;unfold ya6;have Z:=zy1 b s (enL b s q) q U q;have z:=yg3 b s (enL b s q) q q;have G:enL b s (q+1)=enL b s q++[owL b s (enL b s q) q q]:=rfl;have N:foL b s (q+1)=adL (adL (foL b s q) (owL b s (enL b s q) q q).1 (owL b s (enL b s q) q q).1.length) (owL b s (enL b s q) q q).2 (owL b s (enL b s q) q q).2.length:=rfl;generalize owL b s (enL b s q) q q=o at Z z G N;refine J9 (ds:=[L o.1,L o.2]) rfl ?_;refine h6 (ρ':=eD b s (enL b s q++[o]) (foL b s q) q o o7 o8 o9 o10) ?_ ?_
   .refine(ye1 (ds:=(enL b s q).map LP) (d:=LP o) rfl rfl (by rw[aW,O];lia)).trans ?_;show some (Out.nx _)=some (Out.nx _);unfold eD;rw[cm];rfl
   refine Z2 2 (f:=λ(i:Nat)=>if i=0 then L o.1 else L o.2) (Y2 (m:=mvar 6) (ds:=[L o.1,L o.2]) rfl) (I:=λk ρ=>∃o9 o10,ρ=eD b s (enL b s q++[o]) (if k=0 then foL b s q else if k=1 then adL (foL b s q) o.1 o.1.length else adL (adL (foL b s q) o.1 o.1.length) o.2 o.2.length) q o o7 o8 o9 o10) _ ⟨_,_,rfl⟩ ?_ ?_
   .rintro k ρ hk ⟨o9,o10,rfl⟩;rcases (show k=0\/k=1 by lia)with rfl|rfl
    .obtain⟨out,e,o10',h⟩:=xz7 b s (enL b s q++[o]) (foL b s q) o.1 q o o7 o8 o10 aA aA z.1;exact⟨_,rfl,out,e,by rw[h];exact⟨_,_,rfl⟩⟩
    .obtain⟨out,e,o10',h⟩:=xz7 b s (enL b s q++[o]) (adL (foL b s q) o.1 o.1.length) o.2 q o o7 o8 o10 (by rw[X4];lia) aA z.2;exact⟨_,rfl,out,e,by rw[h];exact⟨_,_,rfl⟩⟩
   .rintro ρ ⟨o9,o10,rfl⟩;refine⟨some (.sh (.int (q:Int))),some (.sh (.int (xr b q))),some (.sh (LP o)),o7,o8,o9,o10,?_⟩;rw[G,N];rfl
 .rintro ρ ⟨Y,o5,o6,o7,o8,o9,o10,rfl⟩;exact⟨_,rfl,_,rfl,rfl⟩
theorem j9{l:List Nat}{m:Nat}(h:l.length<=m):l.getD m 0=0:=by rw[aL,bg h];rfl
theorem zz6(a b:List Nat)(m:Nat):(ptL a b b.length).getD m 0=a.getD m 0+(if 1<=m then b.getD (m-1) 0 else 0):=by
 by_cases h:m<max a.length (b.length+1)
 .rw[aL,zt3 a b _ m h];show ptN a b b.length m=_;unfold ptN;by_cases h1:1<=m
  .by_cases h2:m<=b.length
   .rw[aJ ⟨h1,h2⟩,aJ h1]
   .rw[aI aB,aJ h1,j9 (l:=b) aB]
  .rw[aI aB,aI h1]
 .rw[j9 (by rw[Z5];omega),j9 (l:=a) aB];by_cases h1:1<=m
  .rw[aJ h1,j9 (l:=b) aB]
  .rw[aI h1]
theorem M1(f o:List Nat)(m:Nat):(adL f o o.length).getD m 0=f.getD m 0+(if 2<=m then o.getD m 0 else 0):=by
 by_cases h:m<max f.length o.length
 .rw[aL,zs9 f o _ m h];show adN f o o.length m=_;unfold adN;by_cases h1:2<=m
  .by_cases h2:m<o.length
   .rw[aJ ⟨h1,h2⟩,aJ h1]
   .rw[aI aA,aJ h1,j9 (l:=o) aA]
  .rw[aI aA,aI h1]
 .rw[j9 (by rw[X4];lia),j9 (l:=f) aA];by_cases h1:2<=m
  .rw[aJ h1,j9 (l:=o) aA]
  .rw[aI h1]
def Rt(a:List Int)(s:Int)(e:List Nat×List Nat)(p:Nat):Prop:=∀d,(gp e d).getD 0 0=0/\∀m,(gp e d).getD (m+1) 0=ecnt a s m d p
theorem wu6{s:Int}{d:Bool}{p q:Nat}(h:p<q)(j:far s d (xr a p) (xr a q)):rl a s d p q=1:=by unfold rl;rw[aJ ⟨h,j⟩]
theorem wu5{s:Int}{d:Bool}{p q:Nat}(j:¬ far s d (xr a p) (xr a q)):rl a s d p q=0:=by unfold rl;rw[aI λz=>j z.2]
theorem xm2(a:List Int)(s:Int)(hs:1<=s)(G:List (List Nat×List Nat))(q:Nat)(N:∀p,p<q->Rt a s (G.getD p ([],[])) p):∀j,j<=q->∀d,(gp (owL a s G q j) d).getD 0 0=0/\∀m,(gp (owL a s G q j) d).getD (m+1) 0=if m=0 then 1 else sm j λp=>rl a s d p q*ecnt a s (m-1) (!d) p
 |0,_,d=>by
  have e:gp (owL a s G q 0) d=[0,1]:=by cases d <;> rfl
  rw[e];refine⟨rfl,λm=>?_⟩;cases m with
  |zero=>rfl
  |succ m=>rw[aI aA];exact j9 (by show 2<=_;lia)
 |j+1,hj,d=>by
  obtain⟨O,i1⟩:=xm2 a s hs G q N j aA d;have U:=N j aA (!d);have step:∀b,((far s d (xr a j) (xr a q))->b=ptL (gp (owL a s G q j) d) (gp (G.getD j ([],[])) (!d)) (gp (G.getD j ([],[])) (!d)).length)->(¬ far s d (xr a j) (xr a q)->b=gp (owL a s G q j) d)->
    b.getD 0 0=0/\∀m,b.getD (m+1) 0=if m=0 then 1 else sm (j+1) λp=>rl a s d p q*ecnt a s (m-1) (!d) p:=λb h1 h2=>by
   by_cases z:far s d (xr a j) (xr a q)
   .rw[h1 z];refine⟨by rw[zz6,O,aI aA],λm=>?_⟩;rw[zz6,i1,aJ (show 1<=m+1 by lia),cX];cases m with
    |zero=>rw[aJ rfl,aJ rfl,U.1]
    |succ m=>rw[aI (show ¬ m+1=0 by lia),aI (show ¬ m+1=0 by lia),c7,wu6 aA z,Nat.one_mul,U.2,cX]
   .rw[h2 z];refine⟨O,λm=>?_⟩;rw[i1,c7,wu5 z,Nat.zero_mul,cG]
  apply step
  .intro z;cases d with
   |true=>rw[owL,aJ z];rfl
   |false=>rw[owL,aI (show ¬ far s true (xr a j) (xr a q)from zn1 hs z),aJ z];rfl
  .intro z;cases d with
   |true=>rw[owL,aI z];split <;> rfl
   |false=>
    rw[owL];split
    .rfl
    .rfl
theorem wv8(n q:Nat)(z:q<=n)(f:Nat->Nat)(h:∀p,q<=p->f p=0):sm n f=sm q f:=by
 induction n with
 |zero=>rw[show q=0 by lia]
 |succ n j=>
  by_cases e:q=n+1
  .rw[e]
  .rw[c7,h n aA,j aA,cG]
theorem ws5(a:List Int)(s:Int)(hs:1<=s)(z:List (List Nat×List Nat))(q:Nat)(G:q<=a.length)(j:∀p,p<q->Rt a s (z.getD p ([],[])) p):Rt a s (owL a s z q q) q:=λd=>by
 obtain⟨N,h1⟩:=xm2 a s hs z q j q (aN _) d;refine⟨N,λm=>?_⟩;rw[h1];cases m with
 |zero=>rfl
 |succ m=>rw[aI aA,ecnt,wv8 a.length q G _ λp hp=>by unfold rl;rw[aI aA,Nat.zero_mul]];rfl
theorem wn4(a:List Int)(s:Int)(hs:1<=s):∀q,q<=a.length->∀p,p<q->Rt a s ((enL a s q).getD p ([],[])) p
 |0,_,p,hp=>by lia
 |q+1,hq,p,hp=>by
  have j:=wn4 a s hs q aA;have z:=yz4 a s q;rw[enL,aL];by_cases e:p<q
  .rw[bT aA,<-aL];exact j p e
  .have e:p=q:=aA;subst e;rw[cr aA,z,Nat.sub_self];exact ws5 a s hs _ p aA j
theorem xk0(d:List Int)(s:Int)(hs:1<=s):∀q,q<=d.length->(foL d s q).getD 0 0=1/\(foL d s q).getD 1 0=d.length/\∀m,(foL d s q).getD (m+2) 0=sm q λp=>ecnt d s (m+1) true p+ecnt d s (m+1) false p
 |0,_=>by
  have e:foL d s 0=[1,d.length].take (1+d.length):=rfl;refine⟨?_,?_,λm=>?_⟩
  .rw[e];cases h:d.length with
   |zero=>rfl
   |succ n=>rw[show 1+(n+1)=n+2 by lia];rfl
  .rw[e];cases h:d.length with
   |zero=>rfl
   |succ n=>rw[show 1+(n+1)=n+2 by lia];rfl
  .exact j9 (by have:=yz1 d s 0;lia)
 |q+1,hq=>by
  obtain⟨a,b,c⟩:=xk0 d s hs q aA;have j:=ws5 d s hs (enL d s q) q aA (wn4 d s hs q aA);rw[foL];generalize owL d s (enL d s q) q q=o at j;have h1:∀m,o.1.getD (m+1) 0=ecnt d s m true q:=(j true).2;have h2:∀m,o.2.getD (m+1) 0=ecnt d s m false q:=(j false).2;refine⟨?_,?_,λm=>?_⟩
  .rw[M1,M1,a,aI aA,aI aA]
  .rw[M1,M1,b,aI aA,aI aA];rfl
  .rw[M1,M1,c,aJ aA,aJ aA,h1,h2,c7,dP]
def Lst(l:List Nat):Prop:=1<=l.length/\l.getD (l.length-1) 0≠0
theorem xx8(ha:Lst a)(j:Lst b)(h:∀m,a.getD m 0=b.getD m 0):a=b:=by
 have G:a.length=b.length:=by
  rcases Nat.lt_trichotomy a.length b.length with z|z|z
  .exact aZ ((h (b.length-1)).symm.trans (j9 aA)) j.2
  .exact z
  .exact aZ ((h (a.length-1)).trans (j9 aA)) ha.2
 refine dH λm=>?_;by_cases hm:m<a.length
 .have:=h m;rw[aL,aL,aK hm,aK aA]at this;rw[aK hm,aK aA];exact bi some this
 .rw[bg aA,bg aA]
theorem yj6(ha:Lst a)(j:Lst b):Lst (ptL a b b.length):=by
 obtain⟨O,N⟩:=ha;obtain⟨z,G⟩:=j;unfold Lst;rw[Z5,zz6];refine⟨aA,?_⟩;by_cases h:b.length+1<=a.length
 .rw[show max a.length (b.length+1)=a.length by lia];lia
 .rw[show max a.length (b.length+1)-1=b.length by lia,aJ z];lia
theorem xz8(z:Lst f)(G:2<=f.length)(j:Lst o):Lst (adL f o o.length)/\2<=(adL f o o.length).length:=by
 obtain⟨Y,U⟩:=z;obtain⟨O,N⟩:=j;unfold Lst;rw[X4,M1];refine⟨⟨aA,?_⟩,aA⟩;by_cases h:o.length<=f.length
 .rw[show max f.length o.length=f.length by lia];lia
 .rw[show max f.length o.length=o.length by lia,aJ aA];lia
theorem yg2(a:List Int)(s:Int)(N:List (List Nat×List Nat))(q:Nat)(G:∀p,p<q->∀d,Lst (gp (N.getD p ([],[])) d)):∀j,j<=q->Lst (owL a s N q j).1/\Lst (owL a s N q j).2
 |0,_=>⟨⟨by show 1<=2;lia,by show 1≠0;lia⟩,⟨by show 1<=2;lia,by show 1≠0;lia⟩⟩
 |j+1,hj=>by
  have z:=yg2 a s N q G j aA;have O:=G j aA;unfold owL;split
  .exact⟨yj6 z.1 (O false),z.2⟩
  .split
   .exact⟨z.1,yj6 z.2 (O true)⟩
   .exact z
theorem xk4(a:List Int)(s:Int):∀q p,p<q->∀d,Lst (gp ((enL a s q).getD p ([],[])) d)
 |0,p,hp,d=>by lia
 |q+1,p,hp,d=>by
  have j:=xk4 a s q;have z:=yz4 a s q;rw[enL,aL];by_cases e:p<q
  .rw[bT aA,<-aL];exact j p e d
  .have e:p=q:=aA;subst e;rw[cr aA,z,Nat.sub_self];have:=yg2 a s (enL a s p) p j p (aN _);cases d
   .exact this.2
   .exact this.1
theorem xk1(f:List Int)(s:Int)(hn:1<=f.length):∀q,Lst (foL f s q)/\2<=(foL f s q).length
 |0=>by
  have e:foL f s 0=[1,f.length]:=by show [1,f.length].take (1+f.length)=_;exact dy (by show 2<=_;lia)
  rw[e];exact⟨⟨by show 1<=2;lia,by show f.length≠0;lia⟩,aN _⟩
 |q+1=>by obtain⟨a,b⟩:=xk1 f s hn q;have h:=yg2 f s (enL f s q) q (xk4 f s q) q (aN _);rw[foL];obtain⟨c,d⟩:=xz8 a b h.1;exact xz8 c d h.2
theorem ys4{s:Int}{k:Nat}(h:anyB a s k=false):∀p,p<a.length->bgn a s k p=0:=λp hp=>by unfold anyB at h;rw[any_eq_false]at h;have:=h (bgn a s k p) (bG.mpr ⟨p,bS.mpr hp,rfl⟩);simpa using this
theorem yn3{s:Int}{k:Nat}(h:∀p,p<a.length->bgn a s k p=0):cN a s k=0:=by show sm a.length (bgn a s k)=0;rw[Z1 (g:=λ_=>0) h,zq2]
theorem yn2{s:Int}{k:Nat}(h:∀p,p<a.length->bgn a s k p=0):∀p,p<a.length->bgn a s (k+1) p=0:=λp hp=>by
 cases k with
 |zero=>exact aZ (h p hp) (by show 1≠0;lia)
 |succ k=>
  have hc:∀d q,q<a.length->cnt a s (k+1) d q=0:=λd q j=>by have:=h q j;have e:bgn a s (k+1) q=cnt a s (k+1) true q+cnt a s (k+1) false q:=rfl;rw[e]at this;cases d <;> lia
  have z:∀d,cnt a s (k+1+1) d p=0:=λd=>by rw[xk6 a s (k+1) d p hp,Z1 (g:=λ_=>0) λq j=>by rw[hc (!d) q j,Nat.mul_zero],zq2]
  show cnt a s (k+1+1) true p+cnt a s (k+1+1) false p=0;rw[z,z]
theorem zk9{a:List Int}{s:Int}{J:Nat}(h:∀p,p<a.length->bgn a s J p=0):∀i p,p<a.length->bgn a s (J+i) p=0
 |0=>h
 |i+1=>yn2 (zk9 h i)
theorem wn9{s:Int}{J:Nat}(h:O8 a s (a.length:Int) J)(m:Nat)(hm:J<=m):cN a s m=0:=by
 obtain⟨h1,h2,j⟩:=h;rcases j with j|j
 .exact yn3 (ys4 (zk2 a s m aA))
 .have:=zk9 (ys4 j) (m-J);rw[show J+(m-J)=m by lia]at this;exact yn3 this
theorem wm3{s:Int}{k:Nat}(h:anyB b s k=true):cN b s k≠0:=λz=>by
 unfold anyB at h;rw[any_eq_true]at h;obtain⟨v,N,hn⟩:=h;have:∀l:List Nat,l.sum=0->∀x∈l,x=0:=λl=>by
  induction l with
  |nil=>intro _ x j;cases j
  |cons a l G=>
   intro e x j;rw[dB]at e;rcases ba.mp j with r|r
   .lia
   .exact G aA x r
 have:=this _ z v N;rw[this]at hn;simp at hn
theorem yz9(d:List Int)(s:Int)(hs:1<=s){J:Nat}(h:O8 d s (d.length:Int) J):foL d s d.length=1::(List.range J).map λk=>(BL d s k).sum:=by
 by_cases hn:d.length=0
 .have hJ:J=0:=by have:=h.1;lia
  rw[hJ,hn];show [1,d.length].take (1+d.length)=_;rw[hn];rfl
 have j:∀m,(1::(List.range J).map λk=>(BL d s k).sum).getD (m+1) 0=cN d s m:=λm=>by
  show ((List.range J).map λk=>(BL d s k).sum).getD m 0=_;by_cases hm:m<J
  .rw[aL,bF,db hm];rfl
  .rw[j9 (by rw[aW,length_range];lia),wn9 h m aA]
 refine xx8 (xk1 d s aA d.length).1 ⟨by rw[bH];lia,?_⟩ λm=>?_
 .rw[bH,aW,length_range,cX];rcases Nat.eq_zero_or_pos J with hJ|hJ
  .rw[hJ];show 1≠0;lia
  .have:=j (J-1);rw[show J-1+1=J by lia]at this;rw[this];exact wm3 (h.2.1 (J-1) aA).1
 .obtain⟨a,b,c⟩:=xk0 d s hs d.length (aN _);rcases m with _|_|m
  .rw[a];rfl
  .rw[b,j 0,wz1]
  .rw[c,j (m+1),xa1]
section
variable {x:Nat->Int}{n:Nat}{s:Int}
theorem ym2{k:Nat}:∀(l:List Nat)(p:Nat)(d:Bool),Wd x n s d (p::(l++[k]))->Wd x n s d (p::l)
 |[],p,d,h=>da h.1 h.2.2
 |q::l,p,d,h=>⟨h.1,h.2.1,ym2 l q (!d) h.2.2⟩
theorem yw0{k:Nat}:∀(l:List Nat)(p:Nat)(d:Bool),Wd x n s d (p::(l++[k]))->∀y∈p::l,y<k
 |[],p,d,h,y,j=>by rw[bm.mp j];exact h.1
 |q::l,p,d,h,y,j=>by
  have z:=yw0 l q (!d) h.2.2;rcases ba.mp j with e|j
  .rw[e];exact da h.1 (z q aD)
  .exact z y j
theorem yn6{k:Nat}(h:Wv x n s (l++[k])):Wv x n s l/\(∀y∈l,y<k)/\k<n:=by
 rcases h with h|⟨d,h⟩
 .simp at h
 .have hk:k<n:=zu6 (.inr ⟨d,h⟩) k aD;cases l with
  |nil=>exact⟨.inl rfl,λy j=>(by cases j),hk⟩
  |cons p l=>exact⟨.inr ⟨d,ym2 l p d h⟩,yw0 l p d h,hk⟩
theorem ww0:Wv x n s []:=.inl rfl
end
noncomputable def AL(t:List Nat->Bool):Nat->List (List Nat)
 |0=>[[]]
 |k+1=>AL t k++((AL t k).map λl=>l++[k]).filter t
section
variable {x:Nat->Int}{n:Nat}{s:Int}{t:List Nat->Bool}(ht:∀k l,k<n->Wv x n s l->(∀y∈l,y<k)->(t (l++[k])=true↔Wv x n s (l++[k])))
include ht
theorem ys6:∀k,k<=n->∀l,l∈AL t k↔Wv x n s l/\∀y∈l,y<k
 |0,_,l=>by
  rw[AL,cU];constructor
  .rintro rfl;exact⟨ww0,λy j=>by cases j⟩
  .rintro⟨_,h⟩;cases l with
   |nil=>rfl
   |cons p l=>exact aZ (h p aD) aA
 |k+1,hk,l=>by
  have G:=ys6 k aA;rw[AL,mem_append,G,mem_filter,mem_map];constructor
  .rintro(⟨h1,h2⟩|⟨⟨a,ha,rfl⟩,h2⟩)
   .exact⟨h1,λy j=>bN (h2 y j)⟩
   .have ha:=(G a).mp ha;refine⟨(ht k a aA ha.1 ha.2).mp h2,λy j=>?_⟩;rcases bA.mp j with z|z
    .exact bN (ha.2 y z)
    .rw[bm.mp z];exact ci _
  .rintro⟨h1,h2⟩;rcases eq_nil_or_concat l with rfl|⟨a,b,rfl⟩
   .exact .inl ⟨h1,λy j=>by cases j⟩
   .rw[concat_eq_append]at h1 h2 ⊢;obtain⟨w,N,O⟩:=yn6 h1;have U:=h2 b aD;by_cases e:b=k
    .subst e;exact .inr ⟨⟨a,(G a).mpr ⟨w,N⟩,rfl⟩,(ht b a aA w N).mpr h1⟩
    .refine .inl ⟨h1,λy j=>?_⟩;rcases bA.mp j with z|z
     .have:=N y z;lia
     .rw[bm.mp z];lia
theorem zk4:∀k,k<=n->(AL t k).Nodup
 |0,_=>by rw[AL];simp
 |k+1,hk=>by
  have j:=zk4 k aA;have G:=ys6 ht k aA;rw[AL];unfold List.Nodup at j ⊢;rw[eF];refine⟨j,List.Pairwise.filter _ ?_,λa ha b N e=>?_⟩
  .rw[pairwise_map];exact j.imp λh e=>h (append_cancel_right e)
  .obtain⟨⟨c,hc,rfl⟩,_⟩:=(dW.mp N).imp (λz=>bG.mp z) id;have:=((G a).mp ha).2 k (by rw[e];simp);lia
end
theorem xp8{c:List Int}{s:Int}(hs:1<=s){A:List (List Nat)}(hn:A.Nodup)(hm:∀l,l∈A↔Wv (xr c) c.length s l)(m:Nat):(A.filter λl=>decide (l.length=m+1)).length=cN c s m:=by
 rw[<-xp7];refine Nat.le_antisymm (xm9 id (List.Pairwise.filter _ hn) (λa _ b _ e=>e) λa ha=>?_) (xm9 id (yn0 c s hs m) (λa _ b _ e=>e) λa ha=>?_)
 .have:=dW.mp ha;exact(ys5 c s m a).mpr ⟨(hm a).mp this.1,of_decide_eq_true this.2⟩
 .have:=(ys5 c s m a).mp ha;exact dW.mpr ⟨(hm a).mpr this.1,aV this.2⟩
end
section
open PySem L2
def eV3(a:List Int)(s:Int)(l:List Nat)(o3 o4 o5:Option S):Ro:=[k0a a,k0c s,some (.sh (L l)),o3,o4,o5]
def bad(a:List Int)(s:Int)(l:List Nat)(i:Nat):Bool:=
 decide (((xr a (l.getD i 0)-xr a (l.getD (i-1) 0)).natAbs:Int)<s) || (decide (1<i)&&(decide (0<xr a (l.getD i 0)-xr a (l.getD (i-1) 0))==decide (xr a (l.getD (i-2) 0)<xr a (l.getD (i-1) 0))))
theorem xj3(d:List Int)(s:Int)(l:List Nat)(hl:∀y∈l,y<d.length)(i:Nat)(h1:1<=i)(h2:i<l.length)(z o5:Option S):
  ∃Z Y,zm8 (eV3 d s l (k0b i) z o5)=some (if bad d s l i then .rt (.bl false)else .nx (eV3 d s l (k0b i) Z Y)):=by
 have gl:∀j,j<l.length->l.getD j 0<d.length:=λj O=>hl _ (by rw[aL,aK O];exact getElem_mem _);have U:∀(j:Nat)(m:ME)(z o5:Option S),j<l.length->m (eV3 d s l (k0b i) z o5)=some (.int (j:Int))->mix (bvar 0) (mix (bvar 2) m) (eV3 d s l (k0b i) z o5)=some (.int (xr d (l.getD j 0))):=λj m z o5 O hm=>
  n4 (m:=bvar 0) (ds:=d.map .int) rfl (n4 (m:=bvar 2) (ds:=l.map dN) rfl hm (G9 l j O)) (J5 d _ (gl j O))
 have m1:∀(c:Nat)(z o5:Option S),c<=i->m2 subD (mvar 3) (mc (.int (c:Int))) (eV3 d s l (k0b i) z o5)=some (.int ((i-c:Nat):Int)):=λc z o5 hc=>by rw[w9 (f:=subD) (a:=.int (i:Int)) (b:=.int (c:Int)) rfl rfl];show some (D.int ((i:Int)-(c:Int)))=_;rw[Int.ofNat_sub hc]
 refine⟨some (.sh (.int (xr d (l.getD (i-1) 0)))),some (.sh (.int (xr d (l.getD i 0)-xr d (l.getD (i-1) 0)))),?_⟩;unfold zm8;rw[zy5 (ρ':=eV3 d s l (k0b i) (some (.sh (.int (xr d (l.getD (i-1) 0))))) o5) ((n9 (U (i-1) _ _ _ aB (show m2 subD (mvar 3) (mc (.int 1)) _=_ from m1 1 _ _ h1))).trans rfl)];rw[zy5 (ρ':=eV3 d s l (k0b i) (some (.sh (.int (xr d (l.getD (i-1) 0))))) (some (.sh (.int (xr d (l.getD i 0)-xr d (l.getD (i-1) 0)))))) ((n9 ((w9 (f:=subD) (U i (mvar 3) _ _ h2 rfl) (b:=.int (xr d (l.getD (i-1) 0))) rfl).trans rfl)).trans rfl)];generalize hE:eV3 d s l (k0b i) (some (.sh (.int (xr d (l.getD (i-1) 0))))) (some (.sh (.int (xr d (l.getD i 0)-xr d (l.getD (i-1) 0)))))=E;have N:w5 (m2 ltD (m6 absF (z7 (mvar 5) anil)) (mvar 1)) E=some (decide (((xr d (l.getD i 0)-xr d (l.getD (i-1) 0)).natAbs:Int)<s)):=by rw[<-hE];exact j8 ((w9 (f:=ltD) (xy0 (x:=mvar 5) (i:=xr d (l.getD i 0)-xr d (l.getD (i-1) 0)) rfl) (b:=.int s) rfl).trans rfl)
 have G:w5 (m2 gtD (mvar 3) (mc (.int 1))) E=some (decide (1<i)):=by rw[<-hE];refine j8 ((w9 (f:=gtD) (a:=.int (i:Int)) (b:=.int 1) rfl rfl).trans ?_);show some (D.bl (decide ((1:Int)<(i:Int))))=_;rw[de.mpr (show ((1:Int)<(i:Int))↔1<i by omega)]
 have t3:1<i->w5 (m2 eqSD (m2 gtD (mvar 5) (mc (.int 0))) (m2 gtD (mvar 4) (mix (bvar 0) (mix (bvar 2) (m2 subD (mvar 3) (mc (.int 2))))))) E=some (decide (0<xr d (l.getD i 0)-xr d (l.getD (i-1) 0))==decide (xr d (l.getD (i-2) 0)<xr d (l.getD (i-1) 0))):=λhi=>by rw[<-hE];exact j8 ((w9 (f:=eqSD) ((w9 (f:=gtD) (a:=.int (xr d (l.getD i 0)-xr d (l.getD (i-1) 0))) (b:=.int 0) rfl rfl).trans rfl) ((w9 (f:=gtD) (x:=mvar 4) (a:=.int (xr d (l.getD (i-1) 0))) rfl (U (i-2) _ _ _ aB (show m2 subD (mvar 3) (mc (.int 2)) _=_ from m1 2 _ _ aB))).trans rfl)).trans rfl)
 unfold bad;by_cases c1:((xr d (l.getD i 0)-xr d (l.getD (i-1) 0)).natAbs:Int)<s
 .rw[aV c1]at N ⊢;unfold mseq;rw[j4 N];rfl
 .rw[aQ c1]at N ⊢;rw[zy5 (ρ':=E) (by rw[j4 N];rfl),Bool.false_or];by_cases c2:1<i
  .rw[aV c2]at G ⊢;rw[j4 (zn8 G (t3 c2)),dQ];split <;> rfl
  .rw[aQ c2]at G ⊢;rw[j4 (b:=false) (by unfold cand;rw[G])];rfl
def gd(a:List Int)(s:Int)(l:List Nat):Bool:=(List.range (l.length-1)).all λj=>!bad a s l (1+j)
theorem N4(a:List Int)(s:Int)(l:List Nat)(Z:∀y∈l,y<a.length)(hz:l.length<=1000):zo9 [.lst (a.map .int),.int s,L l]=some (.sh (.bl (gd a s l))):=by
 unfold zo9 wy0;refine zq5 ?_;refine X6 (Z2 (l.length-1) (f:=λ(j:Nat)=>D.int (1+(j:Int))) ?_ (I:=λj b=>(∃N G o5,b=eV3 a s l N G o5)/\∀i,i<j->bad a s l (1+i)=false) _ ⟨⟨none,none,none,rfl⟩,λi hi=>by lia⟩ ?_ ?_)
 .have ll:mlen (bvar 2) (m8 6 [.lst (a.map .int),.int s,L l])=some (.int (l.length:Int)):=by rw[i6 (m:=bvar 2) (ds:=l.map dN) rfl,aW]
  unfold m5;rw[z8 (d:=.int 1) rfl (z8 ll y7),aP,zq6 (i:=1) (j:=(l.length:Int)) aC (S7 aA aA),show ((l.length:Int)-1).toNat=l.length-1 by lia];rfl
 .rintro j b O ⟨⟨N,G,o5,rfl⟩,hb⟩;obtain⟨Y,U,e⟩:=xj3 a s l Z (1+j) aA aA G o5;refine⟨eV3 a s l (some (.sh (.int ((1+j:Nat):Int)))) G o5,rfl,_,e,?_⟩;cases hbad:bad a s l (1+j)with
  |false=>
   rw[aI bf];refine⟨⟨_,_,_,rfl⟩,λi hi=>?_⟩;by_cases z:i<j
   .exact hb i z
   .rw[show i=j by lia];exact hbad
  |true=>
   rw[aJ rfl];have:gd a s l=false:=by unfold gd;rw[all_eq_false];exact⟨j,bS.mpr O,by rw[hbad];exact bf⟩
   show Out.rt _=Out.rt _;rw[this]
 .rintro b ⟨⟨N,G,o5,rfl⟩,hb⟩;have:gd a s l=true:=by unfold gd;rw[all_eq_true];intro j O;rw[hb j (bS.mp O)];rfl
  refine⟨_,rfl,?_⟩;rw[this]
def t3(a:List Int)(s:Int)(l:List Nat):Bool:=gd a s (cutI l (some (-3)) none)
theorem wn6(T:List Nat)(a b c:Nat):cutI (T++[a,b,c]) (some (-3)) none=[a,b,c]:=by
 unfold cutI;have e:HT.sIx (T++[a,b,c]).length 0 (some (-3))=T.length:=by show (if (-3:Int)<0 then ((-3:Int)+((T++[a,b,c]).length:Int)).toNat else min (-3:Int).toNat (T++[a,b,c]).length)=_;rw[aJ aC,bL];simp;lia
 rw[e,HT.sIx_none,drop_left,bL];show [a,b,c].take (T.length+3-T.length)=_;rw[show T.length+3-T.length=3 by lia];rfl
theorem xx3(c:List Int)(s:Int)(hs:1<=s)(k:Nat)(l:List Nat)(hk:k<c.length)(hw:Wv (xr c) c.length s l)(Z:∀y∈l,y<k):t3 c s (l++[k])=true↔Wv (xr c) c.length s (l++[k]):=by
 have fr:∀a b:Nat,(∃d,far s d (xr c a) (xr c b))↔¬ ((xr c b-xr c a).natAbs:Int)<s:=λa b=>by
  constructor
  .rintro⟨d,h⟩;cases d
   .have:s<=xr c a-xr c b:=h;omega
   .have:s<=xr c b-xr c a:=h;omega
  .intro h;by_cases z:s<=xr c b-xr c a
   .exact⟨true,z⟩
   .exact⟨false,show s<=xr c a-xr c b by omega⟩
 rcases eq_nil_or_concat l with rfl|⟨l1,p,rfl⟩
 .constructor
  .intro _;exact .inr ⟨true,hk⟩
  .intro _;rfl
 rw[concat_eq_append]at hw Z ⊢;have N:p<k:=Z p aD;rcases eq_nil_or_concat l1 with rfl|⟨T,o,rfl⟩
 .have e:t3 c s ([]++[p]++[k])= !bad c s [p,k] 1:=by show ((List.range 1).all λj=>!bad c s [p,k] (1+j))=_;show (!bad c s [p,k] 1&&true)=_;rw[Bool.and_true]
  rw[e];have e2:bad c s [p,k] 1=decide (((xr c k-xr c p).natAbs:Int)<s):=by show (decide (((xr c k-xr c p).natAbs:Int)<s) || (decide (1<1)&&_))=_;rw[show decide (1<1)=false from rfl,Bool.false_and,Bool.or_false]
  rw[e2,Bool.not_eq_true',decide_eq_false_iff_not,<-fr p k];constructor
  .rintro⟨d,h⟩;exact .inr ⟨d,N,h,hk⟩
  .rintro(h|⟨d,h⟩)
   .cases h
   .exact⟨d,h.2.1⟩
 .rw[concat_eq_append]at hw Z ⊢;have e0:T++[o]++[p]++[k]=T++[o,p,k]:=by simp
  have e1:T++[o]++[p]=T++[o,p]:=by simp
  rw[e1]at hw;have hd:∃U,Wd (xr c) c.length s U (T++[o,p]):=by
   rcases hw with z|z
   .simp at z
   .exact z
  obtain⟨U,O⟩:=hd;obtain⟨d,Y⟩:=M3 T U O;have G:=Y.2.1;have e:t3 c s (T++[o]++[p]++[k])=(!bad c s [o,p,k] 1&& !bad c s [o,p,k] 2):=by rw[e0];unfold t3;rw[wn6];show (!bad c s [o,p,k] 1&&(!bad c s [o,p,k] 2&&true))=_;rw[Bool.and_true]
  have b1:bad c s [o,p,k] 1=false:=by show (decide (((xr c p-xr c o).natAbs:Int)<s) || (decide (1<1)&&_))=_;rw[show decide (1<1)=false from rfl,Bool.false_and,Bool.or_false];exact aQ ((fr o p).mp ⟨d,G⟩)
  have b2:bad c s [o,p,k] 2=(decide (((xr c k-xr c p).natAbs:Int)<s) || (decide (0<xr c k-xr c p)==decide (xr c o<xr c p))):=rfl;rw[e,b1,Bool.not_false,dQ,b2,Bool.not_or,Bool.and_eq_true,Bool.not_eq_true',decide_eq_false_iff_not,<-fr p k,Bool.not_eq_true',e0];constructor
  .rintro⟨⟨e,h⟩,hne⟩;have a3:e= !d:=by
    cases d <;> cases e
    .have a1:s<=xr c o-xr c p:=G;have a2:s<=xr c p-xr c k:=h;rw[aQ (show ¬ 0<xr c k-xr c p by omega),aQ (show ¬ xr c o<xr c p by omega)]at hne;cases hne
    .rfl
    .rfl
    .have a1:s<=xr c p-xr c o:=G;have a2:s<=xr c k-xr c p:=h;rw[aV (show 0<xr c k-xr c p by omega),aV (show xr c o<xr c p by omega)]at hne;cases hne
   subst a3;have:=zd8 hs G N hk h T U O;rw[show T++[o,p]++[k]=T++[o,p,k]by simp]at this;exact .inr ⟨U,this⟩
  .rintro(z|⟨d1,z⟩)
   .simp at z
   .obtain⟨d2,h2⟩:=M3 T d1 z;have g1:=h2.2.1;have g2:far s (!d2) (xr c p) (xr c k):=h2.2.2.2.1;refine⟨⟨_,g2⟩,?_⟩;cases d2
    .have a1:s<=xr c o-xr c p:=g1;have a2:s<=xr c k-xr c p:=g2;rw[aV (show 0<xr c k-xr c p by omega),aQ (show ¬ xr c o<xr c p by omega)];rfl
    .have a1:s<=xr c p-xr c o:=g1;have a2:s<=xr c p-xr c k:=g2;rw[aQ (show ¬ 0<xr c k-xr c p by omega),aV (show xr c o<xr c p by omega)];rfl
def eA(a:List Int)(s:Int)(A:List (List Nat))(o3 o4:Option S):Ro:=[k0a a,k0c s,some (.sh (.lst (A.map L))),o3,o4]
theorem xq6{y:Nat}(h:y∈cutI l (some (-3)) none):y∈l:=by unfold cutI at h;exact mem_of_mem_drop (mem_of_mem_take h)
theorem wx0(c:List Int)(s:Int)(A:List (List Nat))(k:Nat)(Z:k<c.length)(hr:c.length<=300)(hA:A.length<=10000)(Y:∀l∈A,l.length<=300/\∀y∈l,y<c.length)(N:Option S):
  ∃j,zm6 (eA c s A (k0b k) N)=some (.nx (eA c s (A++(A.map λl=>l++[k]).filter (t3 c s)) (k0b k) j)):=by
 have a1:=j5;have i1:1<=sizeLine:=w8 aC;have c1:d6 [none,some 3] (k8 (mvar 2)) (.nm 0) cyes (mlst (mcat (bvar 0) (v5 (z7 (mvar 1) anil)))) (eA c s A (k0b k) N)=some ((A.map λl=>l++[k]).map L):=by
  unfold d6;rw[show k8 (mvar 2) (eA c s A (k0b k) N)=some (A.map L)from rfl,aP];show X3 _ _ _ _ [none,k0b k] []=_;rw[V9 (f:=L) (G:=λl=>L (l++[k])) (λes e=>(∀a∈es,a.length<=300)/\∃o,e=[o,k0b k]) (by rintro a es e ⟨ha,o,rfl⟩;refine⟨[some (.sh (L a)),k0b k],rfl,rfl,?_,λz O=>ha z (by simp[O]),_,rfl⟩;have:=ha a aD;rw[h8 (X0 (x:=bvar 0) (ds:=a.map dN) rfl (v7 (z8 (d:=dN k) rfl y7) i1) (w8 (by rw[aW];show a.length+1<=_;lia)))];show some (D.lst (a.map dN++[k].map dN))=_;rw[<-cm];rfl) A _ [] ⟨λa ha=>(Y a ha).1,none,rfl⟩ (w8 (by show 0+_<=_;lia)),dC,bI]
  rfl
 refine⟨some (.sh (.lst ((A.map λl=>l++[k]).map L))),?_⟩;unfold zm6;rw[zy5 (ρ':=eA c s A (k0b k) (some (.sh (.lst ((A.map λl=>l++[k]).map L))))) ((n9 (h8 c1)).trans rfl)];have c2:d6 [none,some 0,some 1] (k8 (mvar 4)) (.nm 0) (mtru (l0 zo9 (z7 (mvar 1) (z7 (mvar 2) (z7 (mlst (mcut (bvar 0) (j3 (m1 negD (mc (.int 3)))) R8)) anil))))) (mvar 0) (eA c s A (k0b k) (some (.sh (.lst ((A.map λl=>l++[k]).map L)))))=some (((A.map λl=>l++[k]).filter (t3 c s)).map L):=by
  unfold d6;rw[show k8 (mvar 4) (eA c s A (k0b k) (some (.sh (.lst ((A.map λl=>l++[k]).map L)))))=some ((A.map λl=>l++[k]).map L)from rfl,aP];show X3 _ _ _ _ [none,k0a c,k0c s] []=_;rw[b9 (f:=L) (p:=t3 c s) (G:=L) (λes e=>(∀a∈es,a.length<=301/\∀y∈a,y<c.length)/\∃o,e=[o,k0a c,k0c s]) (by
   rintro a es e ⟨ha,o,rfl⟩;refine⟨[some (.sh (L a)),k0a c,k0c s],rfl,?_,λ_=>rfl,λz O=>ha z (by simp[O]),_,rfl⟩;have h0:=ha a aD;have hc:mcut (bvar 0) (j3 (m1 negD (mc (.int 3)))) R8 [some (.sh (L a)),k0a c,k0c s]=some ((cutI a (some (-3)) none).map dN):=by unfold mcut;show some (cutL (a.map dN) (some (-3)) none)=_;rw[P5]
   exact R9 (i9 (z8 (d:=.lst (c.map .int)) rfl (z8 (d:=.int s) rfl (z8 (h8 hc) y7))) (N4 c s (cutI a (some (-3)) none) (λy U=>h0.2 y (xq6 U)) (by have:=xq7 a (some (-3)) none;lia)))) _ _ [] ⟨λa ha=>by
    obtain⟨b,hb,rfl⟩:=bG.mp ha;have:=Y b hb;refine⟨by rw[bL];show b.length+1<=_;lia,λy U=>?_⟩;rcases bA.mp U with z|z
    .exact this.2 y z
    .rw[bm.mp z];exact Z,none,rfl⟩ (w8 (by rw[aW];show 0+_<=_;lia)),dC]
 have hf:((A.map λl=>l++[k]).filter (t3 c s)).length<=A.length:=by have:=length_filter_le (t3 c s) (A.map λl=>l++[k]);rw[aW]at this;exact this
 rw[n9 (h8 (X0 (x:=bvar 2) (ds:=A.map L) rfl c2 (w8 (by rw[aW,aW];lia)))),<-cm];rfl
noncomputable def IN(l:List Int):List Nat:=l.map Int.toNat
theorem wj2(l:List Nat):IN (NI l)=l:=by unfold IN NI;rw[bI];simp[Function.comp_def]
theorem wj1(l:List Nat):L l=lsD (NI l):=by show D.lst (l.map dN)=D.lst ((NI l).map .int);unfold NI;rw[bI];rfl
theorem lx_I:∀a b:List Nat,lxI (NI a) (NI b)=lx a b
 |[],[]=>rfl
 |[],_::_=>rfl
 |_::_,[]=>rfl
 |p::a,q::b=>by
  show (decide ((p:Int)<(q:Int)) || (decide ((p:Int)=(q:Int))&&lxI (NI a) (NI b)))=lx (p::a) (q::b);rw[lx_I a b];show _=(decide (p<q) || ((p==q)&&lx a b));by_cases h1:p<q
  .simp[h1,Int.ofNat_lt.mpr h1]
  .by_cases h2:p=q
   .subst h2;simp
   .have h3:¬ (p:Int)<(q:Int):=aA;have j:¬ (p:Int)=(q:Int):=aA;simp[h1,h2,h3,j]
theorem zj2{qs:List (List Nat)}(h:(qs.map NI).Pairwise leL)(hn:qs.Nodup):qs.Pairwise (λa b=>lx a b=true):=by
 have h:=List.pairwise_map.mp h;refine List.Pairwise.imp₂ (λ{a b}(h1:leL (NI a) (NI b))(h2:a≠b)=>?_) h hn;unfold leL at h1;rw[lx_I]at h1;rcases xm6 a b with z|z|z
 .exact aZ z h2
 .exact z
 .rw[z]at h1;cases h1
theorem zj5(h:m ρ=some (ls.map L)):∃qs:List (List Nat),qs.Perm ls/\(qs.map NI).Pairwise leL/\L8 m ρ=some (qs.map L):=by
 have e1:ls.map L=(ls.map NI).map lsD:=by rw[bI];exact br λl _=>wj1 l
 have hp:=N5 (ls.map NI);have j:∀z∈R1 (ls.map NI),NI (IN z)=z:=λz G=>by obtain⟨l,_,rfl⟩:=bG.mp (hp.mem_iff.mp G);rw[wj2]
 have e2:((R1 (ls.map NI)).map IN).map NI=R1 (ls.map NI):=by
  rw[bI]
  conv=>rhs;rw[<-map_id (R1 (ls.map NI))]
  exact br λz G=>j z G
 refine⟨(R1 (ls.map NI)).map IN,?_,by rw[e2];exact T8 _,?_⟩
 .have:=hp.map IN;rw[bI,show IN∘NI=id from funext wj2,map_id]at this;exact this
 .unfold L8;rw[h,e1];simp only[zs0];have e3:((R1 (ls.map NI)).map IN).map L=(((R1 (ls.map NI)).map IN).map NI).map lsD:=by rw[bI (f:=NI)];exact br λl _=>wj1 l
  rw[e3,e2]
theorem yr1(t:List Nat->Bool):∀k,(AL t k).length<=2^k
 |0=>aN _
 |k+1=>by have j:=yr1 t k;have:=length_filter_le t ((AL t k).map λl=>l++[k]);rw[aW]at this;rw[AL,bL,Nat.pow_succ];lia
theorem yx1(t:List Nat->Bool):∀k,∀l∈AL t k,l.length<=k/\∀y∈l,y<k
 |0,l,hl=>by rw[AL,cU]at hl;rw[hl];exact⟨aN _,λy j=>by cases j⟩
 |k+1,l,hl=>by
  rw[AL,mem_append]at hl;rcases hl with h|h
  .have:=yx1 t k l h;exact⟨aA,λy j=>bN (this.2 y j)⟩
  .obtain⟨b,hb,rfl⟩:=bG.mp (dW.mp h).1;have:=yx1 t k b hb;refine⟨by rw[bL];show b.length+1<=_;lia,λy j=>?_⟩;rcases bA.mp j with z|z
   .exact bN (this.2 y z)
   .rw[bm.mp z];exact ci _
theorem yp5(c:List Int)(s:Int)(hs:1<=s)(hr:c.length<=10):∃qs:List (List Nat),qs.Pairwise (λa b=>lx a b=true)/\(∀l,l∈qs↔Wv (xr c) c.length s l)/\qs.length<=1024/\za2 [.lst (c.map .int),.int s]=some (.fr (qs.map L)):=by
 have a1:=j5;have i1:1<=sizeLine:=w8 aC;suffices h:∃es,za2 [.lst (c.map .int),.int s]=some (.fr es)/\∃qs:List (List Nat),qs.Perm (AL (t3 c s) c.length)/\(qs.map NI).Pairwise leL/\es=qs.map L by
  obtain⟨es,e,qs,h1,U,rfl⟩:=h;have hm:=ys6 (x:=xr c) (n:=c.length) (s:=s) (t:=t3 c s) (λk l j hw N=>xx3 c s hs k l j hw N) c.length (aN _);refine⟨qs,zj2 U (h1.nodup_iff.mpr (zk4 (x:=xr c) (n:=c.length) (s:=s) (λk l j hw N=>xx3 c s hs k l j hw N) c.length (aN _))),λl=>?_,?_,e⟩
  .rw[h1.mem_iff,hm];exact⟨λz=>z.1,λz=>⟨z,zu6 z⟩⟩
  .rw[h1.length_eq];exact bE (yr1 _ _) (bE (Nat.pow_le_pow_right aC hr) aC)
 unfold za2;refine C2 ?_;unfold wz8;refine h6 (ρ':=eA c s (AL (t3 c s) 0) none none) ((n9 (h8 (v7 (z8 (h8 (v7 y7 (aY _))) y7) i1))).trans rfl) ?_;refine X6 (Z2 c.length (f:=λ(i:Nat)=>D.int (0+(i:Int))) ?_ (I:=λk ρ=>∃O G,ρ=eA c s (AL (t3 c s) k) O G) _ ⟨_,_,rfl⟩ ?_ ?_)
 .have ll:mlen (bvar 0) (eA c s (AL (t3 c s) 0) none none)=some (.int (c.length:Int)):=by rw[i6 (m:=bvar 0) (ds:=c.map .int) rfl,aW]
  unfold m5;rw[z8 ll y7,aP,G0 (S7 aA aA),bB];rfl
 .rintro k ρ j ⟨O,G,rfl⟩;have h2:(AL (t3 c s) k).length<=1024:=bE (yr1 _ _) (bE (Nat.pow_le_pow_right aC (show k<=10 by lia)) aC);obtain⟨Y,e⟩:=wx0 c s (AL (t3 c s) k) k j aA aA (λl N=>by have:=yx1 (t3 c s) k l N;exact⟨aA,λy Z=>da (this.2 y Z) j⟩) G
  exact⟨_,by rw[Int.zero_add];rfl,_,e,_,_,rfl⟩
 .rintro ρ ⟨O,G,rfl⟩;obtain⟨qs,hp,U,e⟩:=zj5 (m:=bvar 2) (ρ:=eA c s (AL (t3 c s) c.length) O G) (ls:=AL (t3 c s) c.length) rfl;refine⟨.rf (qs.map L),?_,_,rfl,qs,hp,U,rfl⟩;unfold zv2;rw[e];rfl
noncomputable abbrev PR:=List Nat×List Nat
def Fo:Option PR->Fl|none=>.l []|some w=>.l [L w.1,L w.2]
def Do:Option PR->D|none=>.lst []|some w=>LP w
def pc(a:List Int)(s:Int)(d:Bool)(p j m:Nat):Nat:=if m=0 then 1 else ((List.range j).map λi=>if far s d (xr a p) (xr a (p+1+i))then cnt a s (m-1) (!d) (p+1+i)else 0).sum
theorem yg1(a:List Int)(s:Int)(d:Bool)(p j m:Nat):pc a s d p (j+1) m=pc a s d p j m+(if m=0 then 0 else if far s d (xr a p) (xr a (p+1+j))then cnt a s (m-1) (!d) (p+1+j)else 0):=by
 unfold pc;by_cases h:m=0
 .simp[h]
 .simp only[h,if_false];rw[range_succ,cm,sum_append];simp
theorem ws4(a:List Int)(s:Int)(d:Bool)(p m:Nat):pc a s d p (a.length-(p+1)) m=cnt a s m d p:=by
 unfold pc;cases m with
 |zero=>rfl
 |succ m=>rw[aI aA,zn7];rfl
structure Rj(η:List Int)(s:Int)(p j:Nat)(w:PR):Prop where
 len:∀d,1<=(gp w d).length/\(gp w d).length<=η.length-p+1
 v0:∀d,(gp w d).getD 0 0=0
 v1:∀d m,(gp w d).getD (m+1) 0=pc η s d p j m
abbrev Rv(a:List Int)(s:Int)(p:Nat)(w:PR):Prop:=Rj a s p (a.length-(p+1)) w
theorem Rv.at'{s:Int}{p:Nat}(h:Rv a s p w)(d:Bool)(m:Nat):(gp w d).getD (m+1) 0=cnt a s m d p:=by rw[h.v1,ws4]
def stW(a:List Int)(s:Int)(p k:Nat)(w v:PR):PR:=if far s true (xr a p) (xr a k)then (ptL w.1 v.2 v.2.length,w.2)else if far s false (xr a p) (xr a k)then (w.1,ptL w.2 v.1 v.1.length)else w
theorem xw4{s:Int}{p:Nat}(hp:p<a.length):Rj a s p 0 ([0,1],[0,1]):=by
 refine⟨λd=>?_,λd=>?_,λd m=>?_⟩
 .cases d <;> exact⟨by decide,by show 2<=a.length-p+1;lia⟩
 .cases d <;> rfl
 .have:(gp (([0,1],[0,1]):PR) d)=[0,1]:=by cases d <;> rfl
  rw[this];unfold pc;cases m with
  |zero=>rfl
  |succ m=>rw[aI aA];show ([0,1]:List Nat).getD (m+2) 0=0;exact j9 aD
theorem xg6{s:Int}(hs:1<=s){p j:Nat}(hk:p+1+j<c.length)(hw:Rj c s p j w)(O:Rv c s (p+1+j) v):Rj c s p (j+1) (stW c s p (p+1+j) w v):=by
 have fx:∀d,far s d (xr c p) (xr c (p+1+j))->far s true (xr c p) (xr c (p+1+j))->d=true:=λd h1 h2=>zx7 hs h1 h2;have put:∀(a b:List Nat)(d:Bool),(∀m,a.getD (m+1) 0=pc c s d p j m)->a.getD 0 0=0->b=gp v (!d)->far s d (xr c p) (xr c (p+1+j))->(ptL a b b.length).getD 0 0=0/\∀m,(ptL a b b.length).getD (m+1) 0=pc c s d p (j+1) m:=λa b d h1 Z U Y=>by
  refine⟨by rw[zz6,Z];rfl,λm=>?_⟩;rw[zz6,h1,aJ aA,cX,yg1,U];congr 1;cases m with
  |zero=>rw[aJ rfl,O.v0]
  |succ m=>rw[aI aA,aJ Y,O.at',cX]
 have keep:∀d m,¬ far s d (xr c p) (xr c (p+1+j))->pc c s d p (j+1) m=pc c s d p j m:=λd m h=>by rw[yg1,aI h];simp
 have z:∀(a b:List Nat)(d:Bool),1<=a.length/\a.length<=c.length-p+1->b=gp v d->1<=(ptL a b b.length).length/\(ptL a b b.length).length<=c.length-p+1:=λa b d h1 U=>by rw[Z5];have:=(O.len d).2;rw[<-U]at this;lia
 unfold stW;by_cases h1:far s true (xr c p) (xr c (p+1+j))
 .rw[aJ h1];have h2:¬ far s false (xr c p) (xr c (p+1+j)):=zn1 hs h1;obtain⟨N,G⟩:=put w.1 v.2 true (hw.v1 true) (hw.v0 true) rfl h1;refine⟨λd=>?_,λd=>?_,λd m=>?_⟩
  .cases d
   .exact hw.len false
   .exact z w.1 v.2 false (hw.len true) rfl
  .cases d
   .exact hw.v0 false
   .exact N
  .cases d
   .rw[keep false m h2];exact hw.v1 false m
   .exact G m
 .rw[aI h1];by_cases h2:far s false (xr c p) (xr c (p+1+j))
  .rw[aJ h2];obtain⟨N,G⟩:=put w.2 v.1 false (hw.v1 false) (hw.v0 false) rfl h2;refine⟨λd=>?_,λd=>?_,λd m=>?_⟩
   .cases d
    .exact z w.2 v.1 true (hw.len false) rfl
    .exact hw.len true
   .cases d
    .exact N
    .exact hw.v0 true
   .cases d
    .exact G m
    .rw[keep true m h1];exact hw.v1 true m
  .rw[aI h2];refine⟨hw.len,hw.v0,λd m=>?_⟩;cases d
   .rw[keep false m h2];exact hw.v1 false m
   .rw[keep true m h1];exact hw.v1 true m
theorem yu0(y:Addr)(c:Cell)(a:Bx):List.lookup y ((y,c)::a)=some c:=by rw[lookup_cons,cJ]
theorem ww4(y:Addr)(c j:Cell)(a:Bx):updB y j ((y,c)::a)=(y,j)::a:=by unfold updB;rw[aJ rfl]
theorem seqW{r:Option (Out×Bx)}(h:x a b=some (.nx ρ',β'))(h2:y ρ' β'=r):zb5 x y a b=r:=by unfold zb5;rw[h];exact h2
theorem wj9(h:m a=some (.nx ρ')):wS m a b=some (.nx ρ',b):=by unfold wS;rw[h]
theorem wq7{c:Ro->Bx->Option Bool}{b:Bool}(h:c a d=some b):mifW c x y a d=(if b then x else y) a d:=by unfold mifW;rw[h];cases b <;> rfl
noncomputable abbrev RI'(a:List Int):D:=.lst (a.map .int)
def eO(a:List Int)(s:Int)(d2:D)(o3 o4 o5:Option S):Ro:=[some (.sh (RI' a)),k0c s,some (.sh d2),o3,o4,o5]
theorem we3(A:List (Option PR)):(A.map Fo).map flD=A.map Do:=by rw[bI];refine br λo _=>?_;cases o <;> rfl
theorem xi2(a:List Int)(s:Int)(y:Addr)(A:List (Option PR))(p k:Nat)(i:Int):thaw (eO a s (.ptr y) (some (.sh (dN p))) (some (.sh (dN k))) (k0c i)) [(y,.row (A.map Fo))]=eO a s (.lst (A.map Do)) (some (.sh (dN p))) (some (.sh (dN k))) (k0c i):=by
 have e:zr5 [(y,.row (A.map Fo))] (some (.sh (.ptr y)))=some (.sh (.lst (A.map Do))):=by unfold zr5;simp only[yu0];show some (S.sh (D.lst ((A.map Fo).map flD)))=_;rw[we3]
 unfold thaw eO;rw[bz,bz,bz,e];rfl
noncomputable def ki(c:Bool):Int:=if c then 1 else 0
noncomputable def pkc(c:Bool)(w:PR):List Nat:=if c then w.2 else w.1
noncomputable def ptc(c:Bool)(new:List Nat)(w:PR):PR:=if c then (w.1,new)else (new,w.2)
theorem wp7{a:List Int}{s:Int}{A:List (Option PR)}{q:Nat}{w:PR}{G z o5:Option S}{i j:ME}{c:Bool}(hw:A[q]? =some (some w))(hi:i (eO a s (.lst (A.map Do)) G z o5)=some (dN q))(N:j (eO a s (.lst (A.map Do)) G z o5)=some (.int (ki c))):
  mix (k8 (mix (bvar 2) i)) j (eO a s (.lst (A.map Do)) G z o5)=some (L (pkc c w)):=by
 obtain⟨O,e⟩:=bp.mp hw;refine n4 (ds:=[L w.1,L w.2]) (Y2 (n4 (m:=bvar 2) (ds:=A.map Do) (k:=(q:Int)) rfl hi ?_)) N (by cases c <;> rfl);rw[M0 Do A (q:Int) aA aA none,bB,aL,hw];rfl
theorem wi7(l:List Nat):(l.map dN).all isSc=true:=by rw[all_eq_true];intro d hd;obtain⟨x,_,rfl⟩:=bG.mp hd;rfl
theorem xb1(n p:Nat)(h:p<n):ixN n (p:Int)=some p:=by unfold ixN;rw[aJ aA,aJ aA];simp
theorem xh3{A:List (Option PR)}{p:Nat}{w:PR}{c:Bool}{new:List Nat}(hw:A[p]? =some (some w)):setR (p:Int) (ki c) (L new) (A.map Fo)=some ((A.set p (some (ptc c new w))).map Fo):=by obtain⟨hp,e⟩:=bp.mp hw;unfold setR;rw[xb1 _ p (by rw[aW];exact hp)];simp only;rw[bF,hw];show (match ixN [L w.1,L w.2].length (ki c)with |some m=>some ((A.map Fo).set p (.l ([L w.1,L w.2].set m (L new))))|none=>none)=_;rw[map_set];cases c <;> rfl
theorem wh9(g:List Int)(s:Int)(hs:1<=s){A:List (Option PR)}(hA:A.length=g.length){p k:Nat}(hp:p<g.length)(hk:k<g.length){w v:PR}(hw:A[p]? =some (some w))(hv:A[k]? =some (some v))(lw:∀d,(gp w d).length<=1000)(lv:∀d,(gp v d).length<=1000)(o5:Option S):
  ∃i,∀y,S3 (eO g s (.ptr y) (some (.sh (dN p))) (some (.sh (dN k))) o5) [(y,.row (A.map Fo))]=some (.nx (eO g s (.ptr y) (some (.sh (dN p))) (some (.sh (dN k))) (k0c i)),[(y,.row ((A.set p (some (stW g s p k w v))).map Fo))]):=by
 obtain⟨c,hc⟩:∃c,c=decide (s<=xr g p-xr g k):=⟨_,rfl⟩;have Z:∀Y o5,mix (bvar 0) (mvar 3) (eO g s Y (some (.sh (dN p))) (some (.sh (dN k))) o5)=some (.int (xr g p)):=λ_ _=>n4 (m:=bvar 0) (ds:=g.map .int) rfl rfl (J5 g p hp);have xk:∀Y o5,mix (bvar 0) (mvar 4) (eO g s Y (some (.sh (dN p))) (some (.sh (dN k))) o5)=some (.int (xr g k)):=λ_ _=>n4 (m:=bvar 0) (ds:=g.map .int) rfl rfl (J5 g k hk);have e5:∀y,wS (mset 5 (m6 intF (z7 (m2 geD (m2 subD (mix (bvar 0) (mvar 3)) (mix (bvar 0) (mvar 4))) (mvar 1)) anil))) (eO g s (.ptr y) (some (.sh (dN p))) (some (.sh (dN k))) o5) [(y,.row (A.map Fo))]=some (.nx (eO g s (.ptr y) (some (.sh (dN p))) (some (.sh (dN k))) (some (.sh (.int (ki c))))),[(y,.row (A.map Fo))]):=λy=>by refine wj9 ((n9 (d:=.int (ki c)) ?_).trans rfl);unfold m6;rw[z8 ((w9 (f:=geD) (y:=mvar 1) ((w9 (f:=subD) (Z _ _) (xk _ _)).trans rfl) (b:=.int s) rfl).trans (show geD (.int (xr g p-xr g k)) (.int s)=some (.bl (decide (s<=xr g p-xr g k)))from rfl)) y7,<-hc];cases c <;> rfl
 have et:∀y h,wE (w5 (m2 geD (m6 absF (z7 (m2 subD (mix (bvar 0) (mvar 4)) (mix (bvar 0) (mvar 3))) anil)) (mvar 1))) (eO g s (.ptr y) (some (.sh (dN p))) (some (.sh (dN k))) (some (.sh (.int (ki c))))) h=some (decide (s<=((xr g k-xr g p).natAbs:Int))):=λy h=>
  zt0 (xy0 ((w9 (f:=subD) (xk _ _) (Z _ _)).trans rfl)) rfl
 refine⟨ki c,λy=>?_⟩;unfold S3;refine seqW (e5 y) ?_;rw[wq7 (et y _)];have value:∀(G:Bool),c=G->∀new,zv5 [L (pkc G w),L (pkc (!G) v)]=some (.fr (new.map dN))->yf4 2 (mvar 3) (mvar 5) (lsW (yp4 (V4 zv5 (z7 (mix (k8 (mix (bvar 2) (mvar 3))) (mvar 5)) (z7 (mix (k8 (mix (bvar 2) (mvar 4))) (m2 subD (mc (.int 1)) (mvar 5))) anil))))) (eO g s (.ptr y) (some (.sh (dN p))) (some (.sh (dN k))) (some (.sh (.int (ki c))))) [(y,.row (A.map Fo))]=some (.nx (eO g s (.ptr y) (some (.sh (dN p))) (some (.sh (dN k))) (some (.sh (.int (ki c))))),[(y,.row ((A.set p (some (ptc G new w))).map Fo))]):=λG N new z=>by
  subst N;have j:lsW (yp4 (V4 zv5 (z7 (mix (k8 (mix (bvar 2) (mvar 3))) (mvar 5)) (z7 (mix (k8 (mix (bvar 2) (mvar 4))) (m2 subD (mc (.int 1)) (mvar 5))) anil)))) (eO g s (.ptr y) (some (.sh (dN p))) (some (.sh (dN k))) (some (.sh (.int (ki c))))) [(y,.row (A.map Fo))]=some (L new):=by unfold lsW yp4 V4;rw[xi2];have sb:m2 subD (mc (.int 1)) (mvar 5) (eO g s (.lst (A.map Do)) (some (.sh (dN p))) (some (.sh (dN k))) (some (.sh (.int (ki c)))))=some (.int (ki (!c))):=(w9 (f:=subD) (a:=.int 1) (b:=.int (ki c)) rfl rfl).trans (by cases c <;> rfl);rw[z8 (wp7 (c:=c) hw rfl rfl) (z8 (wp7 (c:=!c) hv rfl sb) y7),aP,z];simp only[Option.bind_some,wi7,if_true,Option.map_some];rfl
  unfold yf4;rw[j];show (match List.lookup y [(y,Cell.row (A.map Fo))]with |some (.row fs)=>(setR (p:Int) (ki c) (L new) fs).map λfs'=>(Out.nx _,updB y (.row fs') [(y,Cell.row (A.map Fo))])|_=>none)=_;rw[yu0];simp only;rw[xh3 hw,Option.map_some,ww4]
 by_cases ht:far s true (xr g p) (xr g k)
 .have ht':s<=xr g k-xr g p:=ht;have U:c=false:=by rw[hc];exact aQ aA
  have v1:=value false U (ptL w.1 v.2 v.2.length) (yw6 w.1 v.2 (lw true) (lv false));rw[aV (show s<=((xr g k-xr g p).natAbs:Int)by lia),aJ rfl,v1];unfold stW;rw[aJ ht];rfl
 .by_cases hf:far s false (xr g p) (xr g k)
  .have hf':s<=xr g p-xr g k:=hf;have O:c=true:=by rw[hc];exact aV hf'
   have v1:=value true O (ptL w.2 v.1 v.1.length) (yw6 w.2 v.1 (lw false) (lv true));rw[aV (show s<=((xr g k-xr g p).natAbs:Int)by lia),aJ rfl,v1];unfold stW;rw[aI ht,aJ hf];rfl
  .have h1:¬ s<=xr g k-xr g p:=ht;have h2:¬ s<=xr g p-xr g k:=hf;rw[aQ (show ¬ s<=((xr g k-xr g p).natAbs:Int)by lia),aI bf];have:stW g s p k w v=w:=by unfold stW;rw[aI ht,aI hf]
   rw[this];have:A.set p (some w)=A:=by
    refine dH λm=>?_;rw[ef];by_cases e:p=m
    .subst e;rw[aJ rfl,aJ aA,hw]
    .rw[aI e]
   rw[this];rfl
theorem zf0{G:Type}{f:G->D}{body:MW}{d:G}{ds:List G}{r:Option (Out×Bx)}(h1:tgD g (f d) a=some ρ1)(h2:body ρ1 b=some (.nx j,z))(N:forW g body (ds.map f) j z=r):forW g body ((d::ds).map f) a b=r:=by rw[bz,forW,h1];simp only;rw[h2];exact N
theorem xn2{i j:Nat}(h1:a c=some (.int (i:Int)))(h2:b c=some (.int (j:Int)))(hi:i<=1000)(z:j<=1000):m5 rng2 (z7 a (z7 b anil)) c=some (((List.range (j-i)).map (i+·)).map dN):=by unfold m5;rw[z8 h1 (z8 h2 y7),aP,zq6 (S7 aA aA) (S7 aA aA),G3,bI,show ((j:Int)-(i:Int)).toNat=j-i by lia];rfl
theorem yv8{body:MW}{its:List D}{r:Option (Out×Bx)}(h:j a=some its)(h2:forW g body its a b=r):yq9 j g body a b=r:=by unfold yq9;rw[h];exact h2
theorem yj3(n:Nat)(h:n<=900):rng3 [.int ((n:Int)-1),.int (-1),.int (-1)]=some (zf6 n):=by unfold rng3;dsimp only;rw[aJ ⟨aA,aA,rfl,rfl⟩,show (((n:Int)-1)+1).toNat=n by lia]
theorem xa2(n:Nat):zf6 n=((List.range n).map λj=>n-1-j).map dN:=by unfold zf6 dN;rw[bI];refine br λi hi=>?_;have:=bS.mp hi;show D.int ((n:Int)-1-(i:Int))=D.int ((n-1-i:Nat):Int);congr 1;omega
theorem yt5:∀(is:List Int)(o:Option S)(acc:List (List D)),acc.length+is.length<=1000->zu2 (.nm 0) (v5 anil) (is.map .int) [o] acc=some (acc++List.replicate is.length [])
 |[],o,acc,_=>by simp[zu2]
 |i::is,o,acc,h=>by have j:=j5;rw[bz,zu2];have e1:tgD (.nm 0) (.int i) [o]=some [k0c i]:=rfl;rw[e1];simp only;rw[v7 y7 (aY _)];simp only;rw[aJ (by simp at h;lia),yt5 is _ _ (by simp at h ⊢;lia)];simp[replicate_succ]
section
variable (c:List Int)(s:Int)(hs:1<=s)(hr:c.length<=300)
include hs hr
def Dn(c:List Int)(s:Int)(p:Nat)(A:List (Option PR)):Prop:=A.length=c.length/\∀q,p<=q->q<c.length->∃v,A[q]? =some (some v)/\Rv c s q v
theorem xn3{p j:Nat}(h:Rj c s p j w):∀d,(gp w d).length<=1000:=λd=>by have:=(h.len d).2;lia
theorem yv2(p:Nat):∀(r j:Nat)(A:List (Option PR))(G o5:Option S),p+1+j+r=c.length->Dn c s (p+1) A->(∃w,A[p]? =some (some w)/\Rj c s p j w)->
  ∃N U O,Dn c s p N/\∀y,forW (.nm 4) S3 (((List.range r).map (p+1+j+·)).map dN) (eO c s (.ptr y) (some (.sh (dN p))) G o5) [(y,.row (A.map Fo))]=some (.nx (eO c s (.ptr y) (some (.sh (dN p))) U O),[(y,.row (N.map Fo))])
 |0,j,A,G,o5,hj,hA,⟨w,hw,rw'⟩=>by
  refine⟨A,G,o5,⟨hA.1,λq h1 h2=>?_⟩,λy=>rfl⟩;by_cases e:q=p
  .subst e;refine⟨w,hw,?_⟩;have:j=c.length-(q+1):=aB;show Rj c s q (c.length-(q+1)) w;rw[<-this];exact rw'
  .exact hA.2 q aA h2
 |r+1,j,A,G,o5,hj,hA,⟨w,hw,rw'⟩=>by
  obtain⟨v,hv,Z⟩:=hA.2 (p+1+j) aA aA;obtain⟨i,e1⟩:=wh9 c s hs hA.1 (p:=p) (k:=p+1+j) aA aA hw hv (xn3 c s hs hr rw') (xn3 c s hs hr Z) o5;have Y:p<A.length:=by rw[hA.1];lia
  obtain⟨N,U,O,h1,h2⟩:=yv2 p r (j+1) (A.set p (some (stW c s p (p+1+j) w v))) (some (.sh (dN (p+1+j)))) (k0c i) aA ⟨by rw[length_set];exact hA.1,λq h1 h2=>by obtain⟨u,hu,ru⟩:=hA.2 q h1 h2;exact⟨u,by rw[ef,aI aA];exact hu,ru⟩⟩ ⟨_,by rw[ef,aJ rfl,aJ Y],xg6 hs aA rw' Z⟩
  refine⟨N,U,O,h1,λy=>?_⟩;rw[cq,bz,bI,show ((p+1+j+·)∘Nat.succ:Nat->Nat)=(p+1+(j+1)+·)by funext z;simp only[Function.comp,Nat.succ_eq_add_one];lia,cG];exact zf0 (ρ1:=eO c s (.ptr y) (some (.sh (dN p))) (some (.sh (dN (p+1+j)))) o5) rfl (e1 y) (h2 y)
theorem wh8(p:Nat)(hp:p<c.length)(A:List (Option PR))(G o5:Option S)(Y:Dn c s (p+1) A):
  ∃N U O,Dn c s p N/\∀y,S2 (eO c s (.ptr y) (some (.sh (dN p))) G o5) [(y,.row (A.map Fo))]=some (.nx (eO c s (.ptr y) (some (.sh (dN p))) U O),[(y,.row (N.map Fo))]):=by
 have z:p<A.length:=by rw[Y.1];omega
 obtain⟨N,U,O,h1,h2⟩:=yv2 c s hs hr p (c.length-(p+1)) 0 (A.set p (some ([0,1],[0,1]))) G o5 aB ⟨by rw[length_set];exact Y.1,λq h1 h2=>by obtain⟨u,hu,ru⟩:=Y.2 q h1 h2;exact⟨u,by rw[ef,aI aA];exact hu,ru⟩⟩ ⟨_,by rw[ef,aJ rfl,aJ z],xw4 hp⟩
 refine⟨N,U,O,h1,λy=>?_⟩;unfold S2;refine seqW (ρ':=eO c s (.ptr y) (some (.sh (dN p))) G o5) (β':=[(y,.row ((A.set p (some ([0,1],[0,1]))).map Fo))]) ?_ ?_
 .unfold zo6;have Z:mlst (v5 (z7 (mc (.int 0)) (z7 (mc (.int 1)) anil))) (eO c s (.ptr y) (some (.sh (dN p))) G o5)=some (L [0,1]):=h8 (v7 (z8 rfl (z8 rfl y7)) (w8 (show 2<=1000000 by decide)));rw[v7 (z8 Z (z8 Z y7)) (w8 (show 2<=1000000 by decide))];show (match List.lookup y [(y,Cell.row (A.map Fo))]with |some (.row fs)=>(match ixN fs.length (p:Int)with |some n=>some (Out.nx _,updB y (.row (fs.set n (.l [L [0,1],L [0,1]]))) [(y,Cell.row (A.map Fo))])|none=>none)|_=>none)=_;rw[yu0];simp only;rw[xb1 _ p (by rw[aW];exact z)];simp only;rw[ww4,map_set];rfl
 .refine yv8 (xn2 (i:=p+1) (j:=c.length) ?_ ?_ aA aA) (h2 y)
  .exact(w9 (a:=dN p) (b:=.int 1) rfl rfl).trans rfl
  .rw[i6 (show bvar 0 _=some (c.map .int)from rfl),aW]
theorem yv1:∀(p:Nat)(A:List (Option PR))(N G o5:Option S),p<=c.length->Dn c s p A->
  ∃Z Y U O,Dn c s 0 Z/\∀y,forW (.nm 3) S2 (((List.range p).map λj=>p-1-j).map dN) (eO c s (.ptr y) N G o5) [(y,.row (A.map Fo))]=some (.nx (eO c s (.ptr y) Y U O),[(y,.row (Z.map Fo))])
 |0,A,N,G,o5,hp,hA=>⟨A,N,G,o5,hA,λy=>rfl⟩
 |p+1,A,N,G,o5,hp,hA=>by obtain⟨A1,q4,q5,h1,e1⟩:=wh8 c s hs hr p aA A G o5 hA;obtain⟨A2,Y,U,O,h2,e2⟩:=yv1 p A1 (some (.sh (dN p))) q4 q5 aA h1;refine⟨A2,Y,U,O,h2,λy=>?_⟩;rw[cq,bz,bI,show ((λj=>p+1-1-j)∘Nat.succ:Nat->Nat)=(λj=>p-1-j)by funext z;simp only[Function.comp,Nat.succ_eq_add_one];lia,show p+1-1-0=p by lia];exact zf0 (ρ1:=eO c s (.ptr y) (some (.sh (dN p))) G o5) rfl (e1 y) (e2 y)
theorem yd0:∃G:List PR,G.length=c.length/\(∀q,q<c.length->Rv c s q (G.getD q ([],[])))/\C9 [RI' c,.int s]=some (.sh (.lst (G.map LP))):=by
 obtain⟨A,p3,p4,p5,O,e⟩:=yv1 c s hs hr c.length (List.replicate c.length none) none none none (aN _) ⟨by simp,λq h1 h2=>by omega⟩;obtain⟨G,Y⟩:∃G:List PR,A=G.map some:=by
  refine⟨A.map λo=>o.getD ([],[]),dH λq=>?_⟩;rw[bF,bF];by_cases U:q<c.length
  .obtain⟨v,hv,_⟩:=O.2 q (aY _) U;rw[hv];rfl
  .rw[bg (by rw[O.1];lia)];rfl
 have hl:G.length=c.length:=by rw[<-O.1,Y,aW]
 refine⟨G,hl,λq U=>?_,?_⟩
 .obtain⟨v,hv,rv⟩:=O.2 q (aY _) U;rw[Y,bF]at hv;have:G[q]? =some v:=by
   cases z:G[q]? with
   |none=>rw[z]at hv;cases hv
   |some u=>rw[z]at hv;cases hv;rfl
  rw[aL,this];exact rv
 .have hfl:(A.map Fo).map flS=G.map LP:=by rw[Y,bI,bI];exact br λw _=>rfl
  have N:(List.replicate c.length ([]:List D)).map Fl.l=(List.replicate c.length (none:Option PR)).map Fo:=by rw[map_replicate,map_replicate];rfl
  have key:B8 (m8 6 [RI' c,.int s]) []=some (.rt (.lst (G.map LP)),[]):=by
   unfold B8 xt6;have hc:zy7 [none] (k8 (mvar 0)) (.nm 0) (v5 anil) (m8 6 [RI' c,.int s])=some (List.replicate c.length []):=by unfold zy7;rw[Y2 (m:=mvar 0) (ds:=c.map .int) rfl,aP];show zu2 (.nm 0) _ _ [none] []=_;rw[yt5 c none [] (by simp;lia),dC]
   rw[hc,aP];refine wy8 λy _=>?_;have Z:S1 (eO c s (.ptr y) none none none) [(y,.row ((List.replicate c.length (none:Option PR)).map Fo))]=some (.rt (.lst (G.map LP)),[]):=by
    unfold S1;refine seqW (yv8 (its:=((List.range c.length).map λj=>c.length-1-j).map dN) ?_ (e y)) ?_
    .unfold m5;rw[z8 (d:=.int ((c.length:Int)-1)) ((w9 (a:=.int (c.length:Int)) (b:=.int 1) (by rw[i6 (show bvar 0 _=some (c.map .int)from rfl),aW]) rfl).trans rfl) (z8 (d:=.int (-1)) rfl (z8 (d:=.int (-1)) rfl y7)),aP,yj3 _ aA,xa2]
    .unfold zw3 C7;rw[show (eO c s (.ptr y) p3 p4 p5)[2]? =some (some (.sh (.ptr y)))from rfl];simp only;rw[yu0];simp only;rw[hfl,show delB y [(y,Cell.row (A.map Fo))]=[]by unfold delB;rw[cJ]];rfl
   show (S1 (eO c s (.ptr y) none none none) [(y,.row ((List.replicate c.length ([]:List D)).map Fl.l))]).map (L2.letGo 2 0)=_;rw[N,Z];rfl
  unfold C9 plainW runW;rw[key]
end
end
section
open PySem L2
theorem of_eq(a:List Nat)(m:Nat)(ha:a.length<=1000):za1 [L a,dN m]=some (.sh (dN (a.getD m 0))):=by
 unfold za1;refine Y5 ?_;unfold wz7;have j:=j5;have c:mcut (bvar 0) (j3 (mvar 1)) (j3 (m2 addD (mvar 1) (mc (.int 1)))) (m8 2 [L a,dN m])=some ((cutI a (some (m:Int)) (some ((m+1:Nat):Int))).map dN):=by
  refine xt9 (m:=bvar 0) (ws:=a) rfl ?_ ?_
  .unfold j3;rfl
  .unfold j3;rw[w9 (f:=addD) (a:=dN m) (b:=.int 1) rfl rfl];rfl
 rw[zn3]at c;refine Q1 (n4 (k:=0) (X0 c (v7 (z8 (d:=.int 0) rfl y7) (w8 (show 1<=1000000 by decide))) (w8 ?_)) rfl ?_)
 .simp;lia
 .by_cases h:m<a.length
  .have e:(a.take (m+1)).drop m=[a.getD m 0]:=by rw[take_succ,aK h,drop_append_of_le_length (by simp;lia),eh (by simp;lia),aL,aK h];rfl
   rw[e];rfl
  .have e:(a.take (m+1)).drop m=[]:=eh (by simp;lia);rw[e,j9 aA];rfl
theorem xq5(l:List Nat):cutI l (some (-3)) none=l.drop (l.length-3):=by
 unfold cutI;have e:HT.sIx l.length 0 (some (-3))=l.length-3:=by show (if (-3:Int)<0 then ((-3:Int)+(l.length:Int)).toNat else min (-3:Int).toNat l.length)=_;rw[aJ aC];lia
 rw[e,HT.sIx_none,dy aD]
theorem zr4{s:Int}{P:List Nat}{p:Nat}(h:Tld a s P (some (p,e))):∃z,P=z++[p]/\p<a.length:=by
 cases e with
 |none=>exact⟨[],h.1,h.2⟩
 |some d=>obtain⟨j,o,h1,_,hp,_⟩:=h;exact⟨j++[o],by rw[h1];simp,hp⟩
theorem wj7{x:Nat->Int}{n:Nat}{s:Int}{P:List Nat}{p:Nat}(h:Wv x n s (P++[p])):∀y∈P++[p],y<=p:=λy j=>by
 rcases bA.mp j with z|z
 .exact dk ((yn6 h).2.1 y z)
 .rw[bm.mp z];exact aN _
theorem xy9{s:Int}(hs:1<=s){P:List Nat}{p q:Nat}(hT:Tld a s P (some (p,e)))(z:p<q)(G:q<a.length):gd a s (P.drop (P.length-2)++[q])=true↔∃d,zd9 a s (some (p,e)) d q:=by
 obtain⟨j,rfl,hp⟩:=zr4 hT;have hw:=hT.wv;have e3:t3 a s (j++[p]++[q])=gd a s ((j++[p]).drop ((j++[p]).length-2)++[q]):=by unfold t3;rw[xq5,show (j++[p]++[q]).length-3=(j++[p]).length-2 by simp only[length_append,length_singleton];lia,drop_append_of_le_length aA]
 rw[<-e3,xx3 a s hs q (j++[p]) G hw (λy N=>Nat.lt_of_le_of_lt (wj7 hw y N) z)];constructor
 .intro h;obtain⟨h1,_,_⟩:=yx4 hs (T:=j++[p]) (q:=q) (r:=[]) (k:=0) rfl h hT;obtain⟨d,h2⟩:=xy8 h1;exact⟨d,h2⟩
 .rintro⟨d,hd⟩;have ha:aft (some (p,e))<=q:=z;exact(Q8 hs G hT ha hd).wv
def eB(a:List Int)(s:Int)(Bs:List PR)(T:List Nat)(k left found:Nat)(o7 o8:Option S):Ro:=[some (.sh (RI' a)),k0c s,some (.sh (.lst (Bs.map LP))),some (.sh (L T)),some (.sh (dN k)),some (.sh (dN left)),some (.sh (dN found)),o7,o8]
theorem xq3(a b:Nat)(h1:x ρ=some (dN a))(h2:y ρ=some (.int (b:Int))):w5 (m2 eqSD x y) ρ=some (decide (a=b)):=by refine j8 ((w9 h1 h2).trans ?_);exact wo2 a b
theorem zd2(a b:Nat)(h1:x c=some (dN a))(h2:y c=some (dN b)):m2 addD x y c=some (dN (a+b)):=by rw[w9 h1 h2];show some (D.int ((a:Int)+(b:Int)))=some (D.int ((a+b:Nat):Int));congr 2
section
variable (g:List Int)(s:Int)(hs:1<=s)(hr:g.length<=300)
include hs hr
theorem yy3(N:List PR)(hB:N.length=g.length)(hv:∀q,q<g.length->Rv g s q (N.getD q ([],[])))(T:List Nat)(a4:T.length<=300)(k:Nat)(hk:k<T.length)(st:St')(hT:Tld g s (T.take k) st)(q:Nat)(ha:aft st<=q)(Y:q<g.length)(G:Nat)(o8:Option S):
  ∃p8,zm3 (eB g s N T k (T.length-k) G (some (.sh (dN q))) o8)=some (.nx (eB g s N T k (T.length-k) (G+wy g s (T.length-1-k) st q) (some (.sh (dN q))) p8)):=by
 have c1:=zn8 (xq3 k 0 (x:=mvar 4) (y:=mc (.int 0)) (ρ:=eB g s N T k (T.length-k) G (some (.sh (dN q))) o8) rfl rfl) (xq3 (T.length-k) 1 (x:=mvar 5) (y:=mc (.int 1)) rfl rfl);have c2:=xq3 k 0 (x:=mvar 4) (y:=mc (.int 0)) (ρ:=eB g s N T k (T.length-k) G (some (.sh (dN q))) o8) rfl rfl;have rv:=hv q Y;have on:∀(f:Nat)(o8:Option S)(c:Bool)(j:ME),j (eB g s N T k (T.length-k) f (some (.sh (dN q))) o8)=some (.int (ki c))->mix (k8 (mix (bvar 2) (mvar 7))) j (eB g s N T k (T.length-k) f (some (.sh (dN q))) o8)=some (L (pkc c (N.getD q ([],[])))):=λf o8 c j hj=>
  n4 (ds:=[L (N.getD q ([],[])).1,L (N.getD q ([],[])).2]) (Y2 (n4 (m:=bvar 2) (ds:=N.map LP) (k:=(q:Int)) rfl rfl (wm1 N q aA))) hj (by cases c <;> rfl)
 have U:∀c,za1 [L (pkc c (N.getD q ([],[]))),dN (T.length-k)]=some (.sh (dN (cnt g s (T.length-1-k) (!c) q))):=λc=>by
  have e:pkc c (N.getD q ([],[]))=gp (N.getD q ([],[])) (!c):=by cases c <;> rfl
  rw[of_eq _ _ (by rw[e];have:=(rv.len (!c)).2;lia),e,show T.length-k=(T.length-1-k)+1 by lia,rv.at']
 unfold zm3;rw[j4 c1];cases st with
 |none=>
  have O:k=0:=by
   have h0:T.take k=[]:=hT;have h1:(T.take k).length=0:=by rw[h0];rfl
   rw[cO]at h1;lia
  subst O;by_cases hl:T.length-0=1
  .rw[show (decide (0=0)&&decide (T.length-0=1))=true by rw[aV hl];rfl];simp only[if_true];refine⟨o8,?_⟩;have hw:wy g s (T.length-1-0) none q=1:=by rw[show T.length-1-0=0 by lia];rfl
   rw[hw,n9 (zd2 G 1 (x:=mvar 6) (y:=mc (.int 1)) rfl rfl)];rfl
  .rw[show (decide (0=0)&&decide (T.length-0=1))=false by rw[aQ hl];rfl];simp only[Bool.false_eq_true,if_false];rw[j4 c2,aV rfl];simp only[if_true];refine⟨o8,?_⟩;have hw:wy g s (T.length-1-0) none q=cnt g s (T.length-1-0) true q+cnt g s (T.length-1-0) false q:=by obtain⟨m,hm⟩:∃m,T.length-1-0=m+1:=⟨T.length-2,aA⟩;rw[hm];rfl
   refine seqI (ρ':=eB g s N T 0 (T.length-0) (G+cnt g s (T.length-1-0) true q) (some (.sh (dN q))) o8) ?_ ?_
   .exact(n9 (zd2 G _ rfl (i9 (z8 (on _ _ false (mc (.int 0)) rfl) (z8 (d:=dN (T.length-0)) rfl y7)) (U false)))).trans rfl
   .rw[n9 (zd2 (G+cnt g s (T.length-1-0) true q) _ rfl (i9 (z8 (on _ _ true (mc (.int 1)) rfl) (z8 (d:=dN (T.length-0)) rfl y7)) (U true))),hw,<-dP];rfl
 |some pe=>
  obtain⟨p,e⟩:=pe;obtain⟨P0,hP,hp⟩:=zr4 hT;have a3:k=P0.length+1:=by have:=bi List.length hP;rw[cO,bL]at this;simp at this;lia
  have a1:p<q:=ha;have O:¬ k=0:=aA;rw[show (decide (k=0)&&decide (T.length-k=1))=false by rw[aQ O];rfl];simp only[Bool.false_eq_true,if_false];rw[j4 c2,aQ O];simp only[Bool.false_eq_true,if_false];have pT:T.getD (k-1) 0=p:=by
   have h1:(T.take k)[k-1]? =some p:=by rw[hP,show k-1=P0.length by lia];simp
   rw[getElem?_take_of_lt aA]at h1;rw[aL,h1];rfl
  have Z:=xy9 hs hT a1 Y;rw[show (T.take k).length-2=k-2 by rw[cO];omega]at Z;have lt:∀y∈(T.take k).drop (k-2)++[q],y<g.length:=λy hy=>by
   rcases bA.mp hy with z|z
   .have:=zu6 hT.wv y (mem_of_mem_drop z);exact this
   .rw[bm.mp z];exact Y
  have cc:mlst (mcat (mcut (bvar 3) (j3 (m6 V5 (z7 (mc (.int 0)) (z7 (m2 subD (mvar 4) (mc (.int 2))) anil)))) (j3 (mvar 4))) (v5 (z7 (mvar 7) anil))) (eB g s N T k (T.length-k) G (some (.sh (dN q))) o8)=some (L ((T.take k).drop (k-2)++[q])):=by
   have hm:j3 (m6 V5 (z7 (mc (.int 0)) (z7 (m2 subD (mvar 4) (mc (.int 2))) anil))) (eB g s N T k (T.length-k) G (some (.sh (dN q))) o8)=some (some ((k-2:Nat):Int)):=by
    have hc:m6 V5 (z7 (mc (.int 0)) (z7 (m2 subD (mvar 4) (mc (.int 2))) anil)) (eB g s N T k (T.length-k) G (some (.sh (dN q))) o8)=some (.int ((k-2:Nat):Int)):=by unfold m6;rw[z8 (d:=.int 0) rfl (z8 (d:=.int ((k:Int)-2)) ((w9 (f:=subD) (a:=dN k) (b:=.int 2) rfl rfl).trans rfl) y7)];show some (D.int (if (k:Int)-2>0 then (k:Int)-2 else 0))=_;congr 2;split <;> lia
    unfold j3;rw[hc];rfl
   have h1:=xt9 (m:=bvar 3) (ws:=T) (lo:=j3 (m6 V5 (z7 (mc (.int 0)) (z7 (m2 subD (mvar 4) (mc (.int 2))) anil)))) (hi:=j3 (mvar 4)) (ρ:=eB g s N T k (T.length-k) G (some (.sh (dN q))) o8) (h:=some (k:Int)) rfl hm (by unfold j3;rfl);rw[zn3]at h1;refine(h8 (X0 h1 (v7 (z8 (d:=dN q) rfl y7) (w8 (show 1<=1000000 by decide))) (w8 (by simp;lia)))).trans ?_;show some (D.lst _)=some (D.lst _);rw[cm];rfl
  have ct:mtru (l0 zo9 (z7 (mvar 0) (z7 (mvar 1) (z7 (mlst (mcat (mcut (bvar 3) (j3 (m6 V5 (z7 (mc (.int 0)) (z7 (m2 subD (mvar 4) (mc (.int 2))) anil)))) (j3 (mvar 4))) (v5 (z7 (mvar 7) anil)))) anil)))) (eB g s N T k (T.length-k) G (some (.sh (dN q))) o8)=some (gd g s ((T.take k).drop (k-2)++[q])):=
   R9 (i9 (z8 (d:=RI' g) rfl (z8 (d:=.int s) rfl (z8 cc y7))) (N4 g s _ lt (by simp;lia)))
  rw[j4 ct];cases hg:gd g s ((T.take k).drop (k-2)++[q])with
  |false=>
   simp only[Bool.false_eq_true,if_false];have hw:wy g s (T.length-1-k) (some (p,e)) q=0:=by
    cases z:wy g s (T.length-1-k) (some (p,e)) q with
    |zero=>rfl
    |succ m=>obtain⟨d,hd⟩:=xy8 (k:=T.length-1-k) (by rw[z];lia);have:=Z.mpr ⟨d,hd⟩;rw[hg]at this;cases this
   exact⟨o8,by rw[hw,cG];rfl⟩
  |true=>
   simp only[if_true];obtain⟨d,hd⟩:=Z.mp hg;have hw:wy g s (T.length-1-k) (some (p,e)) q=cnt g s (T.length-1-k) (!d) q:=zu5 hs hd.1 hd.2;have a2:d=decide (xr g p<xr g q):=by have:=hd.1;unfold far at this;cases d <;> simp at this <;> simp <;> lia
   have ix:∀o8,m6 intF (z7 (m2 gtD (mix (bvar 0) (mvar 7)) (mix (bvar 0) (mix (bvar 3) (m2 subD (mvar 4) (mc (.int 1)))))) anil) (eB g s N T k (T.length-k) G (some (.sh (dN q))) o8)=some (.int (ki d)):=λo8=>by
    have e1:mix (bvar 0) (mvar 7) (eB g s N T k (T.length-k) G (some (.sh (dN q))) o8)=some (.int (xr g q)):=n4 (m:=bvar 0) (ds:=g.map .int) rfl rfl (J5 g q Y);have e2:mix (bvar 3) (m2 subD (mvar 4) (mc (.int 1))) (eB g s N T k (T.length-k) G (some (.sh (dN q))) o8)=some (dN p):=by
     refine n4 (m:=bvar 3) (ds:=T.map dN) (k:=((k-1:Nat):Int)) rfl ((w9 (f:=subD) (a:=dN k) (b:=.int 1) rfl rfl).trans ?_) ?_
     .show some (D.int ((k:Int)-1))=some (D.int ((k-1:Nat):Int));congr 2;lia
     .rw[G9 T (k-1) aA,pT]
    have e3:mix (bvar 0) (mix (bvar 3) (m2 subD (mvar 4) (mc (.int 1)))) (eB g s N T k (T.length-k) G (some (.sh (dN q))) o8)=some (.int (xr g p)):=n4 (m:=bvar 0) (ds:=g.map .int) rfl e2 (J5 g p hp);unfold m6;rw[z8 ((w9 (f:=gtD) e1 e3).trans (show gtD (.int (xr g q)) (.int (xr g p))=some (.bl (decide (xr g p<xr g q)))from rfl)) y7,<-a2];cases d <;> rfl
   refine⟨some (.sh (L (pkc d (N.getD q ([],[]))))),?_⟩;refine seqI (ρ':=eB g s N T k (T.length-k) G (some (.sh (dN q))) (some (.sh (L (pkc d (N.getD q ([],[]))))))) ((n9 (on _ _ d _ (ix o8))).trans rfl) ?_;rw[n9 (zd2 G _ rfl (i9 (ds:=[L (pkc d (N.getD q ([],[]))),dN (T.length-k)]) (z8 rfl (z8 rfl y7)) (U d))),hw];rfl
end
end
section
open PySem L2
def bfs(b:List Int)(s:Int)(k:Nat)(st:St')(a q:Nat):Nat:=((List.range (q-a)).map λi=>wy b s k st (a+i)).sum
def ixP(a:List Int)(s:Int):St'->List Nat->Nat
 |_,[]=>0
 |st,q::r=>bfs a s r.length st (aft st) q+(match stN a s st q with |some st'=>ixP a s st' r|none=>0)
theorem ys1(b:List Int)(s:Int)(k:Nat)(st:St')(a q:Nat)(h:a<q):bfs b s k st a q=wy b s k st a+bfs b s k st (a+1) q:=by unfold bfs;rw[show q-a=(q-(a+1))+1 by lia,cq,bz,dB,bI];congr 2;refine br λi _=>?_;show wy b s k st (a+(i+1))=wy b s k st (a+1+i);congr 1;lia
theorem ys0(b:List Int)(s:Int)(k:Nat)(st:St')(a:Nat):bfs b s k st a a=0:=by unfold bfs;rw[Nat.sub_self];rfl
theorem xk5(b:List Int)(s:Int)(hs:1<=s)(k:Nat)(st:St'):∀(n a i:Nat)(T:List Nat),b.length-a=n->(cts b s k st a)[i]? =some T->∃q r i',T=q::r/\a<=q/\q<b.length/\(blk b s k st q)[i']? =some T/\i=bfs b s k st a q+i'
 |0,a,i,T,hn,h=>by rw[zw0 b s k st a aA]at h;cases h
 |n+1,a,i,T,hn,h=>by
  have ha:a<b.length:=aA;rw[S0 b s k st a ha]at h;have G:(blk b s k st a).length=wy b s k st a:=(G7 b s hs k).1 st a;by_cases c:i<(blk b s k st a).length
  .rw[bT c]at h;obtain⟨r,rfl⟩:=J4 b s k st a T (dR h);exact⟨a,r,i,rfl,aN _,ha,h,by rw[ys0,cF]⟩
  .rw[cr aA]at h;obtain⟨q,r,i',h1,h2,z,j,N⟩:=xk5 b s hs k st n (a+1) _ T aA h;exact⟨q,r,i',h1,aA,z,j,by rw[ys1 b s k st a q aA];lia⟩
theorem yb2(a:List Int)(s:Int)(hs:1<=s):∀(k:Nat)(st:St')(i:Nat)(T:List Nat),(cts a s k st (aft st))[i]? =some T->T.length=k+1->ixP a s st T=i
 |k,st,i,T,h,hT=>by
  obtain⟨q,r,i',rfl,ha,Y,O,hi⟩:=xk5 a s hs k st _ (aft st) i T rfl h;have hr:r.length=k:=by simpa using hT
  cases k with
  |zero=>
   have G:r=[]:=cQ.mp hr;subst G;have j:(if (stN a s st q).isSome then [[q]]else [])[i']? =some [q]:=O;cases z:stN a s st q with
   |none=>rw[z]at j;cases j
   |some st'=>
    rw[z]at j;have:i'=0:=by
     cases i' with
     |zero=>rfl
     |succ m=>cases j
    rw[hi,this];show bfs a s 0 st (aft st) q+(match stN a s st q with |some st'=>ixP a s st' []|none=>0)=_;rw[z];rfl
  |succ k=>
   have j:(match stN a s st q with |none=>[]|some st'=>(cts a s k st' (q+1)).map (q::·))[i']? =some (q::r):=O;cases z:stN a s st q with
   |none=>rw[z]at j;cases j
   |some st'=>
    rw[z]at j;simp only[getElem?_map]at j;have N:aft st'=q+1:=by obtain⟨d,_,e⟩:=M5 z;rw[e,zs8]
    have h2:(cts a s k st' (aft st'))[i']? =some r:=by
     rw[N];cases y:(cts a s k st' (q+1))[i']? with
     |none=>rw[y]at j;cases j
     |some u=>rw[y]at j;simp at j;rw[j]
    have U:=yb2 a s hs k st' i' r h2 hr;rw[hi];show bfs a s r.length st (aft st) q+(match stN a s st q with |some st'=>ixP a s st' r|none=>0)=_;rw[z,hr];simp only;rw[U]
theorem xa5(a:List Int)(s:Int)(hs:1<=s)(J i:Nat)(T:List Nat)(h:(ctsJ a s J)[i]? =some T):ixP a s none T=i:=by
 have hm:=(B6 a s hs J T).mp (dR h);cases J with
 |zero=>
  have:i=0:=by
   cases i with
   |zero=>rfl
   |succ m=>cases h
  have hT:T=[]:=cQ.mp hm.2;rw[this,hT];rfl
 |succ J=>exact yb2 a s hs J none i T h hm.2
section
variable (g:List Int)(s:Int)(hs:1<=s)(hr:g.length<=300)
include hs hr
theorem zw2(G:List PR)(hB:G.length=g.length)(Y:∀q,q<g.length->Rv g s q (G.getD q ([],[])))(T:List Nat)(N:T.length<=300)(k:Nat)(Z:k<T.length)(st:St')(hT:Tld g s (T.take k) st):∀(r a j:Nat)(o7 o8:Option S),aft st<=a->a+r<=g.length->
  ∃U O,forD (.nm 7) zm3 (((List.range r).map (a+·)).map dN) (eB g s G T k (T.length-k) j o7 o8)=some (.nx (eB g s G T k (T.length-k) (j+bfs g s (T.length-1-k) st a (a+r)) U O))
 |0,a,j,o7,o8,ha,har=>⟨o7,o8,by rw[cG,ys0,cG];rfl⟩
 |r+1,a,j,o7,o8,ha,har=>by obtain⟨q8,e1⟩:=yy3 g s hs hr G hB Y T N k Z st hT a ha aA j o8;obtain⟨U,O,e2⟩:=zw2 G hB Y T N k Z st hT r (a+1) (j+wy g s (T.length-1-k) st a) (some (.sh (dN a))) q8 aA aA;refine⟨U,O,?_⟩;rw[cq,bz,bI,bz,show ((a+·)∘Nat.succ:Nat->Nat)=(a+1+·)by funext z;simp only[Function.comp,Nat.succ_eq_add_one];lia,cG];unfold forD;rw[show tgD (.nm 7) (dN a) (eB g s G T k (T.length-k) j o7 o8)=some (eB g s G T k (T.length-k) j (some (.sh (dN a))) o8)from rfl];simp only[e1];rw[e2,ys1 g s _ st a (a+(r+1)) aA,<-dP,show a+1+r=a+(r+1)by lia]
theorem ya5(j:List PR)(hB:j.length=g.length)(hv:∀q,q<g.length->Rv g s q (j.getD q ([],[])))(T:List Nat)(G:T.length<=300)(k:Nat)(N:k<T.length)(st:St')(hT:Tld g s (T.take k) st)(hq:T.getD k 0<g.length)(ha:aft st<=T.getD k 0):
  m_Z4 [RI' g,.int s,.lst (j.map LP),L T,dN k]=some (.sh (dN (bfs g s (T.length-1-k) st (aft st) (T.getD k 0)))):=by
 obtain⟨p7,Z,e⟩:=zw2 g s hs hr j hB hv T G k N st hT (T.getD k 0-aft st) (aft st) 0 none none (aN _) aA;unfold m_Z4;refine Y5 ?_;unfold b_Z4;refine seqI (ρ':=[some (.sh (RI' g)),k0c s,some (.sh (.lst (j.map LP))),some (.sh (L T)),some (.sh (dN k)),some (.sh (dN (T.length-k))),none,none,none]) ((n9 (d:=dN (T.length-k)) ((w9 (f:=subD) (i6 (m:=bvar 3) (ds:=T.map dN) rfl) (b:=dN k) rfl).trans ?_)).trans rfl) ?_
 .show some (D.int (((T.map dN).length:Int)-(k:Int)))=some (D.int ((T.length-k:Nat):Int));rw[aW];congr 2;lia
 refine seqI (ρ':=eB g s j T k (T.length-k) 0 none none) ((n9 (d:=dN 0) rfl).trans rfl) ?_;refine seqI (ρ':=eB g s j T k (T.length-k) (bfs g s (T.length-1-k) st (aft st) (T.getD k 0)) p7 Z) ?_ rfl;have lo:m2 addD (mix (mcat (v5 (z7 (m1 negD (mc (.int 1))) anil)) (bvar 3)) (mvar 4)) (mc (.int 1)) (eB g s j T k (T.length-k) 0 none none)=some (.int ((aft st:Nat):Int)):=by
  have c:mcat (v5 (z7 (m1 negD (mc (.int 1))) anil)) (bvar 3) (eB g s j T k (T.length-k) 0 none none)=some ([D.int (-1)]++T.map dN):=X0 (v7 (z8 (d:=.int (-1)) rfl y7) (w8 (show 1<=1000000 by decide))) rfl (w8 (by simp;lia));have z:atI ([D.int (-1)]++T.map dN) (k:Int)=some (.int ((aft st:Int)-1)):=by
   cases st with
   |none=>
    have h0:T.take k=[]:=hT;have h1:(T.take k).length=0:=by rw[h0];rfl
    rw[cO]at h1;have:k=0:=aA;subst this;exact wy6 (D.int (-1)) (T.map dN)
   |some Y=>
    obtain⟨p,e⟩:=Y;obtain⟨U,O,hp⟩:=zr4 hT;have a1:k=U.length+1:=by have:=bi List.length O;rw[cO,bL,length_singleton]at this;lia
    have h1:(T.take k)[k-1]? =some p:=by rw[O,show k-1=U.length by lia];simp
    rw[getElem?_take_of_lt aA]at h1;unfold atI;rw[xb1 _ k (by simp;lia)];show ([D.int (-1)]++T.map dN)[k]? =some (.int (((p+1:Nat):Int)-1));rw[show k=(k-1)+1 by lia];show (T.map dN)[k-1]? =_;rw[bF,h1];show some (D.int (p:Int))=_;congr 2;lia
  refine(w9 (f:=addD) (n4 c rfl z) (b:=.int 1) rfl).trans ?_;show some (D.int ((aft st:Int)-1+1))=_;congr 2;lia
 have hi:mix (bvar 3) (mvar 4) (eB g s j T k (T.length-k) 0 none none)=some (.int ((T.getD k 0:Nat):Int)):=n4 (m:=bvar 3) (ds:=T.map dN) (k:=(k:Int)) rfl rfl (G9 T k N);unfold mfor;rw[xn2 lo hi aA aA,aP,e,cF,show aft st+(T.getD k 0-aft st)=T.getD k 0 by lia]
def eR(g:List Int)(s:Int)(Bs:List PR)(T:List Nat)(f:Nat)(o5:Option S):Ro:=[some (.sh (RI' g)),k0c s,some (.sh (.lst (Bs.map LP))),some (.sh (L T)),some (.sh (dN f)),o5]
theorem zi0(G:List PR)(hB:G.length=g.length)(hv:∀q,q<g.length->Rv g s q (G.getD q ([],[])))(T:List Nat)(U:T.length<=300)(hw:Wv (xr g) g.length s T):∀(r k f:Nat)(st:St')(o5:Option S),k+r=T.length->Tld g s (T.take k) st->
  ∃N,forD (.nm 5) A7 (((List.range r).map (k+·)).map dN) (eR g s G T f o5)=some (.nx (eR g s G T (f+ixP g s st (T.drop k)) N))
 |0,k,f,st,o5,hk,hT=>⟨o5,by rw[eh aA];rfl⟩
 |r+1,k,f,st,o5,hk,hT=>by
  have j:k<T.length:=aA;have hd:T.drop k=T.getD k 0::T.drop (k+1):=by rw[dE j,aL,aK j];rfl
  have hq:T.getD k 0<g.length:=zu6 hw _ (by rw[aL,aK j];exact getElem_mem _);have Y:Wv (xr g) g.length s (T.take k++T.getD k 0::T.drop (k+1)):=by rw[<-hd,take_append_drop];exact hw
  obtain⟨w1,ha,_⟩:=yx4 hs (k:=(T.drop (k+1)).length) rfl Y hT;obtain⟨d,O⟩:=ym4 w1;have Z:Tld g s (T.take (k+1)) (nxS st d (T.getD k 0)):=by have:=Q8 hs hq hT ha O;rw[show T.take (k+1)=T.take k++[T.getD k 0]by rw[take_succ,aK j,aL,aK j];rfl];exact this
  have eb:=ya5 g s hs hr G hB hv T U k j st hT hq ha;obtain⟨N,e2⟩:=zi0 G hB hv T U hw r (k+1) (f+bfs g s (T.length-1-k) st (aft st) (T.getD k 0)) (nxS st d (T.getD k 0)) (some (.sh (dN k))) aA Z;refine⟨N,?_⟩;rw[cq,bz,bI,bz,show ((k+·)∘Nat.succ:Nat->Nat)=(k+1+·)by funext z;simp only[Function.comp,Nat.succ_eq_add_one];lia,cG];have body:A7 (eR g s G T f (some (.sh (dN k))))=some (.nx (eR g s G T (f+bfs g s (T.length-1-k) st (aft st) (T.getD k 0)) (some (.sh (dN k))))):=by unfold A7;exact(n9 (zd2 f _ rfl (i9 (ds:=[RI' g,.int s,.lst (G.map LP),L T,dN k]) (z8 rfl (z8 rfl (z8 rfl (z8 rfl (z8 rfl y7))))) eb))).trans rfl
  unfold forD;rw[show tgD (.nm 5) (dN k) (eR g s G T f o5)=some (eR g s G T f (some (.sh (dN k))))from rfl];simp only[body];rw[e2,hd];show some (Out.nx (eR g s G T _ N))=some (Out.nx (eR g s G T (f+(bfs g s (T.drop (k+1)).length st (aft st) (T.getD k 0)+(match stN g s st (T.getD k 0)with |some st'=>ixP g s st' (T.drop (k+1))|none=>0))) N));rw[zr9 hs O,show (T.drop (k+1)).length=T.length-1-k by rw[length_drop];lia];simp only;rw[dP]
theorem xg8(j:List PR)(U:j.length=g.length)(O:∀q,q<g.length->Rv g s q (j.getD q ([],[])))(T:List Nat)(G:T.length<=300)(hw:Wv (xr g) g.length s T):xs6 [RI' g,.int s,.lst (j.map LP),L T]=some (.sh (dN (1+ixP g s none T))):=by
 obtain⟨N,e⟩:=zi0 g s hs hr j U O T G hw T.length 0 1 none none aA rfl;unfold xs6;refine Y5 ?_;unfold wy4;refine seqI (ρ':=eR g s j T 1 none) ((n9 (d:=.int 1) rfl).trans rfl) ?_;refine seqI (ρ':=eR g s j T (1+ixP g s none T) N) ?_ rfl;have z:m5 rng1 (z7 (mlen (bvar 3)) anil) (eR g s j T 1 none)=some (((List.range T.length).map (0+·)).map dN):=by unfold m5;rw[z8 (i6 (m:=bvar 3) (ds:=T.map dN) rfl) y7,aP,aW,G0 (S7 aA aA),bB,M7,bI,bI];refine bi some (br λi _=>?_);simp only[Function.comp,Nat.zero_add];rfl
 unfold mfor;rw[z,aP,e,drop_zero]
end
end
section
open PySem L2
theorem xm5:∀(ns:List Int),ns.Pairwise (·<·)->∀i,i<=ns.length->PyProof.Rows.firstMet (λi=>ns.getD i 0) i=ns.take i
 |ns,h,0,_=>by rw[PyProof.Rows.firstMet_zero];rfl
 |ns,h,i+1,hi=>by
  have z:i<ns.length:=aA;rw[PyProof.Rows.firstMet_succ,xm5 ns h i aA];have e:ns.getD i 0=ns[i]:=by rw[aL,aK z];rfl
  have hn:((ns.take i).any (·==ns.getD i 0))=false:=by rw[any_eq_false];intro y G;obtain⟨j,N,rfl⟩:=dD G;rw[cO]at N;have:=dL.mp h j i aA z aA;rw[getElem_take,e];simp;lia
  unfold PyProof.Rows.step_dedup;rw[hn];simp only[Bool.false_eq_true,if_false];rw[e,take_succ,aK z];rfl
theorem xi8{T:List Nat}(h:T.Pairwise (·<·))(hm:m a=some (T.map dN))(G:T.length<=1000):Q0 m a=some (T.map dN):=by
 have e:T.map dN=(NI T).map .int:=by unfold NI;rw[bI];rfl
 have z:(NI T).Pairwise (·<·):=List.pairwise_map.mpr (h.imp λj=>Int.ofNat_lt.mpr j);have d:ddI (NI T)=NI T:=by unfold ddI;rw[xm5 _ z _ (aN _),take_length]
 unfold Q0;rw[hm,e];simp only[V7];rw[aJ (by unfold NI;rw[aW];lia),d];have:zv8 (NI T)=NI T:=O9 (P4 _) (Q3 _) (z.imp λj=>Int.le_of_lt j);rw[this]
theorem Wd.riseL{x:Nat->Int}{n:Nat}{s:Int}:∀{l:List Nat}{d:Bool},Wd x n s d l->l.Pairwise (·<·)
 |[],_,h=>h.elim
 |[p],_,_=>dj ..
 |p::q::l,d,h=>by
  have h2:=h.2.2.riseL;refine bJ.mpr ⟨λy j=>?_,h2⟩;rcases ba.mp j with rfl|j
  .exact h.1
  .exact da h.1 ((bJ.mp h2).1 y j)
theorem Wv.riseL{x:Nat->Int}{n:Nat}{s:Int}(h:Wv x n s l):l.Pairwise (·<·):=by
 rcases h with rfl|⟨d,h⟩
 .exact .nil
 .exact h.riseL
theorem we2(f:List Int)(s:Int)(hs:1<=s)(T:List Nat)(hw:Wv (xr f) f.length s T):gd f s T=true:=by
 unfold gd;rw[all_eq_true];intro j G;have G:=bS.mp G;have at':∀i,i<T.length->T.getD i 0=(T.drop j).getD (i-j) 0\/i<j:=λi hi=>by
  by_cases c:i<j
  .exact .inr c
  .refine .inl ?_;rw[aL,aL,getElem?_drop,show j+(i-j)=i by lia]
 have key:∀(a b:Nat)(r:List Nat)(d:Bool),Wd (xr f) f.length s d (a::b::r)->¬ ((xr f b-xr f a).natAbs:Int)<s:=λa b r d h=>(N6 hs h.2.1).1;cases j with
 |zero=>
  match T,hw,G with
  |a::b::r,hw,_=>obtain⟨d,h⟩:=hw.resolve_left aD;show (!bad f s (a::b::r) 1)=true;unfold bad;have:=key a b r d h;show (!(decide (((xr f b-xr f a).natAbs:Int)<s) || (decide (1<1)&&_)))=true;rw[aQ this];rfl
 |succ j=>
  have z:=yn7 j hw;have N:T.drop j=T.getD j 0::T.getD (j+1) 0::T.getD (j+2) 0::T.drop (j+3):=by
   have g:∀i,i<T.length->T.drop i=T.getD i 0::T.drop (i+1):=λi hi=>by rw[dE hi,aL,aK hi];rfl
   rw[g j aA,g (j+1) aA,g (j+2) aA]
  rw[N]at z;obtain⟨d,h⟩:=z.resolve_left aD;unfold bad;rw[show 1+(j+1)=j+2 by lia,show j+2-1=j+1 by lia,show j+2-2=j by lia];have h1:=N6 hs h.2.1;have h2:=N6 hs h.2.2.2.1;rw[aQ h2.1,h2.2];have e:decide (xr f (T.getD j 0)<xr f (T.getD (j+1) 0))=d:=by rw[<-h1.2];exact de.mpr aA
  rw[e];cases d <;> simp
theorem xs8{s:Int}{J:Nat}(h:O8 a s (a.length:Int) J){m G:Nat}(h':O8 a s (m:Int) G):G=min m J:=by
 have U:anyB a s J=false:=by
  rcases h.2.2 with z|z
  .exact zk2 a s J aA
  .exact z
 have N:∀i,i<G->i<J:=λi hi=>by
  by_cases c:i<J
  .exact c
  .have hJ:J<G:=aA;have:=(h'.2.1 J hJ).1;rw[U]at this;cases this
 have O:G<=J:=by
  cases G with
  |zero=>lia
  |succ j=>have:=N j aA;lia
 rcases h'.2.2 with z|z
 .have:G<=m:=by
   cases G with
   |zero=>lia
   |succ j=>have:=(h'.2.1 j aA).2;lia
  lia
 .have:¬ G<J:=λc=>by have:=(h.2.1 G c).1;rw[z]at this;cases this
  have:G<=m:=by
   cases G with
   |zero=>lia
   |succ j=>have:=(h'.2.1 j aA).2;lia
  lia
section
variable (a:List Int)(s:Int)(hs:1<=s)(hr:a.length<=300)
include hs hr
theorem yz8:∃J,O8 a s (a.length:Int) J/\m_Z5 [RI' a,.int s]=some (.fr ((cl a s J).map dN)):=by obtain⟨J,hJ,_⟩:=E4 a s (a.length:Int) hr;refine⟨J,hJ,?_⟩;rw[zn0 a s hs hr,yz9 a s hs hJ];rfl
theorem xi9{J:Nat}(hJ:O8 a s (a.length:Int) J)(j N:Nat)(U:1<=N):
  m_Z7 [RI' a,.int s,dN j,dN N]=some (if J<j\/tot a s j<N then .sh .non else .fr (((ctsJ a s j).getD (N-1) []).map dN)):=by
 obtain⟨z,O,hL⟩:=E4 a s (j:Int) hr;have e:=xs8 hJ O;have G:z<=300:=by have:=hJ.1;lia
 obtain⟨F,Y⟩:=xv9 a s hs hr z G;rw[zq1 a s hs hL U Y];by_cases c:J<j
 .rw[aJ (.inl aA),aJ (.inl c)]
 .have e':z=j:=aA;subst e';by_cases Z:tot a s z<N
  .rw[aJ (.inr Z),aJ (.inr Z)]
  .rw[aI aA,aI aA];have:=(Y N U aA).1;rw[show F N=(ctsJ a s z).getD (N-1) []from this]
theorem yb9{J:Nat}(j:Nat)(h:j<=J):(cl a s J).getD j 0=tot a s j:=by
 unfold cl;cases j with
 |zero=>rfl
 |succ m=>show ((List.range J).map (cN a s)).getD m 0=tot a s (m+1);rw[aL,bF,db aA];rfl
end
end
section
open PySem L2
theorem yt6{b:Bool}(h:c a=some b):cnot c a=some (!b):=by unfold cnot;rw[h];rfl
theorem wn8(h:x a=some true):cor x y a=some true:=by unfold cor;rw[h]
theorem wf1(a b:Nat)(h1:x c=some (dN a))(h2:y c=some (dN b)):w5 (m2 neSD x y) c=some (!decide (a=b)):=by
 refine j8 ((w9 h1 h2).trans ?_);show (eqS (.int (a:Int)) (.int (b:Int))).map (λb=>D.bl (!b))=_;show some (D.bl (!((a:Int)==(b:Int))))=_;congr 3;by_cases h:a=b
 .subst h;simp
 .rw[aQ h];have:((a:Int)==(b:Int))=false:=by rw[dO];lia
  rw[this]
theorem zg0{src:List (Option Nat)}{its:List D}(h:z a=some its):d6 src z g c j a=X3 g c j its (G8 src a) []:=by unfold d6;rw[h];rfl
theorem xa0{neg:Bool}{T:List Nat}(h1:x a=some (T.map dN))(h2:y a=some (T.map dN)):meqB neg x y a=some (.bl neg.not):=by
 have e:T.map dN=(NI T).map .int:=by unfold NI;rw[bI];rfl
 rw[e]at h1 h2;unfold meqB eqFD;rw[h1,h2,aP,aP,xk3 6];cases neg <;> rfl
section
variable (e:List Int)(s:Int)(hs:1<=s)(hr:e.length<=300)
include hs hr
theorem xw5{J:Nat}(hJ:O8 e s (e.length:Int) J)(hc:m_Z5 [RI' e,.int s]=some (.fr ((cl e s J).map dN)))(O N:Nat)(hN:1<=N):
  m_Z8 [RI' e,.int s,dN O,dN N,if J<O\/tot e s O<N then .non else L ((ctsJ e s O).getD (N-1) [])]=some (.sh (.bl true)):=by
 generalize hX:(if J<O\/tot e s O<N then D.non else L ((ctsJ e s O).getD (N-1) []))=X;have ak:J<=300:=by have:=hJ.1;lia
 have aa:(cl e s J).length=J+1:=by unfold cl;simp
 unfold m_Z8;refine Y5 ?_;unfold b_Z8;refine seqI (ρ':=[some (.sh (RI' e)),k0c s,some (.sh (dN O)),some (.sh (dN N)),some (.sh X),some (.sh (L (cl e s J)))]) ((n9 (Y8 (z8 (d:=RI' e) rfl (z8 (d:=.int s) rfl y7)) hc)).trans rfl) ?_;have Z:w5 (m2 geD (mvar 2) (mlen (bvar 5))) [some (.sh (RI' e)),k0c s,some (.sh (dN O)),some (.sh (dN N)),some (.sh X),some (.sh (L (cl e s J)))]=some (decide (J<O)):=by rw[zt0 (i:=(O:Int)) (j:=((J+1:Nat):Int)) rfl (by rw[i6 (m:=bvar 5) (ds:=(cl e s J).map dN) rfl,aW,aa])];exact bi some (de.mpr aA)
 by_cases a4:J<O\/tot e s O<N
 .rw[aJ a4]at hX;have c:cor (w5 (m2 geD (mvar 2) (mlen (bvar 5)))) (w5 (m2 gtD (mvar 3) (mix (bvar 5) (mvar 2)))) [some (.sh (RI' e)),k0c s,some (.sh (dN O)),some (.sh (dN N)),some (.sh X),some (.sh (L (cl e s J)))]=some true:=by
   by_cases h:J<O
   .rw[aV h]at Z;exact wn8 Z
   .rw[aQ h]at Z;have t2:w5 (m2 gtD (mvar 3) (mix (bvar 5) (mvar 2))) [some (.sh (RI' e)),k0c s,some (.sh (dN O)),some (.sh (dN N)),some (.sh X),some (.sh (L (cl e s J)))]=some true:=by have ix:=n4 (m:=bvar 5) (i:=mvar 2) (ρ:=[some (.sh (RI' e)),k0c s,some (.sh (dN O)),some (.sh (dN N)),some (.sh X),some (.sh (L (cl e s J)))]) (ds:=(cl e s J).map dN) (k:=(O:Int)) rfl rfl (G9 (cl e s J) O aA);refine j8 ((w9 (f:=gtD) (a:=dN N) rfl ix).trans ?_);rw[yb9 e s hs hr O aA];show some (D.bl (decide ((tot e s O:Int)<(N:Int))))=_;rw[aV aA]
    exact O7 (a:=false) (b:=true) Z t2
  refine seqR ?_;rw[j4 c,aJ rfl];refine Q1 ((w9 (f:=isND false) (a:=X) (b:=.non) rfl rfl).trans ?_);rw[<-hX];rfl
 .rw[aI a4]at hX;obtain⟨T,a2⟩:∃T,T=(ctsJ e s O).getD (N-1) []:=⟨_,rfl⟩;rw[<-a2]at hX;subst hX;have a6:N-1<(ctsJ e s O).length:=by rw[yt4 e s hs];lia
  have a8:(ctsJ e s O)[N-1]? =some T:=by rw[a2,aL,aK a6];rfl
  obtain⟨hw,af⟩:=(B6 e s hs O T).mp (dR a8);have aj:O<=J:=aA;have ag:T.length<=300:=aA;have Y:=zu6 hw;generalize U:([some (.sh (RI' e)),k0c s,some (.sh (dN O)),some (.sh (dN N)),some (.sh (L T)),some (.sh (L (cl e s J)))]:Ro)=E at Z ⊢;have b0:bvar 0 E=some (e.map .int):=by rw[<-U];rfl
  have v0:mvar 0 E=some (RI' e):=by rw[<-U];rfl
  have v1:mvar 1 E=some (.int s):=by rw[<-U];rfl
  have v2:mvar 2 E=some (dN O):=by rw[<-U];rfl
  have v3:mvar 3 E=some (dN N):=by rw[<-U];rfl
  have v4:mvar 4 E=some (L T):=by rw[<-U];rfl
  have b4:bvar 4 E=some (T.map dN):=by rw[<-U];rfl
  have b5:bvar 5 E=some ((cl e s J).map dN):=by rw[<-U];rfl
  rw[aQ aA]at Z;have t2:w5 (m2 gtD (mvar 3) (mix (bvar 5) (mvar 2))) E=some false:=by have ix:=n4 (i:=mvar 2) (k:=(O:Int)) b5 v2 (G9 (cl e s J) O aA);refine j8 ((w9 (f:=gtD) v3 ix).trans ?_);rw[yb9 e s hs hr O aA];show some (D.bl (decide ((tot e s O:Int)<(N:Int))))=_;rw[aQ aA]
  refine seqI (ρ':=E) ((j4 (O7 Z t2)).trans rfl) ?_;have li:misi "list" (mvar 4) E=some (.bl true):=by unfold misi;rw[v4];show (kitB "list" "list").map D.bl=_;rw[wf4];rfl
  have nb:d6 [none] (k8 (mvar 4)) (.nm 0) (mtru (misi "bool" (mvar 0))) (mvar 0) E=some []:=by
   rw[zg0 (Y2 v4)];refine(b9 (f:=dN) (p:=λ_=>false) (G:=dN) (λ_ ρ=>∃o,ρ=[o]) (by
    rintro k ks ρ ⟨o,rfl⟩;refine⟨[some (.sh (dN k))],rfl,?_,λz=>(by cases z),_,rfl⟩;have b1:misi "bool" (mvar 0) [some (.sh (dN k))]=some (.bl false):=by unfold misi;show (kitB "int" "bool").map D.bl=_;rw[wf5];rfl
    unfold mtru;rw[b1];rfl) T _ [] ⟨none,rfl⟩ (w8 (by simp;lia))).trans ?_
   rw[yz2];rfl
  refine seqI (ρ':=E) ((j4 (O7 (a:=false) (b:=false) (yt6 (R9 li)) (j8 (yt0 nb true)))).trans rfl) ?_;have ln:mlen (bvar 4) E=some (dN T.length):=by rw[i6 b4,aW];rfl
  refine seqI (ρ':=E) ((j4 (O7 (a:=false) (b:=false) ((wf1 T.length O ln v2).trans (by rw[aV af];rfl)) (j8 (xa0 b4 (xi8 hw.riseL b4 aA))))).trans rfl) ?_;have ah:mtru (l0 zo9 (z7 (mvar 0) (z7 (mvar 1) (z7 (mvar 4) anil)))) E=some true:=by rw[R9 (i9 (z8 v0 (z8 v1 (z8 v4 y7))) (N4 e s T Y aA)),we2 e s hs T hw]
  have ac:cand (w5 (meqB true (bvar 4) (v5 anil))) (cor (w5 (m2 ltD (mix (bvar 4) (mc (.int 0))) (mc (.int 0)))) (w5 (m2 geD (mix (bvar 4) (m1 negD (mc (.int 1)))) (mlen (bvar 0))))) E=some false:=by
   have ne:=j8 (yt0 b4 true);rcases eq_nil_or_concat T with z|⟨P,q,z⟩
   .rw[z]at ne;exact wz0 ne
   .rw[concat_eq_append]at z;have ae:(T.map dN).isEmpty=false:=by rw[z];simp
    rw[ae]at ne;have h0:mix (bvar 4) (mc (.int 0)) E=some (dN (T.getD 0 0)):=n4 (k:=0) b4 rfl (by have:=G9 T 0 (by rw[z];simp);exact this)
    have hl:mix (bvar 4) (m1 negD (mc (.int 1))) E=some (dN q):=n4 (k:=-1) b4 rfl (by rw[z];exact atI_last dN P q);have hq:q<e.length:=Y q (by rw[z];simp);refine zn8 (a:=true) (b:=false) ne (O7 (a:=false) (b:=false) ?_ ?_)
    .rw[zu9 (i:=((T.getD 0 0:Nat):Int)) (j:=0) h0 rfl,aQ aA]
    .rw[zt0 (i:=(q:Int)) (j:=((e.map D.int).length:Int)) hl (i6 b0),aW,aQ aA]
  refine seqI (ρ':=E) ((j4 (O7 ac (yt6 ah))).trans rfl) ?_;have t9:w5 (m2 ltD (mlen (bvar 0)) (mc (.int 10))) E=some (decide (e.length<10)):=by rw[zu9 (i:=((e.map D.int).length:Int)) (j:=10) (i6 b0) rfl,aW];exact bi some (de.mpr aA)
  by_cases a9:e.length<10
  .rw[aV a9]at t9;refine seqR ?_;rw[j4 t9,aJ rfl];obtain⟨qs,ad,a5,ai,eq⟩:=yp5 e s hs aA;have a7:qs.filter (λl=>decide (l.length=O))=ctsJ e s O:=ym9 (ad.sublist filter_sublist) (xa4 e s O) λl=>by rw[mem_filter,a5,B6 e s hs O l];simp
   have a1:d6 [none,some 2] (k8 (l0 za2 (z7 (mvar 0) (z7 (mvar 1) anil)))) (.nm 0) (w5 (m2 eqSD (mlen (bvar 0)) (mvar 1))) (mvar 0) E=some ((ctsJ e s O).map L):=by
    rw[zg0 (Y2 (Y8 (z8 v0 (z8 v1 y7)) eq))];refine(b9 (f:=L) (p:=λl=>decide (l.length=O)) (G:=L) (λ_ ρ=>∃o,ρ=[o,some (.sh (dN O))]) (by rintro l ls ρ ⟨o,rfl⟩;refine⟨[some (.sh (L l)),some (.sh (dN O))],rfl,?_,λ_=>rfl,_,rfl⟩;exact xq3 l.length O (by rw[i6 (m:=bvar 0) (ds:=l.map dN) rfl,aW];rfl) rfl) qs _ [] ⟨none,by rw[<-U];rfl⟩ (w8 (by simp;lia))).trans ?_
    rw[a7];rfl
   have a3:m2 subD (mvar 3) (mc (.int 1)) E=some (.int ((N-1:Nat):Int)):=by refine(w9 (f:=subD) (b:=.int 1) v3 rfl).trans ?_;show some (D.int ((N:Int)-1))=_;congr 2;lia
   have ab:mix (d6 [none,some 2] (k8 (l0 za2 (z7 (mvar 0) (z7 (mvar 1) anil)))) (.nm 0) (w5 (m2 eqSD (mlen (bvar 0)) (mvar 1))) (mvar 0)) (m2 subD (mvar 3) (mc (.int 1))) E=some (L T):=by refine n4 a1 a3 ?_;rw[M0 L (ctsJ e s O) ((N-1:Nat):Int) aA aA [],bB,<-a2]
   exact Q1 (xa0 (neg:=false) b4 (Y2 ab))
  .rw[aQ a9]at t9;refine seqI (ρ':=E) ((j4 t9).trans rfl) ?_;obtain⟨Bs,hB,hv,eo⟩:=yd0 e s hs hr;have rk:=xg8 e s hs hr Bs hB hv T ag hw;rw[xa5 e s hs O (N-1) T a8,show 1+(N-1)=N by lia]at rk;refine Q1 ((w9 (f:=eqSD) (i9 (z8 v0 (z8 v1 (z8 (i9 (z8 v0 (z8 v1 y7)) eo) (z8 v4 y7)))) rk) v3).trans ?_);show some (D.bl ((N:Int)==(N:Int)))=_;simp
end
end
section
open PySem L2
theorem xg7(c:Int):∃a b:Int,xs5 [.int c]=some (.fr (RL a b)):=by have i2:0+1+1<=sizeLine:=w8 aC;have m1:∀i,L7 i 742938285=true:=λi=>zb4 _ _ aC aC;have q:∀i,zh9 i 2147483647=true:=λi=>T7 _ _ aC;refine⟨(if c<0 then -c else c),(c % 2147483647+1)*742938285 % 2147483647,?_⟩;unfold xs5 wy2;refine zz3 ?_;unfold RL;simp_arith [m1,q,i2,if_true]
theorem yf9(h:m a=some ds)(h2:f ds=some (.fr es)):V4 f m a=some es:=by unfold V4;rw[h];show (match f ds with |some (.fr es)=>some es|_=>none)=_;rw[h2]
theorem C0{tl:List (Option S)}{a b m:Int}(N:x (G::z::j::some (.own (RL a b))::tl)=some (.int m))(h:0<m)(h2:m<1073741824):u6 i7 3 (apu (z7 x anil)) (G::z::j::some (.own (RL a b))::tl)=some (.int (tkX a b m),G::z::j::some (.own (RL (tkA a m) (tkB a b)))::tl):=
 P3 (ρ:=G::z::j::some (.own (RL a b))::tl) rfl (Q6 (z8 N y7)) rfl (λp=>yk4 p a b m h h2) rfl
theorem yf2{b:Bool}(h:x a=some (.bl b,ρ1)):zy4 x a=some (b,ρ1):=by unfold zy4;rw[h]
theorem zt8(h:c a=some (false,ρ1)):mifm c x f7 a=some (.nx ρ1):=by unfold mifm;rw[h];rfl
theorem yf6(h:c a=some (true,ρ1))(h2:x ρ1=o):mifm c x f7 a=o:=by unfold mifm;rw[h];exact h2
theorem yb6{b:Bool}(h:c a=some b):cnot c a=some (!b):=by unfold cnot;rw[h];rfl
theorem K0(h:c a=some false):mif c x y a=y a:=by unfold mif;rw[h]
theorem xt7(h:c a=some true):mif c x y a=x a:=by unfold mif;rw[h]
end
end
theorem ww9(a:List Int)(s:Int)(hs:1<=s)(J:Nat):tot a s J<=2^a.length:=by
 cases J with
 |zero=>exact Nat.one_le_two_pow
 |succ m=>have hok:=λk l G hw j=>xx3 a s hs k l G hw j;have hm:=ys6 (x:=xr a) (n:=a.length) (s:=s) (t:=t3 a s) hok a.length (aN _);have hn:=zk4 (x:=xr a) (n:=a.length) (s:=s) (t:=t3 a s) hok a.length (aN _);have:=xp8 hs hn (λl=>(hm l).trans ⟨λz=>z.1,λz=>⟨z,zu6 z⟩⟩) m;show cN a s m<=_;rw[<-this];exact bE (length_filter_le ..) (yr1 _ _)
theorem wo1(a:List Int)(s:Int)(hs:1<=s)(hr:a.length<=300){J t:Nat}(h:t<=max 1 (tot a s J)):FB (t:Int):=by unfold FB;have h1:=ww9 a s hs J;have h2:(2:Nat)^a.length<=2^300:=Nat.pow_le_pow_right aC hr;have z:(2:Nat)^300<2^400:=Nat.pow_lt_pow_right aC aC;have j:(1:Nat)<=2^a.length:=Nat.one_le_two_pow;rw[Int.natAbs_natCast];generalize (2:Nat)^300=A at*;generalize (2:Nat)^400=B at*;generalize (2:Nat)^a.length=C at*;lia
theorem xx2{m:ML}{x:ME}{g:Ro}{a:List Nat}{k:Nat}(h1:m g=some (a.map dN))(h2:x g=some (dN k))(ha:a.length<=1000):mix (mcat (mcut m (j3 x) (j3 (m2 addD x (mc (.int 1))))) (v5 (z7 (mc (.int 0)) anil))) (mc (.int 0)) g=some (dN (a.getD k 0)):=by
 have c:mcut m (j3 x) (j3 (m2 addD x (mc (.int 1)))) g=some ((cutI a (some (k:Int)) (some ((k+1:Nat):Int))).map dN):=by
  refine xt9 h1 ?_ ?_
  .unfold j3;rw[h2];rfl
  .unfold j3;rw[w9 (f:=addD) (b:=.int 1) h2 rfl];rfl
 rw[zn3]at c;refine n4 (k:=0) (X0 c (v7 (z8 (d:=.int 0) rfl y7) (w8 (show 1<=1000000 by decide))) (w8 ?_)) rfl ?_
 .simp;lia
 .by_cases h:k<a.length
  .have e:(a.take (k+1)).drop k=[a.getD k 0]:=by rw[take_succ,aK h,drop_append_of_le_length (by simp;lia),eh (by simp;lia),aL,aK h];rfl
   rw[e];rfl
  .have e:(a.take (k+1)).drop k=[]:=eh (by simp;lia);rw[e,j9 aA];rfl
theorem xs0{i:Nat}(h:a[i]? =some (some (.sh d))):D9 i m a=m a:=by unfold D9;rw[h]
theorem xs3{i:Nat}(h:a[i]? =some (some (.sh d))):zo8 i m a=m a:=by unfold zo8;rw[h]
theorem ye0{i:Nat}(h:a[i]? =some (some (.own ds))):zo8 i m a=m (a.set i (some (.sh (.lst ds)))):=by unfold zo8;rw[h]
theorem xx7{i:Nat}{P:Prop}[Decidable P](h:m a=some ds)(h2:f ds=some (if P then .sh .non else .fr j)):zh7 i f m a=some (.nx (a.set i (some (if P then .sh .non else .own j)))):=by
 unfold zh7;rw[h];simp only;rw[h2];by_cases p:P
 .rw[aJ p,aJ p]
 .rw[aI p,aI p]
theorem wv0(c:Ro):m2 powD (mc (.int 10)) (mc (.int 29)) c=some (.int (10^29)):=by rw[w9 (f:=powD) (a:=.int 10) (b:=.int 29) rfl rfl];show (if zi5 10 29=true then some (D.int ((10:Int)^(29:Int).toNat))else none)=_;rw[aJ aC];rfl
def eT(scr:D)(k c a b:Int)(w:D)(d:List Int)(s:Int)(J:Nat)(o9 o10 o11 o12 o13 o14 o15:Option S):Ro:=[some (.sh scr),k0c k,k0c c,some (.own (RL a b)),some (.sh w),some (.sh (RI' d)),k0c s,some (.sh (L (cl d s J))),some (.sh (dN J)),o9,o10,o11,o12,o13,o14,o15]
theorem wf0{x:Int}(h:0<=x):∃n:Nat,D.int x=dN n:=⟨x.toNat,by unfold dN;congr 1;lia⟩
theorem wf2{x:Int}(h:1<=x):∃n:Nat,1<=n/\D.int x=dN n:=⟨x.toNat,aA,by unfold dN;congr 1;lia⟩
section
variable (scr:D)(k c:Int)(w:D)(e:List Int)(s:Int)(hs:1<=s)(hr:e.length<=300)(J:Nat)(hJ:O8 e s (e.length:Int) J)(hc:m_Z5 [RI' e,.int s]=some (.fr ((cl e s J).map dN)))
include hs hr hJ hc
theorem xi1(a b:Int)(o9 o10 o11 o12 o13 o14 o15:Option S):∃a' b' aj ai ah ag af ae,B9 (eT scr k c a b w e s J o9 o10 o11 o12 o13 o14 o15)=some (.nx (eT scr k c a' b' w e s J o9 aj ai ah ag af ae)):=by
 have ap:J<=300:=by have:=hJ.1;lia
 have am:(cl e s J).length=J+1:=by unfold cl;simp
 obtain⟨j,Y,G,ad⟩:∃(j:Nat)(Y G:Int),m2m ixLD (D8 (t4 (mpu (mc (.int 0))) (t4 (mpu (mc (.int 1))) (t4 (mpu (mc (.int 2))) (t4 (mpu (mvar 8)) (t4 (mpu (m2 addD (mvar 8) (mc (.int 1)))) (t4 (u6 i7 3 (apu (z7 (m2 addD (mvar 8) (mc (.int 1))) anil))) (apu (z7 (m2 powD (mc (.int 10)) (mc (.int 29))) anil))))))))) (u6 i7 3 (apu (z7 (mc (.int 7)) anil))) (eT scr k c a b w e s J o9 o10 o11 o12 o13 o14 o15)=some (dN j,eT scr k c Y G w e s J o9 o10 o11 o12 o13 o14 o15):=by
  have a6:m2 addD (mvar 8) (mc (.int 1)) (eT scr k c a b w e s J o9 o10 o11 o12 o13 o14 o15)=some (.int ((J:Int)+1)):=(w9 (f:=addD) (a:=dN J) (b:=.int 1) rfl rfl).trans rfl;have t1:u6 i7 3 (apu (z7 (m2 addD (mvar 8) (mc (.int 1))) anil)) (eT scr k c a b w e s J o9 o10 o11 o12 o13 o14 o15)=some (.int (tkX a b ((J:Int)+1)),eT scr k c (tkA a ((J:Int)+1)) (tkB a b) w e s J o9 o10 o11 o12 o13 o14 o15):=C0 (m:=(J:Int)+1) a6 aA aA;have lo1:=R4 a b ((J:Int)+1) aA;generalize tkX a b ((J:Int)+1)=x1 at t1 lo1;generalize tkA a ((J:Int)+1)=a2 at t1;generalize tkB a b=Z at t1;have t2:u6 i7 3 (apu (z7 (mc (.int 7)) anil)) (eT scr k c a2 Z w e s J o9 o10 o11 o12 o13 o14 o15)=some (.int (tkX a2 Z 7),eT scr k c (tkA a2 7) (tkB a2 Z) w e s J o9 o10 o11 o12 o13 o14 o15):=C0 (m:=7) (x:=mc (.int 7)) rfl aC aC;have a7:=R4 a2 Z 7 aC;have a8:=D3 a2 Z 7 aC;have lst:D8 (t4 (mpu (mc (.int 0))) (t4 (mpu (mc (.int 1))) (t4 (mpu (mc (.int 2))) (t4 (mpu (mvar 8)) (t4 (mpu (m2 addD (mvar 8) (mc (.int 1)))) (t4 (u6 i7 3 (apu (z7 (m2 addD (mvar 8) (mc (.int 1))) anil))) (apu (z7 (m2 powD (mc (.int 10)) (mc (.int 29))) anil)))))))) (eT scr k c a b w e s J o9 o10 o11 o12 o13 o14 o15)=some (.lst (([0,1,2,(J:Int),(J:Int)+1,x1,10^29]:List Int).map .int),eT scr k c a2 Z w e s J o9 o10 o11 o12 o13 o14 o15):=
   C6 (n5 (d5 (d:=.int 0) rfl) (n5 (d5 (d:=.int 1) rfl) (n5 (d5 (d:=.int 2) rfl) (n5 (d5 (d:=dN J) rfl) (n5 (d5 a6) (n5 t1 (Q6 (z8 (wv0 _) y7)))))))) (w8 (show 7<=1000000 by decide))
  obtain⟨x,ex,hx⟩:=zs7 (ds:=[0,1,2,(J:Int),(J:Int)+1,x1,10^29]) (P:=λx=>0<=x) (λx hx=>by simp only[mem_cons,not_mem_nil,or_false]at hx;rcases hx with h|h|h|h|h|h|h <;> rw[h] <;> first|lia|decide) (tkX a2 Z 7) a7 a8
  obtain⟨n,hn⟩:=wf0 hx;rw[hn]at ex;exact⟨n,_,_,X1 lst t2 ex⟩
 have th:mix (mcat (mcut (bvar 7) (j3 (mvar 10)) (j3 (m2 addD (mvar 10) (mc (.int 1))))) (v5 (z7 (mc (.int 0)) anil))) (mc (.int 0)) (eT scr k c Y G w e s J o9 (some (.sh (dN j))) o11 o12 o13 o14 o15)=some (dN ((cl e s J).getD j 0)):=xx2 (a:=cl e s J) rfl rfl aA;obtain⟨t,ht⟩:∃t,t=(cl e s J).getD j 0:=⟨_,rfl⟩;rw[<-ht]at th;have an:t<=max 1 (tot e s j):=by
  by_cases z:j<=J
  .rw[ht,yb9 e s hs hr j z];lia
  .rw[ht,j9 aA];lia
 have fb:FB ((max 1 t:Nat):Int):=wo1 e s hs hr (J:=j) aA;obtain⟨N,U,O,hN,ac⟩:∃(N:Nat)(U O:Int),1<=N/\m2m ixLD (D8 (t4 (mpu (mc (.int 1))) (t4 (mpu (m6 V5 (z7 (mc (.int 1)) (z7 (mvar 11) anil)))) (t4 (mpu (m2 addD (mvar 11) (mc (.int 1)))) (t4 (m2m addD (mpu (mc (.int 1))) (u6 i7 3 (apu (z7 (m6 V5 (z7 (mc (.int 1)) (z7 (mvar 11) anil))) anil)))) (apu (z7 (m2 powD (mc (.int 10)) (mc (.int 29))) anil))))))) (u6 i7 3 (apu (z7 (mc (.int 5)) anil))) (eT scr k c Y G w e s J o9 (some (.sh (dN j))) (some (.sh (dN t))) o12 o13 o14 o15)=some (dN N,eT scr k c U O w e s J o9 (some (.sh (dN j))) (some (.sh (dN t))) o12 o13 o14 o15):=by
  have mx:m6 V5 (z7 (mc (.int 1)) (z7 (mvar 11) anil)) (eT scr k c Y G w e s J o9 (some (.sh (dN j))) (some (.sh (dN t))) o12 o13 o14 o15)=some (.int ((max 1 t:Nat):Int)):=by unfold m6;rw[z8 (d:=.int 1) rfl (z8 (d:=dN t) rfl y7)];show some (D.int (if (t:Int)>1 then (t:Int)else 1))=_;congr 2;split <;> lia
  have t1:u6 i7 3 (apu (z7 (m6 V5 (z7 (mc (.int 1)) (z7 (mvar 11) anil))) anil)) (eT scr k c Y G w e s J o9 (some (.sh (dN j))) (some (.sh (dN t))) o12 o13 o14 o15)=some (.int (tkX Y G ((max 1 t:Nat):Int)),eT scr k c (tkA Y ((max 1 t:Nat):Int)) (tkB Y G) w e s J o9 (some (.sh (dN j))) (some (.sh (dN t))) o12 o13 o14 o15):=
   P3 (r0:=RL Y G) (r2:=RL Y G) rfl (Q6 (z8 mx y7)) rfl (λp=>yw1 p Y G _ aA fb) rfl
  have lo1:=R4 Y G ((max 1 t:Nat):Int) aA;generalize tkX Y G ((max 1 t:Nat):Int)=x1 at t1 lo1;generalize tkA Y ((max 1 t:Nat):Int)=a2 at t1;generalize tkB Y G=Z at t1;have t2:u6 i7 3 (apu (z7 (mc (.int 5)) anil)) (eT scr k c a2 Z w e s J o9 (some (.sh (dN j))) (some (.sh (dN t))) o12 o13 o14 o15)=some (.int (tkX a2 Z 5),eT scr k c (tkA a2 5) (tkB a2 Z) w e s J o9 (some (.sh (dN j))) (some (.sh (dN t))) o12 o13 o14 o15):=C0 (m:=5) (x:=mc (.int 5)) rfl aC aC;have a7:=R4 a2 Z 5 aC;have a8:=D3 a2 Z 5 aC;have lst:D8 (t4 (mpu (mc (.int 1))) (t4 (mpu (m6 V5 (z7 (mc (.int 1)) (z7 (mvar 11) anil)))) (t4 (mpu (m2 addD (mvar 11) (mc (.int 1)))) (t4 (m2m addD (mpu (mc (.int 1))) (u6 i7 3 (apu (z7 (m6 V5 (z7 (mc (.int 1)) (z7 (mvar 11) anil))) anil)))) (apu (z7 (m2 powD (mc (.int 10)) (mc (.int 29))) anil)))))) (eT scr k c Y G w e s J o9 (some (.sh (dN j))) (some (.sh (dN t))) o12 o13 o14 o15)=some (.lst (([1,((max 1 t:Nat):Int),(t:Int)+1,1+x1,10^29]:List Int).map .int),eT scr k c a2 Z w e s J o9 (some (.sh (dN j))) (some (.sh (dN t))) o12 o13 o14 o15):=
   C6 (n5 (d5 (d:=.int 1) rfl) (n5 (d5 mx) (n5 (d5 ((w9 (f:=addD) (a:=dN t) (b:=.int 1) rfl rfl).trans rfl)) (n5 (X1 (d5 (d:=.int 1) rfl) t1 (g:=.int (1+x1)) rfl) (Q6 (z8 (wv0 _) y7)))))) (w8 (show 5<=1000000 by decide))
  obtain⟨x,ex,hx⟩:=zs7 (ds:=[1,((max 1 t:Nat):Int),(t:Int)+1,1+x1,10^29]) (P:=λx=>1<=x) (λx hx=>by simp only[mem_cons,not_mem_nil,or_false]at hx;rcases hx with h|h|h|h|h <;> rw[h] <;> first|lia|decide) (tkX a2 Z 5) a7 a8
  obtain⟨n,ak,hn⟩:=wf2 hx;rw[hn]at ex;exact⟨n,_,_,ak,X1 lst t2 ex⟩
 have so:=xi9 e s hs hr hJ j N hN;have rt:=xw5 e s hs hr hJ hc j N hN;obtain⟨T,hT⟩:∃T,T=(ctsJ e s j).getD (N-1) []:=⟨_,rfl⟩;rw[<-hT]at so rt;have ab:mset 13 (mlst (bvar 5)) (eT scr k c U O w e s J o9 (some (.sh (dN j))) (some (.sh (dN t))) (some (.sh (dN N))) o13 o14 o15)=some (.nx (eT scr k c U O w e s J o9 (some (.sh (dN j))) (some (.sh (dN t))) (some (.sh (dN N))) (some (.sh (RI' e))) o14 o15)):=(n9 (h8 (m:=bvar 5) (ds:=e.map .int) rfl)).trans rfl;have args:∀o14 o15,z7 (mvar 13) (z7 (mvar 6) (z7 (mvar 10) (z7 (mvar 12) anil))) (eT scr k c U O w e s J o9 (some (.sh (dN j))) (some (.sh (dN t))) (some (.sh (dN N))) (some (.sh (RI' e))) o14 o15)=some [RI' e,.int s,dN j,dN N]:=λ_ _=>z8 rfl (z8 rfl (z8 rfl (z8 rfl y7)));have same:∀o14 o15,w5 (meqB true (bvar 13) (bvar 5)) (eT scr k c U O w e s J o9 (some (.sh (dN j))) (some (.sh (dN t))) (some (.sh (dN N))) (some (.sh (RI' e))) o14 o15)=some false:=λo14 o15=>by refine j8 ?_;unfold meqB;rw[show bvar 13 (eT scr k c U O w e s J o9 (some (.sh (dN j))) (some (.sh (dN t))) (some (.sh (dN N))) (some (.sh (RI' e))) o14 o15)=some (e.map .int)from rfl,show bvar 5 (eT scr k c U O w e s J o9 (some (.sh (dN j))) (some (.sh (dN t))) (some (.sh (dN N))) (some (.sh (RI' e))) o14 o15)=some (e.map .int)from rfl,aP,aP];exact wo3 e
 have a3:∀(X:D) o15,z7 (mvar 5) (z7 (mvar 6) (z7 (mvar 10) (z7 (mvar 12) (z7 (mvar 14) anil)))) (eT scr k c U O w e s J o9 (some (.sh (dN j))) (some (.sh (dN t))) (some (.sh (dN N))) (some (.sh (RI' e))) (some (.sh X)) o15)=some [RI' e,.int s,dN j,dN N,X]:=λ_ _=>z8 rfl (z8 rfl (z8 rfl (z8 rfl (z8 rfl y7))));have a5:=xx7 (i:=14) (args o14 o15) so;by_cases a9:J<j\/tot e s j<N
 .rw[aJ a9]at rt a5;refine⟨U,O,some (.sh (dN j)),some (.sh (dN t)),some (.sh (dN N)),some (.sh (RI' e)),some (.sh .non),o15,?_⟩;unfold B9;refine seqI (ρ':=eT scr k c Y G w e s J o9 (some (.sh (dN j))) o11 o12 o13 o14 o15) ((f9 ad).trans rfl) ?_;refine seqI (ρ':=eT scr k c Y G w e s J o9 (some (.sh (dN j))) (some (.sh (dN t))) o12 o13 o14 o15) ((n9 th).trans rfl) ?_;refine seqI (ρ':=eT scr k c U O w e s J o9 (some (.sh (dN j))) (some (.sh (dN t))) (some (.sh (dN N))) o13 o14 o15) ((f9 ac).trans rfl) ?_;refine seqI ab (seqI (ρ':=eT scr k c U O w e s J o9 (some (.sh (dN j))) (some (.sh (dN t))) (some (.sh (dN N))) (some (.sh (RI' e))) (some (.sh .non)) o15) (a5.trans rfl) ?_);have G:D9 14 (l0 m_Z8 (z7 (mvar 5) (z7 (mvar 6) (z7 (mvar 10) (z7 (mvar 12) (z7 (mvar 14) anil)))))) (eT scr k c U O w e s J o9 (some (.sh (dN j))) (some (.sh (dN t))) (some (.sh (dN N))) (some (.sh (RI' e))) (some (.sh .non)) o15)=some (.bl true):=(xs0 rfl).trans (i9 (a3 .non o15) rt);refine seqI ((K0 (O7 (a:=false) (b:=false) (yb6 (R9 G)) (same _ _))).trans rfl) ?_;have Z:zo8 14 (w5 (m2 (isND true) (mvar 14) (mc .non))) (eT scr k c U O w e s J o9 (some (.sh (dN j))) (some (.sh (dN t))) (some (.sh (dN N))) (some (.sh (RI' e))) (some (.sh .non)) o15)=some false:=(xs3 rfl).trans (j8 ((w9 (f:=isND true) (a:=.non) (b:=.non) rfl rfl).trans rfl));exact(K0 Z).trans rfl
 .rw[aI a9]at rt a5 so;have aa:N-1<(ctsJ e s j).length:=by rw[yt4 e s hs];lia
  have al:(ctsJ e s j)[N-1]? =some T:=by rw[hT,aL,aK aa];rfl
  have ao:=((B6 e s hs j T).mp (dR al)).2;have hz:(T.map dN).length<sizeLine:=by have:=j5;rw[aW];lia
  refine⟨U,O,some (.sh (dN j)),some (.sh (dN t)),some (.sh (dN N)),some (.sh (RI' e)),some (.own (T.map dN++[.int 0])),some (.sh (L T)),?_⟩;unfold B9;refine seqI (ρ':=eT scr k c Y G w e s J o9 (some (.sh (dN j))) o11 o12 o13 o14 o15) ((f9 ad).trans rfl) ?_;refine seqI (ρ':=eT scr k c Y G w e s J o9 (some (.sh (dN j))) (some (.sh (dN t))) o12 o13 o14 o15) ((n9 th).trans rfl) ?_;refine seqI (ρ':=eT scr k c U O w e s J o9 (some (.sh (dN j))) (some (.sh (dN t))) (some (.sh (dN N))) o13 o14 o15) ((f9 ac).trans rfl) ?_;refine seqI ab (seqI (ρ':=eT scr k c U O w e s J o9 (some (.sh (dN j))) (some (.sh (dN t))) (some (.sh (dN N))) (some (.sh (RI' e))) (some (.own (T.map dN))) o15) (a5.trans rfl) ?_);have G:D9 14 (l0 m_Z8 (z7 (mvar 5) (z7 (mvar 6) (z7 (mvar 10) (z7 (mvar 12) (z7 (mvar 14) anil)))))) (eT scr k c U O w e s J o9 (some (.sh (dN j))) (some (.sh (dN t))) (some (.sh (dN N))) (some (.sh (RI' e))) (some (.own (T.map dN))) o15)=some (.bl true):=zg1 (ds:=T.map dN) rfl (i9 (a3 (L T) o15) rt) rfl;refine seqI ((K0 (O7 (a:=false) (b:=false) (yb6 (R9 G)) (same _ _))).trans rfl) ?_;have Z:zo8 14 (w5 (m2 (isND true) (mvar 14) (mc .non))) (eT scr k c U O w e s J o9 (some (.sh (dN j))) (some (.sh (dN t))) (some (.sh (dN N))) (some (.sh (RI' e))) (some (.own (T.map dN))) o15)=some true:=(ye0 (ds:=T.map dN) rfl).trans (j8 ((w9 (f:=isND true) (a:=L T) (b:=.non) rfl rfl).trans rfl));refine(xt7 Z).trans ?_;refine seqI (ρ':=eT scr k c U O w e s J o9 (some (.sh (dN j))) (some (.sh (dN t))) (some (.sh (dN N))) (some (.sh (RI' e))) (some (.own (T.map dN))) (some (.sh (L T)))) ((n9 (h8 (m:=bvar 14) (ds:=T.map dN) rfl)).trans rfl) ?_;refine seqI (ρ':=eT scr k c U O w e s J o9 (some (.sh (dN j))) (some (.sh (dN t))) (some (.sh (dN N))) (some (.sh (RI' e))) (some (.own (T.map dN++[.int 0]))) (some (.sh (L T)))) ((ye1 (ds:=T.map dN) (d:=.int 0) rfl rfl hz).trans rfl) ?_;have again:k8 (l0 m_Z7 (z7 (mvar 13) (z7 (mvar 6) (z7 (mvar 10) (z7 (mvar 12) anil))))) (eT scr k c U O w e s J o9 (some (.sh (dN j))) (some (.sh (dN t))) (some (.sh (dN N))) (some (.sh (RI' e))) (some (.own (T.map dN++[.int 0]))) (some (.sh (L T))))=some (T.map dN):=Y2 (Y8 (args _ _) so);exact(K0 (j8 (xa0 (neg:=true) (T:=T) again rfl))).trans rfl
end
def eV(scr:D)(k c a b:Int)(o4 o5 o6 o7 o8 o9 o10 o11 o12 o13 o14 o15:Option S):Ro:=[some (.sh scr),k0c k,k0c c,some (.own (RL a b)),o4,o5,o6,o7,o8,o9,o10,o11,o12,o13,o14,o15]
section
variable (scr:D)(k c:Int)(o5 o6 o7 o8 o9 o10 o11 o12 o13 o14 o15:Option S)
theorem xo8(m:Int)(h:0<m)(h2:m<1073741824)(a b:Int)(j:Option S):∃x z b',0<=x/\x<m/\u6 i7 3 (apu (z7 (mc (.int m)) anil)) (eV scr k c a b j o5 o6 o7 o8 o9 o10 o11 o12 o13 o14 o15)=some (.int x,eV scr k c z b' j o5 o6 o7 o8 o9 o10 o11 o12 o13 o14 o15):=
 ⟨_,_,_,R4 a b m h,D3 a b m h,C0 (m:=m) (x:=mc (.int m)) rfl h h2⟩
theorem xn7(ds:List Int)(G:ML)(hd:∀d,v5 G d=some (ds.map .int))(N:∀x∈ds,∃n:Nat,n<=300/\x=(n:Int))(m:Int)(hm:m=ds.length)(h:0<m)(h2:m<1073741824)(a b:Int)(z:Option S):∃(w:Nat)(j b':Int),w<=300/\W3 4 (m2m ixLD (mpu (mlst (v5 G))) (u6 i7 3 (apu (z7 (mc (.int m)) anil)))) (eV scr k c a b z o5 o6 o7 o8 o9 o10 o11 o12 o13 o14 o15)=some (.nx (eV scr k c j b' (some (.sh (dN w))) o5 o6 o7 o8 o9 o10 o11 o12 o13 o14 o15)):=by obtain⟨x,j,b',O,h1,e⟩:=xo8 scr k c o5 o6 o7 o8 o9 o10 o11 o12 o13 o14 o15 m h h2 a b z;obtain⟨y,U,n,hn,rfl⟩:=zs7 (ds:=ds) N x O (by rw[<-hm];exact h1);exact⟨n,j,b',hn,(f9 (X1 (d5 (h8 (hd _))) e (g:=.int (n:Int)) U)).trans rfl⟩
theorem xj6(a b:Int)(j:Nat)(G:j<=300):∃(w:Nat)(Y b':Int),w<=300/\mifm (yy1 (cpu (w5 (m2 eqSD (mvar 1) (mc (.int 0))))) (zy4 (m2m eqSD (u6 i7 3 (apu (z7 (mc (.int 16)) anil))) (mpu (mc (.int 0)))))) (W3 4 (m2m ixLD (mpu (mlst (v5 (z7 (mc (.int 150)) (z7 (mc (.int 150)) (z7 (mc (.int 150)) (z7 (mc (.int 300)) anil))))))) (u6 i7 3 (apu (z7 (mc (.int 4)) anil))))) f7 (eV scr k c a b (some (.sh (dN j))) o5 o6 o7 o8 o9 o10 o11 o12 o13 o14 o15)=some (.nx (eV scr k c Y b' (some (.sh (dN w))) o5 o6 o7 o8 o9 o10 o11 o12 o13 o14 o15)):=by
 have N:cpu (w5 (m2 eqSD (mvar 1) (mc (.int 0)))) (eV scr k c a b (some (.sh (dN j))) o5 o6 o7 o8 o9 o10 o11 o12 o13 o14 o15)=some (k==0,eV scr k c a b (some (.sh (dN j))) o5 o6 o7 o8 o9 o10 o11 o12 o13 o14 o15):=by have:w5 (m2 eqSD (mvar 1) (mc (.int 0))) (eV scr k c a b (some (.sh (dN j))) o5 o6 o7 o8 o9 o10 o11 o12 o13 o14 o15)=some (k==0):=j8 ((w9 (a:=.int k) (b:=.int 0) rfl rfl).trans rfl);unfold cpu;rw[this]
 cases hk:(k==0)with
 |false=>rw[hk]at N;exact⟨j,a,b,G,zt8 (by unfold yy1;rw[N])⟩
 |true=>
  rw[hk]at N;obtain⟨x,U,O,_,_,e⟩:=xo8 scr k c o5 o6 o7 o8 o9 o10 o11 o12 o13 o14 o15 16 aC aC a b (some (.sh (dN j)));have e2:yy1 (cpu (w5 (m2 eqSD (mvar 1) (mc (.int 0))))) (zy4 (m2m eqSD (u6 i7 3 (apu (z7 (mc (.int 16)) anil))) (mpu (mc (.int 0))))) (eV scr k c a b (some (.sh (dN j))) o5 o6 o7 o8 o9 o10 o11 o12 o13 o14 o15)=some (x==0,eV scr k c U O (some (.sh (dN j))) o5 o6 o7 o8 o9 o10 o11 o12 o13 o14 o15):=by unfold yy1;rw[N];exact yf2 (X1 e (d5 (d:=.int 0) rfl) (g:=.bl (x==0)) rfl)
  cases z:(x==0)with
  |false=>rw[z]at e2;exact⟨j,U,O,G,zt8 e2⟩
  |true=>
   rw[z]at e2;obtain⟨w,Y,b',hw,e3⟩:=xn7 scr k c o5 o6 o7 o8 o9 o10 o11 o12 o13 o14 o15 [150,150,150,300] (z7 (mc (.int 150)) (z7 (mc (.int 150)) (z7 (mc (.int 150)) (z7 (mc (.int 300)) anil)))) (λf=>v7 (z8 rfl (z8 rfl (z8 rfl (z8 rfl y7)))) (w8 (show 4<=1000000 by decide))) (λx z=>by
    simp only[mem_cons,not_mem_nil,or_false]at z;rcases z with h|h|h|h <;> rw[h]
    .exact⟨150,by decide,rfl⟩
    .exact⟨150,by decide,rfl⟩
    .exact⟨150,by decide,rfl⟩
    .exact⟨300,by decide,rfl⟩) 4 rfl aC aC U O (some (.sh (dN j)))
   exact⟨w,Y,b',hw,yf6 e2 e3⟩
end
theorem xa8(scr:D)(k c:Int)(o3 Z o5 o6 o7 o8 o9 o10 o11 o12 o13 o14 o15:Option S)(Q:Out->Prop)(hQ:∀o1 o2 o3 Z o5 o6 o7 o8 o9 o10 o11 o12 o13 o14 o15,Q (.nx [some (.sh scr),o1,o2,o3,Z,o5,o6,o7,o8,o9,o10,o11,o12,o13,o14,o15])):
  Run zm4 [some (.sh scr),k0c k,k0c c,o3,Z,o5,o6,o7,o8,o9,o10,o11,o12,o13,o14,o15] Q:=by
 have ad:=j5;unfold zm4;obtain⟨a,b,e0⟩:=xg7 c;refine h6 (ρ':=eV scr k c a b Z o5 o6 o7 o8 o9 o10 o11 o12 o13 o14 o15) ((X8 (yf9 (z8 (d:=.int c) rfl y7) e0)).trans rfl) ?_;obtain⟨w0,a1,b1,a6,e1⟩:=xn7 scr k c o5 o6 o7 o8 o9 o10 o11 o12 o13 o14 o15 [9,40] (z7 (mc (.int 9)) (z7 (mc (.int 40)) anil)) (λρ=>v7 (z8 rfl (z8 rfl y7)) (w8 (show 2<=1000000 by decide))) (λx hx=>by
  simp only[mem_cons,not_mem_nil,or_false]at hx;rcases hx with h|h <;> rw[h]
  .exact⟨9,by decide,rfl⟩
  .exact⟨40,by decide,rfl⟩) 2 rfl aC aC a b Z
 refine h6 e1 ?_;obtain⟨w,a2,b2,hw,e2⟩:=xj6 scr k c o5 o6 o7 o8 o9 o10 o11 o12 o13 o14 o15 a1 b1 w0 a6;refine h6 e2 ?_;obtain⟨g,a3,b3,hr,er⟩:=wu4 a2 b2 w hw;obtain⟨s,a4,b4,hs,es⟩:=xi7 a3 b3 g hr;refine h6 (ρ':=eV scr k c a3 b3 (some (.sh (dN w))) (some (.sh (RI' g))) o6 o7 o8 o9 o10 o11 o12 o13 o14 o15) ((f9 (P3 (ρ:=eV scr k c a2 b2 (some (.sh (dN w))) o5 o6 o7 o8 o9 o10 o11 o12 o13 o14 o15) (r0:=RL a2 b2) (r2:=RL a2 b2) rfl (Q6 (z8 (d:=dN w) rfl y7)) rfl er rfl)).trans rfl) ?_;refine h6 (ρ':=eV scr k c a4 b4 (some (.sh (dN w))) (some (.sh (RI' g))) (k0c s) o7 o8 o9 o10 o11 o12 o13 o14 o15) ((f9 (P3 (ρ:=eV scr k c a3 b3 (some (.sh (dN w))) (some (.sh (RI' g))) o6 o7 o8 o9 o10 o11 o12 o13 o14 o15) (r0:=RL a3 b3) (r2:=RL a3 b3) rfl (Q6 (z8 (d:=RI' g) rfl y7)) rfl es rfl)).trans rfl) ?_;obtain⟨J,hJ,hc⟩:=yz8 g s hs hr;have a5:(cl g s J).length=J+1:=by unfold cl;simp
 refine h6 (ρ':=eV scr k c a4 b4 (some (.sh (dN w))) (some (.sh (RI' g))) (k0c s) (some (.sh (L (cl g s J)))) o8 o9 o10 o11 o12 o13 o14 o15) ((n9 (Y8 (z8 (d:=RI' g) rfl (z8 (d:=.int s) rfl y7)) hc)).trans rfl) ?_;refine h6 (ρ':=eT scr k c a4 b4 (dN w) g s J o9 o10 o11 o12 o13 o14 o15) ((n9 (d:=dN J) ((w9 (f:=subD) (i6 (m:=bvar 7) (ds:=(cl g s J).map dN) rfl) (b:=.int 1) rfl).trans ?_)).trans rfl) ?_
 .show some (D.int ((((cl g s J).map dN).length:Int)-1))=some (D.int (J:Int));rw[aW,a5];congr 2;lia
 obtain⟨n,hn⟩:∃n:Nat,m5 rng1 (z7 (mix (v5 (z7 (mc (.int 5)) (z7 (mc (.int 1)) anil))) (m6 intF (z7 (m2 gtD (mvar 4) (mc (.int 40))) anil))) anil) (eT scr k c a4 b4 (dN w) g s J o9 o10 o11 o12 o13 o14 o15)=some ((List.range n).map λ(j:Nat)=>D.int (j:Int)):=by
  have gt:m2 gtD (mvar 4) (mc (.int 40)) (eT scr k c a4 b4 (dN w) g s J o9 o10 o11 o12 o13 o14 o15)=some (.bl (decide ((40:Int)<(w:Int)))):=(w9 (f:=gtD) (a:=dN w) (b:=.int 40) rfl rfl).trans rfl;have ix:=xb3 (x:=mc (.int 5)) (y:=mc (.int 1)) gt (a:=.int 5) (c:=.int 1) rfl rfl;cases hb:decide ((40:Int)<(w:Int))with
  |true=>rw[hb]at ix;refine⟨1,?_⟩;unfold m5;rw[z8 ix y7,aP];show rng1 [D.int 1]=_;rw[G0 (S7 aA aA),M7,bI];rfl
  |false=>rw[hb]at ix;refine⟨5,?_⟩;unfold m5;rw[z8 ix y7,aP];show rng1 [D.int 5]=_;rw[G0 (S7 aA aA),M7,bI];rfl
 refine Z2 n (f:=λ(j:Nat)=>D.int (j:Int)) hn (I:=λ_ ρ=>∃a b p9 Y U O N G z,ρ=eT scr k c a b (dN w) g s J p9 Y U O N G z) _ ⟨_,_,_,_,_,_,_,_,_,rfl⟩ ?_ ?_
 .rintro j ρ hj ⟨a,b,p9,Y,U,O,N,G,z,rfl⟩;refine⟨eT scr k c a b (dN w) g s J (k0b j) Y U O N G z,rfl,?_⟩;obtain⟨a',b',ac,ab,aa,a9,a8,a7,e⟩:=xi1 scr k c (dN w) g s hs hr J hJ hc a b (k0b j) Y U O N G z;exact⟨_,e,_,_,_,_,_,_,_,_,_,rfl⟩
 .rintro ρ ⟨a,b,p9,Y,U,O,N,G,z,rfl⟩;exact hQ _ _ _ _ _ _ _ _ _ _ _ _ _ _ _
theorem law_true(ns:List Int)(hn:ns.length<=63):za0 [.lst (ns.map .int)]=some (.sh (.bl true)):=by
 unfold za0 wz5;refine zq5 ?_;have a3:=j5;have i1:1<=sizeLine:=w8 aC;have c1:mcut (bvar 0) R8 (j3 (mc (.int 3))) (m8 16 [.lst (ns.map .int)])=some ((ns.take 3).map .int):=by
  have:cutL (ns.map D.int) none (some ((3:Nat):Int))=(ns.take 3).map .int:=by rw[P5,yb0]
  unfold mcut;exact bi some this
 have c2:v5 (z7 (mlen (bvar 0)) anil) (m8 16 [.lst (ns.map .int)])=some (([(ns.length:Int)]:List Int).map .int):=by refine v7 (z8 (d:=.int (ns.length:Int)) ?_ y7) i1;rw[i6 (show bvar 0 _=some (ns.map .int)from rfl),aW]
 have c3:=X0 c1 c2 (by rw[aW,aW,cO,length_singleton];lia);rw[<-cm]at c3;generalize a2:ns.take 3++[(ns.length:Int)]=xs at c3;have ee:m5 zx8 (z7 (mlst (mcat (mcut (bvar 0) R8 (j3 (mc (.int 3)))) (v5 (z7 (mlen (bvar 0)) anil)))) anil) (m8 16 [.lst (ns.map .int)])=some ((List.range xs.length).map λ(i:Nat)=>D.tup [.int (i:Int),.int (xs.getD i 0)]):=by unfold m5;rw[z8 (h8 c3) y7,aP];show some (N7 0 (xs.map .int))=_;rw[K6];refine bi some (br λi _=>?_);rw[cF]
 refine X6 (Z2 xs.length (f:=λ(i:Nat)=>D.tup [.int (i:Int),.int (xs.getD i 0)]) ee (I:=λ_ a=>∃o1 o2 G z o5 o6 o7 o8 o9 o10 o11 o12 o13 o14 o15,a=[k0a ns,o1,o2,G,z,o5,o6,o7,o8,o9,o10,o11,o12,o13,o14,o15]) _ ⟨_,_,_,_,_,_,_,_,_,_,_,_,_,_,_,rfl⟩ ?_ ?_)
 .intro j a hj hI;obtain⟨o1,o2,G,z,o5,o6,o7,o8,o9,o10,o11,o12,o13,o14,o15,rfl⟩:=hI;exact⟨_,rfl,xa8 _ (j:Int) (xs.getD j 0) G z o5 o6 o7 o8 o9 o10 o11 o12 o13 o14 o15 _ λp1 p2 p3 p4 p5 p6 p7 p8 p9 a1 Z Y U O N=>⟨p1,p2,p3,p4,p5,p6,p7,p8,p9,a1,Z,Y,U,O,N,rfl⟩⟩
 .intro a hI;obtain⟨o1,o2,G,z,o5,o6,o7,o8,o9,o10,o11,o12,o13,o14,o15,rfl⟩:=hI;exact⟨.rt (.bl true),rfl,rfl⟩
end Lw
namespace Lw
open List
open PySem L2
open PyProof.Rows
section
noncomputable def top(i:Nat):Stmt:=PySem.Challenge.pw_wavyrow_k21_so_manieth_lists.main.body.getD i (.Pass ⟨0,0,0,0⟩)
section
variable (P:Program)(w:World)(K:W.Frag)(mg:Str->Option Value)(base:Heap)
abbrev T_Z3:Prop:=QHd P w K mg base 1 "refuse_step" ["step"] (spR K 1 m_Z3)
abbrev T_Z2:Prop:=QHd P w K mg base 1 "later_steps" ["row","step"] (spR K 2 m_Z2)
abbrev T_Z6:Prop:=QHd P w K mg base 1 "are_places" ["row","places"] (spR K 2 m_Z6)
abbrev wk6:Prop:=QHd P w K mg base 1 "turns_of" ["numbers"] (spR K 1 xs7)
abbrev T_Z1:Prop:=QHd P w K mg base 2 "go_by_turns" ["numbers","step"] (spR K 2 m_Z1)
abbrev wk4:Prop:=QHd P w K mg base 3 "are_wavy" ["row","step","places"] (spR K 3 ye2)
abbrev wk2:Prop:=QHd P w K mg base 1 "added_up" ["tails","laters"] (spR K 2 yp3)
abbrev T_Z9:Prop:=QHd P w K mg base 2 "layers_of" ["row","step","most"] (spR K 3 m_Z9)
abbrev wm6:Prop:=QHd P w K mg base 4 "ways" ["row","step","layer","told","later"] (spR K 5 yp1)
abbrev wm7:Prop:=QHd P w K mg base 5 "picked" ["row","step","layers","number"] (spR K 4 yp2)
abbrev T_Z0:Prop:=QHd P w K mg base 1 "how_many_picked" ["layers"] (spR K 1 m_Z0)
abbrev T_Z7:Prop:=QHd P w K mg base 6 "so_manieth" ["row","step","places","number"] (spR K 4 m_Z7)
abbrev wk3:Prop:=QHd P w K mg base 1 "_law_reel" ["cell"] (spR K 1 xs5)
abbrev xo2:Prop:=QHd P w K mg base 1 "_law_take" ["reel","many"] (spG K 2 i7)
abbrev wm9:Prop:=QHd P w K mg base 2 "_law_row" ["reel","most"] (spG K 2 xc4)
abbrev wk1:Prop:=QHd P w K mg base 2 "_law_step" ["reel","row"] (spG K 2 xc5)
abbrev xo1:Prop:=QHd P w K mg base 1 "_law_wavy" ["row","step","places"] (spR K 3 zo9)
abbrev wk0:Prop:=QHd P w K mg base 2 "_law_all" ["row","step"] (spR K 2 za2)
abbrev wx2:Prop:=QHd P w K mg base 1 "_law_put" ["some","others"] (spR K 2 zv5)
abbrev T_Z5:Prop:=QHd P w K mg base 2 "_law_counts" ["row","step"] (spR K 2 m_Z5)
abbrev ys9:Prop:=QHd P w K mg base 2 "_law_on" ["row","step"] (spR K 2 C9)
abbrev wm8:Prop:=QHd P w K mg base 1 "_law_of" ["some","many"] (spR K 2 za1)
abbrev T_Z4:Prop:=QHd P w K mg base 2 "_law_before" ["row","step","on","one","k"] (spR K 5 m_Z4)
abbrev wk5:Prop:=QHd P w K mg base 3 "_law_rank" ["row","step","on","one"] (spR K 4 xs6)
abbrev T_Z8:Prop:=QHd P w K mg base 4 "_law_right" ["row","step","places","number","found"] (spR K 5 m_Z8)
end
abbrev Zs(mg:Str->Option Value):Prop:=mg "abs"=none/\mg "any"=none/\mg "bool"=none/\mg "enumerate"=none/\mg "int"=none/\mg "isinstance"=none/\mg "len"=none/\mg "list"=none/\mg "max"=none/\mg "min"=none/\mg "range"=none/\mg "reversed"=none/\mg "set"=none/\mg "sorted"=none/\mg "sum"=none/\mg "zip"=none/\True
theorem yr4{mg:Str->Option Value}(Z:Zs mg):mg "abs"=none:=Z.1
theorem wj6{mg:Str->Option Value}(Z:Zs mg):mg "any"=none:=Z.2.1
theorem wx8{mg:Str->Option Value}(Z:Zs mg):mg "bool"=none:=Z.2.2.1
theorem U2{mg:Str->Option Value}(Z:Zs mg):mg "enumerate"=none:=Z.2.2.2.1
theorem yn5{mg:Str->Option Value}(Z:Zs mg):mg "int"=none:=Z.2.2.2.2.1
theorem F7{mg:Str->Option Value}(Z:Zs mg):mg "isinstance"=none:=Z.2.2.2.2.2.1
theorem d7{mg:Str->Option Value}(Z:Zs mg):mg "len"=none:=Z.2.2.2.2.2.2.1
theorem yn4{mg:Str->Option Value}(Z:Zs mg):mg "list"=none:=Z.2.2.2.2.2.2.2.1
theorem yr3{mg:Str->Option Value}(Z:Zs mg):mg "max"=none:=Z.2.2.2.2.2.2.2.2.1
theorem wx7{mg:Str->Option Value}(Z:Zs mg):mg "min"=none:=Z.2.2.2.2.2.2.2.2.2.1
theorem a9{mg:Str->Option Value}(Z:Zs mg):mg "range"=none:=Z.2.2.2.2.2.2.2.2.2.2.1
theorem yr2{mg:Str->Option Value}(Z:Zs mg):mg "reversed"=none:=Z.2.2.2.2.2.2.2.2.2.2.2.1
theorem wj5{mg:Str->Option Value}(Z:Zs mg):mg "set"=none:=Z.2.2.2.2.2.2.2.2.2.2.2.2.1
theorem yx3{mg:Str->Option Value}(Z:Zs mg):mg "sorted"=none:=Z.2.2.2.2.2.2.2.2.2.2.2.2.2.1
theorem wx6{mg:Str->Option Value}(Z:Zs mg):mg "sum"=none:=Z.2.2.2.2.2.2.2.2.2.2.2.2.2.2.1
theorem xj1{mg:Str->Option Value}(Z:Zs mg):mg "zip"=none:=Z.2.2.2.2.2.2.2.2.2.2.2.2.2.2.2.1
variable {P:Program}{w:World}{K:W.Frag}{mg:Str->Option Value}{base:Heap}
abbrev s_Z3:Stmt:=top 5
noncomputable abbrev N_Z3:List Str:=["step"]
theorem wi8:FnScope N_Z3 ["step"] (y9 s_Z3):=qsc
theorem wg6(D:QDf K mg "refuse_step" s_Z3 ["step"]):T_Z3 P w K mg base:=
 D.mk λf fd j=>j.okD (k:=0) (m:=b_Z3) wi8 λcdv A outer s H E hr=>(y6 (j7 (t7 L6 X7 (z6 0 (pv 0)) y4 (w6 _)) (y6 zi4) u0))
abbrev s_Z2:Stmt:=top 6
noncomputable abbrev N_Z2:List Str:=["row","step","above","below","place","number"]
theorem sc_Z2:FnScope N_Z2 ["row","step"] (y9 s_Z2):=qsc
theorem S9:List.Nodup (["later","step","number","row"]:List Str):=by decide +kernel
theorem S8:List.Nodup (["later","step","number","row"]:List Str):=by decide +kernel
theorem wg7(D:QDf K mg "later_steps" s_Z2 ["row","step"])(Z:Zs mg):T_Z2 P w K mg base:=
 D.mk λf fd z=>z.okD (k:=0) (m:=b_Z2) sc_Z2 λcdv A outer s H E hr=>(z9 (c6 (i:=2) sc_Z2.nd rfl (Or.inl rfl) (m7 y0)) (z9 (c6 (i:=3) sc_Z2.nd rfl (Or.inl rfl) (m7 y0)) (z9 (e7 bw rfl (C5 rfl (U2 Z) (z0 (z6 0 (pv 0)) y0)) (U9 (is:=[4,5]) (L0 rfl (m9 (w4 (i:=4) sc_Z2.nd rfl (Or.inl rfl)) (m9 (w4 (i:=5) sc_Z2.nd rfl (Or.inr rfl)) U8)))) (z9 (Z6 (i:=2) (pv 2) (Z7 (W2 (U0 (N:=["later","step","number","row"]) (src:=[none,some 1,some 5,some 0]) (y9 s_Z2) N_Z2 rfl rfl aE) rfl (c9 rfl (a9 Z) (z0 (k9 (z6 4 (pv 4)) y4) (z0 (u9 rfl (d7 Z) (y8 0 (pv 0))) y0))) (λC fp j H0=>(t5 (i:=0) (w4 S9 rfl (Or.inl rfl)))) (λC fp j H0=>(U5 (t7 D7 S6 (f6 (t8 (y8 3 (pv 3)) (z6 0 (pv 0))) (z6 2 (pv 2))) (z6 1 (pv 1)) (w6 _)))) (λC fp j H0=>(z6 0 (pv 0))))) (λt ha=>qap (pv 2) ha) (z0 (Z7 (W2 (U0 (N:=["later","step","number","row"]) (src:=[none,some 1,some 5,some 0]) (y9 s_Z2) N_Z2 rfl rfl aE) rfl (c9 rfl (a9 Z) (z0 (k9 (z6 4 (pv 4)) y4) (z0 (u9 rfl (d7 Z) (y8 0 (pv 0))) y0))) (λC fp j H0=>(t5 (i:=0) (w4 S9 rfl (Or.inl rfl)))) (λC fp j H0=>(U5 (t7 D7 S6 (f6 (t8 (y8 3 (pv 3)) (z6 0 (pv 0))) (z6 2 (pv 2))) (z6 1 (pv 1)) (w6 _)))) (λC fp j H0=>(z6 0 (pv 0))))) y0)) (y6 (Z6 (i:=3) (pv 3) (Z7 (W2 (U0 (N:=["later","step","number","row"]) (src:=[none,some 1,some 5,some 0]) (y9 s_Z2) N_Z2 rfl rfl aE) rfl (c9 rfl (a9 Z) (z0 (k9 (z6 4 (pv 4)) y4) (z0 (u9 rfl (d7 Z) (y8 0 (pv 0))) y0))) (λC fp j H0=>(t5 (i:=0) (w4 S8 rfl (Or.inl rfl)))) (λC fp j H0=>(U5 (t7 D7 S6 (f6 (z6 2 (pv 2)) (t8 (y8 3 (pv 3)) (z6 0 (pv 0)))) (z6 1 (pv 1)) (w6 _)))) (λC fp j H0=>(z6 0 (pv 0))))) (λt ha=>qap (pv 3) ha) (z0 (Z7 (W2 (U0 (N:=["later","step","number","row"]) (src:=[none,some 1,some 5,some 0]) (y9 s_Z2) N_Z2 rfl rfl aE) rfl (c9 rfl (a9 Z) (z0 (k9 (z6 4 (pv 4)) y4) (z0 (u9 rfl (d7 Z) (y8 0 (pv 0))) y0))) (λC fp j H0=>(t5 (i:=0) (w4 S8 rfl (Or.inl rfl)))) (λC fp j H0=>(U5 (t7 D7 S6 (f6 (z6 2 (pv 2)) (t8 (y8 3 (pv 3)) (z6 0 (pv 0)))) (z6 1 (pv 1)) (w6 _)))) (λC fp j H0=>(z6 0 (pv 0))))) y0))))) (N2 3 (N2 2 (y6 (k5 (yh7 (z0 (z6 2 (pv 2)) (z0 (z6 3 (pv 3)) y0))))))))))
abbrev s_Z6:Stmt:=top 7
noncomputable abbrev N_Z6:List Str:=["row","places","least","place"]
theorem sc_Z6:FnScope N_Z6 ["row","places"] (y9 s_Z6):=qsc
theorem wg3(D:QDf K mg "are_places" s_Z6 ["row","places"])(Z:Zs mg):T_Z6 P w K mg base:=
 D.mk λf fd j=>j.okD (k:=0) (m:=b_Z6) sc_Z6 λcdv A outer s H E hr=>(z9 (v6 (i:=2) sc_Z6.nd rfl (Or.inl rfl) y4) (z9 (e7 bw rfl (W1 (z6 1 (pv 1))) (t5 (i:=3) (w4 sc_Z6.nd rfl (Or.inl rfl))) (z9 (j7 (pc_w (O1 (t7 L6 X7 (z6 3 (pv 3)) (z6 2 (pv 2)) (w6 _)) (O0 (t7 D7 S6 (z6 3 (pv 3)) (u9 rfl (d7 Z) (y8 0 (pv 0))) (w6 _))))) (y6 (k5 D6)) u0) (y6 (v6 (i:=2) sc_Z6.nd rfl (Or.inl rfl) (k9 (z6 3 (pv 3)) y4))))) (y6 (k5 D6))))
abbrev xg3:Stmt:=top 8
abbrev wd7:List Str:=["numbers","many","left","middle","right"]
theorem sc_Z11:FnScope wd7 ["numbers"] (y9 xg3):=qsc
theorem wq4(D:QDf K mg "turns_of" xg3 ["numbers"])(Z:Zs mg):wk6 P w K mg base:=
 D.mk λf fd j=>j.okD (k:=0) (m:=wy5) sc_Z11 λcdv A outer s H E hr=>(z9 (v6 (i:=1) sc_Z11.nd rfl (Or.inl rfl) y4) (z9 (e7 bw rfl (xv7 rfl (xj1 Z) (z0 (z6 0 (pv 0)) (z0 (Z7 (zw8 (y8 0 (pv 0)) (e9 y4) U7)) (z0 (Z7 (zw8 (y8 0 (pv 0)) (e9 y4) U7)) y0)))) (U9 (is:=[2,3,4]) (L0 rfl (m9 (w4 (i:=2) sc_Z11.nd rfl (Or.inl rfl)) (m9 (w4 (i:=3) sc_Z11.nd rfl (Or.inl rfl)) (m9 (w4 (i:=4) sc_Z11.nd rfl (Or.inl rfl)) U8))))) (y6 (j7 (pc_w (O1 (t7 L6 X7 (G5 rfl rfl (yr3 Z) (z0 (z6 2 (pv 2)) (z0 (z6 4 (pv 4)) y0))) (z6 3 (pv 3)) (w6 _)) (O0 (t7 L6 X7 (z6 3 (pv 3)) (yh9 rfl rfl (wx7 Z) (z0 (z6 2 (pv 2)) (z0 (z6 4 (pv 4)) y0))) (w6 _))))) (y6 (zc5 (i:=1) sc_Z11.nd rfl (Or.inl rfl) y4)) u0))) (y6 (U6 1 (pv 1)))))
abbrev s_Z1:Stmt:=top 9
noncomputable abbrev N_Z1:List Str:=["numbers","step","left","right"]
theorem sc_Z1:FnScope N_Z1 ["numbers","step"] (y9 s_Z1):=qsc
theorem wg8(D:QDf K mg "go_by_turns" s_Z1 ["numbers","step"])(j:wk6 P w K mg base)(Z:Zs mg):T_Z1 P w K mg base:=
 D.mk λf fd z=>z.okD (k:=1) (m:=b_Z1) sc_Z1 λcdv A outer s H E hr=>(z9 (e7 bw rfl (yw8 rfl (xj1 Z) (z0 (z6 0 (pv 0)) (z0 (Z7 (zw8 (y8 0 (pv 0)) (e9 y4) U7)) y0))) (U9 (is:=[2,3]) (L0 rfl (m9 (w4 (i:=2) sc_Z1.nd rfl (Or.inl rfl)) (m9 (w4 (i:=3) sc_Z1.nd rfl (Or.inl rfl)) U8)))) (y6 (j7 (t7 L6 X7 (zi9 rfl (yr4 Z) (z0 (f6 (z6 3 (pv 3)) (z6 2 (pv 2))) y0)) (z6 1 (pv 1)) (w6 _)) (y6 (k5 D6)) u0))) (y6 (k5 (L5 N3 c8 (p0 (λt ha=>qcl j hr ha) rfl (z0 (z6 0 (pv 0)) y0) qal1) (G5 rfl rfl (yr3 Z) (z0 y4 (z0 (f6 (u9 rfl (d7 Z) (y8 0 (pv 0))) y4) y0))) (w6 _)))))
abbrev xx9:Stmt:=top 10
noncomputable abbrev wk9:List Str:=["row","step","places"]
theorem wu2:FnScope wk9 ["row","step","places"] (y9 xx9):=qsc
theorem zo2:List.Nodup (["place","row"]:List Str):=by decide +kernel
theorem wq2(D:QDf K mg "are_wavy" xx9 ["row","step","places"])(j:T_Z6 P w K mg base)(G:T_Z1 P w K mg base)(z:T_Z3 P w K mg base):wk4 P w K mg base:=
 D.mk λf fd U=>U.okD (k:=2) (m:=wy3) wu2 λcdv A outer s H E hr=>(z9 (yw7 (p0 (λt ha=>qcl z hr ha) rfl (z0 (z6 1 (pv 1)) y0) qal1)) (y6 (k5 (ws3 (p0 (λt ha=>qcl j hr ha) rfl (z0 (z6 0 (pv 0)) (z0 (z6 2 (pv 2)) y0)) qal2) (wt9 (p0 (λt ha=>qcl G hr ha) rfl (z0 (Z7 (W2 (U0 (N:=["place","row"]) (src:=[none,some 0]) (y9 xx9) wk9 rfl rfl aE) rfl (W1 (z6 2 (pv 2))) (λC fp O H0=>(t5 (i:=0) (w4 zo2 rfl (Or.inl rfl)))) (λC fp O H0=>P1) (λC fp O H0=>(t8 (y8 1 (pv 1)) (z6 0 (pv 0)))))) (z0 (z6 1 (pv 1)) y0)) qal2))))))
abbrev yj1:Stmt:=top 12
noncomputable abbrev wk8:List Str:=["tails","laters"]
theorem wu0:FnScope wk8 ["tails","laters"] (y9 yj1):=qsc
theorem zo4:List.Nodup (["each","tails"]:List Str):=by decide +kernel
theorem zo3:List.Nodup (["later","tails"]:List Str):=by decide +kernel
theorem wq0(D:QDf K mg "added_up" yj1 ["tails","laters"])(Z:Zs mg):wk2 P w K mg base:=
 D.mk λf fd z=>z.okD (k:=0) (m:=wy1) wu0 λcdv A outer s H E hr=>(y6 (C4 (W2 (U0 (N:=["each","tails"]) (src:=[none,some 0]) (y9 yj1) wk8 rfl rfl aE) rfl (W1 (z6 1 (pv 1))) (λC fp j H0=>(t5 (i:=0) (w4 zo4 rfl (Or.inl rfl)))) (λC fp j H0=>P1) (λC fp j H0=>(xn9 rfl rfl (wx6 Z) (Z3 (W2 (wz2 (N:=["later","tails"]) (src:=[none,some 1]) (y9 yj1) rfl aE) rfl (W1 (z6 0 (pv 0))) (λC fp j H0=>(t5 (i:=0) (w4 zo3 rfl (Or.inl rfl)))) (λC fp j H0=>P1) (λC fp j H0=>(t8 (y8 1 (pv 1)) (z6 0 (pv 0)))))) PyProof.Rows.boot_sum)))))
abbrev s_Z9:Stmt:=top 13
noncomputable abbrev N_Z9:List Str:=["row","step","most","above","below","begun","ups","downs","layers"]
theorem sc_Z9:FnScope N_Z9 ["row","step","most"] (y9 s_Z9):=qsc
theorem O3:List.Nodup (["up","down"]:List Str):=by decide +kernel
theorem wg0(D:QDf K mg "layers_of" s_Z9 ["row","step","most"])(z:wk2 P w K mg base)(G:T_Z2 P w K mg base)(Z:Zs mg):T_Z9 P w K mg base:=
 D.mk λf fd U=>U.okD (k:=1) (m:=b_Z9) sc_Z9 λcdv A outer s H E hr=>(z9 (yi2 (M9 (p0 (λt ha=>qcl G hr ha) rfl (z0 (z6 0 (pv 0)) (z0 (z6 1 (pv 1)) y0)) qal2) (U9 (is:=[3,4]) (L0 rfl (m9 (w4 (i:=3) sc_Z9.nd rfl (Or.inl rfl)) (m9 (w4 (i:=4) sc_Z9.nd rfl (Or.inl rfl)) U8)))))) (z9 (xv4 (i:=5) (j:=6) (k:=7) (xf7 (Z7 (yh4 (m7 (z0 y4 y0)) (u9 rfl (d7 Z) (y8 0 (pv 0))))) (w4 sc_Z9.nd rfl (by first|exact Or.inl rfl|exact Or.inr rfl)) (w4 sc_Z9.nd rfl (by first|exact Or.inl rfl|exact Or.inr rfl)) (w4 sc_Z9.nd rfl (by first|exact Or.inl rfl|exact Or.inr rfl)))) (z9 (c6 (i:=8) sc_Z9.nd rfl (Or.inl rfl) (m7 y0)) (z9 (zi2 1000 bw (pc_w (zp6 (t7 L6 X7 (u9 rfl (d7 Z) (y8 8 (pv 8))) (z6 2 (pv 2)) (w6 _)) (zq9 (O2 (ws2 rfl rfl (wj6 Z) (y8 5 (pv 5)) PyProof.Rows.boot_any))))) (z9 (Z6 (i:=8) (pv 8) (yh7 (z0 (z6 5 (pv 5)) (z0 (z6 6 (pv 6)) (z0 (z6 7 (pv 7)) y0)))) (λt ha=>qap (pv 8) ha) (z0 (yh7 (z0 (z6 5 (pv 5)) (z0 (z6 6 (pv 6)) (z0 (z6 7 (pv 7)) y0)))) y0)) (z9 (xf4 (i:=6) (j:=7) rfl sc_Z9.nd rfl rfl aC rfl rfl (z0 (p0 (λt ha=>qcl z hr ha) rfl (z0 (z6 7 (pv 7)) (z0 (z6 3 (pv 3)) y0)) qal2) (z0 (p0 (λt ha=>qcl z hr ha) rfl (z0 (z6 6 (pv 6)) (z0 (z6 4 (pv 4)) y0)) qal2) y0)) rfl) (y6 (zi3 (zc6 (i:=5) sc_Z9.nd rfl (Or.inl rfl) (U0 (N:=["up","down"]) (src:=[none,none]) (y9 s_Z9) N_Z9 rfl rfl aE) rfl (yw8 rfl (xj1 Z) (z0 (z6 6 (pv 6)) (z0 (z6 7 (pv 7)) y0))) (λC fp O H0=>(U9 (is:=[0,1]) (L0 rfl (m9 (w4 (i:=0) O3 rfl (Or.inl rfl)) (m9 (w4 (i:=1) O3 rfl (Or.inl rfl)) U8))))) (λC fp O H0=>P1) (λC fp O H0=>(k9 (z6 0 (pv 0)) (z6 1 (pv 1)))))))))) (y6 (U6 8 (pv 8)))))))
abbrev xh4:Stmt:=top 14
noncomputable abbrev we8:List Str:=["row","step","layer","told","later","begun","ups","downs"]
theorem sc_Z23:FnScope we8 ["row","step","layer","told","later"] (y9 xh4):=qsc
theorem wr2(D:QDf K mg "ways" xh4 ["row","step","layer","told","later"])(j:wk4 P w K mg base):wm6 P w K mg base:=
 D.mk λf fd z=>z.okD (k:=3) (m:=wz6) sc_Z23 λcdv A outer s H E hr=>(z9 (yi2 (M9 (z6 2 (pv 2)) (U9 (is:=[5,6,7]) (L0 rfl (m9 (w4 (i:=5) sc_Z23.nd rfl (Or.inl rfl)) (m9 (w4 (i:=6) sc_Z23.nd rfl (Or.inl rfl)) (m9 (w4 (i:=7) sc_Z23.nd rfl (Or.inl rfl)) U8))))))) (z9 (j7 (zh0 (O2 (z6 3 (pv 3)))) (y6 (k5 (t8 (y8 5 (pv 5)) (z6 4 (pv 4))))) u0) (z9 (j7 (zh0 (O2 (p0 (λt ha=>qcl j hr ha) rfl (z0 (z6 0 (pv 0)) (z0 (z6 1 (pv 1)) (z0 (Z7 (R7 (Z3 (zw8 (y8 3 (pv 3)) (e9 (E1 y4)) U7)) (Z3 (m7 (z0 (z6 4 (pv 4)) y0))))) y0))) qal3))) (y6 (k5 y4)) u0) (y6 (k5 (xm0 (t7 zb1 zy2 (t8 (y8 0 (pv 0)) (z6 4 (pv 4))) (t8 (y8 0 (pv 0)) (t8 (y8 3 (pv 3)) (E1 y4))) (w6 _)) (t8 (y8 7 (pv 7)) (z6 4 (pv 4))) (t8 (y8 6 (pv 6)) (z6 4 (pv 4)))))))))
abbrev xh5:Stmt:=top 15
abbrev we9:List Str:=["row","step","layers","number","told","place","layer","many"]
theorem sc_Z22:FnScope we9 ["row","step","layers","number"] (y9 xh5):=qsc
theorem wr3(D:QDf K mg "picked" xh5 ["row","step","layers","number"])(j:wm6 P w K mg base)(Z:Zs mg):wm7 P w K mg base:=
 D.mk λf fd z=>z.okD (k:=4) (m:=xp2) sc_Z22 λcdv A outer s H E hr=>(z9 (c6 (i:=4) sc_Z22.nd rfl (Or.inl rfl) (m7 y0)) (z9 (v6 (i:=5) sc_Z22.nd rfl (Or.inl rfl) y4) (z9 (e7 bw rfl (xv8 rfl (yr2 Z) (z0 (z6 2 (pv 2)) y0)) (t5 (i:=6) (w4 sc_Z22.nd rfl (Or.inl rfl))) (z9 (v6 (i:=7) sc_Z22.nd rfl (Or.inl rfl) (zb0 4 (p0 (λt ha=>qcl j hr ha) rfl (z0 (z6 0 (pv 0)) (z0 (z6 1 (pv 1)) (z0 (z6 6 (pv 6)) (z0 (z6 4 (pv 4)) (z0 (z6 5 (pv 5)) y0 se_n) se_n) se_n) se_n) se_n) qal5))) (z9 (zi2 1000 bw (t7 L6 X7 (z6 7 (pv 7)) (z6 3 (pv 3)) (w6 _)) (z9 (xv5 (i:=3) sc_Z22.nd rfl (Or.inl rfl) (z6 7 (pv 7))) (z9 (zc5 (i:=5) sc_Z22.nd rfl (Or.inl rfl) y4) (y6 (v6 (i:=7) sc_Z22.nd rfl (Or.inl rfl) (zb0 4 (p0 (λt ha=>qcl j hr ha) rfl (z0 (z6 0 (pv 0)) (z0 (z6 1 (pv 1)) (z0 (z6 6 (pv 6)) (z0 (z6 4 (pv 4)) (z0 (z6 5 (pv 5)) y0 se_n) se_n) se_n) se_n) se_n) qal5))))))) (z9 (Z6 (i:=4) (pv 4) (z6 5 (pv 5)) (λt ha=>qap (pv 4) ha) (z0 (z6 5 (pv 5)) y0)) (y6 (zc5 (i:=5) sc_Z22.nd rfl (Or.inl rfl) y4)))))) (y6 (U6 4 (pv 4))))))
abbrev s_Z0:Stmt:=top 16
noncomputable abbrev N_Z0:List Str:=["layers"]
theorem wi9:FnScope N_Z0 ["layers"] (y9 s_Z0):=qsc
theorem wg9(D:QDf K mg "how_many_picked" s_Z0 ["layers"])(Z:Zs mg):T_Z0 P w K mg base:=
 D.mk λf fd j=>j.okD (k:=0) (m:=b_Z0) wi9 λcdv A outer s H E hr=>(y6 (k5 (xm0 (O2 (z6 0 (pv 0))) (xn9 rfl rfl (wx6 Z) (zp4 (ws0 (t8 (y8 0 (pv 0)) (E1 y4)) y4)) PyProof.Rows.boot_sum) y4)))
abbrev s_Z7:Stmt:=top 17
noncomputable abbrev N_Z7:List Str:=["row","step","places","number","layers"]
theorem sc_Z7:FnScope N_Z7 ["row","step","places","number"] (y9 s_Z7):=qsc
theorem wg2(D:QDf K mg "so_manieth" s_Z7 ["row","step","places","number"])(N:T_Z0 P w K mg base)(z:T_Z9 P w K mg base)(j:wm7 P w K mg base)(G:T_Z3 P w K mg base)(Z:Zs mg):T_Z7 P w K mg base:=
 D.mk λf fd O=>O.okD (k:=5) (m:=b_Z7) sc_Z7 λcdv A outer s H E hr=>(z9 (yw7 (p0 (λt ha=>qcl G hr ha) rfl (z0 (z6 1 (pv 1)) y0) qal1)) (z9 (j7 (pc_w (O1 (t7 L6 X7 (z6 3 (pv 3)) y4 (w6 _)) (O0 (t7 L6 X7 (z6 2 (pv 2)) y4 (w6 _))))) (y6 zi4) u0) (z9 (v6 (i:=4) sc_Z7.nd rfl (Or.inl rfl) (p0 (λt ha=>qcl z hr ha) rfl (z0 (z6 0 (pv 0)) (z0 (z6 1 (pv 1)) (z0 (z6 2 (pv 2)) y0))) qal3)) (z9 (j7 (pc_w (O1 (t7 L6 X7 (u9 rfl (d7 Z) (y8 4 (pv 4))) (z6 2 (pv 2)) (w6 _)) (O0 (t7 L6 X7 (p0 (λt ha=>qcl N hr ha) rfl (z0 (z6 4 (pv 4)) y0) qal1) (z6 3 (pv 3)) (w6 _))))) (y6 (k5 yh8)) u0) (y6 (C4 (zp2 (λt ha=>qcl j hr ha) rfl (z0 (z6 0 (pv 0)) (z0 (z6 1 (pv 1)) (z0 (z6 4 (pv 4)) (z0 (z6 3 (pv 3)) y0 se_n) se_n) se_n) se_n) qal4)))))))
abbrev xg1:Stmt:=top 20
noncomputable abbrev wd5:List Str:=["cell"]
theorem wu1:FnScope wd5 ["cell"] (y9 xg1):=qsc
theorem wq1(D:QDf K mg "_law_reel" xg1 ["cell"])(Z:Zs mg):wk3 P w K mg base:=
 D.mk λf fd j=>j.okD (k:=0) (m:=wy2) wu1 λcdv A outer s H E hr=>(y6 (C4 (m7 (z0 (zi9 rfl (yr4 Z) (z0 (z6 0 (pv 0)) y0)) (z0 (E2 (zt5 (k9 (E2 (z6 0 (pv 0)) y4) y4) y4) y4) y0)))))
abbrev xg4:Stmt:=top 21
abbrev wd8:List Str:=["reel","many","found","stir"]
theorem sc_Z10:FnScope wd8 ["reel","many"] (y9 xg4):=qsc
theorem wq5(D:QDf K mg "_law_take" xg4 ["reel","many"]):xo2 P w K mg base:=
 D.mk λf fd j=>j.okGl (k:=0) (m:=zm9) sc_Z10 aC λcdv A outer s H E hr=>(z9 (j7 (t7 D7 S6 (t8 (y8 0 (pv 0)) y4) (zy0 y4 y4) (w6 _)) (z9 (v6 (i:=2) sc_Z10.nd rfl (Or.inl rfl) (E2 (t8 (y8 0 (pv 0)) y4) (z6 1 (pv 1)))) (z9 (R6 (i:=0) (M9 (xu5 (t8 (y8 0 (pv 0)) y4) (z6 1 (pv 1))) (zz8 (pv 0) y4 U4))) (y6 (zp1 0 (t6 (z6 2 (pv 2))))))) u0) (z9 (R6 (i:=0) (M9 (E2 (k9 (zt5 (t8 (y8 0 (pv 0)) y4) y4) y4) y4) (zz8 (pv 0) y4 U4))) (z9 (v6 (i:=3) sc_Z10.nd rfl (Or.inl rfl) (E2 (zt5 (t8 (y8 0 (pv 0)) y4) (t8 (y8 0 (pv 0)) y4)) y4)) (y6 (zp1 0 (t6 (E2 (yg0 (E2 (zt5 (z6 3 (pv 3)) y4) y4) y4) (z6 1 (pv 1)))))))))
abbrev xh7:Stmt:=top 23
abbrev wd1:List Str:=["reel","most","many","kind","span","found","k","number"]
theorem sc_Z20:FnScope wd1 ["reel","most"] (y9 xh7):=qsc
theorem wr5(D:QDf K mg "_law_row" xh7 ["reel","most"])(j:xo2 P w K mg base)(Z:Zs mg):wm9 P w K mg base:=
 D.mk λf fd z=>z.okGl (k:=1) (m:=xp3) sc_Z20 aC λcdv A outer s H E hr=>(z9 (e8 (i:=2) sc_Z20.nd rfl (Or.inl rfl) (L4 (zp3 (k6 (u8 (i:=0) (λt ha=>qcl j hr ha) rfl (pv 0) (u7 (z0 (k9 (z6 1 (pv 1)) y4) y0)) (i8 qal1)) (k6 (t6 (z6 1 (pv 1))) (k6 (u8 (i:=0) (λt ha=>qcl j hr ha) rfl (pv 0) (u7 (z0 (k9 (yh9 rfl rfl (wx7 Z) (z0 (z6 1 (pv 1)) (z0 y4 y0))) y4) y0)) (i8 qal1)) (u7 y0))))) (u8 (i:=0) (λt ha=>qcl j hr ha) rfl (pv 0) (u7 (z0 y4 y0)) (i8 qal1)))) (z9 (e8 (i:=3) sc_Z20.nd rfl (Or.inl rfl) (u8 (i:=0) (λt ha=>qcl j hr ha) rfl (pv 0) (u7 (z0 y4 y0)) (i8 qal1))) (z9 (e8 (i:=4) sc_Z20.nd rfl (Or.inl rfl) (L4 (t6 (Z7 (m7 (z0 y4 (z0 y4 (z0 y4 (z0 y4 y0 se_c) se_c) se_c) se_c)))) (u8 (i:=0) (λt ha=>qcl j hr ha) rfl (pv 0) (u7 (z0 y4 y0)) (i8 qal1)))) (z9 (c6 (i:=5) sc_Z20.nd rfl (Or.inl rfl) (m7 y0)) (z9 (e7 bw rfl (V0 rfl (a9 Z) (z0 (z6 2 (pv 2)) y0)) (t5 (i:=6) (w4 sc_Z20.nd rfl (Or.inl rfl))) (z9 (e8 (i:=7) sc_Z20.nd rfl (Or.inl rfl) (u8 (i:=0) (λt ha=>qcl j hr ha) rfl (pv 0) (u7 (z0 (z6 4 (pv 4)) y0)) (i8 qal1))) (z9 (j7 (t7 N3 c8 (z6 3 (pv 3)) y4 (w6 _)) (y6 (v6 (i:=7) sc_Z20.nd rfl (Or.inl rfl) (f6 (z6 7 (pv 7)) (yg0 (z6 4 (pv 4)) y4)))) u0) (z9 (j7 (t7 N3 c8 (z6 3 (pv 3)) y4 (w6 _)) (y6 (v6 (i:=7) sc_Z20.nd rfl (Or.inl rfl) (f6 (zt5 (z6 7 (pv 7)) (zy0 y4 y4)) (zt5 (z6 4 (pv 4)) (zy0 y4 y4))))) u0) (z9 (j7 (t7 N3 c8 (z6 3 (pv 3)) y4 (w6 _)) (y6 (v6 (i:=7) sc_Z20.nd rfl (Or.inl rfl) (t8 (Z3 (m7 (z0 (z6 7 (pv 7)) (z0 (k9 (z6 4 (pv 4)) (z6 7 (pv 7))) y0)))) (E2 (z6 6 (pv 6)) y4)))) u0) (z9 (j7 (t7 N3 c8 (z6 3 (pv 3)) y4 (w6 _)) (y6 (v6 (i:=7) sc_Z20.nd rfl (Or.inl rfl) (k9 (z6 7 (pv 7)) (z6 6 (pv 6))))) u0) (z9 (j7 (t7 N3 c8 (z6 3 (pv 3)) y4 (w6 _)) (y6 (e8 (i:=7) sc_Z20.nd rfl (Or.inl rfl) (zi8 xm4 yg5 (xu4 rfl (yn5 Z) (k6 (xe7 N3 c8 (u8 (i:=0) (λt ha=>qcl j hr ha) rfl (pv 0) (u7 (z0 y4 y0)) (i8 qal1)) (t6 y4) (w6 _)) (u7 y0)) dr) (t6 (z6 7 (pv 7)))))) u0) (y6 (Z6 (i:=5) (pv 5) (z6 7 (pv 7)) (λt ha=>qap (pv 5) ha) (z0 (z6 7 (pv 7)) y0)))))))))) (y6 (yi1 0 5 (pv 5))))))))
abbrev xh9:Stmt:=top 24
noncomputable abbrev wd3:List Str:=["reel","row","some","apart"]
theorem sc_Z17:FnScope wd3 ["reel","row"] (y9 xh9):=qsc
theorem wr8(D:QDf K mg "_law_step" xh9 ["reel","row"])(j:xo2 P w K mg base)(Z:Zs mg):wk1 P w K mg base:=
 D.mk λf fd z=>z.okGl (k:=1) (m:=xp4) sc_Z17 aC λcdv A outer s H E hr=>(z9 (e8 (i:=2) sc_Z17.nd rfl (Or.inl rfl) (zp3 (k6 (t6 y4) (k6 (t6 y4) (k6 (zi8 (OpR.or yv0 zy3) zp9 (t6 y4) (u8 (i:=0) (λt ha=>qcl j hr ha) rfl (pv 0) (u7 (z0 y4 y0)) (i8 qal1))) (k6 (zi8 (OpR.or yv0 zy3) zp9 (t6 y4) (u8 (i:=0) (λt ha=>qcl j hr ha) rfl (pv 0) (u7 (z0 y4 y0)) (i8 qal1))) (u7 (z0 (zy0 y4 y4) (z0 (zy0 y4 y4) y0))))))))) (z9 (j7 (zt6 (zt7 hr.units) (y8 1 (pv 1)) (Z3 (m7 y0)) (w6 _)) (z9 (e8 (i:=3) sc_Z17.nd rfl (Or.inl rfl) (xe8 rfl (yr4 Z) (k6 (zi8 xm3 yg4 (L4 (t6 (z6 1 (pv 1))) (u8 (i:=0) (λt ha=>qcl j hr ha) rfl (pv 0) (u7 (z0 (u9 rfl (d7 Z) (y8 1 (pv 1))) y0)) (i8 qal1))) (L4 (t6 (z6 1 (pv 1))) (u8 (i:=0) (λt ha=>qcl j hr ha) rfl (pv 0) (u7 (z0 (u9 rfl (d7 Z) (y8 1 (pv 1))) y0)) (i8 qal1)))) (u7 y0)))) (y6 (v6 (i:=2) sc_Z17.nd rfl (Or.inl rfl) (Z7 (R7 (y8 2 (pv 2)) (Z3 (m7 (z0 (G5 rfl rfl (yr3 Z) (z0 y4 (z0 (z6 3 (pv 3)) y0))) (z0 (k9 (z6 3 (pv 3)) y4) y0))))))))) u0) (y6 (zp1 0 (L4 (t6 (z6 2 (pv 2))) (u8 (i:=0) (λt ha=>qcl j hr ha) rfl (pv 0) (u7 (z0 (u9 rfl (d7 Z) (y8 2 (pv 2))) y0)) (i8 qal1)))))))
abbrev xg0:Stmt:=top 25
noncomputable abbrev wd4:List Str:=["row","step","places","k","amid","apart"]
theorem sc_Z16:FnScope wd4 ["row","step","places"] (y9 xg0):=qsc
theorem wr9(D:QDf K mg "_law_wavy" xg0 ["row","step","places"])(Z:Zs mg):xo1 P w K mg base:=
 D.mk λf fd j=>j.okD (k:=0) (m:=wy0) sc_Z16 λcdv A outer s H E hr=>(z9 (e7 bw rfl (c9 rfl (a9 Z) (z0 y4 (z0 (u9 rfl (d7 Z) (y8 2 (pv 2))) y0))) (t5 (i:=3) (w4 sc_Z16.nd rfl (Or.inl rfl))) (z9 (v6 (i:=4) sc_Z16.nd rfl (Or.inl rfl) (t8 (y8 0 (pv 0)) (t8 (y8 2 (pv 2)) (f6 (z6 3 (pv 3)) y4)))) (z9 (v6 (i:=5) sc_Z16.nd rfl (Or.inl rfl) (f6 (t8 (y8 0 (pv 0)) (t8 (y8 2 (pv 2)) (z6 3 (pv 3)))) (z6 4 (pv 4)))) (z9 (j7 (t7 L6 X7 (zi9 rfl (yr4 Z) (z0 (z6 5 (pv 5)) y0)) (z6 1 (pv 1)) (w6 _)) (y6 (k5 D6)) u0) (y6 (j7 (pc_w (zp6 (t7 zb1 zy2 (z6 3 (pv 3)) y4 (w6 _)) (zq9 (t7 N3 c8 (L5 zb1 zy2 (z6 5 (pv 5)) y4 (w6 _)) (L5 zb1 zy2 (z6 4 (pv 4)) (t8 (y8 0 (pv 0)) (t8 (y8 2 (pv 2)) (f6 (z6 3 (pv 3)) y4))) (w6 _)) (w6 _))))) (y6 (k5 D6)) u0)))))) (y6 (k5 D6)))
abbrev yj0:Stmt:=top 26
noncomputable abbrev wx3:List Str:=["row","step","found","place","more"]
theorem sc_Z19:FnScope wx3 ["row","step"] (y9 yj0):=qsc
theorem zh5:List.Nodup (["one","place"]:List Str):=by decide +kernel
theorem zh4:List.Nodup (["one","row","step"]:List Str):=by decide +kernel
theorem wr6(D:QDf K mg "_law_all" yj0 ["row","step"])(j:xo1 P w K mg base)(Z:Zs mg):wk0 P w K mg base:=
 D.mk λf fd G=>G.okD (k:=1) (m:=wz8) sc_Z19 λcdv A outer s H E hr=>(z9 (v6 (i:=2) sc_Z19.nd rfl (Or.inl rfl) (Z7 (m7 (z0 (Z7 (m7 y0)) y0)))) (z9 (e7 bw rfl (V0 rfl (a9 Z) (z0 (u9 rfl (d7 Z) (y8 0 (pv 0))) y0)) (t5 (i:=3) (w4 sc_Z19.nd rfl (Or.inr rfl))) (z9 (zi3 (zc6 (i:=4) sc_Z19.nd rfl (Or.inl rfl) (U0 (N:=["one","place"]) (src:=[none,some 3]) (y9 yj0) wx3 rfl rfl aE) rfl (W1 (z6 2 (pv 2))) (λC fp z H0=>(t5 (i:=0) (w4 zh5 rfl (Or.inl rfl)))) (λC fp z H0=>P1) (λC fp z H0=>(Z7 (R7 (y8 0 (pv 0)) (Z3 (m7 (z0 (z6 1 (pv 1)) y0)))))))) (y6 (v6 (i:=2) sc_Z19.nd rfl (Or.inl rfl) (Z7 (R7 (y8 2 (pv 2)) (Z3 (W2 (U0 (N:=["one","row","step"]) (src:=[none,some 0,some 1]) (y9 yj0) wx3 rfl rfl aE) rfl (W1 (z6 4 (pv 4))) (λC fp z H0=>(t5 (i:=0) (w4 zh4 rfl (Or.inl rfl)))) (λC fp z H0=>(U5 (O2 (p0 (λt ha=>qcl j hr ha) rfl (z0 (z6 1 (pv 1)) (z0 (z6 2 (pv 2)) (z0 (Z7 (zw8 (y8 0 (pv 0)) (e9 (E1 y4)) U7)) y0))) qal3)))) (λC fp z H0=>(z6 0 (pv 0))))))))))) (y6 (C4 (yq6 hr.units rfl (yx3 Z) (y8 2 (pv 2)) PyProof.Rows.boot_sorted)))))
abbrev xh8:Stmt:=top 27
abbrev wd2:List Str:=["some","others","found","many","number"]
theorem sc_Z18:FnScope wd2 ["some","others"] (y9 xh8):=qsc
theorem wr7(D:QDf K mg "_law_put" xh8 ["some","others"])(Z:Zs mg):wx2 P w K mg base:=
 D.mk λf fd j=>j.okD (k:=0) (m:=wz9) sc_Z18 λcdv A outer s H E hr=>(z9 (c6 (i:=2) sc_Z18.nd rfl (Or.inl rfl) (R7 (y8 0 (pv 0)) (Z3 (yh4 (m7 (z0 y4 y0)) (f6 (k9 (u9 rfl (d7 Z) (y8 1 (pv 1))) y4) (u9 rfl (d7 Z) (y8 0 (pv 0)))))))) (z9 (e7 bw rfl (C5 rfl (U2 Z) (z0 (z6 1 (pv 1)) y0)) (U9 (is:=[3,4]) (L0 rfl (m9 (w4 (i:=3) sc_Z18.nd rfl (Or.inl rfl)) (m9 (w4 (i:=4) sc_Z18.nd rfl (Or.inl rfl)) U8)))) (y6 (R6 (i:=2) (M9 (k9 (t8 (y8 2 (pv 2)) (k9 (z6 3 (pv 3)) y4)) (z6 4 (pv 4))) (zz8 (pv 2) (k9 (z6 3 (pv 3)) y4) U4))))) (y6 (U6 2 (pv 2)))))
abbrev s_Z5:Stmt:=top 28
abbrev N_Z5:List Str:=["row","step","ends","found","place","number","own","j","kind","some","many"]
theorem sc_Z5:FnScope N_Z5 ["row","step"] (y9 s_Z5):=qsc
theorem wg4(D:QDf K mg "_law_counts" s_Z5 ["row","step"])(j:wx2 P w K mg base)(Z:Zs mg):T_Z5 P w K mg base:=
 D.mk λf fd z=>z.okD (k:=1) (m:=b_Z5) sc_Z5 λcdv A outer s H E hr=>(z9 (c6 (i:=2) sc_Z5.nd rfl (Or.inl rfl) (m7 y0)) (z9 (c6 (i:=3) sc_Z5.nd rfl (Or.inl rfl) (zw8 (Z3 (m7 (z0 y4 (z0 (u9 rfl (d7 Z) (y8 0 (pv 0))) y0)))) U7 (e9 (k9 y4 (u9 rfl (d7 Z) (y8 0 (pv 0))))))) (z9 (e7 bw rfl (C5 rfl (U2 Z) (z0 (z6 0 (pv 0)) y0)) (U9 (is:=[4,5]) (L0 rfl (m9 (w4 (i:=4) sc_Z5.nd rfl (Or.inl rfl)) (m9 (w4 (i:=5) sc_Z5.nd rfl (Or.inl rfl)) U8)))) (z9 (c6 (i:=6) sc_Z5.nd rfl (Or.inl rfl) (m7 (z0 (Z7 (m7 (z0 y4 (z0 y4 y0)))) (z0 (Z7 (m7 (z0 y4 (z0 y4 y0)))) y0)))) (z9 (e7 bw rfl (V0 rfl (a9 Z) (z0 (z6 4 (pv 4)) y0)) (t5 (i:=7) (w4 sc_Z5.nd rfl (Or.inl rfl))) (z9 (v6 (i:=8) sc_Z5.nd rfl (Or.inl rfl) (zp5 rfl (yn5 Z) (z0 (L5 D7 S6 (f6 (t8 (y8 0 (pv 0)) (z6 7 (pv 7))) (z6 5 (pv 5))) (z6 1 (pv 1)) (w6 _)) y0) dr)) (y6 (j7 (t7 D7 S6 (zi9 rfl (yr4 Z) (z0 (f6 (z6 5 (pv 5)) (t8 (y8 0 (pv 0)) (z6 7 (pv 7)))) y0)) (z6 1 (pv 1)) (w6 _)) (y6 (R6 (i:=6) (M9 (p0 (λt ha=>qcl j hr ha) rfl (z0 (t8 (y8 6 (pv 6)) (z6 8 (pv 8))) (z0 (t8 (zp4 (t8 (y8 2 (pv 2)) (z6 7 (pv 7)))) (f6 y4 (z6 8 (pv 8)))) y0)) qal2) (zz8 (pv 6) (z6 8 (pv 8)) U4)))) u0)))) (N2 6 (z9 (Z6 (i:=2) (pv 2) (z6 6 (pv 6)) (λt ha=>qap (pv 2) ha) (z0 (z6 6 (pv 6)) y0)) (y6 (e7 bw rfl (W1 (z6 6 (pv 6))) (t5 (i:=9) (w4 sc_Z5.nd rfl (Or.inl rfl))) (z9 (c6 (i:=3) sc_Z5.nd rfl (Or.inl rfl) (R7 (y8 3 (pv 3)) (Z3 (yh4 (m7 (z0 y4 y0)) (f6 (u9 rfl (d7 Z) (y8 9 (pv 9))) (u9 rfl (d7 Z) (y8 3 (pv 3)))))))) (y6 (e7 bw rfl (c9 rfl (a9 Z) (z0 y4 (z0 (u9 rfl (d7 Z) (y8 9 (pv 9))) y0))) (t5 (i:=10) (w4 sc_Z5.nd rfl (Or.inl rfl))) (y6 (R6 (i:=3) (M9 (k9 (t8 (y8 3 (pv 3)) (z6 10 (pv 10))) (t8 (y8 9 (pv 9)) (z6 10 (pv 10)))) (zz8 (pv 3) (z6 10 (pv 10)) U4)))))))))))))) (y6 (U6 3 (pv 3))))))
abbrev C1:Stmt:=top 29
noncomputable abbrev yr0:List Str:=["row","step","found","place","other","kind"]
theorem sc_law_on:FnScope yr0 ["row","step"] (y9 C1):=qsc
theorem zb3:List.Nodup (["number"]:List Str):=by decide +kernel
theorem yg8(D:QDf K mg "_law_on" C1 ["row","step"])(j:wx2 P w K mg base)(Z:Zs mg):ys9 P w K mg base:=
 D.mk λf fd G=>(G.okW (k:=1) (m:=B8) sc_law_on λcdv A outer s H E hr=>(yj8 (zc6 (i:=2) sc_law_on.nd rfl (Or.inl rfl) (U0 (N:=["number"]) (src:=[none]) (y9 C1) yr0 rfl rfl aE) rfl (W1 (z6 0 (pv 0))) (λC fp z H0=>(t5 (i:=0) (w4 zb3 rfl (Or.inl rfl)))) (λC fp z H0=>P1) (λC fp z H0=>(m7 y0))) (zz7 (yj7 bw rfl (yq5 rfl (a9 Z) (z0 (f6 (u9 rfl (d7 Z) (y8 0 (pv 0))) y4) (z0 (E1 y4) (z0 (E1 y4) y0)))) (t5 (i:=3) (w4 sc_law_on.nd rfl (Or.inl rfl))) (zz7 (yq4 (M9 (m7 (z0 (Z7 (m7 (z0 y4 (z0 y4 y0)))) (z0 (Z7 (m7 (z0 y4 (z0 y4 y0)))) y0))) (zz8 (pv 2) (z6 3 (pv 3)) U4))) (C3 (yj7 bw rfl (c9 rfl (a9 Z) (z0 (k9 (z6 3 (pv 3)) y4) (z0 (u9 rfl (d7 Z) (y8 0 (pv 0))) y0))) (t5 (i:=4) (w4 sc_law_on.nd rfl (Or.inl rfl))) (zz7 (psw (v6 (i:=5) sc_law_on.nd rfl (Or.inl rfl) (zp5 rfl (yn5 Z) (z0 (L5 D7 S6 (f6 (t8 (y8 0 (pv 0)) (z6 3 (pv 3))) (t8 (y8 0 (pv 0)) (z6 4 (pv 4)))) (z6 1 (pv 1)) (w6 _)) y0) dr))) (C3 (wt1 (pcw (t7 D7 S6 (zi9 rfl (yr4 Z) (z0 (f6 (t8 (y8 0 (pv 0)) (z6 4 (pv 4))) (t8 (y8 0 (pv 0)) (z6 3 (pv 3)))) y0)) (z6 1 (pv 1)) (w6 _))) (C3 (xv2 (M9 (yh6 (zp2 (λt ha=>qcl j hr ha) rfl (z0 (t8 (zp4 (t8 (y8 2 (pv 2)) (z6 3 (pv 3)))) (z6 5 (pv 5))) (z0 (t8 (zp4 (t8 (y8 2 (pv 2)) (z6 4 (pv 4)))) (f6 y4 (z6 5 (pv 5)))) y0)) qal2)) (zz8 (xu2 za8 (pv 2) (z6 3 (pv 3)) (λ_ _=>rfl)) (z6 5 (pv 5)) U4)))) xv3))))))) (zi1 2 (C3 (xf3 (zt4 (pdw (z6 2 (pv 2)))))))))).plainW
abbrev xh6:Stmt:=top 30
abbrev wd0:List Str:=["some","many"]
theorem wv9:FnScope wd0 ["some","many"] (y9 xh6):=qsc
theorem wr4(D:QDf K mg "_law_of" xh6 ["some","many"]):wm8 P w K mg base:=
 D.mk λf fd j=>j.okD (k:=0) (m:=wz7) wv9 λcdv A outer s H E hr=>(y6 (k5 (t8 (Z3 (R7 (Z3 (zw8 (y8 0 (pv 0)) (e9 (z6 1 (pv 1))) (e9 (k9 (z6 1 (pv 1)) y4)))) (Z3 (m7 (z0 y4 y0))))) y4)))
abbrev s_Z4:Stmt:=top 31
noncomputable abbrev N_Z4:List Str:=["row","step","on","one","k","left","found","place","some"]
theorem sc_Z4:FnScope N_Z4 ["row","step","on","one","k"] (y9 s_Z4):=qsc
theorem wg5(D:QDf K mg "_law_before" s_Z4 ["row","step","on","one","k"])(j:wm8 P w K mg base)(z:xo1 P w K mg base)(Z:Zs mg):T_Z4 P w K mg base:=
 D.mk λf fd G=>G.okD (k:=1) (m:=b_Z4) sc_Z4 λcdv A outer s H E hr=>(z9 (v6 (i:=5) sc_Z4.nd rfl (Or.inl rfl) (f6 (u9 rfl (d7 Z) (y8 3 (pv 3))) (z6 4 (pv 4)))) (z9 (v6 (i:=6) sc_Z4.nd rfl (Or.inl rfl) y4) (z9 (e7 bw rfl (c9 rfl (a9 Z) (z0 (k9 (t8 (Z3 (R7 (Z3 (m7 (z0 (E1 y4) y0))) (y8 3 (pv 3)))) (z6 4 (pv 4))) y4) (z0 (t8 (y8 3 (pv 3)) (z6 4 (pv 4))) y0))) (t5 (i:=7) (w4 sc_Z4.nd rfl (Or.inl rfl))) (y6 (j7 (pc_w (zp6 (t7 N3 c8 (z6 4 (pv 4)) y4 (w6 _)) (zq9 (t7 N3 c8 (z6 5 (pv 5)) y4 (w6 _))))) (y6 (v6 (i:=6) sc_Z4.nd rfl (Or.inl rfl) (k9 (z6 6 (pv 6)) y4))) (y6 (j7 (t7 N3 c8 (z6 4 (pv 4)) y4 (w6 _)) (z9 (v6 (i:=6) sc_Z4.nd rfl (Or.inl rfl) (k9 (z6 6 (pv 6)) (p0 (λt ha=>qcl j hr ha) rfl (z0 (t8 (zp4 (t8 (y8 2 (pv 2)) (z6 7 (pv 7)))) y4) (z0 (z6 5 (pv 5)) y0)) qal2))) (y6 (v6 (i:=6) sc_Z4.nd rfl (Or.inl rfl) (k9 (z6 6 (pv 6)) (p0 (λt ha=>qcl j hr ha) rfl (z0 (t8 (zp4 (t8 (y8 2 (pv 2)) (z6 7 (pv 7)))) y4) (z0 (z6 5 (pv 5)) y0)) qal2))))) (y6 (j7 (O2 (p0 (λt ha=>qcl z hr ha) rfl (z0 (z6 0 (pv 0)) (z0 (z6 1 (pv 1)) (z0 (Z7 (R7 (Z3 (zw8 (y8 3 (pv 3)) (e9 (G5 rfl rfl (yr3 Z) (z0 y4 (z0 (f6 (z6 4 (pv 4)) y4) y0)))) (e9 (z6 4 (pv 4))))) (Z3 (m7 (z0 (z6 7 (pv 7)) y0))))) y0))) qal3)) (z9 (v6 (i:=8) sc_Z4.nd rfl (Or.inl rfl) (t8 (zp4 (t8 (y8 2 (pv 2)) (z6 7 (pv 7)))) (zp5 rfl (yn5 Z) (z0 (L5 zb1 zy2 (t8 (y8 0 (pv 0)) (z6 7 (pv 7))) (t8 (y8 0 (pv 0)) (t8 (y8 3 (pv 3)) (f6 (z6 4 (pv 4)) y4))) (w6 _)) y0) dr))) (y6 (v6 (i:=6) sc_Z4.nd rfl (Or.inl rfl) (k9 (z6 6 (pv 6)) (p0 (λt ha=>qcl j hr ha) rfl (z0 (z6 8 (pv 8)) (z0 (z6 5 (pv 5)) y0)) qal2))))) u0))))))) (y6 (U6 6 (pv 6))))))
abbrev xg2:Stmt:=top 32
noncomputable abbrev wd6:List Str:=["row","step","on","one","found","k"]
theorem sc_Z12:FnScope wd6 ["row","step","on","one"] (y9 xg2):=qsc
theorem wq3(D:QDf K mg "_law_rank" xg2 ["row","step","on","one"])(j:T_Z4 P w K mg base)(Z:Zs mg):wk5 P w K mg base:=
 D.mk λf fd z=>z.okD (k:=2) (m:=wy4) sc_Z12 λcdv A outer s H E hr=>(z9 (v6 (i:=4) sc_Z12.nd rfl (Or.inl rfl) y4) (z9 (e7 bw rfl (V0 rfl (a9 Z) (z0 (u9 rfl (d7 Z) (y8 3 (pv 3))) y0)) (t5 (i:=5) (w4 sc_Z12.nd rfl (Or.inl rfl))) (y6 (v6 (i:=4) sc_Z12.nd rfl (Or.inl rfl) (k9 (z6 4 (pv 4)) (p0 (λt ha=>qcl j hr ha) rfl (z0 (z6 0 (pv 0)) (z0 (z6 1 (pv 1)) (z0 (z6 2 (pv 2)) (z0 (z6 3 (pv 3)) (z0 (z6 5 (pv 5)) y0 se_n) se_n) se_n) se_n) se_n) qal5))))) (y6 (U6 4 (pv 4)))))
abbrev s_Z8:Stmt:=top 33
noncomputable abbrev N_Z8:List Str:=["row","step","places","number","found","by"]
theorem sc_Z8:FnScope N_Z8 ["row","step","places","number","found"] (y9 s_Z8):=qsc
theorem zv0:List.Nodup (["place"]:List Str):=by decide +kernel
theorem zw9:List.Nodup (["one","places"]:List Str):=by decide +kernel
theorem wg1(D:QDf K mg "_law_right" s_Z8 ["row","step","places","number","found"])(z:wk0 P w K mg base)(Y:T_Z5 P w K mg base)(j:ys9 P w K mg base)(O:wk5 P w K mg base)(G:xo1 P w K mg base)(Z:Zs mg):T_Z8 P w K mg base:=
 D.mk λf fd Fn=>Fn.okD (k:=3) (m:=b_Z8) sc_Z8 λcdv A outer s H E hr=>(z9 (v6 (i:=5) sc_Z8.nd rfl (Or.inl rfl) (p0 (λt ha=>qcl Y hr ha) rfl (z0 (z6 0 (pv 0)) (z0 (z6 1 (pv 1)) y0)) qal2)) (z9 (j7 (pc_w (O1 (t7 D7 S6 (z6 2 (pv 2)) (u9 rfl (d7 Z) (y8 5 (pv 5))) (w6 _)) (O0 (t7 zb1 zy2 (z6 3 (pv 3)) (t8 (y8 5 (pv 5)) (z6 2 (pv 2))) (w6 _))))) (y6 (k5 (L5 ws9 xd7 (z6 4 (pv 4)) yh8 (w6 _)))) u0) (z9 (j7 (pc_w (O1 (zh0 (O2 (xm1 (C:="list") rfl (F7 Z) rfl (yn4 Z) PyProof.Rows.boot_list (z6 4 (pv 4))))) (O0 (zt6 (zt7 hr.units) (Z3 (W2 (U0 (N:=["place"]) (src:=[none]) (y9 s_Z8) N_Z8 rfl rfl aE) rfl (W1 (z6 4 (pv 4))) (λC fp U H0=>(t5 (i:=0) (w4 zv0 rfl (Or.inl rfl)))) (λC fp U H0=>(U5 (O2 (xm1 (C:="bool") rfl (F7 Z) rfl (wx8 Z) PyProof.Rows.boot_bool (z6 0 (pv 0)))))) (λC fp U H0=>(z6 0 (pv 0))))) (Z3 (m7 y0)) (w6 _))))) (y6 (k5 D6)) u0) (z9 (j7 (pc_w (O1 (t7 wh7 xd3 (u9 rfl (d7 Z) (y8 4 (pv 4))) (z6 2 (pv 2)) (w6 _)) (O0 (zt6 (zt7 hr.units) (y8 4 (pv 4)) (Z3 (zc7 rfl rfl (yx3 Z) rfl (wj5 Z) (y8 4 (pv 4)) PyProof.Rows.boot_sorted PyProof.Rows.boot_set)) (w6 _))))) (y6 (k5 D6)) u0) (z9 (j7 (pc_w (O1 (pc_w (zp6 (zt6 (zt7 hr.units) (y8 4 (pv 4)) (Z3 (m7 y0)) (w6 _)) (zq9 (pc_w (O1 (t7 L6 X7 (t8 (y8 4 (pv 4)) y4) y4 (w6 _)) (O0 (t7 D7 S6 (t8 (y8 4 (pv 4)) (E1 y4)) (u9 rfl (d7 Z) (y8 0 (pv 0))) (w6 _)))))))) (O0 (zh0 (O2 (p0 (λt ha=>qcl G hr ha) rfl (z0 (z6 0 (pv 0)) (z0 (z6 1 (pv 1)) (z0 (z6 4 (pv 4)) y0))) qal3)))))) (y6 (k5 D6)) u0) (z9 (j7 (t7 L6 X7 (u9 rfl (d7 Z) (y8 0 (pv 0))) y4 (w6 _)) (y6 (k5 (ws1 (wr0 hr.units) (y8 4 (pv 4)) (zp4 (t8 (Z3 (W2 (U0 (N:=["one","places"]) (src:=[none,some 2]) (y9 s_Z8) N_Z8 rfl rfl aE) rfl (W1 (p0 (λt ha=>qcl z hr ha) rfl (z0 (z6 0 (pv 0)) (z0 (z6 1 (pv 1)) y0)) qal2)) (λC fp U H0=>(t5 (i:=0) (w4 zw9 rfl (Or.inl rfl)))) (λC fp U H0=>(U5 (t7 N3 c8 (u9 rfl (d7 Z) (y8 0 (pv 0))) (z6 1 (pv 1)) (w6 _)))) (λC fp U H0=>(z6 0 (pv 0))))) (f6 (z6 3 (pv 3)) y4))) (w6 _)))) u0) (y6 (k5 (L5 N3 c8 (p0 (λt ha=>qcl O hr ha) rfl (z0 (z6 0 (pv 0)) (z0 (z6 1 (pv 1)) (z0 (p0 (λt ha=>qcl j hr ha) rfl (z0 (z6 0 (pv 0)) (z0 (z6 1 (pv 1)) y0)) qal2) (z0 (z6 4 (pv 4)) y0 se_n)) se_n) se_n) qal4) (z6 3 (pv 3)) (w6 _))))))))))
abbrev yq3:Stmt:=top 34
abbrev we7:List Str:=["script","k","cell","reel","wide","row","step","by","most","turn","places","there","number","handed","found","kept"]
theorem sc_Z24:FnScope we7 ["script"] (y9 yq3):=qsc
theorem wr1(Fn:Fun K "law" "law" yq3 f fd)(Y:T_Z5 P w K mg base)(O:wk3 P w K mg base)(U:T_Z8 P w K mg base)(G:wm9 P w K mg base)(N:wk1 P w K mg base)(j:xo2 P w K mg base)(z:T_Z7 P w K mg base)(Z:Zs mg):FnOk P w K mg base CX0 7 f fd ["script"] (spR K 1 za0):=
 Fn.okD (k:=6) (m:=wz5) sc_Z24 λcdv A outer s H E hr=>(z9 (e7 bw rfl (C5 rfl (U2 Z) (z0 (Z7 (R7 (Z3 (zw8 (y8 0 (pv 0)) U7 (e9 y4))) (Z3 (m7 (z0 (u9 rfl (d7 Z) (y8 0 (pv 0))) y0))))) y0)) (U9 (is:=[1,2]) (L0 rfl (m9 (w4 (i:=1) sc_Z24.nd rfl (Or.inl rfl)) (m9 (w4 (i:=2) sc_Z24.nd rfl (Or.inl rfl)) U8)))) (z9 (c6 (i:=3) sc_Z24.nd rfl (Or.inl rfl) (zp2 (λt ha=>qcl O hr ha) rfl (z0 (z6 2 (pv 2)) y0) qal1)) (z9 (e8 (i:=4) sc_Z24.nd rfl (Or.inl rfl) (L4 (t6 (Z7 (m7 (z0 y4 (z0 y4 y0))))) (u8 (i:=3) (λt ha=>qcl j hr ha) rfl (pv 3) (u7 (z0 y4 y0)) (i8 qal1)))) (z9 (xf5 (wh4 (xf0 (xu6 (t7 N3 c8 (z6 1 (pv 1)) y4 (w6 _))) (xw8 (xe9 N3 c8 (u8 (i:=3) (λt ha=>qcl j hr ha) rfl (pv 3) (u7 (z0 y4 y0)) (i8 qal1)) (t6 y4) (w6 _))))) (y6 (e8 (i:=4) sc_Z24.nd rfl (Or.inl rfl) (L4 (t6 (Z7 (m7 (z0 y4 (z0 y4 (z0 y4 (z0 y4 y0 se_c) se_c) se_c) se_c)))) (u8 (i:=3) (λt ha=>qcl j hr ha) rfl (pv 3) (u7 (z0 y4 y0)) (i8 qal1))))) u0) (z9 (e8 (i:=5) sc_Z24.nd rfl (Or.inl rfl) (u8 (i:=3) (λt ha=>qcl G hr ha) rfl (pv 3) (u7 (z0 (z6 4 (pv 4)) y0)) (i8 qal1))) (z9 (e8 (i:=6) sc_Z24.nd rfl (Or.inl rfl) (u8 (i:=3) (λt ha=>qcl N hr ha) rfl (pv 3) (u7 (z0 (z6 5 (pv 5)) y0)) (i8 qal1))) (z9 (v6 (i:=7) sc_Z24.nd rfl (Or.inl rfl) (p0 (λt ha=>qcl Y hr ha) rfl (z0 (z6 5 (pv 5)) (z0 (z6 6 (pv 6)) y0)) qal2)) (z9 (v6 (i:=8) sc_Z24.nd rfl (Or.inl rfl) (f6 (u9 rfl (d7 Z) (y8 7 (pv 7))) y4)) (y6 (e7 bw rfl (V0 rfl (a9 Z) (z0 (t8 (Z3 (m7 (z0 y4 (z0 y4 y0)))) (zp5 rfl (yn5 Z) (z0 (L5 zb1 zy2 (z6 4 (pv 4)) y4 (w6 _)) y0) dr)) y0)) (t5 (i:=9) (w4 sc_Z24.nd rfl (Or.inl rfl))) (z9 (e8 (i:=10) sc_Z24.nd rfl (Or.inl rfl) (L4 (zp3 (k6 (t6 y4) (k6 (t6 y4) (k6 (t6 y4) (k6 (t6 (z6 8 (pv 8))) (k6 (t6 (k9 (z6 8 (pv 8)) y4)) (k6 (u8 (i:=3) (λt ha=>qcl j hr ha) rfl (pv 3) (u7 (z0 (k9 (z6 8 (pv 8)) y4) y0)) (i8 qal1)) (u7 (z0 (zy0 y4 y4) y0))))))))) (u8 (i:=3) (λt ha=>qcl j hr ha) rfl (pv 3) (u7 (z0 y4 y0)) (i8 qal1)))) (z9 (v6 (i:=11) sc_Z24.nd rfl (Or.inl rfl) (t8 (Z3 (R7 (Z3 (zw8 (y8 7 (pv 7)) (e9 (z6 10 (pv 10))) (e9 (k9 (z6 10 (pv 10)) y4)))) (Z3 (m7 (z0 y4 y0))))) y4)) (z9 (e8 (i:=12) sc_Z24.nd rfl (Or.inl rfl) (L4 (zp3 (k6 (t6 y4) (k6 (t6 (G5 rfl rfl (yr3 Z) (z0 y4 (z0 (z6 11 (pv 11)) y0)))) (k6 (t6 (k9 (z6 11 (pv 11)) y4)) (k6 (zi8 (OpR.or yv0 zy3) zp9 (t6 y4) (u8 (i:=3) (λt ha=>qcl j hr ha) rfl (pv 3) (u7 (z0 (G5 rfl rfl (yr3 Z) (z0 y4 (z0 (z6 11 (pv 11)) y0))) y0)) (i8 qal1))) (u7 (z0 (zy0 y4 y4) y0))))))) (u8 (i:=3) (λt ha=>qcl j hr ha) rfl (pv 3) (u7 (z0 y4 y0)) (i8 qal1)))) (z9 (v6 (i:=13) sc_Z24.nd rfl (Or.inl rfl) (Z7 (yh5 rfl (yn4 Z) (y8 5 (pv 5)) PyProof.Rows.boot_list))) (z9 (yi0 (i:=14) sc_Z24.nd rfl (Or.inl rfl) (λt ha=>qcl z hr ha) rfl (z0 (z6 13 (pv 13)) (z0 (z6 6 (pv 6)) (z0 (z6 10 (pv 10)) (z0 (z6 12 (pv 12)) y0 se_n) se_n) se_n) se_n) qal4) (z9 (j7 (pc_w (O1 (zh0 (O2 (zb0 14 (p0 (λt ha=>qcl U hr ha) rfl (z0 (z6 5 (pv 5)) (z0 (z6 6 (pv 6)) (z0 (z6 10 (pv 10)) (z0 (z6 12 (pv 12)) (z0 (z6 14 (pv 14)) y0 se_n) se_n) se_n) se_n) se_n) qal5)))) (O0 (zt6 (zt7 hr.units) (y8 13 (pv 13)) (y8 5 (pv 5)) (w6 _))))) (y6 (k5 D6)) u0) (y6 (j7 (xd0 14 (t7 xd8 xu9 (z6 14 (pv 14)) yh8 (w6 _))) (z9 (v6 (i:=15) sc_Z24.nd rfl (Or.inl rfl) (Z7 (yh5 rfl (yn4 Z) (y8 14 (pv 14)) PyProof.Rows.boot_list))) (z9 (Z6 (i:=14) (pv 14) y4 (λt ha=>qap (pv 14) ha) (z0 y4 y0)) (y6 (j7 (zt6 (zt7 hr.units) (zp4 (p0 (λt ha=>qcl z hr ha) rfl (z0 (z6 13 (pv 13)) (z0 (z6 6 (pv 6)) (z0 (z6 10 (pv 10)) (z0 (z6 12 (pv 12)) y0 se_n) se_n) se_n) se_n) qal4)) (y8 15 (pv 15)) (w6 _)) (y6 (k5 D6)) u0)))) u0)))))))))))))))))) (y6 (k5 D6)))
theorem all_mk{l:W.OpenLaw}{h:Heap}{fa:Addr}(X:K.In h)(G:h.Ns mainGlobals mg)(ak:mg "law"=some (.ref fa))(d_Z3:QDn K "refuse_step" s_Z3)(d_Z2:QDn K "later_steps" s_Z2)(d_Z6:QDn K "are_places" s_Z6)(d_Z11:QDn K "turns_of" xg3)(d_Z1:QDn K "go_by_turns" s_Z1)(d_Z13:QDn K "are_wavy" xx9)(d_Z15:QDn K "added_up" yj1)(d_Z9:QDn K "layers_of" s_Z9)(d_Z23:QDn K "ways" xh4)(d_Z22:QDn K "picked" xh5)(d_Z0:QDn K "how_many_picked" s_Z0)(d_Z7:QDn K "so_manieth" s_Z7)(d_Z14:QDn K "_law_reel" xg1)(d_Z10:QDn K "_law_take" xg4)(d_Z20:QDn K "_law_row" xh7)(d_Z17:QDn K "_law_step" xh9)(d_Z16:QDn K "_law_wavy" xg0)(d_Z19:QDn K "_law_all" yj0)(d_Z18:QDn K "_law_put" xh8)(d_Z5:QDn K "_law_counts" s_Z5)(d_law_on:QDn K "_law_on" C1)(d_Z21:QDn K "_law_of" xh6)(d_Z4:QDn K "_law_before" s_Z4)(d_Z12:QDn K "_law_rank" xg2)(d_Z8:QDn K "_law_right" s_Z8)(d_Z24:QDn K "law" yq3)(y_abs:W.nsIn K mainGlobals "abs"=some none)(y_any:W.nsIn K mainGlobals "any"=some none)(y_bool:W.nsIn K mainGlobals "bool"=some none)(y_enumerate:W.nsIn K mainGlobals "enumerate"=some none)(y_int:W.nsIn K mainGlobals "int"=some none)(y_isinstance:W.nsIn K mainGlobals "isinstance"=some none)(y_len:W.nsIn K mainGlobals "len"=some none)(y_list:W.nsIn K mainGlobals "list"=some none)(y_max:W.nsIn K mainGlobals "max"=some none)(y_min:W.nsIn K mainGlobals "min"=some none)(y_range:W.nsIn K mainGlobals "range"=some none)(y_reversed:W.nsIn K mainGlobals "reversed"=some none)(y_set:W.nsIn K mainGlobals "set"=some none)(y_sorted:W.nsIn K mainGlobals "sorted"=some none)(y_sum:W.nsIn K mainGlobals "sum"=some none)(y_zip:W.nsIn K mainGlobals "zip"=some none):
  ∃fd:FuncData,(∀(s:Shared)(v:Value),BindsTo s fd ⟨[v],[]⟩ [("script",v)])/\∀base:Heap,K.In base->base.Ns mainGlobals mg->FnOk l.prog w K mg base CX0 7 fa fd ["script"] (spR K 1 za0):=by
 obtain⟨x,e,oc,o1,kV,dc,pm,o2,cd,ct,sl,l',c,k⟩:=d_Z24;have e:=ak.symm.trans (W.mg_of X G e);cases e;have Z:Zs mg:=⟨bZ X G y_abs,bZ X G y_any,bZ X G y_bool,bZ X G y_enumerate,bZ X G y_int,bZ X G y_isinstance,bZ X G y_len,bZ X G y_list,bZ X G y_max,bZ X G y_min,bZ X G y_range,bZ X G y_reversed,bZ X G y_set,bZ X G y_sorted,bZ X G y_sum,bZ X G y_zip,True.intro⟩;refine⟨W.fnOf "law" "law" (T9 yq3) (Y0 yq3) (y9 yq3) .none kV dc pm o2 cd ct,λs v=>.of_eq rfl,λbase _ _=>?_⟩;have Y:=wg6 (P:=l.prog) (w:=w) (mg:=mg) (base:=base) (d_Z3.df X G (qbd1 λ_ _ _ _ _ _ _=>rfl));have ah:=wg7 (P:=l.prog) (w:=w) (mg:=mg) (base:=base) (d_Z2.df X G (qbd2 λ_ _ _ _ _ _ _ _=>rfl)) Z;have af:=wg3 (P:=l.prog) (w:=w) (mg:=mg) (base:=base) (d_Z6.df X G (qbd2 λ_ _ _ _ _ _ _ _=>rfl)) Z;have ab:=wq4 (P:=l.prog) (w:=w) (mg:=mg) (base:=base) (d_Z11.df X G (qbd1 λ_ _ _ _ _ _ _=>rfl)) Z;have ai:=wg8 (P:=l.prog) (w:=w) (mg:=mg) (base:=base) (d_Z1.df X G (qbd2 λ_ _ _ _ _ _ _ _=>rfl)) ab Z;have a9:=wq2 (P:=l.prog) (w:=w) (mg:=mg) (base:=base) (d_Z13.df X G (qbd3 λ_ _ _ _ _ _ _ _ _=>rfl)) af ai Y;have a7:=wq0 (P:=l.prog) (w:=w) (mg:=mg) (base:=base) (d_Z15.df X G (qbd2 λ_ _ _ _ _ _ _ _=>rfl)) Z;have ac:=wg0 (P:=l.prog) (w:=w) (mg:=mg) (base:=base) (d_Z9.df X G (qbd3 λ_ _ _ _ _ _ _ _ _=>rfl)) a7 ah Z;have a1:=wr2 (P:=l.prog) (w:=w) (mg:=mg) (base:=base) (d_Z23.df X G (qbd5 λ_ _ _ _ _ _ _ _ _ _ _=>rfl)) a9;have a2:=wr3 (P:=l.prog) (w:=w) (mg:=mg) (base:=base) (d_Z22.df X G (qbd4 λ_ _ _ _ _ _ _ _ _ _=>rfl)) a1 Z;have aj:=wg9 (P:=l.prog) (w:=w) (mg:=mg) (base:=base) (d_Z0.df X G (qbd1 λ_ _ _ _ _ _ _=>rfl)) Z;have ae:=wg2 (P:=l.prog) (w:=w) (mg:=mg) (base:=base) (d_Z7.df X G (qbd4 λ_ _ _ _ _ _ _ _ _ _=>rfl)) aj ac a2 Y Z;have a8:=wq1 (P:=l.prog) (w:=w) (mg:=mg) (base:=base) (d_Z14.df X G (qbd1 λ_ _ _ _ _ _ _=>rfl)) Z;have z:=wq5 (P:=l.prog) (w:=w) (mg:=mg) (base:=base) (d_Z10.df X G (qbd2 λ_ _ _ _ _ _ _ _=>rfl));have a4:=wr5 (P:=l.prog) (w:=w) (mg:=mg) (base:=base) (d_Z20.df X G (qbd2 λ_ _ _ _ _ _ _ _=>rfl)) z Z;have a6:=wr8 (P:=l.prog) (w:=w) (mg:=mg) (base:=base) (d_Z17.df X G (qbd2 λ_ _ _ _ _ _ _ _=>rfl)) z Z;have j:=wr9 (P:=l.prog) (w:=w) (mg:=mg) (base:=base) (d_Z16.df X G (qbd3 λ_ _ _ _ _ _ _ _ _=>rfl)) Z;have a5:=wr6 (P:=l.prog) (w:=w) (mg:=mg) (base:=base) (d_Z19.df X G (qbd2 λ_ _ _ _ _ _ _ _=>rfl)) j Z;have O:=wr7 (P:=l.prog) (w:=w) (mg:=mg) (base:=base) (d_Z18.df X G (qbd2 λ_ _ _ _ _ _ _ _=>rfl)) Z;have U:=wg4 (P:=l.prog) (w:=w) (mg:=mg) (base:=base) (d_Z5.df X G (qbd2 λ_ _ _ _ _ _ _ _=>rfl)) O Z;have N:=yg8 (P:=l.prog) (w:=w) (mg:=mg) (base:=base) (d_law_on.df X G (qbd2 λ_ _ _ _ _ _ _ _=>rfl)) O Z;have a3:=wr4 (P:=l.prog) (w:=w) (mg:=mg) (base:=base) (d_Z21.df X G (qbd2 λ_ _ _ _ _ _ _ _=>rfl));have ag:=wg5 (P:=l.prog) (w:=w) (mg:=mg) (base:=base) (d_Z4.df X G (qbd5 λ_ _ _ _ _ _ _ _ _ _ _=>rfl)) a3 j Z;have aa:=wq3 (P:=l.prog) (w:=w) (mg:=mg) (base:=base) (d_Z12.df X G (qbd4 λ_ _ _ _ _ _ _ _ _ _=>rfl)) ag Z;have ad:=wg1 (P:=l.prog) (w:=w) (mg:=mg) (base:=base) (d_Z8.df X G (qbd5 λ_ _ _ _ _ _ _ _ _ _ _=>rfl)) a5 U N aa j Z;exact wr1 (yc0 l' c k) U a8 ad a4 a6 z ae Z
theorem walk{l:W.OpenLaw}{q:Program}{j:List Str}{XP:(Str->Option Value)->Heap->Prop}{U:World->Heap->Prop}{d:DefRec}{K:Params->W.Frag}(hn:l.most=some 63)(N:d.params.defaults=[])
  (G:∀ns:List Int,ns.length<=63->za0 [.lst (ns.map .int)]=some (.sh (.bl true)))
  (Z:∀(w:World)(h:Heap),U w h->(K w.params).In h)
  (F:∀(w:World)(mg:Str->Option Value)(O:Addr)(h:Heap),(K w.params).In h->h.Ns mainGlobals mg->mg d.name=some (.ref O)->
   ∃fd:FuncData,(∀(s:Shared)(u:Value),BindsTo s fd ⟨[u],[]⟩ [("script",u)])/\∀base:Heap,(K w.params).In base->base.Ns mainGlobals mg->FnOk l.prog w (K w.params) mg base CX0 7 O fd ["script"] (spR (K w.params) 1 za0)):
  W.WalkO q j XP U l.row.toRowW d [] (λf vs=>PySem.call f vs):=
 L2.walk_of (n:=63) (k:=7) (x:="script") (CX:=λ_=>CX0) (sp:=λw=>spR (K w.params) 1 za0) hn aC N ⟨rfl,by decide,by decide⟩ Z F (λw H a ns Y _ hS=>wv7 G H a ns Y hS _) λ_ _ _ _ _ z=>z
end
end Lw
open PySem PySem.W PyProof.Rows L2
set_option maxRecDepth 100000 in
set_option maxHeartbeats 0 in
theorem PySem.Challenge.cw_wavyrow_k21_so_manieth_lists_holds : PySem.Challenge.rw_wavyrow_k21_so_manieth_lists.Holds := by
 w_on;o_law;k_head;(case hw=>w_witness2)
 k_fill
 refine Lw.walk (l:=PySem.Challenge.rw_wavyrow_k21_so_manieth_lists) rfl rfl Lw.law_true (λw h Y=>PySem.W.kIn_of Y) ?F
 case F=>
  intro w mg fa h KX G hmg;refine' Lw.all_mk KX G hmg  ?d_Z3 ?d_Z2 ?d_Z6 ?d_Z11 ?d_Z1 ?d_Z13 ?d_Z15 ?d_Z9 ?d_Z23 ?d_Z22 ?d_Z0 ?d_Z7 ?d_Z14 ?d_Z10 ?d_Z20 ?d_Z17 ?d_Z16 ?d_Z19 ?d_Z18 ?d_Z5 ?d_law_on ?d_Z21 ?d_Z4 ?d_Z12 ?d_Z8 ?d_Z24    ?y_abs ?y_any ?y_bool ?y_enumerate ?y_int ?y_isinstance ?y_len ?y_list ?y_max ?y_min ?y_range ?y_reversed ?y_set ?y_sorted ?y_sum ?y_zip
  all_goals first| (refine' QDn.of ?e ?l ?c ?k;(case e=>k_is);(case l=>k_is);(case c=>k_is);(case k=>k_is))| (refine' QMn.of ?e ?i ?l ?c ?k;(case e=>k_is);(case i=>k_is);(case l=>k_is);(case c=>k_is);(case k=>k_is))|k_is|skip
