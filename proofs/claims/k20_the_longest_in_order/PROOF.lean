import PyProof.Rows.All
import Wide.All
import OpenK.AllK
import Wide.FinOn
import Lean
import PyProof.EqAt
import PyProof.EqKinds
import PyProof.TupleCall
import PyProof.NeKinds
import KE.IntBitsLaws
import PyProof.FitsBits
import PySem.Challenge.RW_wavyrow_k20_the_longest_in_order
namespace PySem.W.Fast
theorem te14582995142463967449 : True := True.intro
noncomputable def tw13447965156110507722 := PySem.Challenge.pw_wavyrow_k20_the_longest_in_order
theorem te13447965156110507722 : PySem.Challenge.pw_wavyrow_k20_the_longest_in_order = tw13447965156110507722 := rfl
def tw17996505530144613667:=0
def tw8446394920699335175:=0
def tw3836721167222876718:=0
def tw4986613385365937200:=0
def tw9687757966126660784:=0
def tw5680720716244242289:=0
def tw10644181238636042387:=0
def tw7728467919725126740:=0
def tw5557088408974968244:=0
def tw14264741050169198202:=0
def tw3809776920305721474:=0
def tw9667323761448904231:=0
def tw13732288376425085865:=0
def tw68163229407853710:=0
def tw1913861339958480047:=0
def tw5345261067154253808:=0
def tw17595335279205068095:=0
def tw17859691963548058098:=0
def tw16590034679367578338:=0
def tw17789696631642856982:=0
def tw17994258174465451882:=0
def tw6770124188145221578:=0
def tw13431554281786762576:=0
def tw4450854916204266668:=0
def tw14976527386870472788:=0
def tw126802381336232079:=0
def tw16201059486601225790:=0
def tw7471373383131513993:=0
def tw9047678886823270355:=0
def tw4670208394715155579:=0
def tw18240405461093908275:=0
def tw3283721250308790814:=0
def tw17634990555780629143:=0
def tw14390901593584997562:=0
def tw10892723954871378281:=0
def tw3353416058747782369:=0
def tw17772884560315529667:=0
def tw391780609452369482:=0
def tw11240857652566132999:=0
def tw10097629857346552178:=0
def tw15156055963743242575:=0
def tw15285944719087741613:=0
def tw17949159756626711358:=0
def tw10196377626869282830:=0
def tw8740532093157982726:=0
def tw8813893345756814082:=0
def tw5811384734973890067:=0
def tw6520578758700155745:=0
def tw11306544439066511326:=0
def tw4373656206421914122:=0
def tw8677810677864654697:=0
def tw3583017227490588851:=0
def tw10935386311817537501:=0
def tw2717827729393748883:=0
def tw3804006614002992095:=0
def tw8995640051919636193:=0
def tw1516112957830295053:=0
def tw9365773739022838794:=0
def tw16848115569749927606:=0
def tw1224750450507368524:=0
def tw16867776526295143501:=0
def tw6252926975788088220:=0
def tw17509531176668951410:=0
def tw6283797237817105467:=0
def tw9330790287594743151:=0
def tw12267344149764708983:=0
def tw434697399073423750:=0
def tw5200862753574193083:=0
def tw12595471597511888266:=0
def tw6181405034032113380:=0
def tw11269783360761735861:=0
def tw4853770477588819330:=0
def tw14332047615990340637:=0
def tw16635388065930805520:=0
def tw15978466309597335581:=0
def tw4802187625108393459:=0
def tw7727103104542455568:=0
def tw13548481114989519450:=0
def tw803799442624126659:=0
def tw1510968298588155900:=0
def tw5859775627793289503:=0
def tw103604127581616840:=0
def tw3447509982342507888:=0
def tw3927116926277349561:=0
def tw985081449873260646:=0
def tw14331260532085051735:=0
def tw2203149660206188324:=0
def tw2915076772932065072:=0
def tw17063268630904699117:=0
def tw6758303861838239269:=0
def tw16808231991854219424:=0
def tw12527991968004343111:=0
def tw4504606042710352898:=0
def tw9942019988129920990:=0
def tw2494910679158366125:=0
def tw7134904429071352681:=0
def tw2965141094180061249:=0
def tw14590251511459771909:=0
def tw14782061061700345035:=0
def tw13487736163816789164:=0
def tw4393584940071959023:=0
def tw16839415647464995738:=0
def tw5688689873258159604:=0
def tw14115676041256251016:=0
def tw7010533339673128714:=0
def tw3290985550678351300:=0
def tw4994111023665770172:=0
def tw14628604993761436686:=0
def tw12325233375979456804:=0
def tw3515189210007828346:=0
def tw10207604502423613116:=0
def tw944673530031119657:=0
def tw3753042079783273996:=0
def tw4848443754116597768:=0
def tw12260393071204416751:=0
def tw17551311114880017263:=0
def tw16242937144234853879:=0
def tw3747691450421104367:=0
def tw1388174107441372477:=0
def tw17846056764067389147:=0
def tw476531146849891857:=0
def tw5348757575453065638:=0
def tw3650764791505657478:=0
def tw2447578725848539849:=0
def tw2276359917556538223:=0
def tw11610931788808867737:=0
def tw833029828663102907:=0
def tw6870484644973822834:=0
def tw17621113038434733948:=0
def tw1405309374559157693:=0
def tw8924696408416021877:=0
def tw7538965672379794854:=0
def tw6936807638694867510:=0
def tw5261341500524988177:=0
def tw4881867506113169345:=0
def tw435149721767384975:=0
def tw2793995043142917361:=0
def tw18371816977815863396:=0
end PySem.W.Fast
set_option Elab.async false
set_option compiler.extract_closed false
set_option linter.all false
set_option maxRecDepth 100000
noncomputable section
@[elab_as_elim] theorem rwA{α:Sort _}{p:α→Prop}{a b:α}(h:a=b)(m:p b):p a:=h▸m
@[elab_as_elim] theorem rwB{α:Sort _}{p:α→Prop}{a b:α}(h:b=a)(m:p b):p a:=h▸m
theorem rwC{G:Prop}{α:Type _}{x:α}(e:none=some x):G:=nomatch e
theorem rwD{G:Prop}{α:Type _}{x:α}(e:some x=none):G:=nomatch e
theorem rwE{α:Type _}{x y:α}(e:some x=some y):y=x:=(Option.some.inj e).symm
theorem rwG{G:Prop}(h:∀P:Prop,(G→P)→P):G:=h G id
def rwI{α}:Lean.MacroM α:=Lean.Macro.throwUnsupported
def rwF(s:Lean.Syntax):Lean.MacroM Lean.Syntax:=s.rewriteBottomUpM λs=>do
 if s.isOfKind `Lean.Parser.Term.anonymousCtor then let a:Array (Lean.TSyntax `rcasesPat):=s[1].getSepArgs.map (⟨·⟩);`(rcasesPat|⟨$[$a:rcasesPat],*⟩)
 else if s.isIdent then let i:Lean.Ident:=⟨s⟩;`(rcasesPat|$i:ident) else if s.isOfKind `Lean.Parser.Term.hole then `(rcasesPat|_) else pure s
def rwH(s:Lean.Syntax):Bool:=((s.reprint.getD "").splitOn ",").length<6
local macro_rules
|`(tactic|show $t:term)=>if t.raw.isOfKind `Lean.Parser.Term.anonymousCtor then `(tactic|refine $t) else `(tactic|first|refine $t|refine(?_:$t))
|`(tactic|let $p:term:=$e)=>do let q:Lean.TSyntax `rcasesPat:=⟨<-rwF p⟩;let r<-`(tactic|rcases $e:term with $q:rcasesPat);if rwH p then pure r else `(tactic|(refine rwG λP k=>?_;$r:tactic;refine k ?_;clear k P))
|`(tactic|rintro $p*)=>do
 let some l:=p.back?|rwI
 if rwH l then rwI
 let `(rintroPat|$q:rcasesPat):=l|rwI
 let c<-`(tactic|(intro x;refine rwG λP k=>?_;rcases x with $q:rcasesPat<;>(refine k ?_;clear k P)))
 if p.size<2 then pure c else let p:=p.pop;`(tactic|(rintro $p*;$c:tactic))
|`(tactic|ext $e:rintroPat)=>do let e:Lean.Ident:=⟨e.raw[0][0]⟩;`(tactic|first|with_reducible exact rwC $e|with_reducible exact rwD $e|(with_reducible replace $e:ident:=rwE $e;subst $e:ident)|((fail_if_success(injection $e:ident with e f g;have:=g));first|(injection $e:ident with e f;subst e;subst f)|((fail_if_success(injection $e:ident with e f;have:=f));injection $e:ident with e;subst e))|cases $e:ident)
|`(tactic|rcases $q:ident:$t,$e:ident with $o:ident)=>`(tactic|(cases $q:ident:$t:term;(rw[$q:ident]at $e:ident;ext $e:ident);rename_i $o:ident;rw[$q:ident]at $e:ident))
|`(tactic|rw[$r,*])=>do
 let mut t:Array (Lean.TSyntax `tactic):=#[]
 for r in r.getElems do
  if (r.raw.find? λs=>s.isOfKind `Lean.Parser.Term.byTactic||s.isOfKind `Lean.Parser.Term.syntheticHole).isSome then rwI
  let f (c e:Lean.Term):=`(tactic|((fail_if_success(fail_if_success rewrite[$r:rwRule]));with_reducible_and_instances first|refine $c $e ?_|refine $c ($e _) ?_|refine $c ($e _ _) ?_|refine $c ($e _ _ _) ?_))
  let u<-match r with
   |`(Lean.Parser.Tactic.rwRule|← $e:term)=>do f (<-`(rwB)) e
   |`(Lean.Parser.Tactic.rwRule|$e:term)=>do f (<-`(rwA)) e
   |_=>rwI
  t:=t.push (<-`(tactic|first|$u:tactic|rewrite[$r:rwRule]))
 `(tactic|($[$t:tactic]*;try with_reducible rfl))
abbrev Qa:=PySem.Value->PySem.Shared->Prop
abbrev Qb:=PySem.Str->Option PySem.Value
abbrev Qc:=List (PySem.Addr×PySem.Obj)
abbrev Qd:=List (Option Nat)
abbrev Qe:=List (List Nat)
section
open List PySem PySem.Spec PyProof.Rows
theorem aw{P:Prop}(h:P:=by lia):P:=h
theorem ax{P:Prop}(h:P:=by omega):P:=h
theorem ay{P:Prop}(h:P:=by decide):P:=h
theorem az{P:Prop}(h:P:=by simp):P:=h
theorem aA{P:Prop}(h:P:=by decide +kernel):P:=h
def aB:=@wpAny_bind
def aC:=@Heap.get?_push_of_some
def aD:=@wpAny_pure
def aE:=@getD_eq_getElem?_getD
def aF:=@if_neg
def aG:=@getElem?_eq_getElem
def aH:=@if_pos
def aI:=@Option.bind_some
def aJ:=@Array.getElem?_eq_getElem
def aK:=@Nat.le_refl
def aL:=@length_map
def aM:=@wpS_bind
def aN:=@getElem?_set_self
def aO:=@decide_eq_true
def aP:=@decide_eq_false
def aQ:=@Heap.get?_push_size
def aR:=@getElem?_set_ne
def aS:=@Heap.lt_size
def aT:=@List.mem_cons
def aU:=@wpS_pure
def aV:=@absurd
def aW:=@Nat.zero_le
def aX:=@mem_cons_of_mem
def aY:=@getElem?_eq_none
def aZ:=@List.mem_singleton
def ba:=@map_congr_left
def bb:=@Nat.lt_of_lt_of_le
def bd:=@Bool.false_ne_true
def bf:=@congrArg
def bg:=@List.getElem?_eq_some_iff
def bi:=@Nat.lt_or_ge
def bj:=@List.mem_map
def bm:=@Option.some.inj
def bn:=@getElem?_map
def bp:=@Nat.ne_of_lt
def bq:=@List.mem_range
def br:=@map_cons
def bu:=@List.nodup_cons
def bv:=@KeyOrd.kle_trans
def bw:=@map_map
def bz:=@List.mem_append
def bA:=@length_cons
def bB:=@Int.toNat_natCast
def bC:=@mem_append_right
def bD:=@Nat.le_trans
def bE:=@mem_cons_self
def bF:=@codeAny_builtin
def bG:=@List.pairwise_cons
def bH:=@Heap.SameBut.update
def bI:=@PyProof.Rows.callWith_type1
def bJ:=@wpAny_call_entry
def bK:=@Nat.lt_succ_of_lt
def bL:=@Heap.get?_update_self
def bM:=@KeyOrd.kle_of_klt
def bN:=@map_append
def bO:=@Nat.lt_irrefl
def bP:=@wpAny_of_eq
def bQ:=@W.mg_none_of
def bR:=@Array.toList_append
def bS:=@wpAny_seqItems
def bT:=@beq_self_eq_true
def bU:=@wpAny_newObj_type
def bV:=@length_append
def bW:=@getElem?_append_left
def bX:=@size_toArray
def bY:=@plainId_quiet
def bZ:=@Nat.lt_succ_self
def cb:=@Array.length_toList
def ce:=@wpAny_callSpecial?_slot
def cf:=@Obj.data_mapFields
def cg:=@Nat.zero_add
def ci:=@Nat.le_add_right
def cj:=@Heap.get?_update_other
def cn:=@wpAny_rule
def cq:=@range_succ_eq_map
def cr:=@getElem?_append_right
def cu:=@Array.getElem?_toList
def cv:=@wpAny_holding
def cw:=@getElem?_range
def cy:=@Heap.size_push
def cz:=@Array.getElem_mem_toList
def cA:=@Nat.add_sub_cancel
def cB:=@length_take
def cE:=@List.pairwise_append
def cF:=@replicate_succ
def cG:=@Nat.add_zero
def cH:=@List.append_assoc
def cI:=@Array.toList_push
def cJ:=@wpAny_updateSeq
def cK:=@wpAny_field
def cL:=@PySem.F.called_set
def cM:=@Nat.lt_of_le_of_ne
def cO:=@Nat.ne_of_gt
def cP:=@drop_eq_getElem_cons
def cQ:=@drop_eq_nil_of_le
def cR:=@List.nodup_append
def cS:=@List.length_eq_zero_iff
def cT:=@nil_append
def cU:=@beq_eq_false_iff_ne
def cV:=@PySem.mem_of_lookup
def cW:=@wpAny_attempt
def cX:=@lookup_cons
def cY:=@wpS_modify
def cZ:=@wpAny_setField_rec
def c0:=@Classical.choose_spec
def c6:=@List.pairwise_iff_getElem
def da:=@KeyOrd.kle_refl
def db:=@ext_getElem?
def de:=@Nat.lt_trans
def dg:=@getElem_of_mem
def dh:=@decide_eq_decide
def di:=@W.kia_one
def dj:=@getElem_mem
def dk:=@wpAny_nextOf_list_item
def dn:=@pairwise_singleton
def dq:=@append_assoc
def dr:=@Ne.symm
def dt:=@Nat.le_of_lt
def du:=@wpAny_passesOwn
def dv:=@sum_cons
def dw:=@mem_append_left
def dy:=@mem_singleton
def dz:=@Obj.isFreed_of_fields
def dA:=@wpAny_setState_of
def dB:=@wpAny_pyIter_list
def dC:=@take_of_length_le
def dD:=@wpAny_setField
def dE:=@wpAny_mono
def dF:=@wpAny_letGo
def dG:=@Array.perm_iff_toList_perm
def dH:=@getElem?_set
def dI:=@flatten_cons
def dJ:=@wpAny_setEntries_of
def dL:=@Nat.add_assoc
def dM:=@Bool.true_and
def dO:=@List.mem_filter
def dP:=@getElem?_replicate
def dQ:=@length_drop
def dR:=@Nat.le_succ
def dS:=@wpS_get
def dU:=@wpAny_truthy_bool
def dW:=@PySem.F.plain_max_loop
def dX:=@List.Perm.append_left
def dY:=@wpAny_isInstance
def dZ:=@length_singleton
def ec:=@eq_nil_or_concat
def eh:=@concat_eq_append
def ej:=@Bool.and_eq_true
def eu:=@wpAny_standAt
def ew:=@wpAny_onRaise
def ey:=@filter_cons
def ez:=@Around.under_plainId
def eE:=@range_eq_range'
def eF:=@Bool.eq_iff_iff
end
namespace L2
open List
open PySem PySem.Spec PyProof.Rows
noncomputable abbrev Key:=Sum Int Str
def vx9:Key->Value->Bool
 | .inl k,v=>Value.isInt k v
 | .inr x,v=>Value.isStrOf x v
def keyH(w:World):Key->Int
 | .inl k=>hashInt k
 | .inr x=>hashStr w x
theorem k5:∀{k:Key}{v:Value},vx9 k v=true->(∃i t,k=Sum.inl i/\v=Value.int i t)\/(∃x t,k=Sum.inr x/\v=Value.str x t)
 | .inl i,v,h=>by let⟨t,e⟩:=Value.isInt_shape (k:=i) (v:=v) h;show .inl ⟨i,t,rfl,e⟩
 | .inr x,v,h=>by let⟨t,e⟩:=Value.isStrOf_shape (x:=x) (v:=v) h;show .inr ⟨x,t,rfl,e⟩
theorem vx8(a b:Int):decide ((Sum.inl a:Key)=Sum.inl b)=(a==b):=by
 by_cases e:a=b
 .subst e;simp
 .have h:¬ (Sum.inl a:Key)=Sum.inl b:=λq=>e (Sum.inl.inj q);rw[aP h];show(cU.mpr e).symm
theorem vx5(a b:Str):decide ((Sum.inr a:Key)=Sum.inr b)=decide (a=b):=by
 by_cases e:a=b
 .subst e;simp
 .have h:¬ (Sum.inr a:Key)=Sum.inr b:=λq=>e (Sum.inr.inj q);rw[aP h,aP e]
theorem vx7(a:Int)(b:Str):decide ((Sum.inl a:Key)=Sum.inr b)=false:=aP (λq=>nomatch q)
theorem vx6(a:Str)(b:Int):decide ((Sum.inr a:Key)=Sum.inl b)=false:=aP (λq=>nomatch q)
def za4(prog:Program)(w:World):PySem.KeyKind prog w Key where
 is:=vx9
 hash:=keyH w
 inj:=λv a b ha hb=>by
  rcases k5 ha with⟨i,t,rfl,rfl⟩|⟨x,t,rfl,rfl⟩
  .rcases k5 hb with⟨j,u,rfl,e⟩|⟨y,u,rfl,e⟩
   .injection e with e1 _;rw[e1]
   .exact nomatch e
  .rcases k5 hb with⟨j,u,rfl,e⟩|⟨y,u,rfl,e⟩
   .exact nomatch e
   .injection e with e1 _;rw[e1]
 byValue:=λk v h=>by rcases k5 h with⟨i,t,rfl,rfl⟩|⟨x,t,rfl,rfl⟩ <;> rfl
 pyHash:=λhv h=>by
  rcases k5 hv with⟨i,t,rfl,rfl⟩|⟨x,t,rfl,rfl⟩
  .exact wpAny_pyHash_int h
  .exact wpAny_pyHash_str h
 eqBool:=λhu hv h=>by
  rcases k5 hu with⟨i,t,rfl,rfl⟩|⟨x,t,rfl,rfl⟩
  .rcases k5 hv with⟨j,u,rfl,rfl⟩|⟨y,u,rfl,rfl⟩
   .rw[vx8]at h;exact wpAny_eqBool_int h
   .rw[vx7]at h;exact SeqAt.EqAt.int_str i t y u _ _ _ _ h
  .rcases k5 hv with⟨j,u,rfl,rfl⟩|⟨y,u,rfl,rfl⟩
   .rw[vx6]at h;exact SeqAt.EqAt.str_int x t j u _ _ _ _ h
   .rw[vx5]at h;exact wpAny_eqBool_str h
 «strs»:=λk x t v h=>by
  rcases k5 h with⟨i,u,rfl,e⟩|⟨y,u,rfl,e⟩
  .exact nomatch e
  .injection e with e1 _
   subst e1;cases v <;> rfl
inductive V where
 |non|bl (b:Bool)|int (i:Int)|str (x:Str)|byt (b:Array UInt8)|flt (b:UInt64)|ref (a:Addr)|ty (n:String)
 deriving DecidableEq
noncomputable def RelV:V->Value->Prop
 | .non,u=>u=Value.none
 | .bl b,u=>u=Value.bool b
 | .int i,u=>∃t,u=Value.int i t
 | .str x,u=>∃t,u=Value.str x t
 | .byt b,u=>∃t,u=Value.bytes b t
 | .flt b,u=>∃t,u=Value.float b t
 | .ref a,u=>u=Value.ref a
 | .ty n,u=>u=Value.type n
abbrev Vals:List V->List Value->Prop:=Paired RelV
theorem Vals.length(r:Vals xs a):xs.length=a.length:=Paired.length r
theorem Vals.get:∀{xs:List V}{a:List Value}{i:Nat}{x:V},Vals xs a->xs[i]? =some x->∃u,a[i]? =some u/\RelV x u
 |_,_,_,_,.nil,e=>by simp at e
 |_,_,0,_,.cons r _,e=>by simp at e;subst e;show⟨_,rfl,r⟩
 |_,_,i+1,x,.cons _ t,e=>by let⟨u,c,b⟩:=Vals.get (i:=i) (x:=x) t (by simpa using e);show⟨u,by simpa using c,b⟩
theorem Vals.set{x:V}{u:Value}(r:RelV x u):∀{xs:List V}{a:List Value}(i:Nat),Vals xs a->Vals (xs.set i x) (a.set i u)
 |_,_,_,.nil=>.nil
 |_,_,0,.cons _ t=>.cons r t
 |_,_,i+1,.cons q t=>.cons q (Vals.set r i t)
theorem Vals.append:∀{xs a:List V}{c b:List Value},Vals xs c->Vals a b->Vals (xs++a) (c++b)
 |_,_,_,_,.nil,s=>s
 |_,_,_,_,.cons r t,s=>.cons r (Vals.append t s)
theorem Vals.take:∀{xs:List V}{a:List Value}(n:Nat),Vals xs a->Vals (xs.take n) (a.take n)
 |_,_,0,_=>.nil
 |_,_,_+1,.nil=>.nil
 |_,_,n+1,.cons r t=>.cons r (Vals.take n t)
theorem Vals.drop:∀{xs:List V}{a:List Value}(n:Nat),Vals xs a->Vals (xs.drop n) (a.drop n)
 |_,_,0,r=>r
 |_,_,_+1,.nil=>.nil
 |_,_,n+1,.cons _ t=>Vals.drop n t
def RelO:Option V->Option Value->Prop
 |some v,some u=>RelV v u
 |none,none=>True
 |_,_=>False
def KV{a:Type}:List (a×V)->List (a×Value)->Prop:=Paired λ(p:a×V)(q:a×Value)=>p.1=q.1/\RelV p.2 q.2
def kV:Key->V
 | .inl i=>.int i
 | .inr x=>.str x
inductive HO where
 |lst (xs:List V)
 |tup (xs:List V)
 |dK (kvs:List (Key×V))|dT (kvs:List (List Key×V))
 |set (S:Int->Bool) (n:Nat)
 |ins (C dx:Addr) (fs:List (Str×V))
 |own (x:Addr)
 |xd (fs:List (Str×V))
 |met (f x:Addr)
 |rng (lo hi:Int)
 |frz (o:Obj) (u:HO)
 |tbl (ps:Array Value)
 |ext (φ:Heap->Prop)
noncomputable abbrev Hp:=Addr->Option HO
noncomputable def upd(H:Hp)(a:Addr)(o:HO):Hp:=λb=>if b=a then some o else H b
theorem z8:upd H a o a=some o:=by delta upd;rw[aH rfl]
theorem z9(h:b≠a):upd H a o b=H b:=by delta upd;rw[aF h]
theorem m9{H:Hp}{a b:Addr}{o:HO}(h:H a=some o)(h':H b=none):a≠b:=by intro e;subst e;rw[h]at h';ext h'
section
variable (P:Program)(w:World)
def ObjOk(H:Hp)(h:Heap)(a:Addr):HO->Prop
 | .lst xs=>xs.length<=sizeLine/\∃(its:List Value)(n:Nat),Vals xs its/\h.get? a=some { cls:=.type "list",data:=.seq its.toArray n }
 | .tup xs=>xs.length<=sizeLine/\∃its:List Value,Vals xs its/\IsTup h a its.toArray
 | .dK kvs=>kvs.length<=sizeLine/\(a==sysModules)=false/\∃vs,KV kvs vs/\h.DictOf (za4 P w) a vs
 | .dT kvs=>kvs.length<=sizeLine/\(a==sysModules)=false/\∃xs:List (List Key×Addr×Value),
   Paired (λ(p:List Key×V)(q:List Key×Addr×Value)=>p.1=q.1/\H q.2.1=some (.tup (p.1.map kV))/\RelV p.2 q.2.2) kvs xs/\
   ∃o es ep,h.get? a=some o/\o.ExactDict/\o.data= .dict es ep/\es.toList=xs.map (entryOfKey (tupleKind (za4 P w)))/\(xs.map (·.1)).Nodup
 | .set S n=>h.SetOf (intKind P w) a S n
 | .ins C dx fs=>H dx=some (.own a)/\fs.length<=1000/\dx≠a/\h.get? a=some (W.instObj C dx)/\
   ∃mA,h.Ns1 dx mA/\(∀f,RelO (fs.lookup f) (mA f))/\PySem.Within mA (fs.map (·.1))
 | .own _=>∃o,h.get? a=some o
 | .xd fs=>∃mA,h.Ns1 a mA/\∀f,RelO (fs.lookup f) (mA f)
 | .rng lo hi=>∃t u v,h.get? a=some { cls:=.type "range",data:=.fields #[.int lo t,.int hi u,.int 1 v] }
 | .frz o u=>h.get? a=some o/\ObjOk H h a u
 | .tbl ps=>h.get? a=some { cls:=.none,data:=.fields ps }
 | .met f x=>h.get? a=some (W.methodObj (.ref f) (.ref x))
 | .ext φ=>φ h/\(∃o,h.get? a=some o)/\∀h1 h2:Heap,φ h1->(∀o,h1.get? a=some o->h2.get? a=some o)->φ h2
def HOk(H:Hp)(h:Heap):Prop:=∀a o,H a=some o->ObjOk P w H h a o
end
section
variable {H g:Hp}{h h':Heap}
theorem ObjOk.lt(x:ObjOk P w H h a o):a<h.objs.size:=by
 cases o with
 |lst c=>let⟨_,_,_,_,e⟩:=x;show aS e
 |tup c=>let⟨_,_,_,p⟩:=x;show p.lt
 |dK b=>let⟨_,_,_,_,o,_,_,e,_⟩:=x;show aS e
 |dT b=>let⟨_,_,_,_,o,_,_,e,_⟩:=x;show aS e
 |set S n=>let⟨o,_,_,_,e,_⟩:=x;show aS e
 |ins C l d=>let⟨_,_,_,e,_⟩:=x;show aS e
 |own y=>let⟨_,e⟩:=x;show aS e
 |xd d=>let⟨_,⟨_,_,_,e,_⟩,_⟩:=x;show aS e
 |rng lo hi=>let⟨_,_,_,e⟩:=x;show aS e
 |frz k u=>let⟨e,_⟩:=x;show aS e
 |tbl j=>show aS (show h.get? a=some _ from x)
 |met f y=>show aS (show h.get? a=some _ from x)
 |ext i=>let⟨_,⟨_,e⟩,_⟩:=x;show aS e
theorem Paired.mapP{e g:Type}{F G:e->g->Prop}:∀{d:List e}{c:List g},Paired F d c->(∀a b,F a b->G a b)->Paired G d c
 |_,_,.nil,_=>.nil
 |_,_,.cons r t,f=>.cons (f _ _ r) (Paired.mapP t f)
theorem ObjOk.stay(x:ObjOk P w H h a o)(k:∀b u,(b=a\/H b=some (.own a))->h.get? b=some u->h'.get? b=some u)
  (J:∀b,H b=some (.own a)->g b=some (.own a)) (I:∀b xs,H b=some (.tup xs)->g b=some (.tup xs)):ObjOk P w g h' a o:=by
 induction o with
 |lst xs=>let⟨z,m,n,r,e⟩:=x;show⟨z,m,n,r,k _ _ (.inl rfl) e⟩
 |tup xs=>let⟨z,m,r,i,e,c⟩:=x;show⟨z,m,r,i,k _ _ (.inl rfl) e,c⟩
 |dK B=>let⟨z,y,E,r,i,j,l,e,c⟩:=x;show⟨z,y,E,r,i,j,l,k _ _ (.inl rfl) e,c⟩
 |dT B=>let⟨z,y,xs,r,i,j,l,e,c⟩:=x;show⟨z,y,xs,Paired.mapP r λp q z=>⟨z.1,I _ _ z.2.1,z.2.2⟩,i,j,l,k _ _ (.inl rfl) e,c⟩
 |set S n=>let⟨i,j,l,t,e,c⟩:=x;show⟨i,j,l,t,k _ _ (.inl rfl) e,c⟩
 |ins C N K=>let⟨d,z,F,e,A,⟨s,j,l,L,c⟩,r⟩:=x;show⟨J _ d,z,F,k _ _ (.inl rfl) e,A,⟨s,j,l,k _ _ (.inr d) L,c⟩,r⟩
 |own y=>let⟨i,e⟩:=x;show⟨i,k _ _ (.inl rfl) e⟩
 |xd K=>let⟨A,⟨s,j,l,e,c⟩,r⟩:=x;show⟨A,⟨s,j,l,k _ _ (.inl rfl) e,c⟩,r⟩
 |rng lo hi=>let⟨t,u,v,e⟩:=x;show⟨t,u,v,k _ _ (.inl rfl) e⟩
 |frz i u G=>let⟨e,q⟩:=x;show⟨k _ _ (.inl rfl) e,G q⟩
 |tbl D=>have e:h.get? a=some { cls:=.none,data:=.fields D }:=x;show h'.get? a=some { cls:=.none,data:=.fields D };show k a _ (.inl rfl) e
 |met f y=>have e:h.get? a=some (W.methodObj (.ref f) (.ref y)):=x;show h'.get? a=some (W.methodObj (.ref f) (.ref y));show k a _ (.inl rfl) e
 |ext M=>let⟨p,⟨o,e⟩,st⟩:=x;show⟨st _ _ p λo q=>k _ _ (.inl rfl) q,⟨o,k _ _ (.inl rfl) e⟩,st⟩
theorem HOk.lt(x:HOk P w H h)(e:H a=some o):a<h.objs.size:=(x a o e).lt
theorem HOk.fresh(x:HOk P w H h)(e:h.objs.size<=a):H a=none:=by
 cases q:H a with
 |none=>rfl
 |some u=>show aV (bb (x.lt q) e) (bO _)
theorem HOk.kept(x:HOk P w H h)(k:∀b u,h.get? b=some u->h'.get? b=some u):HOk P w H h':=λa o e=>
 (x a o e).stay (λb u _ q=>k b u q) (λ_ q=>q) λ_ _ q=>q
theorem HOk.laid(x:HOk P w H h)(k:∀b u,h.get? b=some u->h'.get? b=some u)(j:h.objs.size<=a)(d:ObjOk P w (upd H a o) h' a o):HOk P w (upd H a o) h':=λb u e=>by
 have f:=x.fresh j;by_cases i:b=a
 .subst i;rw[z8]at e;ext e;show d
 .rw[z9 i]at e;show(x b u e).stay (λc v _ q=>k c v q) (λc q=>by rw[z9 (m9 q f)];show q) λc l q=>by rw[z9 (m9 q f)];show q
end
def Rd(H:Hp)(a:Addr)(u:HO):Prop:=H a=some u\/∃o,H a=some (.frz o u)
theorem Rd.ok{P:Program}(r:Rd H a u)(x:HOk P w H h):ObjOk P w H h a u:=by
 rcases r with r|⟨o,r⟩
 .exact x a u r
 .let⟨_,q⟩:=x a _ r;show q
noncomputable def Mut:Option HO->Prop
 |some (.lst _)=>True
 |some (.dK _)=>True
 |some (.dT _)=>True
 |some (.set _ _)=>True
 |some (.ins _ _ _)=>True
 |some (.ext _)=>True
 |_=>False
section
variable {h h':Heap}
theorem HOk.write(ok:HOk P w H h)(j:Mut (H x))(p:e=x\/H e=some (.own x))(k:∀b u,b≠e->h.get? b=some u->h'.get? b=some u)(o:∃u,h'.get? e=some u)
  (n:ObjOk P w (upd H x a) h' x a):HOk P w (upd H x a) h':=λb u q=>by
 have f:∀c y,H c=some (.own y)->c≠x:=λc y r z=>by subst z;rw[r]at j;show j
 have g:∀c i,H c=some (.tup i)->c≠x:=λc i r z=>by subst z;rw[r]at j;show j
 by_cases m:b=x
 .subst m;rw[z8]at q;ext q;show n
 .rw[z9 m]at q;by_cases d:b=e
  .have q':H b=some (.own x):=by
    rcases p with z|z
    .exact aV (d.trans z) m
    .rw[d];show z
   rw[q]at q';ext q';let⟨v,s⟩:=o;show⟨v,by rw[d];show s⟩
  .refine(ok b u q).stay (λc v l r=>k c v ?_ r) (λc r=>by rw[z9 (f c b r)];show r) λc i r=>by rw[z9 (g c i r)];show r
   rcases l with rfl|l
   .exact d
   .rintro rfl;rcases p with z|z
    .exact f c b l z
    .rw[l]at z;ext z;show m rfl
end
structure Un(fs ex:List Addr)(H H':Hp)(h h':Heap):Prop where
 keep:∀b o,h.get? b=some o->H b=none->b∉fs->b∉ex->h'.get? b=some o
 slot:∀b o,h.get? b=some o->H b=none->b∈fs->b∉ex->∃sl,h'.get? b=some { o with slots:=sl }
 free:∀b o,h.get? b=some o->H b=none->b∉ex->H' b=none
 there:∀b o,h.get? b=some o->b∉ex->∃o',h'.get? b=some o'
 tups:∀b xs,H b=some (.tup xs)->H' b=some (.tup xs)
 frzs:∀b o u,H b=some (.frz o u)->H' b=some (.frz o u)
 tbls:∀b ps,H b=some (.tbl ps)->∃more,H' b=some (.tbl (ps++more))
section
variable {fs d ex f:List Addr}{H g j:Hp}{h c i h':Heap}
theorem Un.any(u:Un fs ex H g h c)(q:h.get? b=some k)(n:H b=none)(l:b∉ex):∃p,c.get? b=some { k with slots:=p }:=by
 by_cases m:b∈fs
 .exact u.slot b k q n m l
 .exact⟨k.slots,u.keep b k q n m l⟩
theorem Un.kept(k:∀b u,h.get? b=some u->h'.get? b=some u):Un fs ex H H h h':=
 ⟨λb l q _ _ _=>k b l q,λb l q _ _ _=>⟨l.slots,k b l q⟩,λ_ _ _ n _=>n,λb l q _=>⟨l,k b l q⟩,λ_ _ q=>q,λ_ _ _ q=>q,λ_ m q=>⟨#[],by rw[q];simp⟩⟩
theorem Un.refl:Un fs ex H H h h:=Un.kept λ_ _ q=>q
theorem Un.laid(k:∀b u,h.get? b=some u->h'.get? b=some u)(hp:h.objs.size<=a)(l:H a=none):Un fs ex H (upd H a o) h h' where
 keep:=λb u q _ _ _=>k b u q
 slot:=λb u q _ _ _=>⟨u.slots,k b u q⟩
 free:=λb u q n _=>by rw[z9 (bp (bb (aS q) hp))];show n
 there:=λb u q _=>⟨u,k b u q⟩
 tups:=λb m q=>by rw[z9 (m9 q l)];show q
 frzs:=λb u m q=>by rw[z9 (m9 q l)];show q
 tbls:=λb p q=>⟨#[],by rw[z9 (m9 q l),q];simp⟩
theorem Un.write(m:Mut (H x))(y:e=x\/H e=some (.own x))(k:∀b u,b≠e->h.get? b=some u->h'.get? b=some u)(s:∃u,h'.get? e=some u):Un fs ex H (upd H x o) h h':=by
 have t:∀b,H b=none->b≠x:=λb n z=>by subst z;rw[n]at m;show m
 have v:∀b,H b=none->b≠e:=λb n z=>by
  subst z;rcases y with r|r
  .exact t b n r
  .rw[n]at r;ext r
 have p:∀b u,H b=some u->¬ Mut (some u)->b≠x:=λb u q nm z=>by subst z;rw[q]at m;show nm m
 show⟨λb u q n _ _=>k b u (v b n) q,λb u q n _ _=>⟨u.slots,k b u (v b n) q⟩,λb u q n _=>by rw[z9 (t b n)];show n,λb u q _=>?_,
  λb w q=>by rw[z9 (p b _ q λz=>z)];show q,λb u w q=>by rw[z9 (p b _ q λz=>z)];show q,λb A q=>⟨#[],by rw[z9 (p b _ q λz=>z),q];simp⟩⟩
 by_cases l:b=e
 .subst l;show s
 .exact⟨u,k b u l q⟩
end
noncomputable def trk(h:Heap)(H:Hp):List Addr:=(List.range h.objs.size).filter λa=>(H a).isSome
def hidT(h:Heap)(H:Hp):Heap:=W.hideAll h (trk h H)
theorem xx2(h:Heap)(H:Hp):(hidT h H).objs.size=h.objs.size:=W.hideAll_size _ _
theorem xi6(e:h.get? b=some o)(n:H b=none):(hidT h H).get? b=some o:=
 W.hideAll_get _ e λa=>by have q:(H b).isSome=true:=(dO.mp a).2;rw[n]at q;simp at q
theorem ws9(e:(hidT h H).get? b=some o):h.get? b=some o/\H b=none:=by
 have a:h.get? b=some o:=W.of_hideAll (trk h H) e;show⟨a,?_⟩;cases q:H b with
 |none=>rfl
 |some x=>have c:b∈trk h H:=dO.mpr ⟨bq.mpr (aS a),by simp[q]⟩;have z:(hidT h H).get? b=none:=W.hideAll_none (trk h H) c;rw[z]at e;ext e
noncomputable def wm9(g h:Heap)(L:Addr):Qc:=(List.range h.objs.size).filterMap λa=>if a=L\/(g.get? a).isSome=true then none else (h.get? a).map λo=>(a,o)
def rest(g h:Heap)(L d:Addr):Qc:=(wm9 g h L).filter λp=>decide (p.1≠d)
structure Mod(K:W.Frag)(mg:Qb)(base:Heap):Prop where
 kin:K.In base
 glob:base.Ns mainGlobals mg
 blt:∃mb,base.Ns builtinsNs mb/\∀x:Str,x≠"__name__"->mb x=bootBuiltins x
 nolimit:base.NoLimit
structure Cx where
 prog:Program
 w:World
 K:W.Frag
 mg:Qb
 base:Heap
 A:Around
 N:List Str
 s₀:Shared
 H₀:Hp
 env:Env
 outer:List Env
 stack:List Env
 ex:List Addr
 fn:Str->Bool
 calm:Bool
 pn:Qc
 xe:Qa
noncomputable def frs(l:List Env):List Addr:=l.filterMap (·.frame)
abbrev Cx.fs(X:Cx):List Addr:=frs X.outer
def Vis(sc:Scope)(x:Str):Prop:=sc.names.lookup x=some .local\/sc.names.lookup x=some .cell\/sc.names.lookup x=some .free
def Loc(sc:Scope)(x:Str):Prop:=sc.names.lookup x=some .local\/sc.names.lookup x=some .cell
def Look(env:Env)(h:Heap)(m:Qb)(x:Str)(u:Value):Prop:=
 (env.kindOf x=some .local/\m x=some u)\/((env.kindOf x=some .cell\/env.kindOf x=some .free)/\∃c,env.cells.lookup x=some c/\h.IsCell c (some u))
structure Cx.Ok(X:Cx):Prop where
 mod:Mod X.K X.mg X.base
 kind:X.env.scope.kind= .function
 glob:X.env.globals=mainGlobals
 blt:X.env.builtins=builtinsNs
 above:X.s₀.heap.objs.size<=X.env.locals
 inj:∀x y c,X.env.cells.lookup x=some c->X.env.cells.lookup y=some c->x=y
 has:∀x,(X.env.kindOf x=some .cell\/X.env.kindOf x=some .free)->∃c,X.env.cells.lookup x=some c
 cab:∀x c,X.fn x=true->X.env.cells.lookup x=some c->X.s₀.heap.objs.size<=c
 hd:X.calm=true->X.A.handled=none
 frames:X.A.frames=some X.stack
 stk:X.stack=X.outer\/(X.stack=X.env::X.outer/\X.env.frame=some X.env.locals)
 exf:∀b∈X.ex,b≠X.env.locals/\∀x c,X.env.cells.lookup x=some c->c≠b
 bs:∀b o,X.base.get? b=some o->X.s₀.heap.get? b=some o/\X.H₀ b=none
 bsz:X.base.objs.size<=X.s₀.heap.objs.size
 noex:∀b o,X.base.get? b=some o->b∉X.ex
 exfs:∀b∈X.ex,b∉X.fs
 funs:X.s₀.heap.FunFrames X.base X.outer
 frf:∀b∈X.fs,X.H₀ b=none
structure Inv(X:Cx)(pins:Qc)(σ:List (Option V))(H:Hp)(s:Shared):Prop where
 ok:X.Ok
 os:s.os=X.s₀.os
 bare:AllBare s.gens
 base:Un X.fs X.ex X.H₀ H X.s₀.heap s.heap
 loc:∃m,s.heap.Ns X.env.locals m/\∀(i:Nat)(x:Str)(v:V),X.N[i]? =some x->σ[i]? =some (some v)->Vis X.env.scope x->∃u,RelV v u/\Look X.env s.heap m x u
 cell:∀x c,X.env.cells.lookup x=some c->∃v,s.heap.IsCell c v
 free:H X.env.locals=none
 freeC:∀x c,X.env.cells.lookup x=some c->H c=none
 pin:∀p∈X.pn++pins,s.heap.get? p.1=some p.2/\H p.1=none/\p.1≠X.env.locals/\p.1∉X.fs/\∀v,p.2.data≠ .cell v
 hok:HOk X.prog X.w H s.heap
 len:σ.length=X.N.length
section
variable {X:Cx}{f:Qc}{g:List (Option V)}
theorem Cx.Ok.nofr(ok:X.Ok)(e:X.base.get? b=some o):b∉X.fs:=λa=>by have:=(ok.funs.mem a).1;rw[e]at this;ext this
theorem Inv.bs(I:Inv X f g H s):∀b o,X.base.get? b=some o->s.heap.get? b=some o/\H b=none:=λb o e=>
 ⟨I.base.keep b o (I.ok.bs b o e).1 (I.ok.bs b o e).2 (I.ok.nofr e) (I.ok.noex b o e),I.base.free b o (I.ok.bs b o e).1 (I.ok.bs b o e).2 (I.ok.noex b o e)⟩
theorem Inv.bk(I:Inv X f g H s):∀b o,X.base.get? b=some o->s.heap.get? b=some o:=λb o e=>(I.bs b o e).1
theorem Inv.mod(I:Inv X f g H s):Mod X.K X.mg X.base:=I.ok.mod
theorem Inv.kIn(I:Inv X f g H s):X.K.In s.heap:=I.ok.mod.kin.keeps I.bk
theorem Inv.lt(I:Inv X f g H s):X.env.locals<s.heap.objs.size:=let ⟨_,a,_⟩:=I.loc;a.lt
theorem Inv.sz(I:Inv X f g H s):X.s₀.heap.objs.size<=s.heap.objs.size:=bD I.ok.above (dt I.lt)
theorem Inv.nofs(I:Inv X f g H s)(h:s.heap.objs.size<=a):a∉X.fs:=λc=>by let⟨_,o,b,_⟩:=I.ok.funs.mem c;show aV (bb (aS b) (bD I.sz h)) (bO _)
theorem Inv.cne(I:Inv X f g H s):∀x c,X.env.cells.lookup x=some c->c≠X.env.locals:=λx c e z=>by let⟨v,o,d,h⟩:=I.cell x c e;let⟨m,⟨i,j,k,a,b,_⟩,_⟩:=I.loc;rw[z,a]at d;ext d;rw[b]at h;ext h
theorem Inv.funs(I:Inv X f g H s):s.heap.FunFrames X.base X.outer:=by
 have h:∀(l:List Env),(∀b∈frs l,b∈X.fs)->X.s₀.heap.FunFrames X.base l->s.heap.FunFrames X.base l:=by
  intro l;induction l with
  |nil=>intro _ _;trivial
  |cons u r j=>intro i p;let⟨q,⟨L,o,a,n,m,t⟩,k⟩:=p;have d:L∈X.fs:=i L (by delta frs;rw[filterMap_cons,a];show bE);let⟨v,e⟩:=I.base.slot L o m (I.ok.frf L d) d λz=>I.ok.exfs L z d;show⟨q,⟨L,_,a,n,e,t⟩,j (λb c=>i b (by delta frs;rw[filterMap_cons,a];show aX _ c)) k⟩
 show h X.outer (λ_ c=>c) I.ok.funs
theorem Inv.stack(I:Inv X f g H s):s.heap.FunFrames X.base X.stack:=by
 rcases I.ok.stk with e|⟨e,b⟩
 .rw[e];show I.funs
 .rw[e];let⟨m,a,_⟩:=I.loc;show .cons (by rw[I.ok.kind];decide) b a ?_ I.funs;show Heap.get?_none_of_le (bD I.ok.bsz I.ok.above)
theorem Inv.stkSub(I:Inv X f g H s):∀b∈frs X.stack,b∈X.env.locals::X.fs:=λb a=>by
 rcases I.ok.stk with e|⟨e,c⟩
 .rw[e]at a;show aX _ a
 .rw[e]at a;delta frs at a;rw[filterMap_cons,c]at a;show a
theorem Inv.stkFree(I:Inv X f g H s):∀b∈frs X.stack,H b=none:=λb a=>by
 rcases aT.mp (I.stkSub b a)with e|a
 .rw[e];show I.free
 .let⟨_,o,ho,_⟩:=I.ok.funs.mem a;show I.base.free b o ho (I.ok.frf b a) λz=>I.ok.exfs b z a
theorem Inv.step{g':Array GenState}{t':Nat}{d':Drawn}{ch:List Addr}(I:Inv X f g H s)
  (y:∀b∈ch,(b∈X.ex\/X.s₀.heap.objs.size<=b)/\b≠X.env.locals/\(∀x c,X.env.cells.lookup x=some c->c≠b)/\∀p∈X.pn++f,p.1≠b)
  (t:∀b o,b≠X.env.locals->b∉X.fs->b∉ch->s.heap.get? b=some o->H b=none->h'.get? b=some o)
  (D:∀b o,b≠X.env.locals->b∈X.fs->b∉ch->s.heap.get? b=some o->H b=none->∃T,h'.get? b=some { o with slots:=T }) (h:∀b o,b∉ch->s.heap.get? b=some o->H b=none->w b=none)
  (E:∀b o,b∉ch->s.heap.get? b=some o->∃L,h'.get? b=some L)
  (J:∀b xs,H b=some (.tup xs)->w b=some (.tup xs)) (P:∀b o u,H b=some (.frz o u)->w b=some (.frz o u)) (K:∀b R,H b=some (.tbl R)->∃N,w b=some (.tbl (R++N)))
  (ns:∀m,s.heap.Ns X.env.locals m->h'.Ns X.env.locals m) (U:HOk X.prog X.w w h') (hg:AllBare g'):
  Inv X f g w { s with heap:=h',gens:=g',drawn:=d',toks:=t' }:=by
 have M:∀b o,X.s₀.heap.get? b=some o->b≠X.env.locals:=λb o e=>bp (bb (aS e) I.ok.above);have B:∀b o,X.s₀.heap.get? b=some o->b∉X.ex->b∉ch:=λb o e a F=>by
  rcases (y b F).1 with z|z
  .exact a z
  .exact aV (bb (aS e) z) (bO _)
 have A:∀x c,X.env.cells.lookup x=some c->∀v,s.heap.IsCell c v->h'.IsCell c v:=λx c e v O=>by
  let⟨o,G,V⟩:=O;have j:c∉ch:=λz=>(y c z).2.2.1 x c e rfl;by_cases Y:c∈X.fs
  .let⟨T,q⟩:=D c o (I.cne x c e) Y j G (I.freeC x c e);show⟨_,q,V⟩
  .exact⟨o,t c o (I.cne x c e) Y j G (I.freeC x c e),V⟩
 show⟨I.ok,I.os,hg,⟨λb o e n F a=>?_,λb o e n F a=>?_,λb o e n a=>?_,λb o e a=>?_,λb xs e=>J b xs (I.base.tups b xs e),λb o xs e=>P b o xs (I.base.frzs b o xs e),λb R e=>?_⟩,?_,λx c e=>?_,?_,λx c e=>?_,λp W=>?_,U,I.len⟩
 .exact t b o (M b o e) F (B b o e a) (I.base.keep b o e n F a) (I.base.free b o e n a)
 .let⟨T,C⟩:=I.base.slot b o e n F a;let⟨S,Q⟩:=D b _ (M b o e) F (B b o e a) C (I.base.free b o e n a);show⟨S,Q⟩
 .let⟨L,C⟩:=I.base.there b o e a;show h b L (B b o e a) C (I.base.free b o e n a)
 .let⟨L,C⟩:=I.base.there b o e a;show E b L (B b o e a) C
 .let⟨m1,C⟩:=I.base.tbls b R e;let⟨Z,Q⟩:=K b _ C;show⟨m1++Z,by rw[Q,Array.append_assoc]⟩
 .let⟨m,hn,hl⟩:=I.loc;show⟨m,ns m hn,λi x v C Q e3=>?_⟩;let⟨u,r,l⟩:=hl i x v C Q e3;show⟨u,r,?_⟩;rcases l with l|⟨k,c,e,z⟩
  .exact .inl l
  .exact .inr ⟨k,c,e,A x c e _ z⟩
 .let⟨v,z⟩:=I.cell x c e;show⟨v,A x c e v z⟩
 .let⟨m,⟨o,_,_,G,_⟩,_⟩:=I.loc;show h _ o (λz=>(y _ z).2.1 rfl) G I.free
 .let⟨v,o,G,V⟩:=I.cell x c e;show h c o (λz=>(y c z).2.2.1 x c e rfl) G (I.freeC x c e)
 .let⟨e,n,ne,nf,d⟩:=I.pin p W;have j:p.1∉ch:=λz=>(y p.1 z).2.2.2 p W rfl;show⟨t p.1 p.2 ne nf j e n,h p.1 p.2 j e n,ne,nf,d⟩
theorem Inv.un{t':Nat}(I:Inv X f g H s)(u:Un X.fs [] H w s.heap h')(c:HOk X.prog X.w w h'):Inv X f g w { s with heap:=h',toks:=t' }:=by
 let⟨m,⟨o,x,y,j,r⟩,_⟩:=id I.loc;let⟨q,p⟩:=u.any j I.free az;show I.step (g':=s.gens) (d':=s.drawn) (ch:=[]) (λ_ z=>nomatch z) (λb o _ d _ e n=>u.keep b o e n d az) (λb o _ d _ e n=>u.slot b o e n d az) (λb o _ e n=>u.free b o e n az) (λb o _ e=>u.there b o e az) u.tups u.frzs u.tbls (λv l=>by let⟨t,h,i,a,k⟩:=l;rw[j]at a;ext a;show⟨_,h,i,p,k⟩) c I.bare
theorem Inv.call{t':Nat}(I:Inv X f g H s)(u:Un (frs X.stack) ch H w s.heap h')(i:HOk X.prog X.w w h')(y:AllBare g')
  (h:∀b∈ch,(b∈X.ex\/X.s₀.heap.objs.size<=b)/\b≠X.env.locals/\(∀x c,X.env.cells.lookup x=some c->c≠b)/\∀p∈X.pn++f,p.1≠b):
  Inv X f g w { s with heap:=h',gens:=g',drawn:=d',toks:=t' }:=by
 let⟨m,⟨o,E,F,q,r⟩,_⟩:=id I.loc;let⟨B,j⟩:=u.any q I.free λz=>(h _ z).2.1 rfl;show I.step (ch:=ch) h (λb o j A a e n=>u.keep b o e n (λz=>(aT.mp (I.stkSub b z)).elim j A) a) (λb o _ _ a e n=>u.any e n a) (λb o a e n=>u.free b o e n a) (λb o a e=>u.there b o e a) u.tups u.frzs u.tbls (λD v=>by let⟨C,k,l,d,t⟩:=v;rw[q]at d;ext d;show⟨_,k,l,j,t⟩) i y
theorem Inv.turned{t':Nat}(I:Inv X f g H s)(k:∀b o,b≠it->s.heap.get? b=some o->h'.get? b=some o)(i:H it=none)(h:it≠X.env.locals)
  (A:it∈X.ex\/X.s₀.heap.objs.size<=it) (y:∀x c,X.env.cells.lookup x=some c->c≠it) (t:∀p∈X.pn++f,p.1≠it):Inv X f g H { s with heap:=h',toks:=t' }:=by
 have d:∀b u,H b=some u->b≠it:=λb u e z=>by rw[z,i]at e;ext e
 show I.step (g':=s.gens) (d':=s.drawn) (ch:=[it]) (λb l=>?_) (λb o _ _ a e _=>k b o (λz=>a (by simp[z])) e) (λb o _ _ a e _=>⟨o.slots,k b o (λz=>a (by simp[z])) e⟩) (λ_ _ _ _ n=>n)
  (λb o a e=>⟨o,k b o (λz=>a (by simp[z])) e⟩) (λ_ _ e=>e) (λ_ _ _ e=>e) (λb B e=>⟨#[],by rw[e];simp⟩) (λm j=>?_) (λb u e=>?_) I.bare
 .have e:b=it:=by simpa using l
  subst e;show⟨A,h,y,t⟩
 .let⟨o,es,ep,ho,r⟩:=j;show⟨o,es,ep,k _ o (dr h) ho,r⟩
 .refine(I.hok b u e).stay (λc v a q=>k c v ?_ q) (λ_ q=>q) λ_ _ q=>q;rcases a with z|z
  .rw[z];show d b u e
  .exact d c _ z
theorem Inv.tok(I:Inv X f g H s)(t:Nat):Inv X f g H { s with toks:=t }:=I.un (h':=s.heap) (t':=t) Un.refl I.hok
theorem Inv.kept{t':Nat}(I:Inv X f g H s)(k:∀b u,s.heap.get? b=some u->h'.get? b=some u):Inv X f g H { s with heap:=h',toks:=t' }:=I.un (Un.kept k) (I.hok.kept k)
theorem Inv.laid{t':Nat}(I:Inv X f g H s)(k:∀b u,s.heap.get? b=some u->h'.get? b=some u)(d:s.heap.objs.size<=a)(c:ObjOk X.prog X.w (upd H a o) h' a o):
  Inv X f g (upd H a o) { s with heap:=h',toks:=t' }:=I.un (Un.laid k d (I.hok.fresh d)) (I.hok.laid k d c)
theorem Inv.write{t':Nat}(I:Inv X f g H s)(d:Mut (H x))(h:e=x\/H e=some (.own x))(k:∀b u,b≠e->s.heap.get? b=some u->h'.get? b=some u)(a:∃u,h'.get? e=some u)
  (c:ObjOk X.prog X.w (upd H x o) h' x o):Inv X f g (upd H x o) { s with heap:=h',toks:=t' }:=I.un (Un.write d h k a) (I.hok.write d h k a c)
theorem Inv.pins_of{a:Qc}(I:Inv X f g H s)(h:∀p∈a,s.heap.get? p.1=some p.2/\H p.1=none/\p.1≠X.env.locals/\p.1∉X.fs/\∀v,p.2.data≠ .cell v):Inv X a g H s:=
 ⟨I.ok,I.os,I.bare,I.base,I.loc,I.cell,I.free,I.freeC,λp b=>(bz.mp b).elim (λz=>I.pin p (dw _ z)) (h p),I.hok,I.len⟩
theorem yt6{N:List Str}(c:N.Nodup){i j:Nat}{x:Str}(a:N[i]? =some x)(b:N[j]? =some x):i=j:=by let⟨k,e⟩:=bg.mp a;let⟨h,d⟩:=bg.mp b;show(getElem_inj c).mp (e.trans d.symm)
theorem zk3{E:Qa}{i:Nat}{Q:Unit->Shared->Prop}(I:Inv X f g H s)(hN:X.N.Nodup)(hi:X.N[i]? =some x)(D:Loc X.env.scope x)(r:RelV v u)
  (h:∀s',Inv X f (g.set i (some v)) H s'->(∃a,Heap.SameBut a s.heap s'.heap/\(a=X.env.locals\/X.env.cells.lookup x=some a))->Q () s') (hf:X.fn x=true\/X.env.scope.names.lookup x=some .local:=by first|show .inl rfl|show .inr rfl|assumption):wpAny M A (storeName X.env x u) Q E s:=by
 let⟨m,hn,hl⟩:=id I.loc;have S:(X.env.scope.kind== .class || (X.env.scope.kind== .module&&X.env.locals != X.env.globals))=false:=by rw[I.ok.kind];rfl
 have K:i<g.length:=by rw[I.len];show(bg.mp hi).1
 have O:=I.cne;have t:∀{a:Addr}{h':Heap},(∃o,s.heap.get? a=some o/\H a=none)->Heap.SameBut a s.heap h'->HOk X.prog X.w H h':=λ{a h'} ha l b ob e=>by
  let⟨_,_,F⟩:=ha;show(I.hok b ob e).stay (λc U C q=>(l.2 c ?_).trans q) (λ_ q=>q) λ_ _ q=>q;rintro rfl;rcases C with rfl|C
  .rw[F]at e;ext e
  .rw[F]at C;ext C
 rcases D with J|J
 .refine wpAny_storeName_local J hn (λh' a1 l=>?_) S;let⟨oL,_,_,a0,_⟩:=id hn;show h _ ⟨I.ok,I.os,I.bare,⟨λb o e n L D=>?_,λb o e n L D=>?_,I.base.free,λb o e D=>?_,I.base.tups,I.base.frzs,I.base.tbls⟩,⟨_,a1,λj y Y B G e3=>?_⟩,λy c e=>?_,I.free,I.freeC,λp hp=>?_,t ⟨oL,a0,I.free⟩ l,by simpa using I.len⟩ ⟨_,l,.inl rfl⟩
  .exact(l.2 b (bp (bb (aS e) I.ok.above))).trans (I.base.keep b o e n L D)
  .let⟨sl,B⟩:=I.base.slot b o e n L D;show⟨sl,(l.2 b (bp (bb (aS e) I.ok.above))).trans B⟩
  .let⟨o',B⟩:=I.base.there b o e D;show⟨o',(l.2 b (bp (bb (aS e) I.ok.above))).trans B⟩
  .by_cases hj:j=i
   .subst hj;rw[hi]at B;ext B;rw[aN K]at G;ext G;show⟨u,r,.inl ⟨J,by simp⟩⟩
   .rw[aR (dr hj)]at G;let⟨Z,r',q⟩:=hl j y Y B G e3;show⟨Z,r',?_⟩;rcases q with⟨k,e⟩|⟨k,c,e,z⟩
    .refine .inl ⟨k,?_⟩;have:y≠x:=λe=>hj (yt6 hN B (e ▸ hi));simp[this,e]
    .exact .inr ⟨k,c,e,z.sameBut l (O y c e)⟩
  .let⟨U,z⟩:=I.cell y c e;show⟨U,z.sameBut l (O y c e)⟩
  .let⟨e,n,ne,nf,d⟩:=I.pin p hp;show⟨(l.2 p.1 ne).trans e,n,ne,nf,d⟩
 .have hfn:X.fn x=true:=by
   rcases hf with z|z
   .exact z
   .rw[z]at J;ext J
  let⟨c,C⟩:=I.ok.has x (.inl J);let⟨U,z⟩:=I.cell x c C;show wpAny_storeName_cell I.ok.kind J C z (λh' T l=>?_);let⟨oc,R,P⟩:=id z;show h { s with heap:=h' } ⟨I.ok,I.os,I.bare,⟨λb o e n L D=>?_,λb o e n L D=>?_,I.base.free,λb o e D=>?_,I.base.tups,I.base.frzs,I.base.tbls⟩,⟨m,hn.sameBut l (dr (O x c C)),λj y Y B G e3=>?_⟩,λy W e=>?_,I.free,I.freeC,λp hp=>?_,t ⟨oc,R,I.freeC x c C⟩ l,by simpa using I.len⟩ ⟨c,l,.inr C⟩
  .exact(l.2 b (bp (bb (aS e) (I.ok.cab x c hfn C)))).trans (I.base.keep b o e n L D)
  .let⟨sl,B⟩:=I.base.slot b o e n L D;show⟨sl,(l.2 b (bp (bb (aS e) (I.ok.cab x c hfn C)))).trans B⟩
  .let⟨o',B⟩:=I.base.there b o e D;show⟨o',(l.2 b (bp (bb (aS e) (I.ok.cab x c hfn C)))).trans B⟩
  .by_cases hj:j=i
   .subst hj;rw[hi]at B;ext B;rw[aN K]at G;ext G;show⟨u,r,.inr ⟨.inl J,c,C,T⟩⟩
   .rw[aR (dr hj)]at G;let⟨Z,r',q⟩:=hl j y Y B G e3;show⟨Z,r',?_⟩;rcases q with q|⟨k,W,e,z'⟩
    .exact .inl q
    .refine .inr ⟨k,W,e,z'.sameBut l ?_⟩;rintro rfl;show hj (yt6 hN B (I.ok.inj _ _ _ e C ▸ hi))
  .by_cases hcc:W=c
   .subst hcc;show⟨_,T⟩
   .let⟨w2,z2⟩:=I.cell y W e;show⟨w2,z2.sameBut l hcc⟩
  .let⟨e,n,ne,nf,d⟩:=I.pin p hp;show⟨(l.2 p.1 ?_).trans e,n,ne,nf,d⟩;intro q;rw[q,R]at e;have q':oc=p.2:=bm e;show d U (by rw[<-q'];show P)
theorem O1{E:Qa}{i:Nat}{Q:Unit->Shared->Prop}(I:Inv X f g H s)(d:X.N.Nodup)(hi:X.N[i]? =some x)(b:Loc X.env.scope x)(r:RelV v u)
  (h:∀a,Inv X f (g.set i (some v)) H a->Q () a) (c:X.fn x=true\/X.env.scope.names.lookup x=some .local:=by first|show .inl rfl|show .inr rfl|assumption):wpAny M A (storeName X.env x u) Q E s:=
 zk3 I d hi b r (λa e _=>h a e) c
theorem Inv.call'(I:Inv X f g H s)(i:s'.os=s.os)(u:Un (frs X.stack) ch H w s.heap s'.heap)(a:HOk X.prog X.w w s'.heap)(j:AllBare s'.gens)
  (d:∀b∈ch,(b∈X.ex\/X.s₀.heap.objs.size<=b)/\b≠X.env.locals/\(∀x c,X.env.cells.lookup x=some c->c≠b)/\∀p∈X.pn++f,p.1≠b):Inv X f g w s':=by
 let⟨h',g',d',t',h⟩:=s';have e:h=s.os:=i;subst e;show I.call (g':=g') (t':=t') (d':=d') u a j d
end
abbrev XK:=Value->Option Addr->Hp->Prop
noncomputable abbrev St:=List (Option V)
abbrev VK:=V->Hp->Prop
abbrev TE:=St->Hp->VK->Prop
abbrev TT:=St->Hp->(Bool->Hp->Prop)->Prop
abbrev TA:=St->Hp->(List V->Hp->Prop)->Prop
structure Ends where
 nx:St->Hp->Prop
 rt:VK
 bk:St->Hp->Prop:=λ_ _=>False
 ct:St->Hp->Prop:=λ_ _=>False
abbrev TS:=Ends->St->Hp->Prop
def EP(X:Cx)(pins:Qc)(a:St)(Q:VK)(u:Value)(s':Shared):Prop:=∃v H',Inv X pins a H' s'/\RelV v u/\Q v H'
def TP(X:Cx)(pins:Qc)(a:St)(Q:Bool->Hp->Prop)(b:Bool)(s':Shared):Prop:=∃H',Inv X pins a H' s'/\Q b H'
def AP(X:Cx)(pins:Qc)(a:St)(Q:List V->Hp->Prop)(us:List Value)(s':Shared):Prop:=∃vs H',Inv X pins a H' s'/\Vals vs us/\Q vs H'
def SP(X:Cx)(pins:Qc)(D:Ends)(f:Flow)(s':Shared):Prop:=
 match f with
 | .next=>∃σ' H',Inv X pins σ' H' s'/\D.nx σ' H'
 | .brk=>∃σ' H',Inv X pins σ' H' s'/\D.bk σ' H'
 | .cont=>∃σ' H',Inv X pins σ' H' s'/\D.ct σ' H'
 | .ret u=>∃v σ' H',Inv X pins σ' H' s'/\RelV v u/\D.rt v H'
def PE(X:Cx)(e:Expr)(t:TE):Prop:=
 ∀(pins:Qc)(s:Shared)(a:St)(H:Hp)(Q:VK),Inv X pins a H s->t a H Q->wpAny (model X.prog X.w) X.A (eval e X.env) (EP X pins a Q) X.xe s
def PT(X:Cx)(e:Expr)(t:TT):Prop:=
 ∀(pins:Qc)(s:Shared)(a:St)(H:Hp)(Q:Bool->Hp->Prop),Inv X pins a H s->t a H Q->wpAny (model X.prog X.w) X.A (isTrue e X.env (eval e X.env)) (TP X pins a Q) X.xe s
def PW(X:Cx)(e:Expr)(t:TT):Prop:=
 ∀(whole:Sem Value)(pins:Qc)(s:Shared)(a:St)(H:Hp)(Q:Bool->Hp->Prop),Inv X pins a H s->t a H Q->wpAny (model X.prog X.w) X.A (isTrue e X.env whole) (TP X pins a Q) X.xe s
theorem PW.pt{X:Cx}(h:PW X e t):PT X e t:=h _
def PA(X:Cx)(es:List Expr)(t:TA):Prop:=
 ∀(pos:Pos)(pins:Qc)(s:Shared)(a:St)(H:Hp)(Q:List V->Hp->Prop),Inv X pins a H s->t a H Q->wpAny (model X.prog X.w) X.A (spliced (backTo pos (starEach es X.env))) (AP X pins a Q) X.xe s
def PS(X:Cx)(st:Stmt)(t:TS):Prop:=
 ∀(pins:Qc)(s:Shared)(a:St)(H:Hp)(D:Ends),Inv X pins a H s->t D a H->wpAny (model X.prog X.w) X.A (exec st X.env) (SP X pins D) X.xe s
def PSs(X:Cx)(st:List Stmt)(t:TS):Prop:=
 ∀(pins:Qc)(s:Shared)(a:St)(H:Hp)(D:Ends),Inv X pins a H s->t D a H->wpAny (model X.prog X.w) X.A (execs st X.env) (SP X pins D) X.xe s
theorem thn{b:Type}{t:Sem b}{Q c:b->Shared->Prop}{E:Qa}(h:wpAny M A t Q E s)(d:∀a s,Q a s->c a s):wpAny M A t c E s:=dE h d λ_ _ x=>x
section
variable {X:Cx}
def tVar(i:Nat):TE:=λa H Q=>∃v,a[i]? =some (some v)/\Q v H
def tC(v:V):TE:=λ_ H Q=>Q v H
theorem wd0{i:Nat}(C:X.N[i]? =some x)(y:Vis X.env.scope x)(p:(x==("__debug__":Str))=false:=by decide)(q:(x==("__classdict__":Str))=false:=by decide):PE X (.Name x f) (tVar i):=by
 intro o s w H Q I h;let⟨v,e,h⟩:=h;let⟨m,z,B⟩:=I.loc;let⟨u,r,l⟩:=B i x v C e y;have fin:EP X o w Q u s:=⟨v,H,I,r,h⟩;rcases l with⟨j,A⟩|⟨j,c,t,d⟩
 .exact wpAny_Name (wpAny_loadName_local I.ok.kind j z A fin) p
 .rcases j with j|j
  .exact wpAny_Name (wpAny_loadName_cell I.ok.kind j t d fin) p
  .exact wpAny_Name (wpAny_loadName_free I.ok.kind j t d fin q) p
theorem pe_int{i j f}:PE X (.Constant (.int i) j f) (tC (.int i)):=λ_ _ _ H _ I h=>wpAny_Constant_int ⟨.int i,H,I.tok _,⟨_,rfl⟩,h⟩
theorem pe_bl{b j f}:PE X (.Constant (.bool b) j f) (tC (.bl b)):=λ_ _ _ H _ I h=>Constant_bool ⟨.bl b,H,I,rfl,h⟩
theorem pe_non{j f}:PE X (.Constant .none j f) (tC .non):=λ_ _ _ H _ I h=>Constant_none ⟨.non,H,I,rfl,h⟩
def Gl(X:Cx)(x:Str):Prop:=X.env.kindOf x=some .globalImplicit
theorem xy0{E:Qa}{c:Qc}{Q:Qa}(I:Inv X c d H s)(i:Gl X x)(e:X.mg x=some u)(h:Q u s)
  (j:(x==("__debug__":Str))=false:=by decide):wpAny (model X.prog X.w) X.A (eval (.Name x f) X.env) Q E s:=
 Calls.Name_function_global I.ok.kind i (Calls.loadGlobal_global (by rw[I.ok.glob];show I.mod.glob.keeps I.bk) e h) j
theorem V6{E:Qa}{c:Qc}{Q:Qa}(I:Inv X c d H s)(l:Gl X x)(j:X.mg x=none)(e:bootBuiltins x=some u)(h:Q u s)
  (i:x≠"__name__":=by decide) (m:(x==("__debug__":Str))=false:=by decide):wpAny (model X.prog X.w) X.A (eval (.Name x f) X.env) Q E s:=by
 let⟨q,p,o⟩:=I.mod.blt;show Calls.Name_function_global I.ok.kind l (Calls.loadGlobal_builtin (by rw[I.ok.glob];show I.mod.glob.keeps I.bk) j (by rw[I.ok.blt];show p.keeps I.bk) ((o x i).trans e) h) m
theorem wu1(d:Gl X x)(c:X.mg x=some u)(r:RelV v u)(e:(x==("__debug__":Str))=false:=by decide):PE X (.Name x f) (tC v):=
 λ_ _ _ H _ I h=>xy0 I d c ⟨v,H,I,r,h⟩ e
theorem wu3(i:Gl X x)(e:X.mg x=none)(c:bootBuiltins x=some u)(r:RelV v u)(d:x≠"__name__":=by decide)(j:(x==("__debug__":Str))=false:=by decide):PE X (.Name x f) (tC v):=
 λ_ _ _ H _ I h=>V6 I i e c ⟨v,H,I,r,h⟩ d j
variable {a b:Expr}{g tb:TE}{f:Pos}
def tB(t:TE):TT:=λa H Q=>t a H λx H1=>∃c,x= .bl c/\Q c H1
variable {k n:TT}{rest:List Expr}
def tAnd(t u:TT):TT:=λa H Q=>t a H λc H1=>if c=true then u a H1 Q else Q false H1
def tOr(t u:TT):TT:=λa H Q=>t a H λc H1=>if c=true then Q true H1 else u a H1 Q
def tNot(t:TT):TT:=λa H Q=>t a H λc H1=>Q (!c) H1
theorem yg8(j:PT X a k):PW X (.BoolOp .And [a] f) k:=by
 intro l d s i H Q I h;show isTrue_and (thn (j d s i H Q I h) λc m e=>?_);cases c with
 |true=>show isTrue_and_nil e
 |false=>show e
theorem wf9(j:PT X a k):PW X (.BoolOp .Or [a] f) k:=by
 intro l d s i H Q I h;show isTrue_or (thn (j d s i H Q I h) λc m e=>?_);cases c with
 |false=>show isTrue_or_nil e
 |true=>show e
theorem xd2(r:PT X a k)(q:PW X (.BoolOp .And (b::rest) f) n):PW X (.BoolOp .And (a::b::rest) f) (tAnd k n):=by
 intro o d s i H Q I h;show isTrue_and (thn (r d s i H _ I h) λc p e=>?_);let⟨m,l,j⟩:=e;cases c with
 |true=>show q o d p i m Q l j
 |false=>show⟨m,l,j⟩
theorem vp7(r:PT X a k)(q:PW X (.BoolOp .Or (b::rest) f) n):PW X (.BoolOp .Or (a::b::rest) f) (tOr k n):=by
 intro o d s i H Q I h;show isTrue_or (thn (r d s i H _ I h) λc p e=>?_);let⟨m,l,j⟩:=e;cases c with
 |true=>show⟨m,l,j⟩
 |false=>show q o d p i m Q l j
theorem we1(i:PT X a k):PT X (.UnaryOp .Not a f) (tNot k):=by intro d s e H Q I h;show isTrue_not (i d s e H (λc j=>Q (!c) j) I h)
def vp1(g tb:TE):TE:=λa H Q=>g a H λx H1=>∃c,x= .bl c/\if c=true then tb a H1 Q else Q (.bl false) H1
def vq8(g:TE):TE:=λa H Q=>g a H λx H1=>∃c,x= .bl c/\Q (.bl (!c)) H1
theorem wd2{op}(h:PE X a t):PE X (.BoolOp op [a] f) t:=λc s d H Q I hw=>BoolOp_one (h c s d H Q I hw)
theorem wd4(r:PE X a g)(q:PE X (.BoolOp .And (b::rest) f) tb):PE X (.BoolOp .And (a::b::rest) f) (vp1 g tb):=by
 intro d s j H Q I h;show BoolOp_and (thn (r d s j H _ I h) λv o e=>?_);let⟨x,m,l,p,i⟩:=e;let⟨c,rfl,i⟩:=i;ext p;show dU ?_;cases c with
 |true=>show q d o j m Q l i
 |false=>show⟨.bl false,m,l,rfl,i⟩
theorem wd3(m:PE X a g):PE X (.UnaryOp .Not a f) (vq8 g):=by intro d s j H Q I h;show UnaryOp_ (thn (m d s j H _ I h) λv q e=>?_);let⟨x,p,o,l,i⟩:=e;let⟨c,rfl,i⟩:=i;ext l;show not_of (dU ⟨.bl (!c),p,o,rfl,i⟩)
def tIf(t:TT)(g tb:TE):TE:=λa H Q=>t a H λc H1=>if c=true then g a H1 Q else tb a H1 Q
theorem xn9(q:PT X c k)(t:PE X a g)(r:PE X b tb):PE X (.IfExp c a b f) (tIf k g tb):=by
 intro e s j H Q I h;show wpAny_IfExp (thn (q e s j H _ I h) λd l i=>?_);let⟨p,o,m⟩:=i;cases d with
 |true=>show t e l j p Q o m
 |false=>show r e l j p Q o m
end
def SqL(K:W.Frag)(H:Hp)(a:Addr)(xs:List V):Prop:=
 Rd H a (.lst xs)\/
  ∃(o:Obj)(its:Array Value)(n:Nat),K.lookup a=some o/\o.cls= .type "list"/\o.dict=none/\o.data= .seq its n/\its.size<=sizeLine/\Vals xs its.toList
def SqT(K:W.Frag)(H:Hp)(a:Addr)(xs:List V):Prop:=
 Rd H a (.tup xs)\/
  ∃(o:Obj)(its:Array Value)(n:Nat),K.lookup a=some o/\o.cls= .type "tuple"/\o.data= .seq its n/\its.size<=sizeLine/\Vals xs its.toList
noncomputable def absV:Value->Option V
 | .none=>some .non
 | .bool b=>some (.bl b)
 | .int i _=>some (.int i)
 | .str x _=>some (.str x)
 | .bytes b _=>some (.byt b)
 | .float b _=>some (.flt b)
 | .ref a=>some (.ref a)
 | .type n=>some (.ty n)
 |_=>none
theorem RelV.abs(r:RelV x u):absV u=some x:=by
 cases x with
 |non=>ext r;rfl
 |bl _=>ext r;rfl
 |int _=>let⟨t,rfl⟩:=r;rfl
 |str _=>let⟨t,rfl⟩:=r;rfl
 |byt _=>let⟨t,rfl⟩:=r;rfl
 |flt _=>let⟨t,rfl⟩:=r;rfl
 |ref _=>ext r;rfl
 |ty _=>ext r;rfl
theorem RelV.inj(r:RelV x u)(q:RelV y u):x=y:=bm (r.abs.symm.trans q.abs)
theorem Vals.inj:∀{xs a:List V}{b:List Value},Vals xs b->Vals a b->xs=a:=by
 intro x a b r;induction r generalizing a with
 |nil=>intro s;ext s;rfl
 |cons r t i=>intro s;cases s with|cons c u=>rw[r.inj c,i u]
section
variable {b:Qc}{c:St}{xs f:List V}
theorem SqL.of{K:W.Frag}(h:H a=some (.lst xs)):SqL K H a xs:=.inl (.inl h)
theorem SqT.of{K:W.Frag}(h:H a=some (.tup xs)):SqT K H a xs:=.inl (.inl h)
theorem Inv.list(I:Inv X b c H s)(h:SqL X.K H a xs):∃d:List Value,Vals xs d/\PlainL s.heap a d.toArray/\xs.length<=sizeLine:=by
 rcases h with h|⟨o,d,n,i,k,j,g,l,r⟩
 .let⟨z,d,n,r,e⟩:=h.ok I.hok;show⟨d,r,⟨_,n,e,rfl,rfl,rfl⟩,z⟩
 .refine⟨d.toList,r,⟨o,n,I.kIn a o i,k,j,by simpa using g⟩,?_⟩;have e:=r.length;simp only[Array.length_toList]at e;lia
theorem Inv.tuple(I:Inv X b c H s)(h:SqT X.K H a xs):∃d:List Value,Vals xs d/\IsTup s.heap a d.toArray/\xs.length<=sizeLine:=by
 rcases h with h|⟨o,d,n,i,j,g,k,r⟩
 .let⟨z,d,r,p⟩:=h.ok I.hok;show⟨d,r,p,z⟩
 .refine⟨d.toList,r,⟨o,I.kIn a o i,j,n,by simpa using g⟩,?_⟩;have e:=r.length;simp only[Array.length_toList]at e;lia
theorem Inv.list_inj(I:Inv X b c H s)(h:SqL X.K H a xs)(h':SqL X.K H a f):xs=f:=by
 let⟨g,r,⟨o,n,e,_,_,d⟩,_⟩:=I.list h;let⟨its',k,⟨m,p,i,_,_,j⟩,_⟩:=I.list h';rw[e]at i;ext i;rw[d]at j;injection j with l _
 have:g=its':=by simpa using bf Array.toList l
 subst this;show r.inj k
theorem Inv.tuple_inj(I:Inv X b c H s)(h:SqT X.K H a xs)(h':SqT X.K H a f):xs=f:=by
 let⟨g,r,⟨o,e,_,n,d⟩,_⟩:=I.tuple h;let⟨its',k,⟨m,i,_,p,j⟩,_⟩:=I.tuple h';rw[e]at i;ext i;rw[d]at j;injection j with l _
 have:g=its':=by simpa using bf Array.toList l
 subst this;show r.inj k
end
abbrev Cx.wish(X:Cx)(E:Qa):Cx:={ X with xe:=E }
abbrev Cx.nox(X:Cx):Cx:=X.wish λ_ _=>False
theorem Cx.Ok.wish{X:Cx}(ok:X.Ok)(E:Qa):(X.wish E).Ok:=
 ⟨ok.mod,ok.kind,ok.glob,ok.blt,ok.above,ok.inj,ok.has,ok.cab,ok.hd,ok.frames,ok.stk,ok.exf,ok.bs,ok.bsz,ok.noex,ok.exfs,ok.funs,ok.frf⟩
theorem Cx.Ok.unwish{X:Cx}{E:Qa}(ok:(X.wish E).Ok):X.Ok:=
 ⟨ok.mod,ok.kind,ok.glob,ok.blt,ok.above,ok.inj,ok.has,ok.cab,ok.hd,ok.frames,ok.stk,ok.exf,ok.bs,ok.bsz,ok.noex,ok.exfs,ok.funs,ok.frf⟩
section
variable {b:St}
theorem Inv.wish(I:Inv X a b H s)(E:Qa):Inv (X.wish E) a b H s:=⟨I.ok.wish E,I.os,I.bare,I.base,I.loc,I.cell,I.free,I.freeC,I.pin,I.hok,I.len⟩
theorem Inv.unwish(I:Inv (X.wish E) a b H s):Inv X a b H s:=⟨I.ok.unwish,I.os,I.bare,I.base,I.loc,I.cell,I.free,I.freeC,I.pin,I.hok,I.len⟩
theorem SP.unwish{D:Ends}(h:SP (X.wish E) a D f s'):SP X a D f s':=by
 cases f with
 |next=>let⟨c,d,I,q⟩:=h;show⟨c,d,I.unwish,q⟩
 |brk=>let⟨c,d,I,q⟩:=h;show⟨c,d,I.unwish,q⟩
 |cont=>let⟨c,d,I,q⟩:=h;show⟨c,d,I.unwish,q⟩
 |ret u=>let⟨v,c,d,I,r,q⟩:=h;show⟨v,c,d,I.unwish,r,q⟩
theorem PSs.nox{st:List Stmt}(h:PSs X.nox st t):PSs X st t:=λa s b H D I hw=>
 dE (h a s b H D (I.wish _) hw) (λ_ _ q=>q.unwish) λ_ _ z=>False.elim z
end
section
variable {X:Cx}{st:Stmt}{rest:List Stmt}{t u:TS}{g:Pos}
def vq9:TS:=λD a H=>D.nx a H
def tSeq(t u:TS):TS:=λD a H=>t { D with nx:=u D } a H
theorem pss_nil:PSs X [] vq9:=λ_ _ a H _ I h=>wpAny_execs_nil ⟨a,H,I,h⟩
theorem S2(j:PS X st t)(i:PSs X rest u):PSs X (st::rest) (tSeq t u):=by
 intro a s c H D I h;show wpAny_execs_cons (thn (j a s c H { D with nx:=u D } I h) λf d q=>?_);cases f with
 |next=>let⟨b,l,k,q⟩:=q;show i a d b l D k q
 |ret v=>show q
 |brk=>show q
 |cont=>show q
theorem zc9(c:PS X st t):PSs X [st] t:=by
 intro a s b H D I h;show wpAny_execs_cons (thn (c a s b H D I h) λf d q=>?_);cases f with
 |next=>show wpAny_execs_nil q
 |ret v=>show q
 |brk=>show q
 |cont=>show q
theorem Inv.quiet{a:Qc}(I:Inv X a b H s):interactive X.env=false:=by simp[interactive,I.ok.kind]
def vp0(te:TE):TS:=λD a H=>te a H λ_ H1=>D.nx a H1
theorem zq2(f:PE X e te)(d:swapsWith e none g.line X.env=pure false:=by rfl):PS X (.Expr e g) (vp0 te):=by intro a s b H D I h;show wpAny_Expr_any (thn (f a s b H _ I h) λv k zQ=>by let⟨x,j,i,l,c⟩:=zQ;show ⟨b,j,i,c⟩) I.quiet d
def tRet(te:TE):TS:=λD a H=>te a H D.rt
theorem J4(f:PE X e te):PS X (.Return (some e) g) (tRet te):=by intro a s b H D I h;show wpAny_Return_some (thn (f a s b H _ I h) λv k zQ=>by let⟨x,j,i,c,d⟩:=zQ;show ⟨x,b,j,i,c,d⟩)
def tIfS(c:TT)(t u:TS):TS:=λD a H=>c a H λb H1=>if b=true then t D a H1 else u D a H1
theorem ww7(o:PT X c tc)(q:PSs X a t)(p:PSs X b u):PS X (.If c a b g) (tIfS tc t u):=by
 intro f s j H D I h;show wpAny_If (thn (o f s j H _ I h) λd k i=>?_);let⟨n,m,l⟩:=i;cases d with
 |true=>show q f k j n D m l
 |false=>show p f k j n D m l
def wi7:TS:=λ_ _ _=>False
theorem ps_never:PS X st wi7:=λ_ _ _ _ _ _ h=>h.elim
end
abbrev TG:=V->St->Hp->(St->Hp->Prop)->Prop
abbrev TGs:=List V->St->Hp->(St->Hp->Prop)->Prop
def PG(X:Cx)(target:Expr)(t:TG):Prop:=
 ∀(pins:Qc)(s:Shared)(a:St)(H:Hp)(v:V)(u:Value)(Q:St->Hp->Prop),Inv X pins a H s->RelV v u->t v a H Q->
  wpAny (model X.prog X.w) X.A (assign target X.env u) (λ_ s'=>∃σ' H',Inv X pins σ' H' s'/\Q σ' H') X.xe s
def PGs(X:Cx)(ts:List Expr)(t:TGs):Prop:=
 ∀(pins:Qc)(s:Shared)(a:St)(H:Hp)(vs:List V)(us:List Value)(Q:St->Hp->Prop),Inv X pins a H s->Vals vs us->t vs a H Q->
  wpAny (model X.prog X.w) X.A (assignInOrder ((assignEach ts X.env).map (·.2)) us) (λ_ s'=>∃σ' H',Inv X pins σ' H' s'/\Q σ' H') X.xe s
abbrev TSet:=V->V->V->Hp->(Hp->Prop)->Prop
def PSet(X:Cx)(t:TSet):Prop:=
 ∀(pins:Qc)(s:Shared)(a:St)(H:Hp)(o i v:V)(ov iv u:Value)(Q:Hp->Prop),Inv X pins a H s->RelV o ov->RelV i iv->RelV v u->t o i v H Q->
  wpAny (model X.prog X.w) X.A (setItem ov iv u) (λ_ s'=>∃H',Inv X pins a H' s'/\Q H') X.xe s
abbrev TIp:=V->V->Hp->VK->Prop
def PIp(X:Cx)(op:Operator)(t:TIp):Prop:=
 ∀(pins:Qc)(s:Shared)(a:St)(H:Hp)(x y:V)(v u:Value)(Q:VK),Inv X pins a H s->RelV x v->RelV y u->t x y H Q->
  wpAny (model X.prog X.w) X.A (inplaceOp op v u) (EP X pins a Q) X.xe s
section
variable {d:Pos}
def R0(i:Nat):TG:=λv a H Q=>Q (a.set i (some v)) H
theorem Q1{i:Nat}(e:X.N.Nodup)(hi:X.N[i]? =some x)(b:Loc X.env.scope x)(c:X.fn x=true\/X.env.scope.names.lookup x=some .local:=by first|show .inl rfl|show .inr rfl|assumption):PG X (.Name x d) (R0 i):=by intro a s g H v u Q I r h;show wpAny_assign_Name (O1 I e hi b r (λj f=>⟨_,H,f,h⟩) c)
def gNil:TGs:=λvs a H Q=>vs=[]/\Q a H
def xi8(t:TG)(u:TGs):TGs:=λvs a H Q=>∃v r,vs=v::r/\t v a H λσ' H'=>u r σ' H' Q
theorem yd2:PGs X [] gNil:=by intro a s b H c f Q I r h;let⟨e,h⟩:=h;subst e;ext r;show assignInOrder_nil ⟨b,H,I,h⟩
theorem yt2(m:PG X e t)(l:PGs X es u)
  (k:(assignEach (e::es) X.env).map (·.2)=assign e X.env::(assignEach es X.env).map (·.2):=by rfl):PGs X (e::es) (xi8 t u):=by
 intro a s f H q x Q I r h;let⟨v,w,n,h⟩:=h;subst n;cases r with
 |cons r i=>rw[k];show assignInOrder_cons (thn (m a s f H _ _ _ I r h) λ_ g b=>?_);let⟨c,p,o,j⟩:=b;show l a g c p _ _ Q o i j
def gTup(K:W.Frag)(n:Nat)(t:TGs):TG:=λv b H Q=>∃a xs,v= .ref a/\SqT K H a xs/\xs.length=n/\t xs b H Q
theorem we4{k:Nat}{n:Nat}(y:X.calm=true)(h:PGs X es t)
  (w:(assignEach es X.env).length=n:=by rfl) (f:(assignEach es X.env).findIdx? (·.1)=none:=by rfl):PG X (.Tuple es k d) (gTup X.K n t):=by
 intro c s g H v u Q I r hw;let⟨a,j,A,q,x,hw⟩:=hw;subst A;ext r;let⟨l,i,p,C⟩:=I.tuple q;show assign_Tuple_tuple (I.ok.hd y) p (by simp[w,<-x,i.length]) f λz m=>?_;have B:Inv X c g H { s with heap:=z }:=I.kept (t':=s.toks) λb o e=>m b o (bp (aS e)) e;show h c _ g H j _ Q B (by simpa using i) hw
def gSub(to ti:TE)(t:TSet):TG:=λv a H Q=>to a H λo H1=>ti a H1 λi H2=>t o i v H2 λH3=>Q a H3
theorem yd3(A:PE X o g)(hi:PE X i j)(z:PSet X t)
  (B:∀v,assign (.Subscript o i d) X.env v=(do
   let c ← holding [v] (eval o X.env)
   let e ← holding [v,c] (eval i X.env)
   standAt d
   holding [v,c,e] (setItem c e v)
   release [v,c,e] []):=by intro _;rfl):PG X (.Subscript o i d) (gSub g j t):=by
 intro b s f H v u Q I r h;rw[B];show aB (cv (thn (A b s f H _ I h) λc l a=>?_));let⟨x,J,E,n,w⟩:=a;show aB (cv (thn (hi b l f J _ E w) λe k a=>?_));let⟨y,G,D,m,q⟩:=a;show aB (eu (aB (cv (thn (z b k f G x y v c e u _ D n m r q) λ_ K a=>?_))));let⟨F,C,p⟩:=a;show wpAny_release ⟨f,F,C,p⟩
def tAsg(te:TE)(g:TG):TS:=λD a H=>te a H λx H1=>g x a H1 D.nx
theorem yf9(n:PE X e te)(m:PG X b g)(l:swapsWithSole [b] e d.line X.env=pure false:=by rfl)(hw:swappedStores [b] e X.env=pure none:=by rfl)
  (o:(assignEach [b] X.env).map (·.2)=[assign b X.env]:=by rfl):PS X (.Assign [b] e d) (tAsg te g):=by
 intro a s f H D I h;show wpAny_Assign_stores (thn (n a s f H _ I h) λv i c=>?_) l hw;let⟨x,r,p,j,k⟩:=c;rw[o];show thn (m a i f r x v _ p j k) λ_ t q=>q
theorem yf7{i:Nat}(o:X.N.Nodup)(hi:X.N[i]? =some x)(k:Loc X.env.scope x)(n:PE X e te)(l:swapsWith e (some (.Name x a)) d.line X.env=pure false:=by rfl)(m:X.fn x=true\/X.env.scope.names.lookup x=some .local:=by first|show .inl rfl|show .inr rfl|assumption):
  PS X (.Assign [.Name x a] e d) (tAsg te (R0 i)):=by
 intro b s f H D I h;show wpAny_Assign_Name (thn (n b s f H _ I h) λv u c=>?_) l;let⟨y,r,q,g,j⟩:=c;show O1 q o hi k g (λt p=>⟨_,r,p,j⟩) m
def tPar(i j:Nat)(ta:TA):TS:=λD a H=>ta a H λvs H1=>∃v w,vs=[v,w]/\D.nx ((a.set i (some v)).set j (some w)) H1
theorem we2{i j:Nat}{z B f}(W:X.calm=true)(L:X.N.Nodup)(hi:X.N[i]? =some x)(V:X.N[j]? =some y)(E:i≠j)
  (K:X.env.scope.names.lookup x=some .local) (J:X.env.scope.names.lookup y=some .local) (Y:PA X [a,b] G)
  (hw:swappedStores [.Tuple [.Name x t,.Name y r] z u] (.Tuple [a,b] B f) X.env=pure (some [x,y]))
  (U:swapsWithSole [.Tuple [.Name x t,.Name y r] z u] (.Tuple [a,b] B f) d.line X.env=pure false:=by rfl):
  PS X (.Assign [.Tuple [.Name x t,.Name y r] z u] (.Tuple [a,b] B f) d) (tPar i j G):=by
 intro c s F H D I h;rw[exec_Assign_arm];show aB (eu ?_);rw[U];show aB (aD ?_);rw[aF ay];show aB (Tuple_ (thn (Y _ c s F H _ I h) λP k l=>?_));let⟨vs,O,I1,R,n⟩:=l;let⟨v,w,Z,n⟩:=n;subst Z;obtain⟨g,u2,rfl,Q,m⟩:∃g u2,P=[g,u2]/\RelV v g/\RelV w u2:=by
  cases R with
  |cons p q=>
   cases q with
   |cons T S=>ext S;show⟨_,_,rfl,p,T⟩
 show bU ?_ (by show 2<=sizeLine;decide);have I2:Inv X c F O { k with heap:=k.heap.push { cls:=.type "tuple",data:=.seq [g,u2].toArray } }:=I1.kept (t':=k.toks) λb o e=>aC _ e;rw[hw];show aB (aD ?_);show wpAny (model X.prog X.w) X.A (do rule "assign.swapped-stores";let items ← unpackItems (.ref k.heap.objs.size) 2 none;assignInOrder [λv=>bindName X.env y v,λv=>bindName X.env x v] items.reverse;pure Flow.next) _ _ _;show aB (cn (aB (unpackItems_tuple (items:=#[g,u2]) (I.ok.hd W) (IsTup.new k.heap _) λh' C=>?_)));have I3:=I2.kept (h':=h') (t':=k.toks) λb o e=>C b o (bp (aS e)) e;show wpAny _ _ (assignInOrder [λv=>bindName X.env y v,λv=>bindName X.env x v] [u2,g] >>= λ_=>pure Flow.next) _ _ _;show aB (assignInOrder_cons (wpAny_bindName (O1 I3 L V (.inl J) m (λs2 I4=>?_) (.inr J))));show assignInOrder_cons (wpAny_bindName (O1 I4 L hi (.inl K) Q (λs3 M=>assignInOrder_nil (aD ?_)) (.inr K)));rw[set_comm _ _ (dr E)]at M;show⟨_,O,M,n⟩
def tAug(i:Nat)(te:TE)(ti:TIp):TS:=λD a H=>∃x,a[i]? =some (some x)/\te a H λy H1=>ti x y H1 λz H2=>D.nx (a.set i (some z)) H2
theorem xd7{i:Nat}(T:X.N.Nodup)(hi:X.N[i]? =some x)(q:Loc X.env.scope x)(R:PE X e te)(L:PIp X op B)(Q:X.fn x=true\/X.env.scope.names.lookup x=some .local:=by first|show .inl rfl|show .inr rfl|assumption):
  PS X (.AugAssign (.Name x o) op e d) (tAug i te B):=by
 intro a s t H D I h;let⟨v,U,h⟩:=h;let⟨m,M,P⟩:=I.loc;have p:Vis X.env.scope x:=by rcases q with k|k;show .inl k;show .inr (.inl k)
 let⟨u,r,l⟩:=P i x v hi U p;show wpAny_AugAssign_Name ?_;have C:wpAny (model X.prog X.w) X.A (eval e X.env) (λw n=>wpAny (model X.prog X.w) X.A (inplaceOp op u w) (λr j=>wpAny (model X.prog X.w) X.A (storeName X.env x r) (λ_=>SP X a D .next) X.xe j) X.xe n) X.xe s:=by show thn (R a s t H _ I h) λw E b=>?_;let⟨y,H1,Y,G,K⟩:=b;show thn (L a E t H1 v y u w _ Y r G K) λz s2 b=>?_;let⟨zv,Z,W,F,J⟩:=b;show O1 W T hi q F (λs3 V=>⟨_,Z,V,J⟩) Q
 rcases l with⟨f,O⟩|⟨f,c,S,g⟩
 .exact wpAny_loadName_local I.ok.kind f M O C
 .rcases f with f|f
  .exact wpAny_loadName_cell I.ok.kind f S g C
  .rcases q with k|k
   .have:X.env.scope.names.lookup x=some .free:=f;rw[k]at this;ext this
   .have:X.env.scope.names.lookup x=some .free:=f;rw[k]at this;ext this
def ipI(f:Int->Int->Int):TIp:=λx y H Q=>∃i j,x= .int i/\y= .int j/\Q (.int (f i j)) H
theorem vw5:PIp X .Add (ipI λi j=>i+j):=by intro a s g H x y v u Q I c b h;let⟨i,j,f,e,q⟩:=h;subst f;subst e;let⟨t,rfl⟩:=c;let⟨k,rfl⟩:=b;show iadd_int ⟨.int _,H,I.tok _,⟨_,rfl⟩,q⟩
theorem vw4:PIp X .Sub (ipI λi j=>i-j):=by intro a s g H x y v u Q I c b h;let⟨i,j,f,e,q⟩:=h;subst f;subst e;let⟨t,rfl⟩:=c;let⟨k,rfl⟩:=b;show isub_int ⟨.int _,H,I.tok _,⟨_,rfl⟩,q⟩
end
section
def wi6(c:TT)(tb:TS):TS:=λD a H=>∃W:Nat->St->Hp->Prop,(∃m,W m a H)/\∀m a H,W m a H->
 c a H λb H1=>if b=true then ∃N:St->Hp->Prop,(∀σ' H',N σ' H'->∃m',m'<m/\W m' σ' H')/\tb { D with nx:=N,ct:=N,bk:=D.nx } a H1 else D.nx a H1
theorem xo8(x:PassesOwn (model X.prog X.w) X.A X.env X.xe)(P:PT X c tc)(Q:PSs X i tb):PS X (.While c i [] a) (wi6 tc tb):=by
 intro e s F H D I h;let⟨W,⟨O,J⟩,turn⟩:=h;show wpAny_While (codeAny_whileLoop (λn M=>∃j E,Inv X e j E M/\W n j E) ?_ O ⟨F,H,I,J⟩);rintro n L ⟨g,C,R,G⟩;show du x (thn (P e L g C _ R (turn n g C G)) λb K k=>?_);let⟨B,z,o⟩:=k;cases b with
 |true=>
  let⟨N,y,o⟩:=o;rw[aH rfl];show du x (thn (Q e K g B _ z o) λf S m=>?_);cases f with
  |next=>let⟨d,l,u,q⟩:=m;let⟨r,t,p⟩:=y d l q;show⟨r,t,d,l,u,p⟩
  |cont=>let⟨d,l,u,q⟩:=m;let⟨r,t,p⟩:=y d l q;show⟨r,t,d,l,u,p⟩
  |brk=>show m
  |ret v=>show m
 |false=>rw[aF bd];show wpAny_execs_nil ⟨g,B,z,o⟩
end
structure It where
 go:Nat->Hp->Prop
 yld:Nat->Hp->V->Hp->Prop
 stop:Nat->Hp->Prop
def FpOk(X:Cx)(pins:Qc)(H:Hp)(b:Addr):Prop:=
 H b=none/\b≠X.env.locals/\b∉X.fs/\(b∈X.ex\/X.s₀.heap.objs.size<=b)/\(∀x c,X.env.cells.lookup x=some c->c≠b)/\∀p∈X.pn++pins,p.1≠b
theorem Inv.fpOk{X:Cx}{a:Qc}(I:Inv X a g H s)(d:s.heap.objs.size<=b)(i:f b=none):FpOk X a f b:=by
 show⟨i,cO (bb I.lt d),I.nofs d,.inr (bD I.sz d),λx c e z=>?_,λp h z=>?_⟩
 .let⟨v,q⟩:=I.cell x c e;show aV (bb q.lt (by rw[z];show d)) (bO _)
 .exact aV (bb (aS (I.pin p h).1) (by rw[z];show d)) (bO _)
structure TurnC(cx:Cx->Prop)(P:Program)(w:World)(K:W.Frag)(tg:Expr)(J:It)(fp:List Addr)(it:Addr)(tn:Nat->Heap->Prop):Prop where
 mem:it∈fp
 obj:∀i h,tn i h->∀b∈fp,∃o,h.get? b=some o/\∀v,o.data≠ .cell v
 keep:∀i h h',tn i h->(∀b∈fp,∀o,h.get? b=some o->h'.get? b=some o)->tn i h'
 item:∀(X:Cx),X.prog=P->X.w=w->X.K=K->cx X->∀(i:Nat)(pins:Qc)(s:Shared)(σ:St)(H:Hp)(E:Qa),Inv X pins σ H s->(∀b∈fp,FpOk X pins H b)->tn i s.heap->J.go i H->
  wpAny (model P w) X.A (pyNext (.ref it)) (λr s1=>∃u,r=some u/\
   wpAny (model P w) X.A (letOwnedTupleGo tg (.ref it) u) (λ_ s2=>∃x H',Inv X pins σ H' s2/\RelV x u/\J.yld i H x H'/\tn (i+1) s2.heap/\∀b∈fp,H' b=none) E s1) E s
 done:∀(X:Cx),X.prog=P->X.w=w->X.K=K->cx X->∀(i:Nat)(pins:Qc)(s:Shared)(σ:St)(H:Hp)(E:Qa),Inv X pins σ H s->(∀b∈fp,FpOk X pins H b)->tn i s.heap->J.stop i H->
  wpAny (model P w) X.A (pyNext (.ref it)) (λr s1=>r=none/\Inv X pins σ H s1) E s
 self:∀(A:Around)(i:Nat)(s:Shared)(Q:Qa)(E:Qa),tn i s.heap->Q (.ref it) s->wpAny (model P w) A (pyIter (.ref it)) Q E s
abbrev Turn(P:Program)(w:World)(K:W.Frag)(tg:Expr)(J:It)(fp:List Addr)(it:Addr)(tn:Nat->Heap->Prop):Prop:=TurnC (λX=>X.calm=true) P w K tg J fp it tn
abbrev TI:=St->Hp->(It->Hp->Prop)->Prop
def PIE(X:Cx)(pins:Qc)(a:St)(tg:Expr)(R:It->Hp->Prop)(itv:Value)(s2:Shared):Prop:=
 ∃(it:Addr)(fp:List Addr)(tn:Nat->Heap->Prop)(J:It)(H':Hp),itv= .ref it/\Inv X pins a H' s2/\Turn X.prog X.w X.K tg J fp it tn/\tn 0 s2.heap/\(∀b∈fp,FpOk X pins H' b)/\R J H'
def PI(X:Cx)(tg iter:Expr)(wi:TI):Prop:=
 ∀(pins:Qc)(s:Shared)(a:St)(H:Hp)(R:It->Hp->Prop),Inv X pins a H s->wi a H R->
  wpAny (model X.prog X.w) X.A (eval iter X.env) (λv s1=>wpAny (model X.prog X.w) X.A (pyIter v) (PIE X pins a tg R) X.xe s1) X.xe s
theorem xi7{E:Qa}{Q:Unit->Shared->Prop}(d:s.heap.get? it=some o)(g:o.cls= .type n)(f:o.data= .fields b)
  (e:["enumerate","zip","dict_itemiterator","dict_reverseitemiterator","odict_iterator","itertools.zip_longest","itertools.pairwise"].contains n=false) (a:Q () s):wpAny M A (letOwnedTupleGo c (.ref it) u) Q E s:=by
 unfold letOwnedTupleGo;ext c <;> first
  |show aD a
  | (ext u <;> first
    |show aD a
    | (show aB (wpAny_load d ?_)
       rw[g,f];show wpAny M A (if (["enumerate","zip","dict_itemiterator","dict_reverseitemiterator","odict_iterator","itertools.zip_longest","itertools.pairwise"].contains n&&b[0]? ==some (rawInt _))=true then _ else _) Q E s;rw[aF (by intro h;rw[e,Bool.false_and]at h;ext h)];show aD a))
noncomputable def Itl(K:W.Frag)(a:Addr):It:=
 ⟨λi H=>∃xs x,SqL K H a xs/\xs[i]? =some x,λi H x H'=>H'=H/\∀xs,SqL K H a xs->xs[i]? =some x,λi H=>∃xs,SqL K H a xs/\xs.length<=i⟩
noncomputable def Itr(lo:Int)(n:Nat):It:=⟨λi _=>i<n,λi H x H'=>H'=H/\x= .int (lo+i),λi _=>n<=i⟩
theorem yh2{P:Program}{w:World}{K:W.Frag}{O:Expr}(a it:Addr):Turn P w K O (Itl K a) [it] it (λi h=>h.IsListIter it a i) where
 mem:=by simp
 obj:=λi h st b g=>by
  have e:b=it:=by simpa using g
  subst e;let⟨o,e,c,d⟩:=st;show⟨o,e,λv z=>by rw[d]at z;cases z⟩
 keep:=λi h n st k=>st.at λo e=>k it az o e
 item:=by intro X A hw B M i f s L H E I m st y;subst A hw B;let⟨N,x,l,t⟩:=y;let⟨r,q,p,R⟩:=I.list l;let⟨u,T,Q⟩:=q.get t;let⟨J,G,U,F,D,C⟩:=m it az;show wpAny_pyNext_list_item st p.isList (x:=u) (by simpa using T) λn j sb=>?_;have Y:Inv X f L H { s with heap:=n }:=I.turned (t':=s.toks) (λb o g e=>(sb.2 b g).trans e) J G F D C;let⟨o,e,c,d⟩:=id j;show⟨u,rfl,xi7 (s:={ s with heap:=n }) e c d ay ⟨x,H,Y,Q,⟨rfl,λZ S=>by rw[I.list_inj S l];show t⟩,j,λb g=>(m b g).1⟩⟩
 done:=by intro X A hw B M i f s L H E I m st y;subst A hw B;let⟨N,l,t⟩:=y;let⟨r,q,p,R⟩:=I.list l;let⟨J,G,U,F,D,C⟩:=m it az;have hl:=q.length;show wpAny_pyNext_list_end (I.ok.hd M) st p.isList (by simp;lia) λn V=>⟨rfl,I.turned (t':=s.toks) (λb o g e=>V b o g e) J G F D C⟩
 self:=λ_ _ _ _ _ st h=>wpAny_pyIter_listiter st h
theorem yo3{P:Program}{w:World}{K:PySem.W.Frag}{D:Expr}(it:Addr)(lo:Int)(n:Nat):Turn P w K D (Itr lo n) [it] it (λi h=>IsRangeIter h it (lo+(i:Nat)*1) ((n:Int)-(i:Nat)) 1) where
 mem:=by simp
 obj:=λi h st b c=>by
  have e:b=it:=by simpa using c
  subst e;show⟨_,st,λv z=>by have C:Data.fields _=Data.cell v:=z;cases C⟩
 keep:=λi h g st k=>k it az _ st
 item:=by intro X m hw p l i a s A H E I f st j;subst m hw p;let⟨y,x,J,u,r,q⟩:=f it az;have W:=Walks.range (prog:=X.prog) (w:=X.w) (I.ok.hd l) it lo 1 n;show W.item i s _ _ j st λv g B G d F=>?_;let⟨t,rfl⟩:=G;have M:Inv X a A H { s with heap:=g,toks:=B }:=I.turned (λb o c e=>F b o (by simpa using c) e) y x u r q;show⟨_,rfl,xi7 (s:={ s with heap:=g,toks:=B }) (n:="range_iterator") d rfl rfl ay ⟨.int (lo+i),H,M,⟨t,?_⟩,⟨rfl,rfl⟩,d,λb c=>(f b c).1⟩⟩;rw[Int.mul_one]
 done:=by intro X m hw p l i a s A H E I f st j;subst m hw p;let⟨y,x,J,u,r,q⟩:=f it az;show wpAny_pyNext_range_end (I.ok.hd l) st (by have:n<=i:=j;lia) λg L=>⟨rfl,I.turned (t':=s.toks) (λb o c e=>L b o c e) y x u r q⟩
 self:=λ_ _ _ _ _ st h=>wpAny_pyIter_rangeiter st h
section
def vm5(K:W.Frag)(tl:TE):TI:=λb H R=>tl b H λx H1=>∃a,x= .ref a/\(∃xs,SqL K H1 a xs)/\R (Itl K a) H1
theorem wv5{tl:TE}(r:PE X l tl):PI X tg l (vm5 X.K tl):=by
 intro c s i H R I h;show thn (r c s i H _ I h) λv f d=>?_;let⟨x,u,g,j,k⟩:=d;let⟨a,e,⟨w,n⟩,q⟩:=k;subst e;ext j;let⟨m,y,p,z⟩:=g.list n;show dB p.isList ?_;show⟨f.heap.objs.size,[f.heap.objs.size],_,_,u,rfl,g.kept (t':=f.toks) λb o e=>aC _ e,yh2 a _,⟨_,aQ _ rfl,rfl,rfl⟩,λb t=>?_,q⟩;have e:b=f.heap.objs.size:=by simpa using t
 subst e;show g.fpOk (aK _) (g.hok.fresh (aK _))
theorem yu3{a:Qc}{R:It->Hp->Prop}{E:Qa}{lo hi:Int}{tk:Nat}(I:Inv X a c H s)(j:-(2^62)<=lo)(i:lo<2^62)(h:-(2^62)<=hi)(g:hi<2^62)
  (q:R (Itr lo (hi-lo).toNat) H):wpAny (model X.prog X.w) X.A (pyIter (.ref s.heap.objs.size)) (PIE X a c tg R) E { s with heap:=s.heap.push { cls:=.type "range",data:=.fields #[.int lo t,.int hi u,.int 1 v] },toks:=tk }:=by
 show wpAny_pyIter_range (IsRange.new ..) (small_one j i h g) ?_;have d:Inv X a c H { s with heap:=s.heap.push { cls:=.type "range",data:=.fields #[.int lo t,.int hi u,.int 1 v] },toks:=tk }:=I.kept λb o e=>aC _ e;show⟨(s.heap.push { cls:=.type "range",data:=.fields #[.int lo t,.int hi u,.int 1 v] }).objs.size,[(s.heap.push { cls:=.type "range",data:=.fields #[.int lo t,.int hi u,.int 1 v] }).objs.size],_,_,H,rfl,
  d.kept (t':=tk) λb o e=>aC _ e,yo3 _ lo (hi-lo).toNat,?_,λb f=>?_,q⟩
 .have e1:lo+((0:Nat):Int)*1=lo:=by simp
  have k:(((hi-lo).toNat:Nat):Int)-((0:Nat):Int)=Builtin.Range.rangeSize lo hi 1:=by rw[rangeSize_one];split <;> lia
  show IsRangeIter _ _ (lo+((0:Nat):Int)*1) ((((hi-lo).toNat:Nat):Int)-((0:Nat):Int)) 1;rw[e1,k];show aQ _ rfl
 .have e:b=(s.heap.push { cls:=.type "range",data:=.fields #[.int lo t,.int hi u,.int 1 v] }).objs.size:=by simpa using f
  subst e;show d.fpOk (aK _) (d.hok.fresh (aK _))
def vm4(ta:TA):TI:=λa H R=>ta a H λvs H1=>∃j:Int,vs=[.int j]/\ -(2^62)<=j/\j<2^62/\R (Itr 0 j.toNat) H1
def vm3(ta:TA):TI:=λa H R=>ta a H λvs H1=>∃i j:Int,vs=[.int i,.int j]/\(-(2^62)<=i/\i<2^62/\ -(2^62)<=j/\j<2^62)/\R (Itr i (j-i).toNat) H1
theorem yd0(u:Gl X "range")(o:X.mg "range"=none)(v:PA X [a] g)(n:starEach [a] X.env=[(false,eval a X.env)]:=by rfl):PI X tg (.Call (.Name "range" p) [a] [] b) (vm4 g):=by
 intro c s i H R I h;show Call_ (V6 I u o boot_range (bI (thn (v b c s i H _ I h) λy z d=>?_) n rfl));let⟨x,A,w,l,f⟩:=d;let⟨j,e,f,m,q⟩:=f;subst e;cases l with
 |cons r k=>ext k;let⟨t,rfl⟩:=r;show call_range_1 (yu3 w aw aw f m (by simpa using q))
theorem ye9(A:Gl X "range")(z:X.mg "range"=none)(B:PA X [a,b] m)(y:starEach [a,b] X.env=[(false,eval a X.env),(false,eval b X.env)]:=by rfl)(f:starEach [b] X.env=[(false,eval b X.env)]:=by rfl):
  PI X tg (.Call (.Name "range" p) [a,b] [] c) (vm3 m):=by
 intro d s n H R I h;show Call_ (V6 I A z boot_range (bI (thn (B c d s n H _ I h) λE G g=>?_) (by rw[y,f]) (by rw[f];rfl)));let⟨D,J,C,o,l⟩:=g;let⟨i,j,e,⟨l,x,w,v⟩,q⟩:=l;subst e;cases o with
 |cons r k=>
  cases k with
  |cons u k=>ext k;let⟨t,rfl⟩:=r;let⟨F,rfl⟩:=u;show call_range_2 (yu3 C l x w v q)
def tFor(wi:TI)(g:TG)(tb:TS):TS:=λD a H=>wi a H λJ H1=>∃W:Nat->Nat->St->Hp->Prop,(∃m,W 0 m a H1)/\∀i m a H,W i m a H->
 (J.stop i H/\D.nx a H)\/(J.go i H/\∃N:St->Hp->Prop,(∀σ' H',N σ' H'->∃m',m'<m/\W (i+1) m' σ' H')/\∀x H',J.yld i H x H'->g x a H' λσ2 H2=>tb { D with nx:=N,ct:=N,bk:=D.nx } σ2 H2)
noncomputable def zj4(fp:List Addr)(h:Heap):Qc:=fp.filterMap λb=>(h.get? b).map λo=>(b,o)
theorem S3(a:b∈fp)(e:h.get? b=some o):(b,o)∈zj4 fp h:=List.mem_filterMap.mpr ⟨b,a,by rw[e];rfl⟩
theorem yb2{p:Addr×Obj}(a:p∈zj4 fp h):p.1∈fp/\h.get? p.1=some p.2:=by
 let⟨b,c,e⟩:=List.mem_filterMap.mp a;rcases q:h.get? b,e with o;have d:(b,o)=p:=bm e;subst d;show⟨c,q⟩
theorem Inv.pinned{a:Qc}(I:Inv X a c H s)(j:∀b∈fp,FpOk X a H b)(i:∀b∈fp,∃o,s.heap.get? b=some o/\∀v,o.data≠ .cell v):Inv X (a++zj4 fp s.heap) c H s:=
 I.pins_of λp h=>(bz.mp h).elim (λz=>I.pin p (bC _ z)) λz=>by let⟨f,e⟩:=yb2 z;let⟨m,l,k,_⟩:=j p.1 f;let⟨o,g,d⟩:=i p.1 f;rw[e]at g;ext g;show⟨e,m,l,k,d⟩
theorem Inv.unpinned{a c:Qc}(I:Inv X (a++c) b H s):Inv X a b H s:=I.pins_of λp d=>I.pin p (bC _ (dw _ d))
theorem yf8(O:PassesOwn (model X.prog X.w) X.A X.env X.xe)(hc:X.calm=true)(hi:PI X tg p wi)(hg:PG X tg g)(t:PSs X E tb)
  (hs:∀x,foldedSetIterable p X.env x=pure x:=by intro _;rfl):PS X (.For tg p E [] Y) (tFor wi g tb):=by
 intro c s σ H D I h;show wpAny_For (thn (hi c s σ H _ I h) λv s1 h1=>thn h1 λa2 s2 h2=>?_) hs;let⟨it,Q,tn,J,H2,e,I2,T,U,f2,W,⟨m0,w0⟩,turn⟩:=h2;subst e;have l:∀{H':Hp},(∀b∈Q,H' b=none)->∀b∈Q,FpOk X c H' b:=λhn b t=>⟨hn b t,(f2 b t).2⟩;show codeAny_forLoop_any (λn s'=>∃i k H',Inv X c k H' s'/\tn i s'.heap/\(∀b∈Q,H' b=none)/\W i n k H') ?_ m0 ⟨0,σ,H2,I2,U,λb t=>(f2 b t).1,w0⟩;rintro n s3 ⟨i,j,R,I3,L,P,w3⟩;rcases turn i n j R w3 with⟨G,qn⟩|⟨go,N,hN,K⟩
 .refine du O (thn (T.done X rfl rfl rfl hc i c s3 j R X.xe I3 (l P) L G) λr s4 ⟨Z,I4⟩=>?_);subst Z;show wpAny_execs_nil ⟨j,R,I4,qn⟩
 .refine du O (thn (T.item X rfl rfl rfl hc i c s3 j R X.xe I3 (l P) L go) λr s4 ⟨u,Z,h4⟩=>?_);subst Z;show du O (thn h4 λ_ s5 q=>?_);let⟨x,H5,I5,r5,y5,F,a0⟩:=q;have a1:=I5.pinned (l a0) (T.obj _ _ F);show du O (thn (hg _ s5 j H5 x u _ a1 r5 (K x H5 y5)) λ_ s6 q=>?_);let⟨S,H6,I6,q6⟩:=q;show du O (thn (t _ s6 S H6 _ I6 q6) λf V C=>?_);have y:∀{a:St}{B:Hp},Inv X (c++zj4 Q s5.heap) a B V->N a B->∃m,m<n/\∃i k H',Inv X c k H' V/\tn i V.heap/\(∀b∈Q,H' b=none)/\W i m k H':=λ{a B} z M=>by let⟨m',hm,w7⟩:=hN a B M;show⟨m',hm,i+1,a,B,z.unpinned,T.keep _ _ _ F λb t o e=>(z.pin (b,o) (bC _ (bC _ (S3 t e)))).1,λb t=>?_,w7⟩;let⟨o,e,d⟩:=T.obj _ _ F b t;show(z.pin (b,o) (bC _ (bC _ (S3 t e)))).2.1
  cases f with
  |next=>let⟨a,B,z,M⟩:=C;show y z M
  |cont=>let⟨a,B,z,M⟩:=C;show y z M
  |brk=>let⟨a,B,z,C⟩:=C;show⟨a,B,z.unpinned,C⟩
  |ret v=>let⟨x7,a,B,z,r7,C⟩:=C;show⟨x7,a,B,z.unpinned,r7,C⟩
end
abbrev R2:=V->V->Hp->VK->Prop
def OpR(X:Cx)(f:Value->Value->Sem Value)(r:R2):Prop:=
 ∀(pins:Qc)(s:Shared)(a:St)(H:Hp)(x y:V)(v u:Value)(Q:VK),Inv X pins a H s->RelV x v->RelV y u->r x y H Q->
  wpAny (model X.prog X.w) X.A (f v u) (EP X pins a Q) X.xe s
def UnR(X:Cx)(f:Value->Sem Value)(r:V->Hp->VK->Prop):Prop:=
 ∀(pins:Qc)(s:Shared)(a:St)(H:Hp)(x:V)(v:Value)(Q:VK),Inv X pins a H s->RelV x v->r x H Q->
  wpAny (model X.prog X.w) X.A (f v) (EP X pins a Q) X.xe s
def CallR(X:Cx)(f:Value)(r:List V->Hp->VK->Prop):Prop:=
 ∀(pins:Qc)(s:Shared)(a:St)(H:Hp)(xs:List V)(us:List Value)(Q:VK),Inv X pins a H s->Vals xs us->r xs H Q->
  wpAny (model X.prog X.w) X.A (call f us) (EP X pins a Q) X.xe s
def TruR(X:Cx)(r:V->Hp->(Bool->Hp->Prop)->Prop):Prop:=
 ∀(pins:Qc)(s:Shared)(a:St)(H:Hp)(x:V)(v:Value)(Q:Bool->Hp->Prop),Inv X pins a H s->RelV x v->r x H Q->
  wpAny (model X.prog X.w) X.A (truthy v) (TP X pins a Q) X.xe s
def tOp(r:R2)(ta tb:TE):TE:=λa H Q=>ta a H λx H1=>tb a H1 λy H2=>r x y H2 Q
def tUn(r:V->Hp->VK->Prop)(ta:TE):TE:=λa H Q=>ta a H λx H1=>r x H1 Q
def rI(C:Int->Int->Prop)(g:Int->Int->V):R2:=λx y H Q=>∃i j,x= .int i/\y= .int j/\C i j/\Q (g i j) H
def rI0(g:Int->Int->V):R2:=λx y H Q=>∃i j,x= .int i/\y= .int j/\Q (g i j) H
def rU(g:Int->V):V->Hp->VK->Prop:=λx H Q=>∃i,x= .int i/\Q (g i) H
section
variable {a b c:Expr}{d tb tc:TE}
theorem binT(D:PE X a d)(C:PE X b tb){g:Qc}{R:V->V->Hp->Prop}(I:Inv X g j H s)
  (h:d j H λx o=>tb j o λy k=>R x y k) {Q:Qa} {f:Value->Value->Sem Value}
  (B:∀v u n x y k,Inv X g j k n->RelV x v->RelV y u->R x y k->wpAny (model X.prog X.w) X.A (f v u) Q X.xe n):
  wpAny (model X.prog X.w) X.A (eval a X.env) (λv m=>wpAny (model X.prog X.w) X.A (eval b X.env) (λu l=>wpAny (model X.prog X.w) X.A (f v u) Q X.xe l) X.xe m) X.xe s:=by
 show thn (D g s j H _ I h) λv p i=>?_;let⟨x,o,F,r,z⟩:=i;show thn (C g p j o _ F z) λu n i=>?_;let⟨y,k,E,q,t⟩:=i;show B v u n x y k E r q t
theorem xn8(l:OpR X (binaryOp op) r)(n:PE X a d)(m:PE X b tb):PE X (.BinOp a op b e) (tOp r d tb):=by intro f s g H Q I h;show wpAny_BinOp (binT n m I h λv u i x y p o k j q=>l f i g p x y v u Q o k j q)
theorem vp9{r:V->Hp->VK->Prop}(l:UnR X (unaryOp op) r)(m:PE X a d):PE X (.UnaryOp op a e) (tUn r d):=by intro f s g H Q I h;show UnaryOp_ (thn (m f s g H _ I h) λv i zQ=>by let⟨x,o,n,j,k⟩:=zQ;show l f i g o x v Q n j k)
theorem opI{f:Value->Value->Sem Value}{C:Int->Int->Prop}{g:Int->Int->Int}
  (k:∀(i j:Int)(t u:Tok)(s:Shared)(Q:Qa)(E:Qa),C i j->Q (.int (g i j) s.toks) { s with toks:=s.toks+1 }->wpAny (model X.prog X.w) X.A (f (.int i t) (.int j u)) Q E s):
  OpR X f (rI C λi j=>.int (g i j)):=by
 intro l s r H x y v u Q I o n h;let⟨i,j,rfl,rfl,p,q⟩:=h;let⟨t,rfl⟩:=o;let⟨m,rfl⟩:=n;show k i j t m s _ _ p ⟨.int (g i j),H,I.tok _,⟨_,rfl⟩,q⟩
theorem opI0{f:Value->Value->Sem Value}{g:Int->Int->Int}
  (k:∀(i j:Int)(t u:Tok)(s:Shared)(Q:Qa)(E:Qa),Q (.int (g i j) s.toks) { s with toks:=s.toks+1 }->wpAny (model X.prog X.w) X.A (f (.int i t) (.int j u)) Q E s):
  OpR X f (rI0 λi j=>.int (g i j)):=by
 intro l s p H x y v u Q I o n h;let⟨i,j,rfl,rfl,q⟩:=h;let⟨t,rfl⟩:=o;let⟨m,rfl⟩:=n;show k i j t m s _ _ ⟨.int (g i j),H,I.tok _,⟨_,rfl⟩,q⟩
theorem opB0{f:Value->Value->Sem Value}{g:Int->Int->Bool}
  (k:∀(i j:Int)(t u:Tok)(s:Shared)(Q:Qa)(E:Qa),Q (.bool (g i j)) s->wpAny (model X.prog X.w) X.A (f (.int i t) (.int j u)) Q E s):
  OpR X f (rI0 λi j=>.bl (g i j)):=by
 intro l s p H x y v u Q I o n h;let⟨i,j,rfl,rfl,q⟩:=h;let⟨t,rfl⟩:=o;let⟨m,rfl⟩:=n;show k i j t m s _ _ ⟨.bl (g i j),H,I,rfl,q⟩
def CDiv(i j:Int):Prop:=0<j/\j<1073741824
def CPow(i j:Int):Prop:=0<=j/\j<=1000000/\i.natAbs<2^64
def CMul(i j:Int):Prop:=(-(2^64)<i/\i<2^64)\/(-(2^64)<j/\j<2^64)
theorem CMul.ok{i j:Int}(h:CMul i j):IntMulOk i j:=by
 rcases h with⟨g,f⟩|⟨g,f⟩
 .exact .of_left (intBits_le_64 g f)
 .exact .of_right (intBits_le_64 g f)
theorem xb0:OpR X (binaryOp .Add) (rI0 λi j=>.int (i+j)):=opI0 λ_ _ _ _ _ _ _ q=>add_int q
theorem xc7:OpR X (binaryOp .Sub) (rI0 λi j=>.int (i-j)):=opI0 λ_ _ _ _ _ _ _ q=>sub_int q
theorem xc8:OpR X (binaryOp .Mult) (rI CMul λi j=>.int (i*j)):=opI λ_ _ _ _ _ _ _ f q=>mul_int q f.ok
theorem ws6:OpR X (binaryOp .FloorDiv) (rI CDiv λi j=>.int (i / j)):=opI λi j _ _ _ _ _ f q=>by have h:(0:Int)<j:=f.1;have g:j<1073741824:=f.2;show floordiv_int ax (by rw[Int.fdiv_eq_ediv_of_nonneg i ax];show q) (.inl (PyProof.noPylong_small ax))
theorem wa0:OpR X (binaryOp .Mod) (rI (λ_ j=>0<j) λi j=>.int (i % j)):=opI λi j _ _ _ _ _ f q=>by have g:(0:Int)<j:=f;show mod_int' aw (by rw[Int.fmod_eq_emod_of_nonneg i aw];show q)
theorem wb8:OpR X (binaryOp .Pow) (rI CPow λi j=>.int (i^j.toNat)):=opI λ_ _ _ _ _ _ _ f q=>pow_int_small f.1 f.2.1 f.2.2 q
theorem unI{f:Value->Sem Value}{g:Int->Int}
  (j:∀(i:Int)(t:Tok)(s:Shared)(Q:Qa)(E:Qa),Q (.int (g i) s.toks) { s with toks:=s.toks+1 }->wpAny (model X.prog X.w) X.A (f (.int i t)) Q E s):
  UnR X f (rU λi=>.int (g i)):=by
 intro k s m H x v Q I l h;let⟨i,rfl,q⟩:=h;let⟨t,rfl⟩:=l;show j i t s _ _ ⟨.int (g i),H,I.tok _,⟨_,rfl⟩,q⟩
theorem wj9:UnR X (unaryOp .USub) (rU λi=>.int (-i)):=unI λ_ _ _ _ _ q=>neg_int q
end
noncomputable def scal:V->V->Bool
 | .non,.non=>true| .non,.int _=>true| .int _,.non=>true| .non,.bl _=>true| .bl _,.non=>true| .non,.str _=>true| .str _,.non=>true
 | .int _,.int _=>true| .bl _,.bl _=>true| .str _,.str _=>true| .byt _,.byt _=>true
 | .int _,.str _=>true| .str _,.int _=>true| .bl _,.str _=>true| .str _,.bl _=>true
 |_,_=>false
def rEq:R2:=λx y H Q=>scal x y=true/\Q (.bl (decide (x=y))) H
def rNe:R2:=λx y H Q=>scal x y=true/\Q (.bl (!decide (x=y))) H
theorem yy6{i j:Int}:decide (V.int i=V.int j)=(i==j):=by rw[eF];simp
theorem xw4{i j:Bool}:decide (V.bl i=V.bl j)=(i==j):=by rw[eF];simp
theorem yy5:decide (V.str i=V.str j)=(i==j):=by rw[eF];simp
theorem xw3:decide (V.byt i=V.byt j)=(i.toList==j.toList):=by rw[eF];ext i;ext j;simp
section
variable {a b c:Expr}{d tb tc:TE}{g:Pos}
theorem m5{f:Qc}{k i:Bool}(I:Inv X f h H s)(q:Q (.bl k) H)(e:k=i):EP X f h Q (.bool i) s:=by subst e;show⟨.bl k,H,I,rfl,q⟩
theorem vo6:OpR X (compareOp .Eq) rEq:=by
 intro m s n H x y v u Q I l e h;let⟨k,q⟩:=h;cases x with
 |non=>
  ext l;cases y with
  |non=>ext e;show PySem.EqNone.eq_none_none (m5 I q az)
  |bl j=>ext e;show PySem.EqNone.eq_none_bool (m5 I q az)
  |int j=>let⟨f,rfl⟩:=e;show PySem.EqNone.eq_none_int (m5 I q az)
  |str j=>let⟨f,rfl⟩:=e;show PySem.EqNone.eq_none_str (m5 I q az)
  |_=>show aV (show false=true from k) bd
 |bl i=>
  ext l;cases y with
  |non=>ext e;show PySem.EqNone.eq_bool_none (m5 I q az)
  |bl j=>ext e;show eq_bool (m5 I q xw4)
  |str j=>let⟨f,rfl⟩:=e;show PySem.EqMixed.eq_bool_str (m5 I q az)
  |_=>show aV (show false=true from k) bd
 |int i=>
  let⟨t,rfl⟩:=l;cases y with
  |non=>ext e;show PySem.EqNone.eq_int_none (m5 I q az)
  |int j=>let⟨f,rfl⟩:=e;show eq_int (m5 I q yy6)
  |str j=>let⟨f,rfl⟩:=e;show PySem.EqMixed.eq_int_str (m5 I q az)
  |_=>show aV (show false=true from k) bd
 |str i=>
  let⟨t,rfl⟩:=l;cases y with
  |non=>ext e;show PySem.EqNone.eq_str_none (m5 I q az)
  |bl j=>ext e;show PySem.EqMixed.eq_str_bool (m5 I q az)
  |int j=>let⟨f,rfl⟩:=e;show PySem.EqMixed.eq_str_int (m5 I q az)
  |str j=>let⟨f,rfl⟩:=e;show eq_str (m5 I q yy5)
  |_=>show aV (show false=true from k) bd
 |byt i=>
  let⟨t,rfl⟩:=l;cases y with
  |byt j=>let⟨f,rfl⟩:=e;show W.eq_bytes (m5 I q xw3)
  |_=>show aV (show false=true from k) bd
 |_=>ext y <;> show aV (show false=true from k) bd
theorem vo5:OpR X (compareOp .NotEq) rNe:=by
 intro m s n H x y v u Q I l e h;let⟨k,q⟩:=h;cases x with
 |non=>
  ext l;cases y with
  |non=>ext e;show PySem.EqNone.ne_none_none (m5 I q az)
  |bl j=>ext e;show PySem.EqNone.ne_none_bool (m5 I q az)
  |int j=>let⟨f,rfl⟩:=e;show PySem.EqNone.ne_none_int (m5 I q az)
  |str j=>let⟨f,rfl⟩:=e;show PySem.EqNone.ne_none_str (m5 I q az)
  |_=>show aV (show false=true from k) bd
 |bl i=>
  ext l;cases y with
  |non=>ext e;show PySem.EqNone.ne_bool_none (m5 I q az)
  |bl j=>ext e;show ne_bool (m5 I q (bf not xw4))
  |str j=>let⟨f,rfl⟩:=e;show PySem.EqMixed.ne_bool_str (m5 I q az)
  |_=>show aV (show false=true from k) bd
 |int i=>
  let⟨t,rfl⟩:=l;cases y with
  |non=>ext e;show PySem.EqNone.ne_int_none (m5 I q az)
  |int j=>let⟨f,rfl⟩:=e;show ne_int (m5 I q (bf not yy6))
  |str j=>let⟨f,rfl⟩:=e;show PySem.EqMixed.ne_int_str (m5 I q az)
  |_=>show aV (show false=true from k) bd
 |str i=>
  let⟨t,rfl⟩:=l;cases y with
  |non=>ext e;show PySem.EqNone.ne_str_none (m5 I q az)
  |bl j=>ext e;show PySem.EqMixed.ne_str_bool (m5 I q az)
  |int j=>let⟨f,rfl⟩:=e;show PySem.EqMixed.ne_str_int (m5 I q az)
  |str j=>let⟨f,rfl⟩:=e;show ne_str (m5 I q (bf not yy5))
  |_=>show aV (show false=true from k) bd
 |byt i=>
  let⟨t,rfl⟩:=l;cases y with
  |byt j=>let⟨f,rfl⟩:=e;show W.ne_bytes (m5 I q (bf not xw3))
  |_=>show aV (show false=true from k) bd
 |_=>ext y <;> show aV (show false=true from k) bd
theorem wa1:OpR X (compareOp .Lt) (rI0 λi j=>.bl (decide (i<j))):=opB0 λ_ _ _ _ _ _ _ q=>lt_int q
theorem wa3:OpR X (compareOp .Gt) (rI0 λi j=>.bl (decide (j<i))):=opB0 λ_ _ _ _ _ _ _ q=>gt_int q
theorem ws5:OpR X (compareOp .GtE) (rI0 λi j=>.bl (decide (j<=i))):=opB0 λ_ _ _ _ _ _ _ q=>ge_int q
theorem wa2:OpR X (compareOp .Is) (λx y H Q=>y= .non/\Q (.bl (decide (x= .non))) H):=by
 intro f s j H x y v u Q I e i h;let⟨rfl,q⟩:=h;ext i;show is_none_gen (m5 I q ?_);ext x <;> first
  | (ext e;rfl)
  | (let⟨t,rfl⟩:=e;rfl)
theorem OpR.or{f:Value->Value->Sem Value}(h:OpR X f r)(h':OpR X f l):OpR X f (λx y H Q=>r x y H Q\/l x y H Q):=by
 intro e s i H x y v u Q I k j q;rcases q with q|q
 .exact h e s i H x y v u Q I k j q
 .exact h' e s i H x y v u Q I k j q
theorem zi2(b:Expr)(h:op≠ .In:=by decide)(e:op≠ .NotIn:=by decide):behindInMarks op b=false:=by
 have i:(op==CmpOp.In)=false:=by ext op <;> first|rfl|show aV rfl h
 have f:(op==CmpOp.NotIn)=false:=by ext op <;> first|rfl|show aV rfl e
 ext b <;> simp[behindInMarks,i,f]
theorem yd4(l:OpR X (compareOp op) r)(o:PE X a d)(n:PE X b tb)(m:behindInMarks op b=false):PE X (.Compare a [op] [b] g) (tOp r d tb):=by intro e s f H Q I h;show wpAny_Compare1 (binT o n I h λv u i x y t p k j q=>l e i f t x y v u Q p k j q) m
def vq6(t:TE):TT:=λa H Q=>t a H λx H'=>∃k,x= .bl k/\Q k H'
theorem zc5(w:OpR X (compareOp op) r)(C:PE X a d)(B:PE X b tb)(A:behindInMarks op b=false):PT X (.Compare a [op] [b] g) (vq6 (tOp r d tb)):=by
 intro f s i H Q I h;show wpAny_isTrue_Compare1 (thn (C f s i H _ I h) λv l ⟨x,K,F,o,t⟩=>thn (B f l i K _ F t) λu j ⟨y,J,E,n,q⟩=>
  thn (w f j i J x y v u _ E o n q) λc L ⟨z,G,D,m,k,e,p⟩=>?_) A
 subst e;ext m;show dU ⟨G,D,p⟩
def TruV(K:W.Frag)(x:V)(H:Hp)(k:Bool):Prop:=
 match x with
 | .non=>k=false
 | .bl b=>k=b
 | .int i=>k=(i != 0)
 | .str y=>y.length<=sizeLine/\k=((y.length:Int) != 0)
 | .byt y=>y.size<=sizeLine/\k=((y.size:Int) != 0)
 | .ref p=>(∃xs,SqL K H p xs/\k= !xs.isEmpty)\/(∃xs,SqT K H p xs/\k= !xs.isEmpty)\/∃kvs,H p=some (.dK kvs)/\k= !kvs.isEmpty
 |_=>False
theorem ym7{a:Type}{e:List (a×V)}{f:List (a×Value)}(r:KV e f):(!f.isEmpty)= !e.isEmpty:=by ext r <;> rfl
theorem zt1(r:Vals xs e):(!e.toArray.isEmpty)= !xs.isEmpty:=by ext r <;> simp
theorem zt0:(sizeLine:Nat)<2^63:=by rw[sizeLine_eq];decide
theorem wi2:TruR X (λx H Q=>∃k,TruV X.K x H k/\Q k H):=by
 intro B s F H x v Q I o h;let⟨k,e,q⟩:=h;have J:=zt0;have G:sizeLine=16777216:=sizeLine_eq;cases x with
 |non=>ext o;have f:k=false:=e;subst f;show truthy_none ⟨H,I,q⟩
 |bl b=>ext o;have f:k=b:=e;subst f;show dU ⟨H,I,q⟩
 |int i=>let⟨t,rfl⟩:=o;have f:k=(i != 0):=e;subst f;show PySem.P.truthy_int ⟨H,I,q⟩
 |str y=>let⟨t,rfl⟩:=o;obtain⟨D,f⟩:y.length<=sizeLine/\k=((y.length:Int) != 0):=e;subst f;show PySem.P.truthy_str aw ⟨H,I.tok _,q⟩
 |byt y=>let⟨t,rfl⟩:=o;obtain⟨D,f⟩:y.size<=sizeLine/\k=((y.size:Int) != 0):=e;subst f;show W.truthy_bytes aw ⟨H,I.tok _,q⟩
 |ref p=>
  ext o;have f:(∃n,SqL X.K H p n/\k= !n.isEmpty)\/(∃n,SqT X.K H p n/\k= !n.isEmpty)\/∃j,H p=some (.dK j)/\k= !j.isEmpty:=e;rcases f with⟨n,u,f⟩|⟨n,u,f⟩|⟨j,u,f⟩
  .subst f;let⟨A,r,z,C⟩:=I.list u;have l:=r.length;show wpAny_truthy_list z.isList (by simp only[size_toArray];lia) ⟨H,I.tok _,by rw[zt1 r];show q⟩
  .subst f;let⟨A,r,z,C⟩:=I.tuple u;have l:=r.length;show truthy_tuple z (by simp only[size_toArray];lia) ⟨H,I.tok _,by rw[zt1 r];show q⟩
  .subst f;obtain⟨C,E,vs,r,m⟩:j.length<=sizeLine/\(p==sysModules)=false/\∃vs,KV j vs/\s.heap.DictOf (za4 X.prog X.w) p vs:=I.hok p _ u;have l:j.length=vs.length:=Paired.length r;show wpAny_truthy_dict E m aw ⟨H,I.tok _,by rw[ym7 r];show q⟩
 |_=>show(show False from e).elim
theorem xp7(p:PE X a d)(o:∀e,isTrue a X.env e=(do let v ← e;standAt a.pos;holding [v] (truthy v))):
  PT X a (λi H Q=>d i H λx j=>∃k,TruV X.K x j k/\Q k j):=by
 intro f s i H Q I h;show isTrue_plain (thn (p f s i H _ I h) λv l zQ=>by let⟨x,r,q,m,n⟩:=zQ;show wi2 f l i r x v Q q m n) (o _)
theorem U1(r:Vals [x] e):∃u,e=[u]/\RelV x u:=by
 cases r with
 |cons h f=>ext f;show⟨_,rfl,h⟩
theorem wz6(r:Vals [x,y] e):∃u w',e=[u,w']/\RelV x u/\RelV y w':=by
 cases r with
 |cons j i=>
  cases i with
  |cons h f=>ext f;show⟨_,_,rfl,j,h⟩
theorem yq4:CallR X (.builtin "abs") (λxs H Q=>∃i,xs=[.int i]/\Q (.int (if i<0 then -i else i)) H):=by intro e s f H xs j Q I r h;let⟨i,rfl,q⟩:=h;let⟨u,rfl,t,rfl⟩:=U1 r;show call_abs_int λu k=>⟨.int (if i<0 then -i else i),H,I.tok _,⟨_,rfl⟩,q⟩
theorem xv6(l:X.calm=true):CallR X (.builtin "max") (λxs H Q=>∃i j,xs=[.int i,.int j]/\Q (.int (if j>i then j else i)) H):=by
 intro f s m H xs o Q I r h;let⟨i,j,rfl,q⟩:=h;let⟨u,n,rfl,⟨t,rfl⟩,⟨v,rfl⟩⟩:=wz6 r;show max_two_ints (I.ok.hd l) λw p k=>⟨_,H,I.kept k,?_,q⟩;by_cases e:j>i
 .rw[aH e,aH e];show⟨_,rfl⟩
 .rw[aF e,aF e];show⟨_,rfl⟩
theorem zf5(l:X.calm=true):CallR X (.builtin "min") (λxs H Q=>∃i j,xs=[.int i,.int j]/\Q (.int (if j<i then j else i)) H):=by
 intro f s m H xs o Q I r h;let⟨i,j,rfl,q⟩:=h;let⟨u,n,rfl,⟨t,rfl⟩,⟨v,rfl⟩⟩:=wz6 r;show min_two_ints (I.ok.hd l) λw p k=>⟨_,H,I.kept k,?_,q⟩;by_cases e:j<i
 .rw[aH e,aH e];show⟨_,rfl⟩
 .rw[aF e,aF e];show⟨_,rfl⟩
theorem zf8:CallR X (.type "int") (λxs H Q=>(∃i,xs=[.int i]/\Q (.int i) H)\/∃k,xs=[.bl k]/\Q (.int (if k then 1 else 0)) H):=by
 intro e s f H xs j Q I r h;rcases h with⟨i,rfl,q⟩|⟨k,rfl,q⟩
 .let⟨u,rfl,t,rfl⟩:=U1 r;show call_int_int ⟨.int i,H,I,⟨_,rfl⟩,q⟩
 .let⟨u,rfl,r1⟩:=U1 r;ext r1;show call_int_bool ⟨.int (if k then 1 else 0),H,I.tok _,⟨_,rfl⟩,q⟩
end
structure ObjM(h:Heap)(x dx C:Addr)(mA:Qb):Prop where
 obj:h.get? x=some (W.instObj C dx)
 ns:h.Ns1 dx mA
 ne:dx≠x
theorem xz6{h:Heap}{i:Addr}{f:Qb}(n:h.Ns1 i f):∃d,h.get? i=some d/\∀b,W.lookIn b d=some (f b):=by
 let⟨o,g,s,k,p,m,_,l⟩:=n;show⟨o,k,λb=>?_⟩;have e:=l b;unfold nsFind findBy at e;rw[<-Array.find?_toList]at e;unfold W.lookIn;rw[p];dsimp only;split
 .rename_i y q;rw[q]at e;show bf some e
 .rename_i q;rw[q]at e;have a:g.toList.any (·.refKey)=false:=by rw[any_eq_false];intro y j;let⟨z,t,c⟩:=m y (Array.mem_toList_iff.mp j);simp[DictEntry.refKey,c]
  have r:¬ g.toList.any (·.refKey)=true:=by rw[a];show bd
  rw[aF r];show bf some e
theorem ObjM.look{c:Qb}(I:ObjM h x d C c):∃b,W.InstAt h x (W.instObj C d) C (some b)/\∀a,W.lookIn a b=some (c a):=
 let ⟨b,e,f⟩:=xz6 I.ns
 ⟨b,⟨I.obj,rfl,rfl,e⟩,f⟩
section
variable {x c C f:Addr}{b:Qb}
end
section
variable {H g:Hp}{h h':Heap}{a C b:Addr}{fs c:List (Str×V)}
theorem wp6(j:HOk P w H h)(e:H a=some (.ins C b fs)):∃i,ObjM h a b C i/\(∀f,RelO (fs.lookup f) (i f))/\PySem.Within i (fs.map (·.1))/\fs.length<=1000/\H b=some (.own a):=by let⟨d,z,l,k,i,n,r,q⟩:=(show ObjOk P w H h a (.ins C b fs)from j a _ e);show⟨i,⟨k,n,l⟩,r,q,z,d⟩
end
structure Cls(K:W.Frag)(C:Addr):Prop where
 pg:W.plainGet K C Str.empty=true
 hd:W.hasDictIn K C=true
 po:W.plainOver K C=true
 sa:W.findIn K (.ref C) "__setattr__"=some (some (.builtin "object.__setattr__"))
theorem Cls.get{K:W.Frag}(c:Cls K C)(f:Str):W.plainGet K C f=true:=c.pg
structure Con(K:W.Frag)(C:Addr)(f:Str)(v:V)(u:Value):Prop where
 at_:W.findIn K (.ref C) f=some (some u)
 rel:RelV v u
 get:W.specialIn K u "__get__"=some none
 cp:W.copiedNames.contains f=false
structure Meth(K:W.Frag)(C:Addr)(m:Str)(f:Addr):Prop where
 at_:W.findIn K (.ref C) m=some (some (.ref f))
 fn:W.isFn K (.ref f)=true
 kp:W.keepIn K (.ref f)=true
section
variable {b:Qc}{c:St}{a C d:Addr}{f:Str}
end
section
variable {f:Str}{d c b:Pos}{h g:TE}
end
section
variable {d:Qc}{f:St}{c:Value}{b:Bool}
inductive TyOf (K:W.Frag)(H:Hp):V->Value->Prop where
 |non:TyOf K H .non (.type "NoneType")
 |bl (x:Bool):TyOf K H (.bl x) (.type "bool")
 |int (i:Int):TyOf K H (.int i) (.type "int")
 |str (x:Str):TyOf K H (.str x) (.type "str")
 |flt (x:UInt64):TyOf K H (.flt x) (.type "float")
 |lst {a:Addr} {xs:List V} (e:H a=some (.lst xs)):TyOf K H (.ref a) (.type "list")
 |frz {a:Addr} {o:Obj} {xs:List V} (e:H a=some (.frz o (.lst xs))):TyOf K H (.ref a) (.type "list")
 |tup {a:Addr} {xs:List V} (e:H a=some (.tup xs)):TyOf K H (.ref a) (.type "tuple")
 |dK {a:Addr} {kvs:List (Key×V)} (e:H a=some (.dK kvs)):TyOf K H (.ref a) (.type "dict")
 |dT {a:Addr} {kvs:List (List Key×V)} (e:H a=some (.dT kvs)):TyOf K H (.ref a) (.type "dict")
 |ins {a C dx:Addr} {fs:List (Str×V)} (e:H a=some (.ins C dx fs)) (cl:Cls K C) (ha:W.findIn K (.ref C) "__class__"=some (some (.builtin "object.__class__")))
   (hn:W.specialIn K (.builtin "object.__class__") "__get__"=some (some (.builtin "getset_descriptor.__get__"))) (htk:W.takesIn K (.builtin "object.__class__")=some true)
   (hm:W.mroIn K C (.type "object")=some true):TyOf K H (.ref a) (.ref C)
theorem N4(I:Inv X d f H s)(g:RelV x u)(ty:TyOf X.K H x t)(e:W.kitOne X.K t c=some b)(h:∀tk,Q (.bool b) { s with toks:=tk }):
  wpAny (model X.prog X.w) A (call (.builtin "isinstance") [u,c]) Q E s:=by
 cases ty with
 |non=>cases (show u=Value.none from g);show di W.kitx_none I.kIn True.intro e (λz=>nomatch z) h
 |bl y=>cases (show u=Value.bool y from g);show di W.kitx_bool I.kIn True.intro e (λz=>nomatch z) h
 |int i=>let⟨t,q⟩:=(show ∃t,u=Value.int i t from g);ext q;show di W.kitx_int I.kIn True.intro e (λz=>nomatch z) h
 |str y=>let⟨t,q⟩:=(show ∃t,u=Value.str y t from g);ext q;show di W.kitx_str I.kIn True.intro e (λz=>nomatch z) h
 |flt y=>let⟨t,q⟩:=(show ∃t,u=Value.float y t from g);ext q;show di W.kitx_float I.kIn True.intro e (λz=>nomatch z) h
 |@lst a k ea=>cases (show u=Value.ref a from g);let⟨_,_,n,_,j⟩:=(show ObjOk X.prog X.w H s.heap a (.lst k)from I.hok a _ ea);show di W.kitx_list I.kIn ⟨_,j,rfl⟩ e (λz=>nomatch z) h
 |@frz a ob k ea=>cases (show u=Value.ref a from g);let⟨_,_,_,n,_,j⟩:=(show ObjOk X.prog X.w H s.heap a (.frz ob (.lst k))from I.hok a _ ea);show di W.kitx_list I.kIn ⟨_,j,rfl⟩ e (λz=>nomatch z) h
 |@tup a k ea=>cases (show u=Value.ref a from g);let⟨_,_,_,p⟩:=(show ObjOk X.prog X.w H s.heap a (.tup k)from I.hok a _ ea);let⟨o,j,l,_⟩:=p;show di W.kitx_tuple I.kIn ⟨o,j,l⟩ e (λz=>nomatch z) h
 |@dK a kvs ea=>cases (show u=Value.ref a from g);let⟨_,_,v,_,p⟩:=(show ObjOk X.prog X.w H s.heap a (.dK kvs)from I.hok a _ ea);let⟨o,m,r,j,l,_⟩:=p;show di W.kitx_dict I.kIn ⟨o,j,l.1⟩ e (λz=>nomatch z) h
 |@dT a kvs ea=>cases (show u=Value.ref a from g);let⟨_,_,k,_,o,m,r,j,l,_⟩:=(show ObjOk X.prog X.w H s.heap a (.dT kvs)from I.hok a _ ea);show di W.kitx_dict I.kIn ⟨o,j,l.1⟩ e (λz=>nomatch z) h
 |@ins a C dx fs ea cl ha hn htk hm=>cases (show u=Value.ref a from g);let⟨D,O,_⟩:=wp6 I.hok ea;let⟨B,J,_⟩:=O.look;show di (W.kitx_own (cl.get _) cl.hd ha hn htk hm) I.kIn J e (λz=>nomatch z) h
end
structure Room(k:Nat)(A:Around):Prop where
 hd:A.handled=none
 dp:A.depth+3*k+5<recursionLimit
 un:A.units+16*k+200<cLine
theorem Room.mono{j k:Nat}(r:Room k A)(h:j<=k):Room j A:=⟨r.hd,by have:=r.dp;lia,by have:=r.un;lia⟩
theorem Room.deeper{k:Nat}(r:Room (k+1) A)(a:Env):Room k (A.deeper a):=
 ⟨r.hd,by have:=r.dp;show A.depth+1+3*k+5<_;lia,by have:=r.un;show A.units+3+16*k+200<_;lia⟩
theorem Room.depth{k:Nat}(r:Room k A):A.depth<recursionLimit:=by have:=r.dp;omega
theorem Room.units{k:Nat}(r:Room k A):A.units+64<cLine:=by have:=r.un;lia
def tNil:TA:=λ_ H Q=>Q [] H
def wi8(ta:TE)(tr:TA):TA:=λa H Q=>ta a H λx H1=>tr a H1 λxs H2=>Q (x::xs) H2
section
theorem pa_nil:PA X [] tNil:=λ_ _ _ _ H Q I h=>Calls.spliced_nil ⟨[],H,I,.nil,h⟩
theorem j4(o:PE X e te)(n:PA X es t)(m:starEach (e::es) X.env=(false,eval e X.env)::starEach es X.env:=by rfl):PA X (e::es) (wi8 te t):=by intro a b s d H Q I h;rw[m];show wpAny _ _ (spliced ((false,eval e X.env)::backTo a (starEach es X.env))) _ _ s;show Calls.spliced_cons (thn (o b s d H _ I h) λu g c=>?_);let⟨x,v,q,j,l⟩:=c;show thn (n a b g d v _ q l) λw y zQ=>by let⟨f,r,p,i,k⟩:=zQ;show ⟨x::f,r,p,.cons j i,k⟩
def tTup(t:TA):TE:=λa H Q=>t a H λxs H1=>xs.length<=sizeLine/\∀p,H1 p=none->Q (.ref p) (upd H1 p (.tup xs))
def tLst(t:TA):TE:=λa H Q=>t a H λxs H1=>xs.length<=sizeLine/\∀p,H1 p=none->Q (.ref p) (upd H1 p (.lst xs))
theorem wd1{k}(h:PA X es t):PE X (.Tuple es k a) (tTup t):=by intro c s i H Q I m;show wpAny_Tuple_spliced (thn (h a c s i H _ I m) λl d ⟨j,g,f,r,z,q⟩=>⟨by rw[<-r.length];show z,?_⟩);have n:g d.heap.objs.size=none:=f.hok.fresh (aK _);show⟨.ref d.heap.objs.size,upd g d.heap.objs.size (.tup j),f.laid (t':=d.toks) (λb u e=>aC _ e) (aK _) ?_,rfl,q _ n⟩;show⟨z,l,r,⟨_,aQ _ rfl,rfl,_,rfl⟩⟩
theorem xd9(h:PA X es t):PE X (.List es a) (tLst t):=by intro c s i H Q I l;show wpAny_List_spliced (thn (h a c s i H _ I l) λk d ⟨j,g,f,r,z,q⟩=>⟨by rw[<-r.length];show z,?_⟩);have m:g d.heap.objs.size=none:=f.hok.fresh (aK _);show⟨.ref d.heap.objs.size,upd g d.heap.objs.size (.lst j),f.laid (t':=d.toks) (λb u e=>aC _ e) (aK _) ?_,rfl,q _ m⟩;show⟨z,k,0,r,aQ _ rfl⟩
end
abbrev Sp:=List V->Hp->VK->XK->Prop
abbrev CXT:=List Env->Hp->Shared->XK->Qa
structure Env0(P:Program)(w:World)(K:W.Frag)(mg:Qb)(base:Heap)(A:Around)(outer:List Env)(s:Shared)(H:Hp):Prop where
 frames:A.frames=some outer
 mod:Mod K mg base
 bs:∀b o,base.get? b=some o->s.heap.get? b=some o/\H b=none
 bsz:base.objs.size<=s.heap.objs.size
 funs:s.heap.FunFrames base outer
 frf:∀b∈frs outer,H b=none
 hok:HOk P w H s.heap
 bare:AllBare s.gens
def CE(outer:List Env)(P:Program)(w:World)(H:Hp)(s:Shared)(Q:VK)(u:Value)(s':Shared):Prop:=
 ∃v H',s'.os=s.os/\AllBare s'.gens/\Un (frs outer) [] H H' s.heap s'.heap/\HOk P w H' s'.heap/\RelV v u/\Q v H'
def CR(CX:CXT)(outer:List Env)(P:Program)(w:World)(H:Hp)(s:Shared)(Q:VK)(E:XK)(r:Result)(s':Shared):Prop:=
 match r with
 | .ok (.ret u)=>CE outer P w H s Q u s'
 | .ok _=>False
 | .error e=>CX outer H s E e s'
structure FnOk(P:Program)(w:World)(K:W.Frag)(mg:Qb)(base:Heap)(CX:CXT)(k:Nat)(f:Addr)(fd:FuncData)(ps:List Str)(sp:Sp):Prop where
 len:∀vs H Q E,sp vs H Q E->vs.length=ps.length
 run:∀(A:Around)(outer:List Env)(s:Shared)(H:Hp)(args:Args)(us:List Value)(vs:List V)(Q:VK)(E:XK),Room k A->Env0 P w K mg base A outer s H->BindsTo s fd args (ps.zip us)->Vals vs us->sp vs H Q E->
  codeAny (model P w) A (.call (.ref f) args) (CR CX outer P w H s Q E) s
theorem FnOk.mono{P:Program}{K:W.Frag}{d:Qb}{base:Heap}{j k:Nat}(F:FnOk P w K d base CX j f e c sp)(h:j<=k):
  FnOk P w K d base CX k f e c sp:=⟨F.len,λA a s H b i g Q E l=>F.run A a s H b i g Q E (l.mono h)⟩
theorem FnOk.imp{P:Program}{K:W.Frag}{e:Qb}{base:Heap}{k:Nat}{sp sp':Sp}(F:FnOk P w K e base CX k f g d sp)
  (h:∀b H Q E,sp' b H Q E->sp b H Q E):FnOk P w K e base CX k f g d sp':=
 ⟨λb H Q E q=>F.len b H Q E (h _ _ _ _ q),λA a s H c i b Q E m n o j l=>F.run A a s H c i b Q E m n o j (h _ _ _ _ l)⟩
section
variable {c:St}
theorem Inv.env0(I:Inv X a c H s):Env0 X.prog X.w X.K X.mg X.base X.A X.stack s H:=
 ⟨I.ok.frames,I.ok.mod,I.bs,bD I.ok.bsz I.sz,I.stack,I.stkFree,I.hok,I.bare⟩
theorem Inv.after(I:Inv X a c H s)(h:CE X.stack X.prog X.w H s Q u s'):EP X a c Q u s':=by let⟨v,l,os,e,j,i,r,q⟩:=h;let⟨k,g,d,t,f⟩:=s';obtain rfl:f=s.os:=os;show⟨v,l,I.call (h':=k) (g':=g) (d':=d) (t':=t) (ch:=[]) j i e (λb z=>aV z az),r,q⟩
end
def yo6(sp:Sp)(dvs:List V)(E:XK)(t:TA):TE:=λa H Q=>t a H λvs H1=>sp (vs++dvs) H1 Q E
def Binds(K:W.Frag)(fd:FuncData)(ps:List Str)(ds:List Value):Prop:=
 ∀(s:Shared)(us:List Value),K.In s.heap->(us++ds).length=ps.length->BindsTo s fd ⟨us,[]⟩ (ps.zip (us++ds))
theorem Binds.all{K:W.Frag}(h:∀a:List Value,a.length=b.length->bindArgs d ⟨a,[]⟩=pure (b.zip a)):Binds K d b []:=λs a _ c=>by rw[append_nil]at c ⊢;show .of_eq (h a c)
def xs4(CX:CXT)(X:Cx)(E:XK):Prop:=∀(pins:Qc)(a:St)(H:Hp)(s:Shared)(e:Value)(s':Shared),Inv X pins a H s->CX X.stack H s E e s'->X.xe e s'
section
variable {f C:Addr}{d:FuncData}{c:List Str}{p b g:Pos}
theorem wf2{j:Qc}(F:FnOk X.prog X.w X.K X.mg X.base CX k f d c sp)(D:Room k X.A)(L:Binds X.K d c ds)(J:Vals a ds)(B:xs4 CX X E)
  (I:Inv X j v H s) (r:Vals q l) (h:sp (q++a) H Q E):wpAny (model X.prog X.w) X.A (call (.ref f) l) (EP X j v Q) X.xe s:=by
 have y:Vals (q++a) (l++ds):=r.append J;have G:(l++ds).length=c.length:=by rw[<-y.length];show F.len _ _ _ _ h
 show wpAny_call (codeAny_mono (F.run X.A X.stack s H ⟨l,[]⟩ (l++ds) (q++a) Q E D I.env0 (L s l I.kIn G) y h) λr z n=>?_);cases r with
 |error e=>show B j v H s e z I n
 |ok M=>
  cases M with
  |ret u=>show I.after n
  |next=>show False.elim n
  |brk=>show False.elim n
  |cont=>show False.elim n
theorem wu2(F:FnOk X.prog X.w X.K X.mg X.base CX k f d c sp)(z:Room k X.A)(G:Gl X x)(B:X.mg x=some (.ref f))(D:W.keepIn X.K (.ref f)=true)(M:Binds X.K d c ds)(L:Vals a ds)(y:xs4 CX X E)
  (N:PA X (e::es) t) (n:(x==("__debug__":Str))=false:=by decide) (J:starEach (e::es) X.env=(false,eval e X.env)::starEach es X.env:=by rfl) (l:(backTo b (starEach es X.env)).any (·.1)=false:=by rfl):
  PE X (.Call (.Name x p) (e::es) [] b) (yo6 sp a E t):=by
 intro j s v H Q I h;show wpAny_Call_Name_kw (xy0 I G B ?_ n);show W.callWith_K (h₀:=X.base) I.ok.mod.kin D (thn (N b j s v H _ I h) λP R ⟨O,S,u,r,q⟩=>⟨u.kIn,?_⟩) J l;show wf2 F z M L y u r q
structure Mk(K:W.Frag)(C f:Addr):Prop where
 makes:W.makesIn K C=true
 init:W.findIn K (.ref C) "__init__"=some (some (.ref f))
 fn:W.isFn K (.ref f)=true
 kp:W.keepIn K (.ref C)=true
end
def PK(X:Cx)(kws:List Keyword)(t:TA):Prop:=
 ∀(pos:Pos)(pins:Qc)(s:Shared)(a:St)(H:Hp)(Q:List V->Hp->Prop),Inv X pins a H s->t a H Q->wpAny (model X.prog X.w) X.A (evalAll ((backToKw pos (keywordEach kws X.env)).map (·.2))) (AP X pins a Q) X.xe s
section
variable {f C:Addr}{c d:List Str}{b:List Keyword}
theorem we3:PK X [] tNil:=λ_ _ _ _ H Q I h=>wpAny_evalAll_nil ⟨[],H,I,.nil,h⟩
theorem wv2(G:PE X e te)(F:PK X b t):PK X (⟨nm,e,kpos⟩::b) (wi8 te t):=by intro a q s r H Q I h;show wpAny _ _ (evalAll ((do let v ← eval e X.env;standAt a;pure v)::(backToKw a (keywordEach b X.env)).map (·.2))) _ _ s;show wpAny_evalAll_cons (aB (thn (G q s r H _ I h) λu y ⟨x,M,K,A,D⟩=>aB (eu (aD ?_))));show thn (F a q y r M _ K D) λN O ⟨w,L,J,z,B⟩=>⟨x::w,L,J,.cons A z,B⟩
structure KBinds(K:W.Frag)(j:FuncData)(c d:List Str)(g:List Value->List Value->List Value)(i:List V->List V->List V):Prop where
 to:∀(s:Shared)(us ws:List Value),K.In s.heap->(g us ws).length=c.length->BindsTo s j ⟨us,d.zip ws⟩ (c.zip (g us ws))
 rel:∀{vs:List V}{us:List Value}{zs:List V}{ws:List Value},Vals vs us->Vals zs ws->Vals (i vs zs) (g us ws)
variable {g:List Value->List Value->List Value}
end
structure FnScope(N P:List Str)(sc:Scope):Prop where
 kind:sc.kind= .function
 co:sc.isCoroutine=false
 gen:sc.isGenerator=false
 nd:N.Nodup
 pre:N.take P.length=P
 par:∀x∈P,sc.names.lookup x=some .local\/sc.names.lookup x=some .cell
 nofree:∀y∈sc.names,y.2≠ .free
theorem ze2{b:Str->Option NameKind}{x:Str}:∀{a:List (Str×Value)}{m:Qb},(∀v,(x,v)∉a)->bindL b a m x=m x
 |[],_,_=>rfl
 | (n,v)::r,m,h=>by
  unfold bindL;rw[ze2 λw hw=>h w (aX _ hw)];split
  .have:x≠n:=by rintro rfl;show h v bE
   simp[this]
  .rfl
theorem ze4{b:Str->Option NameKind}{x:Str}:∀{a:List (Str×Value)}{m:Qb},(∀v,(x,v)∉a)->bindC b a m x=m x
 |[],_,_=>rfl
 | (n,v)::r,m,h=>by
  unfold bindC;rw[ze4 λw hw=>h w (aX _ hw)];split
  .rfl
  .have:x≠n:=by rintro rfl;show h v bE
   simp[this]
theorem ze3{a:Str->Option NameKind}{x:Str}{v:Value}:∀{P:List Str}{b:List Value}{i:Nat}{m:Qb},P.Nodup->P[i]? =some x->b[i]? =some v->a x=some .local->
  bindL a (P.zip b) m x=some v
 |[],_,_,_,_,h,_,_=>by simp at h
 |_::_,[],_,_,_,_,h,_=>by simp at h
 |p::P,w::b,0,m,nd,d,c,e=>by simp at d c;subst d;subst c;show bindL a ((p,w)::P.zip b) m p=_;unfold bindL;rw[ze2 λv f=>(bu.mp nd).1 (of_mem_zip f).1,aH e];simp
 |p::P,w::b,i+1,m,nd,d,c,e=>by show bindL a ((p,w)::P.zip b) m x=_;unfold bindL;show ze3 (i:=i) (bu.mp nd).2 (by simpa using d) (by simpa using c) e
theorem ze5{a:Str->Option NameKind}{x:Str}{v:Value}:∀{P:List Str}{b:List Value}{i:Nat}{m:Qb},P.Nodup->P[i]? =some x->b[i]? =some v->a x≠some .local->
  bindC a (P.zip b) m x=some v
 |[],_,_,_,_,h,_,_=>by simp at h
 |_::_,[],_,_,_,_,h,_=>by simp at h
 |p::P,w::b,0,m,nd,d,c,e=>by simp at d c;subst d;subst c;show bindC a ((p,w)::P.zip b) m p=_;unfold bindC;rw[ze4 λv f=>(bu.mp nd).1 (of_mem_zip f).1,aF e];simp
 |p::P,w::b,i+1,m,nd,d,c,e=>by show bindC a ((p,w)::P.zip b) m x=_;unfold bindC;show ze5 (i:=i) (bu.mp nd).2 (by simpa using d) (by simpa using c) e
def X3(N:List Str)(vs:List V):St:=vs.map some++List.replicate (N.length-vs.length) none
noncomputable def cxOf(CX:CXT)(P:Program)(w:World)(K:W.Frag)(mg:Qb)(base:Heap)(N:List Str)(qual:Str)(scope:Scope)(f:Addr)(cd:Value)(A:Around)(outer:List Env)(s:Shared)(H:Hp)(E:XK):Cx where
 prog:=P
 w:=w
 K:=K
 mg:=mg
 base:=base
 A:=A.deeper (envOfC qual scope s.heap.objs.size f cd)
 N:=N
 s₀:=s
 H₀:=H
 env:=envOfC qual scope s.heap.objs.size f cd
 outer:=outer
 stack:=envOfC qual scope s.heap.objs.size f cd::outer
 ex:=[]
 calm:=true
 fn:=λ_=>true
 pn:=[]
 xe:=λe s'=>wpAny (model P w) (A.deeper (envOfC qual scope s.heap.objs.size f cd)) (leaving (envOfC qual scope s.heap.objs.size f cd) e) (λ_ s''=>CX outer H s E e s'') (λe' s''=>CX outer H s E e' s'') s'
theorem yq3{a:Scope}{n:Nat}{x:Str}(h:a.names.lookup x=some .cell):∃c,(cellsFrom n a.names []).lookup x=some c:=by have q:=W.cellsFrom_some a.names n [] (.inl h);show Option.isSome_iff_exists.mp q
theorem xy8{P:Program}{K:W.Frag}{J:Qb}{base:Heap}{scope:Scope}
  (S:FnScope N o scope) (R:A.handled=none) (l:Env0 P w K J base A d s H) (X:m.length=o.length) (r:Vals m I)
  (x:InCallC s s.heap.objs.size (bindL (envOfC g scope s.heap.objs.size f G).kindOf (o.zip I) λ_=>none) (cellsFrom (s.heap.objs.size+1) scope.names []) (bindC (envOfC g scope s.heap.objs.size f G).kindOf (o.zip I) λ_=>none) s1):
  Inv (cxOf CX P w K J base N g scope f G A d s H E) [] (X3 N m) H s1:=by
 have Q:o.length<=N.length:=by have:=bf List.length S.pre;rw[cB]at this;lia
 let⟨F,U,rfl,M⟩:=x.done;have t:∀b:Addr,b∉(cxOf CX P w K J base N g scope f G A d s H E).ex:=λb z=>aV (show b∈([]:List Addr)from z) az;show⟨⟨l.mod,S.kind,rfl,rfl,aK _,λy z c F j=>?_,λy B=>?_,λy c _ h=>?_,λ_=>R,Around.frames_deeper l.frames,.inr ⟨rfl,rfl⟩,λb z=>aV z (t b),l.bs,l.bsz,λb _ _=>t b,λb z=>aV z (t b),l.funs,l.frf⟩,
  rfl,l.bare,Un.kept M,⟨_,x.toInCall.ns,λi y v F j Y=>?_⟩,λy c h=>⟨_,x.cell y c h⟩,l.hok.fresh (aK _),λy c h=>?_,λp D=>aV (show p∈([]:Qc)from D) az,l.hok.kept M,?_⟩
 .exact name_of_addr x.apart (cV F) (cV j)
 .have B:scope.names.lookup y=some .cell\/scope.names.lookup y=some .free:=B;rcases B with B|B
  .exact yq3 B
  .exact aV rfl (S.nofree _ (cV B))
 .exact dt (x.above y c (cV h))
 .have hi:i<m.length:=by
   unfold X3 at j;by_cases hi:i<m.length
   .exact hi
   .rw[cr (by simpa using hi)]at j;rw[dP]at j;split at j <;> ext j
  have T:m[i]? =some v:=by
   unfold X3 at j;rw[bW (by simpa using hi),bn]at j;rcases e:m[i]?,j with a;ext j;rfl
  let⟨u,L,O⟩:=r.get T;have D:o[i]? =some y:=by rw[<-S.pre,getElem?_take_of_lt aw];show F
  have C:o.Nodup:=by rw[<-S.pre];show S.nd.sublist (take_sublist _ _)
  show⟨u,O,?_⟩;rcases S.par y (mem_of_getElem? D)with k|k
  .exact .inl ⟨k,ze3 C D L k⟩
  .let⟨c,e⟩:=yq3 (n:=s.heap.objs.size+1) k;show .inr ⟨.inl k,c,e,?_⟩;have q:=x.cell y c e;rw[ze5 C D L (by show scope.names.lookup y≠_;rw[k];decide)]at q;show q
 .exact l.hok.fresh (dt (x.above y c (cV h)))
 .unfold X3;show _=N.length;rw[bV,aL,length_replicate];lia
theorem vk1{P:Program}{K:W.Frag}{M:Qb}{base:Heap}{k:Nat}{scope:Scope}{dV Z G Y d ct oc:Value}
  {R:Array (Option Value)} {N L:List Str}  (lk:K.lookup f=some ⟨oc,od,.func (W.fnOf l c g h scope dV Z G Y an d ct),R⟩) (X:W.codeIn K d c=true) (S:FnScope N L scope)
  (C:∀j H Q E,sp j H Q E->j.length=L.length)
  (z:∀(A:Around)(a:List Env)(s:Shared)(H:Hp)(j:List V)(Q:VK)(E:XK),Room k (A.deeper (envOfC c scope s.heap.objs.size f d))->sp j H Q E->
   ∃t,PSs (cxOf CX P w K M base N c scope f d A a s H E) h t/\t { nx:=λ_ m=>Q .non m,rt:=Q } (X3 N j) H):
  FnOk P w K M base CX (k+1) f (W.fnOf l c g h scope dV Z G Y an d ct) L sp:=by
 show⟨C,λA a s H a0 us j Q E U F hb r D=>?_⟩;have hl:=C _ _ _ _ D;have KX:K.In s.heap:=F.mod.kin.keeps λb o e=>(F.bs b o e).1;have T:s.heap.NoLimit:=F.mod.nolimit.keeps λb o e=>(F.bs b o e).1;have p:∀y∈L.zip us,scope.names.lookup y.1=some .local\/(scope.names.lookup y.1=some .cell/\((cellsFrom (s.heap.objs.size+1) scope.names []).lookup y.1).isSome=true):=λ⟨n,v⟩ hy=>by
  rcases S.par n (of_mem_zip hy).1 with q|q
  .exact .inl q
  .exact .inr ⟨q,W.cellsFrom_some _ _ _ (.inl q)⟩
 show codeAny_call_function U.depth (KX _ _ lk) rfl S.co S.gen rfl (W.codeRec_of KX X) (hb _ _ _ _ ?_);show wpAny_newFunctionEnv_cells S.kind p λa1 he s1 x=>?_;subst he;show⟨T.keeps x.toInCall.keep,codeAny_func ?_⟩;let⟨t,ht,hq⟩:=z A a s H j Q E (U.deeper _) D;have I:Inv (cxOf CX P w K M base N c scope f d A a s H E) [] (X3 N j) H s1:=xy8 S U.hd F hl r x;show dE (ht [] s1 (X3 N j) H _ I hq) (λfl s' B=>?_) λe s' B=>B;have fin:∀{i:St}{m:Hp}{v:V}{u:Value},Inv (cxOf CX P w K M base N c scope f d A a s H E) [] i m s'->RelV v u->Q v m->CE a P w H s Q u s':=
  λ{i m v u} J O q=>⟨v,m,J.os,J.bare,J.base,J.hok,O,q⟩
 cases fl with
 |ret u=>let⟨v,i,m,J,O,q⟩:=B;show fin J O q
 |next=>let⟨i,m,J,q⟩:=B;show fin (v:=V.non) (u:=Value.none) J rfl q
 |brk=>let⟨_,_,_,q⟩:=B;show False.elim q
 |cont=>let⟨_,_,_,q⟩:=B;show False.elim q
section
variable {X:Cx}{x:Str}{p a:Pos}{e:Expr}{es:List Expr}{t:TA}{id T:String}{r:List V->Hp->VK->Prop}
def tCB(r:List V->Hp->VK->Prop)(t:TA):TE:=λa H Q=>t a H λvs H1=>r vs H1 Q
theorem j7(v:CallR X (.builtin id) r)(q:Gl X x)(o:X.mg x=none)(m:bootBuiltins x=some (.builtin id))(w:PA X (e::es) t)(n:x≠"__name__":=by decide)(d:(x==("__debug__":Str))=false:=by decide)
  (u:starEach (e::es) X.env=(false,eval e X.env)::starEach es X.env:=by rfl) (c:(backTo a (starEach es X.env)).any (·.1)=false:=by rfl):PE X (.Call (.Name x p) (e::es) [] a) (tCB r t):=by
 intro b s f H Q I h;show wpAny_Call_Name_kw (V6 I q o m ?_ n d);show PyProof.Rows.callWith_builtin1 (thn (w a b s f H _ I h) λi j zQ=>by let⟨g,z,y,k,l⟩:=zQ;show v b j f z g i Q y k l) u c
theorem U4(v:CallR X (.type T) r)(q:Gl X x)(o:X.mg x=none)(m:bootBuiltins x=some (.type T))(w:PA X (e::es) t)(n:x≠"__name__":=by decide)(d:(x==("__debug__":Str))=false:=by decide)
  (u:starEach (e::es) X.env=(false,eval e X.env)::starEach es X.env:=by rfl) (c:(backTo a (starEach es X.env)).any (·.1)=false:=by rfl):PE X (.Call (.Name x p) (e::es) [] a) (tCB r t):=by
 intro b s f H Q I h;show wpAny_Call_Name_kw (V6 I q o m ?_ n d);show bI (thn (w a b s f H _ I h) λi j zQ=>by let⟨g,z,y,k,l⟩:=zQ;show v b j f z g i Q y k l) u c
end
end L2
namespace HT
open PySem PyProof.Rows
theorem rcLt_int(A:Around)(s:Shared)(a:Int)(t:Tok)(c:Int)(u:Tok)(prog:Program)(w:World)(E:Qa)(Q:Qa)(h:Q (.bool (decide (a<c))) s):
  wpAny (model prog w) A (richCompare .Lt (.int a t) (.int c u)) Q E s:=
 (PyProof.Rows.lt_int h:wpAny (model prog w) A (compareOp .Lt (.int a t) (.int c u)) Q E s)
section
open PySem.SeqAt
open PySem.AutoSeq1 (wpAny_loadPart')
open PySem.MeetsSeq PySem.MeetsSeq2 PySem.MeetsSeq3
end
section
noncomputable def sIx(n d:Nat):Option Int->Nat
 |none=>d
 |some v=>if v<0 then (v+(n:Int)).toNat else min v.toNat n
theorem sIx_none(n d:Nat):sIx n d none=d:=rfl
theorem sIx_nat(n d k:Nat):sIx n d (some (k:Int))=min k n:=by show (if (k:Int)<0 then ((k:Int)+(n:Int)).toNat else min (k:Int).toNat n)=min k n;rw[aF aw,bB]
end
end HT
namespace L2
open List
open PySem PySem.Spec PyProof.Rows
abbrev TO:=St->Hp->(Option Int->Hp->Prop)->Prop
def PO(X:Cx)(e:Option Expr)(t:TO):Prop:=
 ∀(pins:Qc)(s:Shared)(a:St)(H:Hp)(Q:Option Int->Hp->Prop),Inv X pins a H s->t a H Q->
  wpAny (model X.prog X.w) X.A (evalPart e X.env) (λu s'=>∃o H',Inv X pins a H' s'/\IsPart u o/\Q o H') X.xe s
def wy2:TO:=λ_ H Q=>Q none H
def vq7(t:TE):TO:=λa H Q=>t a H λx H1=>∃i,x= .int i/\Q (some i) H1
section
variable {X:Cx}{e:Expr}{te:TE}{lo hi:Option Expr}{tl a:TO}{c d:Pos}
theorem wv1:PO X none wy2:=by intro b s f H Q I h;rw[evalPart_none];show aD ⟨none,H,I,.none,h⟩
theorem wv0(h:PE X e te):PO X (some e) (vq7 te):=by intro b s g H Q I hw;rw[evalPart_some];show thn (h b s g H _ I hw) λu n f=>?_;let⟨x,m,l,j,k⟩:=f;let⟨i,rfl,q⟩:=k;let⟨t,rfl⟩:=j;show⟨some i,m,l,.int i t,q⟩
def SlR(X:Cx)(r:V->Option Int->Option Int->Hp->VK->Prop):Prop:=
 ∀(pins:Qc)(s:Shared)(a:St)(H:Hp)(x:V)(v vl vu:Value)(lo hi:Option Int)(sl:Addr)(Q:VK),Inv X pins a H s->RelV x v->s.heap.IsSliceOf sl vl vu .none->IsPart vl lo->IsPart vu hi->r x lo hi H Q->
  ∃T id,typeLookup (.type T) "__getitem__"=pure (some (.builtin id))/\s.TypeIs v T/\wpAny (model X.prog X.w) X.A (getItem v (.ref sl)) (EP X pins a Q) X.xe s
def tSl(r:V->Option Int->Option Int->Hp->VK->Prop)(te:TE)(tl a:TO):TE:=λb H Q=>te b H λx H1=>tl b H1 λl H2=>a b H2 λu H3=>r x l u H3 Q
theorem xn7{r:V->Option Int->Option Int->Hp->VK->Prop}(G:SlR X r)(L:PE X e te)(J:PO X lo tl)(E:PO X hi a):PE X (.Subscript e (.Slice lo hi none d) c) (tSl r te tl a):=by intro f s j H Q I h;show Subscript_ (thn (L f s j H _ I h) λv p g=>?_);let⟨x,U,R,t,B⟩:=g;show wpAny_Slice (thn (J f p j U _ R B) λm o ⟨l,S,P,D,z⟩=>thn (E f o j S _ P z) λk i g=>?_);let⟨u,n,O,C,y⟩:=g;rw[evalPart_none];show aD ?_;have N:Inv X f j n { i with heap:=i.heap.push { cls:=.type "slice",data:=.fields #[m,k,.none] } }:=O.kept (t':=i.toks) λb W q=>aC _ q;let⟨T,Y,M,F,K⟩:=G f { i with heap:=i.heap.push { cls:=.type "slice",data:=.fields #[m,k,.none] } } j n x v m k l u i.heap.objs.size Q N t (Heap.IsSliceOf.new ..) D C y;show wpAny (model X.prog X.w) X.A (subscriptTail e (.Slice lo hi none d) v (.ref i.heap.objs.size)) (EP X f j Q) X.xe { i with heap:=i.heap.push { cls:=.type "slice",data:=.fields #[m,k,.none] } };show tail_any (ops:=[.ref i.heap.objs.size,v]) F M K (by with_unfolding_all rfl)
def cutV(xs:List V)(lo hi:Option Int):List V:=(xs.drop (HT.sIx xs.length 0 lo)).take (HT.sIx xs.length xs.length hi-HT.sIx xs.length 0 lo)
theorem yy7(xs:List V)(lo hi:Option Int):(cutV xs lo hi).length<=xs.length:=by delta cutV;rw[cB,dQ];omega
end
noncomputable def ixN(n:Nat)(i:Int):Option Nat:=if 0<=i then (if i<n then some i.toNat else none)else if -(n:Int)<=i then some (i+n).toNat else none
def atI{α:Type}(xs:List α)(i:Int):Option α:=(ixN xs.length i).bind λj=>xs[j]?
theorem yz6{n:Nat}{i:Int}{j:Nat}(h:ixN n i=some j):seqIndex? i n=some j/\j<n/\ -(n:Int)<=i/\i<n:=by
 delta ixN at h;by_cases b:0<=i
 .rw[aH b]at h;by_cases a:i<n
  .rw[aH a]at h;have e:i.toNat=j:=bm h;show⟨by rw[seqIndex_of b a,e],aw,aw,a⟩
  .rw[aF a]at h;ext h
 .rw[aF b]at h;by_cases a:-(n:Int)<=i
  .rw[aH a]at h;have e:(i+n).toNat=j:=bm h;show⟨by rw[seqIndex_neg aw a,e],aw,a,aw⟩
  .rw[aF a]at h;ext h
theorem xu9{a:Type}{xs:List a}{i:Int}{v:a}(h:atI xs i=some v):∃j,seqIndex? i xs.length=some j/\xs[j]? =some v/\j<xs.length/\ -(xs.length:Int)<=i/\i<xs.length:=by
 delta atI at h;rcases e:ixN xs.length i,h with j;let⟨f,d,c,b⟩:=yz6 e;show⟨j,f,h,d,c,b⟩
theorem atI_last{a:Type}(xs:List a)(v:a):atI (xs++[v]) (-1)=some v:=by
 have b:(xs++[v]).length=xs.length+1:=by simp
 have e:ixN (xs++[v]).length (-1)=some xs.length:=by delta ixN;rw[b,aF ay,aH aw];congr 1;lia
 delta atI;rw[e];show (xs++[v])[xs.length]? =some v;simp
def zx9(b:Expr):Prop:=∀o i,subscripted b false o i=operate [o,i] (getItem o i)
def IxR(X:Cx)(r:R2):Prop:=
 ∀(value slice:Expr)(pins:Qc)(s:Shared)(a:St)(H:Hp)(x y:V)(v u:Value)(Q:VK),Inv X pins a H s->RelV x v->RelV y u->r x y H Q->
  subscripted slice false v u=operate [v,u] (getItem v u)->wpAny (model X.prog X.w) X.A (subscriptTail value slice v u) (EP X pins a Q) X.xe s
def MtR(X:Cx)(id:String)(r:V->List V->Hp->VK->Prop):Prop:=
 ∀(pins:Qc)(s:Shared)(a:St)(H:Hp)(x:V)(xs:List V)(v:Value)(us:List Value)(Q:VK),Inv X pins a H s->RelV x v->Vals xs us->r x xs H Q->
  wpAny (model X.prog X.w) X.A (call (.builtin id) (v::us)) (EP X pins a Q) X.xe s
section
variable {X:Cx}{a b:Expr}
theorem IxR.or(h:IxR X r)(h':IxR X n):IxR X (λx y H Q=>r x y H Q\/n x y H Q):=by
 intro c f i s j H x y v u Q I l k q p;rcases q with q|q
 .exact h c f i s j H x y v u Q I l k q p
 .exact h' c f i s j H x y v u Q I l k q p
theorem yn6(n:IxR X r)(w:PE X a B)(p:PE X b tb)(l:zx9 b):PE X (.Subscript a b A) (tOp r B tb):=by intro c s f H Q I h;show Subscript_ (binT w p I h λv u i x y C z k j q=>n a b c i f C x y v u Q z k j q (l _ _))
def rIxL(K:W.Frag):R2:=λx y H Q=>∃p xs i v,x= .ref p/\y= .int i/\SqL K H p xs/\atI xs i=some v/\Q v H
def rIxT(K:W.Frag):R2:=λx y H Q=>∃p xs i v,x= .ref p/\y= .int i/\SqT K H p xs/\atI xs i=some v/\Q v H
theorem zz9:IxR X (rIxL X.K):=by
 intro k l c s E H x y v u Q I N M h F;let⟨p,W,i,z,rfl,rfl,O,R,q⟩:=h;ext N;let⟨t,rfl⟩:=M;let⟨D,r,C,Y⟩:=I.list O;let⟨j,f,V,h3,U,S⟩:=xu9 R;let⟨w,J,n⟩:=r.get V;have P:=r.length;have Z:=zt0;have fin:EP X c E Q w s:=⟨z,H,I,n,q⟩;by_cases G:0<=i
 .have hj:i.toNat=j:=by rw[seqIndex_of G S]at f;show bm f
  show item_listR C.isList G aw (by rw[hj];simpa using J) fin F
 .have hj:(i+(D.toArray.size:Int)).toNat=j:=by rw[seqIndex_neg aw U]at f;rw[bX,<-P];show bm f
  show subscriptTail_builtinR (x:=w) C.isList.typeIs slot_list_getitem.lookup
   (wpAny_getItem_list_neg (Q:=λr L=>r=w/\EP X c E Q r L) C.isList aw (by rw[bX] <;> lia) aw (by rw[hj];simpa using J) ⟨rfl,fin⟩) F
theorem xb5:IxR X (rIxT X.K):=by
 intro f k c s n H x y v u Q I F E h J;let⟨p,S,i,z,rfl,rfl,L,N,q⟩:=h;ext F;let⟨t,rfl⟩:=E;let⟨G,r,C,U⟩:=I.tuple L;let⟨j,P,O,Z,Y,W⟩:=xu9 N;let⟨w,R,l⟩:=r.get O;have M:=r.length;have V:=zt0;have fin:EP X c n Q w s:=⟨z,H,I,l,q⟩;show subscriptTail_builtinR (x:=w) C.typeIs slot_tuple_getitem.lookup
  (getItem_tuple (j:=j) (Q:=λr D=>r=w/\EP X c n Q r D) C aw aw (by rw[bX,<-M];show P) (by simpa using R) ⟨rfl,fin⟩) J
theorem ym2(c:List Value)(n j:Nat)(u:Value):Obj.mapSeq (·.setIfInBounds j u) { cls:=.type "list",data:=.seq c.toArray n }={ cls:=.type "list",data:=.seq (c.set j u).toArray n }:=by simp[Obj.mapSeq]
theorem Inv.lst{f:Qc}(I:Inv X f i H s)(h:H p=some (.lst xs)):
  ∃(c:List Value)(n:Nat),Vals xs c/\s.heap.get? p=some { cls:=.type "list",data:=.seq c.toArray n }/\xs.length<=sizeLine:=by
 let⟨z,c,n,r,e⟩:=I.hok p _ h;show⟨c,n,r,e,z⟩
theorem Inv.lstUpd{c:Qc}{i its':List Value}{n k:Nat}{f:Obj->Obj}(I:Inv X c l H s)(h:H p=some (.lst xs))
  (y:s.heap.get? p=some { cls:=.type "list",data:=.seq i.toArray n }) (v:f { cls:=.type "list",data:=.seq i.toArray n }={ cls:=.type "list",data:=.seq its'.toArray k }) (r:Vals j its') (w:j.length<=sizeLine) (t:Nat):
  Inv X c l (upd H p (.lst j)) { s with heap:=s.heap.update p f,toks:=t }:=by
 have e:(s.heap.update p f).get? p=some { cls:=.type "list",data:=.seq its'.toArray k }:=by rw[bL f y (by rw[v] <;> rfl),v]
 show I.write (x:=p) (e:=p) (by rw[h];trivial) (.inl rfl) (λb u z q=>(cj _ _ (dr z)).trans q) ⟨_,e⟩ ?_;show⟨w,its',k,r,e⟩
def xp4:V->V->V->Hp->(Hp->Prop)->Prop:=λo i v H Q=>∃p xs k j,o= .ref p/\i= .int k/\H p=some (.lst xs)/\ixN xs.length k=some j/\Q (upd H p (.lst (xs.set j v)))
theorem zr6:PSet X xp4:=by
 intro c s F H o i v O P u Q I K L J h;let⟨p,G,k,j,rfl,rfl,y,N,q⟩:=h;ext K;let⟨t,rfl⟩:=L;let⟨f,n,r,w,M⟩:=I.lst y;let⟨l,S,C,z⟩:=yz6 N;have x:=r.length;have R:=zt0;have E:Inv X c F (upd H p (.lst (G.set j v))) { s with heap:=s.heap.update p (Obj.mapSeq (·.setIfInBounds j u)) }:=
  I.lstUpd y w (ym2 f n j u) (r.set J j) (by rw[length_set];show M) s.toks
 by_cases D:0<=k
 .have hk:k.toNat=j:=by rw[seqIndex_of D z]at l;show bm l
  show W.ki_setAt w D aw (by rw[bX,<-x];show z) (by rw[hk];show⟨_,E,q⟩)
 .have hk:(k+(f.toArray.size:Int)).toNat=j:=by rw[seqIndex_neg aw C]at l;rw[bX,<-x];show bm l
  show W.ki_setBack w aw (by rw[bX,<-x];show C) aw (by rw[hk];show⟨_,E,q⟩)
theorem zk6(lo hi:Option Int)(n:Nat):(sliceBounds lo hi none n).1=((HT.sIx n 0 lo:Nat):Int)/\(sliceBounds lo hi none n).2.1=((HT.sIx n n hi:Nat):Int)/\(sliceBounds lo hi none n).2.2=1:=by
 show⟨?_,?_,rfl⟩
 .cases lo with
  |none=>simp[sliceBounds,HT.sIx]
  |some i=>
   simp only[sliceBounds,HT.sIx,Option.getD_none,show (1:Int)>0 by decide,if_true];by_cases h:i<0
   .simp only[h,if_true] <;> lia
   .simp only[h,if_false] <;> lia
 .cases hi with
  |none=>simp[sliceBounds,HT.sIx]
  |some i=>
   simp only[sliceBounds,HT.sIx,Option.getD_none,show (1:Int)>0 by decide,if_true];by_cases h:i<0
   .simp only[h,if_true] <;> lia
   .simp only[h,if_false] <;> lia
theorem zr5(c:List Value)(lo hi:Option Int):slicePick c.toArray lo hi none=((c.drop (HT.sIx c.length 0 lo)).take (HT.sIx c.length c.length hi-HT.sIx c.length 0 lo)).toArray:=by let⟨i,h,f⟩:=zk6 lo hi c.toArray.size;unfold slicePick;rw[i,h,f];simp only[sliceRange_one,pick_run,size_toArray] <;> rfl
def rSlL(K:W.Frag):V->Option Int->Option Int->Hp->VK->Prop:=λx lo hi H Q=>∃a xs,x= .ref a/\SqL K H a xs/\∀p,H p=none->Q (.ref p) (upd H p (.lst (cutV xs lo hi)))
theorem wy9:SlR X (rSlL X.K):=by intro i s z H x v D C lo hi E Q I k y n l h;let⟨a,c,rfl,w,q⟩:=h;ext k;let⟨p,r,j,u⟩:=I.list w;have f:=r.length;show⟨"list",_,slot_list_getitem.lookup,j.isList.typeIs,?_⟩;show wpAny_getItem_list_slice j.isList y n l .none az ?_ (by rw[bX] <;> lia);rw[zr5,<-f];show⟨.ref s.heap.objs.size,_,I.laid (t':=s.toks) (o:=.lst (cutV c lo hi)) (λb F q=>aC _ q) (aK _) ?_,rfl,q _ (I.hok.fresh (aK _))⟩;show⟨bD (yy7 c lo hi) u,_,0,(r.drop (HT.sIx c.length 0 lo)).take (HT.sIx c.length c.length hi-HT.sIx c.length 0 lo),aQ _ rfl⟩
theorem G7:CallR X (.builtin "len") (λxs H Q=>∃p f,xs=[.ref p]/\(SqL X.K H p f\/SqT X.K H p f)/\Q (.int f.length) H):=by
 intro j s l H xs n Q I r h;let⟨p,f,rfl,i,q⟩:=h;let⟨u,rfl,k⟩:=U1 r;ext k;have v:=zt0;rcases i with i|i
 .let⟨its,r',pl,hz⟩:=I.list i;have c:=r'.length;show Calls.call_len_list pl.isList (by simp only[size_toArray] <;> lia) ⟨.int f.length,H,I.tok _,⟨s.toks+1,by rw[bX,c]⟩,q⟩
 .let⟨its,r',pl,hz⟩:=I.tuple i;have c:=r'.length;show len_tuple pl (by simp only[size_toArray] <;> lia) ⟨.int f.length,H,I.tok _,⟨s.toks+1,by rw[bX,c]⟩,q⟩
theorem zf7:CallR X (.builtin "len") (λxs H Q=>∃z,xs=[.str z]/\z.length<=sizeLine/\Q (.int z.length) H):=by intro c s f H xs i Q I r h;let⟨z,rfl,j,q⟩:=h;let⟨u,rfl,t,rfl⟩:=U1 r;have k:=zt0;show len_str aw ⟨.int z.length,H,I.tok _,⟨_,rfl⟩,q⟩
theorem CallR.or{r l:List V->Hp->VK->Prop}(h:CallR X f r)(h':CallR X f l):CallR X f (λxs H Q=>r xs H Q\/l xs H Q):=by
 intro c s i H xs j Q I k q;rcases q with q|q
 .exact h c s i H xs j Q I k q
 .exact h' c s i H xs j Q I k q
theorem zf6:CallR X (.type "list") (λxs H Q=>∃p i,xs=[.ref p]/\(SqL X.K H p i\/SqT X.K H p i)/\∀l,H l=none->Q (.ref l) (upd H l (.lst i))):=by
 intro v s J H xs M Q I r h;let⟨p,i,rfl,z,q⟩:=h;let⟨u,rfl,L⟩:=U1 r;ext L;have fin:∀(c:List Value),Vals i c->i.length<=sizeLine->∀(f:Heap)(k:Nat),(∀b G,s.heap.get? b=some G->f.get? b=some G)->
   f.get? s.heap.objs.size=some { cls:=.type "list",dict:=none,data:=.seq c.toArray k,slots:=#[] }->EP X v J Q (.ref s.heap.objs.size) { s with heap:=f }:=λc j y f k x e=>
  ⟨.ref s.heap.objs.size,_,I.laid (t':=s.toks) x (aK _) (show ObjOk X.prog X.w _ f _ (.lst i)from⟨y,c,k,j,e⟩),rfl,q _ (I.hok.fresh (aK _))⟩
 rcases z with z|z
 .let⟨c,j,pl,y⟩:=I.list z;have C:=j.length;let⟨o,D,F,n,E⟩:=pl.isList;show call_list_seq p (.inl rfl) D F E (λf k x e=>fin c j y f k x e) (by simp only[size_toArray] <;> lia)
 .let⟨c,j,pl,y⟩:=I.tuple z;have C:=j.length;let⟨o,D,F,n,E⟩:=pl;show call_list_seq p (.inr rfl) D F E (λf k x e=>fin c j y f k x e) (by simp only[size_toArray] <;> lia)
def tyV(K:W.Frag)(T:String)(x:V)(H:Hp):Prop:=match x with
 | .str _=>T="str"
 | .int _=>T="int"
 | .ref p=>(T="list"/\∃xs,SqL K H p xs)\/(T="tuple"/\∃o,K.lookup p=some o/\o.cls= .type "tuple"/\o.dict=none)\/
   (T="dict"/\((∃kvs,H p=some (.dK kvs))\/∃kvs,H p=some (.dT kvs)))\/(T="set"/\∃S n,H p=some (.set S n))
 |_=>False
theorem wi0{j:Qc}{T:String}(I:Inv X j w H s)(r:RelV x v)(ty:tyV X.K T x H):
  s.TypeIs v T/\∀a,v= .ref a->∃u,s.heap.get? a=some u/\u.dict=none:=by
 cases x with
 |str z=>let⟨t,rfl⟩:=r;cases (show T="str" from ty);show⟨typeIs_str s z t,λ_ e=>nomatch e⟩
 |int i=>let⟨t,rfl⟩:=r;cases (show T="int" from ty);show⟨typeIs_int s i t,λ_ e=>nomatch e⟩
 |ref p=>
  ext r;rcases ty with⟨rfl,D,y⟩|⟨rfl,o,f,C,l⟩|⟨rfl,f⟩|⟨rfl,S,n,f⟩
  .let⟨its,_,pl,_⟩:=I.list y;show⟨pl.isList.typeIs,λa e=>?_⟩;ext e;let⟨o,n,e,c,l,_⟩:=pl;show⟨o,e,l⟩
  .refine⟨⟨o,I.kIn p o f,C⟩,λa e=>?_⟩;ext e;show⟨o,I.kIn _ o f,l⟩
  .have z:∃o,s.heap.get? p=some o/\o.ExactDict:=by
    rcases f with⟨k,f⟩|⟨k,f⟩
    .let⟨_,_,_,_,o,_,_,e,h,_⟩:=I.hok p _ f;show⟨o,e,h⟩
    .let⟨_,_,_,_,o,_,_,e,h,_⟩:=I.hok p _ f;show⟨o,e,h⟩
   let⟨o,e,h⟩:=z;show⟨⟨o,e,h.1⟩,λa q=>?_⟩;ext q;show⟨o,e,h.2.1⟩
  .let⟨o,_,_,_,e,h,_⟩:=I.hok p _ f;show⟨⟨o,e,h.1⟩,λa q=>?_⟩;ext q;show⟨o,e,h.2.1⟩
 |_=>show False.elim ty
def tBM(K:W.Frag)(T:String)(r:V->List V->Hp->VK->Prop)(to:TE)(t:TA):TE:=λa H Q=>to a H λx H1=>tyV K T x H1/\t a H1 λxs H2=>r x xs H2 Q
variable {o e:Expr}{es:List Expr}{to:TE}{t:TA}{g:Str}{m d:Pos}{T id:String}{r:V->List V->Hp->VK->Prop}
theorem vo0(L:PlainAttrs T)(k:Slot T g id)(q:typeOf (.builtin id)=pure (.type "method_descriptor"))(O:MtR X id r)(N:PE X o to)(P:PA X (e::es) t)
  (j:attributeBase o g X.env (eval o X.env)=eval o X.env:=by rfl)
  (n:((backTo d (starEach (e::es) X.env)).all (λx=>!x.1)&&(backToKw d (keywordEach [] X.env)).all (λx=>x.1.isSome)
   &&decide ((e::es).length+([]:List Keyword).length+(if ([]:List Keyword).isEmpty then 0 else 1)<30))=true:=by rfl)
  (i:(m.endLine==d.line)=true:=by rfl) (M:starEach (e::es) X.env=(false,eval e X.env)::starEach es X.env:=by rfl) (f:(backTo d (starEach es X.env)).any (·.1)=false:=by rfl):
  PE X (.Call (.Attribute o g m) (e::es) [] d) (tBM X.K T r to t):=by
 intro c s p H Q I h;show wpAny_Call_method_late j n i rfl (thn (N c s p H _ I h) λv E l=>?_);let⟨x,W,y,u,ty,J⟩:=l;let⟨S,R⟩:=wi0 y u ty;show⟨T,id,L,k,q,S,R,?_⟩;have w:=P d c E p W _ y J;rw[M]at w ⊢;show Calls.callWith_builtin (by show (false || (backTo d (starEach es X.env)).any (·.1))=false;rw[f] <;> rfl) (Calls.evalArgs_plain ?_);show thn w λC D zQ=>by let⟨z,V,U,F,G⟩:=zQ;show O c D p V x z v C Q U u F G
end
def MtM(X:Cx)(id:String)(r:V->List V->Hp->VK->Prop):Prop:=
 ∀(pins:Qc)(s:Shared)(a:St)(H:Hp)(x:V)(xs:List V)(v:Value)(us:List Value)(Q:VK),Inv X pins a H s->RelV x v->Vals xs us->r x xs H Q->
  wpAny (model X.prog X.w) X.A (call (.builtin id) (v::us)) (EP X pins a Q) X.xe s
theorem Vals.one:∀{x:V}{a:List Value},Vals [x] a->∃u,a=[u]/\RelV x u:=by intro x a r;cases r with|cons r t=>ext t;show⟨_,rfl,r⟩
theorem Vals.rep{xs:List V}{a:List Value}(h:Vals xs a):∀k:Nat,Vals (List.replicate k xs).flatten (List.replicate k a).flatten
 |0=>.nil
 |k+1=>by rw[cF,cF,dI,dI];show Vals.append h (Vals.rep h k)
theorem zg4(a:List Value):∀(k:Nat)(acc:List Value),
  List.foldl (λc b=>c++b) acc.toArray (List.replicate k a.toArray)=(acc++(List.replicate k a).flatten).toArray
 |0,acc=>by simp
 |k+1,acc=>by
  have e:acc.toArray++a.toArray=(acc++a).toArray:=by simp
  have d:(acc++a)++(List.replicate k a).flatten=acc++(List.replicate (k+1) a).flatten:=by rw[cF,dI,dq]
  rw[<-d,<-zg4 a k (acc++a),<-e,cF,foldl_cons]
section
variable {c:St}{l b:Addr}{xs d g:List V}
theorem Inv.lset{h its':List Value}{n:Nat}{f:Array Value->Array Value}{t':Nat}(I:Inv X a c H s)(p:H l=some (.lst xs))
  (e:s.heap.get? l=some { cls:=.type "list",data:=.seq h.toArray n }) (m:f h.toArray=its'.toArray) (j:Vals d its') (i:d.length<=sizeLine):
  Inv X a c (upd H l (.lst d)) { s with heap:=s.heap.update l (Obj.mapSeq f),toks:=t' }:=by
 have q:=PySem.IsL.update e f;rw[m]at q;show I.write (x:=l) (e:=l) (by rw[p];show trivial) (.inl rfl) (λr u o k=>(cj s.heap (Obj.mapSeq f) (dr o)).trans k) ⟨_,q⟩ ?_;show⟨i,its',_,j,q⟩
theorem Inv.lnew{t':Nat}(I:Inv X a c H s)(h:Vals d e)(f:d.length<=sizeLine):
  Inv X a c (upd H s.heap.objs.size (.lst d)) { s with heap:=s.heap.push { cls:=.type "list",data:=.seq e.toArray },toks:=t' }:=
 I.laid (λ_ _ q=>aC _ q) (aK _) ⟨f,e,0,h,aQ _ rfl⟩
theorem Inv.fresh(I:Inv X a c H s):H s.heap.objs.size=none:=I.hok.fresh (aK _)
theorem Inv.lstM(I:Inv X a c H s)(h:H l=some (.lst xs)):xs.length<=sizeLine/\∃(f:List Value)(n:Nat),Vals xs f/\xs.length=f.length/\s.heap.get? l=some { cls:=.type "list",data:=.seq f.toArray n }:=by let⟨z,f,n,r,e⟩:=I.hok l _ h;show⟨z,f,n,r,r.length,e⟩
theorem xk2{n:Nat}(h:n<=sizeLine):Builtin.List.listTooLong n=false:=by unfold Builtin.List.listTooLong;show aP aw
end
section
def A6:V->List V->Hp->VK->Prop:=λx vs H Q=>∃l xs y,x= .ref l/\vs=[y]/\H l=some (.lst xs)/\xs.length<sizeLine/\Q .non (upd H l (.lst (xs++[y])))
theorem zi5:MtM X "list.append" A6:=by intro b s i H x k v m Q I d f h;let⟨l,j,y,rfl,rfl,c,o,q⟩:=h;ext d;let⟨u,rfl,g⟩:=f.one;let⟨z,a,n,r,p,e⟩:=I.lstM c;show call_meets F.slot_list_append ⟨_,e,rfl⟩ F.entry_list_append (F.args_list_append_2 _ _) (PySem.list_append l a.toArray n u (by rw[bX];lia)) ⟨e,?_⟩;show⟨.non,_,I.lset (its':=a++[u]) c e az (r.append (.cons g .nil)) ?_,rfl,q⟩;rw[bV,dZ];lia
def rRep:R2:=λx y H Q=>∃l k xs,x= .ref l/\y= .int k/\H l=some (.lst xs)/\ -(2^63)<=k/\k<2^63/\xs.length*k.toNat<=sizeLine/\
 ∀p,H p=none->Q (.ref p) (upd H p (.lst (List.replicate k.toNat xs).flatten))
theorem wq9{a:Type}(xs:List a)(k:Nat):(List.replicate k xs).flatten.length=k*xs.length:=by
 induction k with
 |zero=>simp
 |succ k b=>rw[cF,dI,bV,b,Nat.succ_mul,Nat.add_comm]
theorem wb7:OpR X (binaryOp .Mult) rRep:=by
 intro p s L H x y v u Q I C B h;let⟨l,k,M,rfl,rfl,E,J,G,w,q⟩:=h;ext C;let⟨t,rfl⟩:=B;let⟨z,b,n,r,D,e⟩:=I.lstM E;have f:b.toArray.size*k.toNat<=sizeLine:=by rw[bX,<-D];show w
 have i:¬ b.toArray.size*k.toNat>(2^63-1) / 8:=by
  have:(sizeLine:Nat)<=(2^63-1) / 8:=by decide
  lia
 have g:¬ (!Builtin.List.listFitsIndex k)=true:=by rw[fitsIndex_both J G];show bd
 have c:¬ Builtin.List.listTooLong (b.toArray.size*k.toNat)=true:=by rw[xk2 f];show bd
 have d:List.foldl (λo j=>o++j) #[] (List.replicate (if b.toArray.isEmpty=true then 0 else k.toNat) b.toArray)=(List.replicate k.toNat b).flatten.toArray:=by
  have K:∀m:Nat,List.foldl (λo j=>o++j) #[] (List.replicate m b.toArray)=(List.replicate m b).flatten.toArray:=λm=>by have:=zg4 b m [];rw[cT]at this;show this
  rw[K];cases b with
  |nil=>simp
  |cons a N=>rw[aF az]
 show wpAny_binaryOp_repeat_ref (T:="list") (U:="int") ay ⟨_,e,rfl⟩ (λA=>typeIs_int A k t) noFill_list_mul F.fills_int_mul F.slot_int_rmul repeat_list F.slot_int_index.lookup
  (call_meets F.slot_int_rmul (typeIs_int s k t) F.entry_int_rmul (F.args_int_rmul_2 _ _) (int___rmul___int_list k t l b.toArray n)
   ⟨e,rfl,⟨_,e,rfl⟩,call_meets F.slot_list_mul ⟨_,e,rfl⟩ F.entry_list_mul (F.args_list_mul_2 _ _) (AutoListH.list___mul___list_int_3 l b.toArray n k t g i c) ⟨e,?_⟩⟩)
 rw[d];show⟨.ref _,_,I.lnew (t':=s.toks) (r.rep k.toNat) (by rw[wq9,Nat.mul_comm];show w),rfl,q _ I.fresh⟩
end
section
end
section
end
end L2
namespace Att
open PySem PySem.W PySem.Calls PyProof.Rows
theorem zy1{P:Params}:∀(ns:List Int)(c:List Value),WellAll P h c (ns.map WData.int)->IntsAre c ns:=by
 intro ns;induction ns with
 |nil=>intro c w;rw[List.map_nil]at w;ext w;show .nil
 |cons n ns d=>
  intro c w;rw[List.map_cons]at w;cases w with
  |cons a b=>ext a;show .cons _ _ (d _ b)
theorem yg0{l:OpenLaw}{n:Nat}(v:l.most=some n){P:Params}{h:Heap}{args:List WData}{b:List Value}
  (c:l.row.toRowW.claim.pre args=true) (j:WellAll P h b args):
  ∃a m ns,b=[Value.ref a]/\args=[WData.list (ns.map WData.int)]/\h.get? a=some { cls:=.type "list",data:=.seq m.toArray }/\IntsAre m ns/\ns.length<=n:=by
 have k:WShape.hasAll [] args [.list .int]=true:=(pre_splitW c).1;have o:l.pre.holds [] { args:=args }=true:=(pre_splitW c).2;let⟨d,r,rfl,y,x⟩:=hasAllW_cons k;obtain rfl:=hasAllW_nil x;let⟨z,rfl,w⟩:=hasW_list y;let⟨ns,rfl⟩:=items_int w;have e:ns.length<=n:=by
  unfold OpenLaw.pre at o;have i:(WTm.not (.lt (.lit (.int (n:Int))) (.len (.arg 0)))).holds [] { args:=[.list (ns.map .int)] }=true:=by have i:=(holds_andW o).1;rw[v]at i;show i
  have g:=condW_of i (w_not (w_lt w_lit (w_len_list (w_arg rfl))));rw[List.length_map]at g;show Nat.le_of_not_lt λq=>?_;have t:(n:Int)<((ns.length:Nat):Int):=ax
  first
   | (rw[aO t]at g;show aV g ay)
   | (simp at g;omega)
 cases j with
 |cons s p=>
  ext p;cases s with
  |list u f=>show⟨_,_,ns,rfl,rfl,u,zy1 ns _ f,e⟩
theorem ye1(l:OpenLaw)(args:List WData):l.row.toRowW.claim.post args (.bool true) args=true:=
 postW_of (r:=l.row.toRowW) (X:=(true==true))
  (show WShape.has [] (.bool true) .bool=true by first|rfl|decide|simp[WShape.has,WShape.arms,WShape.armsAll])
  (show (WTm.eq .res (.lit (.bool true))).value [] { args:=args,res:=some (.bool true),after:=args }=some (.bool (true==true))from w_eq_bool (w_res rfl) w_lit) rfl
theorem attach_call{l:OpenLaw}{n:Nat}{q:Program}{e:List Str}{I:(Qb)->Heap->Prop}{H:World->Heap->Prop}{d:DefRec}
  (N:l.most=some n) (A:d.params.defaults=[])
  (s:∀(w:World)(c b:Shared)(t x:Qb)(p:Addr)(o:Obj)(v u h:Value)(a:Addr)(i:List Value)(ns:List Int),
   Ground q e [] I w c t x b.heap->H w b.heap->
   b.heap.get? p=some o->o.data= .func (docDef d.name d.params d.body d.scope v u h)->b.heap.CodeRec u d.name->t d.name=some (.ref p)->
   b.heap.get? a=some { cls:=.type "list",data:=.seq i.toArray }->IntsAre i ns->ns.length<=n->b.gens=#[]->
   codeAny (model l.prog w) callerA (.call (.ref p) ⟨[.ref a],[]⟩) (λr s'=>r= .ok (.ret (.bool true))/\OldK b.heap s'.heap/\s'.os=b.os/\AllBare s'.gens) b):
  WalkO q e I H l.row.toRowW d [] (λf i=>PySem.call f i):=by
 intro w c b t x G Y p o v u h V J M R B E z Q F C W j D K y P;obtain rfl:V= .none:=Dflts.none E A;obtain rfl:J= .none:=Dflts.noKw E;let⟨a,i,ns,rfl,rfl,k,g,m⟩:=yg0 N j y;show enter_call (codeAny_mono (s w c b t x p o v u h a i ns G Y M (fd_plain R) B z k g m Q) λr s' L=>?_);let⟨rfl,U,T,S⟩:=L;show⟨.inl ⟨.bool true,.bool true,[],rfl,λ_=>rfl,.bool true,ye1 l _,λ_=>⟨List.Pairwise.nil,λ_ O=>(nomatch O)⟩⟩,U,T,S⟩
section
end
end Att
namespace L2
open List
open PySem PySem.Spec PyProof.Rows
theorem zm7:∀{a:List Value}{ns:List Int},IntsAre a ns->Vals (ns.map V.int) a
 |_,_,.nil=>.nil
 |_,_,.cons n t h=>.cons ⟨t,rfl⟩ (zm7 h)
def Only(H:Hp):Prop:=∀b,H b=none\/∃o xs,H b=some (.frz o (.lst xs))
theorem xj7{P:Program}{K:W.Frag}{t M:Qb}{k:Nat}{R a:Addr}{Z:FuncData}
  (KX:K.In s₁.heap) (C:s₁.heap.Ns mainGlobals t) (f:s₁.heap.Ns builtinsNs M) (O:∀x:Str,x≠"__name__"->M x=bootBuiltins x) (D:s₁.heap.NoLimit) (hg:s₁.gens=#[])
  (J:s₁.heap.get? a=some { cls:=.type "list",data:=.seq j.toArray }) (hi:IntsAre j ns) (U:ns.length<=sizeLine) (hr:Room k callerA)
  (F:∀base:Heap,K.In base->base.Ns mainGlobals t->FnOk P w K t base CX k R Z [x] sp) (l:∀(s:Shared)(u:Value),BindsTo s Z ⟨[u],[]⟩ [(x,u)])
  (N:∀H:Hp,Only H->SqL K H a (ns.map V.int)->sp [.ref a] H (λv _=>v= .bl true) λ_ _ _=>False)
  (Q:∀H e s',CX [] H s₁ (λ_ _ _=>False) e s'->False):
  codeAny (model P w) callerA (.call (.ref R) ⟨[.ref a],[]⟩) (λr s'=>r= .ok (.ret (.bool true))/\OldK s₁.heap s'.heap/\s'.os=s₁.os/\AllBare s'.gens) s₁:=by
 have T:=zm7 hi;have y:=hi.length;have i:∀H:Hp,Only H->SqL K H a (ns.map V.int)->HOk P w H s₁.heap->(∀b,H b≠none->b=a)->(H a≠none->K.lookup a=none)->
   codeAny (model P w) callerA (.call (.ref R) ⟨[.ref a],[]⟩) (λr s'=>r= .ok (.ret (.bool true))/\OldK s₁.heap s'.heap/\s'.os=s₁.os/\AllBare s'.gens) s₁:=by
  intro H X hS B Y hK;have c:∀{b:Addr}{o:Obj},s₁.heap.get? b=some o->H b=none->(hidT s₁.heap H).get? b=some o:=λe n=>xi6 e n;have L:∀{b:Addr}{o:Obj}{G:Array DictEntry}{ep:Nat},s₁.heap.get? b=some o->o.data= .dict G ep->H b=none:=λ{b o G ep} e d=>by
   cases q:H b with
   |none=>rfl
   |some u=>have S:b=a:=Y b (by rw[q];simp);subst S;rw[J]at e;ext e;have d':Data.seq j.toArray _=Data.dict G ep:=d;ext d'
  have g:∀{b:Addr}{m:Qb},s₁.heap.Ns b m->(hidT s₁.heap H).Ns b m:=λ{b m} ⟨o,G,ep,e,d,r⟩=>⟨o,G,ep,c e (L e d),d,r⟩;have E:K.In (hidT s₁.heap H):=λb o e=>c (KX b o e) (by
   cases q:H b with
   |none=>rfl
   |some u=>have S:b=a:=Y b (by rw[q];simp);subst S;rw[hK (by rw[q];simp)]at e;ext e)
  have hM:Mod K t (hidT s₁.heap H):=⟨E,g C,⟨M,g f,O⟩,let ⟨mc,h1,h2⟩:=D;⟨mc,g h1,h2⟩⟩;have e0:Env0 P w K t (hidT s₁.heap H) callerA [] s₁ H:=⟨rfl,hM,λb o e=>ws9 e,Nat.le_of_eq (xx2 _ _),trivial,λb f=>aV (show b∈([]:List Addr)from f) az,B,.of_eq hg⟩;show codeAny_mono ((F _ E (g C)).run callerA [] s₁ H ⟨[.ref a],[]⟩ [.ref a] [.ref a] _ _ hr e0 (l s₁ (.ref a)) (.cons rfl .nil) (N H X hS)) λr s' h=>?_;cases r with
  |error e=>show(Q H e s' h).elim
  |ok fl=>
   cases fl with
   |next=>show False.elim h
   |brk=>show False.elim h
   |cont=>show False.elim h
   |ret u=>
    let⟨v,H',os,I,un,A,r',q⟩:=h;have q':v= .bl true:=q;subst q';obtain rfl:u=Value.bool true:=r';show⟨rfl,OldK.of_keep λb o e=>?_,os,I⟩;cases q:H b with
    |none=>show un.keep b o e q (by intro z;show aV (show b∈([]:List Addr)from z) az) az
    |some u=>
     rcases X b with z|⟨ob,xs,z⟩
     .rw[q]at z;ext z
     .have z2:=un.frzs b ob _ z;let⟨e1,_⟩:=B b _ z;let⟨e2,_⟩:=A b _ z2;rw[e]at e1;ext e1;show e2
 cases hk:K.lookup a with
 |some o=>have e:=KX a o hk;rw[J]at e;ext e;show i (λ_=>none) (λ_=>.inl rfl) (.inr ⟨_,j.toArray,_,hk,rfl,rfl,rfl,by rw[bX,y];show U,by simpa using T⟩) (λb u z=>by have p:(none:Option HO)=some u:=z;ext p) (λb z=>aV rfl z) λz=>aV rfl z
 |none=>
  show i (λb=>if b=a then some (.frz { cls:=.type "list",data:=.seq j.toArray } (.lst (ns.map V.int)))else none) (λb=>?_) (.inl (.inr ⟨{ cls:=.type "list",data:=.seq j.toArray },aH rfl⟩)) (λb u z=>?_) (λb z=>?_) λ_=>hk
  .by_cases f:b=a
   .exact .inr ⟨_,_,aH f⟩
   .exact .inl (aF f)
  .by_cases f:b=a
   .have p:=(aH f).symm.trans z;ext p;subst f;show⟨J,by rw[aL];show U,j,_,T,J⟩
   .have p:=(aF f).symm.trans z;ext p
  .by_cases f:b=a
   .exact f
   .exact aV (aF f) z
theorem walk_of{l:W.OpenLaw}{n k:Nat}{q:Program}{i:List Str}{XP:(Qb)->Heap->Prop}{L:World->Heap->Prop}{d:DefRec}{K:Params->W.Frag}{CX:World->CXT}{sp:World->Sp}{x:Str}
  (O:l.most=some n) (A:n<=sizeLine) (C:d.params.defaults=[]) (N:Room k callerA)
  (S:∀(w:World)(h:Heap),L w h->(K w.params).In h)
  (F:∀(w:World)(m:Qb)(t:Addr)(h:Heap),(K w.params).In h->h.Ns mainGlobals m->m d.name=some (.ref t)->
   ∃E:FuncData,(∀(s:Shared)(u:Value),BindsTo s E ⟨[u],[]⟩ [(x,u)])/\
    ∀base:Heap,(K w.params).In base->base.Ns mainGlobals m->FnOk l.prog w (K w.params) m base (CX w) k t E [x] (sp w))
  (z:∀(w:World)(H:Hp)(a:Addr)(ns:List Int),ns.length<=n->Only H->SqL (K w.params) H a (ns.map V.int)->sp w [.ref a] H (λv _=>v= .bl true) λ_ _ _=>False)
  (D:∀(w:World)(H:Hp)(s:Shared)(e:Value)(y:Shared),CX w [] H s (λ_ _ _=>False) e y->False):
  W.WalkO q i XP L l.row.toRowW d [] (λf I=>PySem.call f I):=by
 show Att.attach_call O C λw J p m mb t o pm cd a0 a I ns G Y ho hd Q B r j c P=>?_;have M:=S w _ Y;let⟨E,R,Z⟩:=F w m t _ M G.T.g B;show xj7 M G.T.g G.T.b G.T.builtins G.T.nolimit P r j (bD c A) N Z R (λH X U=>z w H a ns c X U) λH e y=>D w H p e y
noncomputable def V1(s:Stmt):Arguments:=match s with
 | .FunctionDef _ a _ _ _ _ _ _ _ _=>a
 |_=>{ posonlyargs:=[],args:=[],vararg:=none,kwonlyargs:=[],kw_defaults:=[],kwarg:=none,defaults:=[] }
noncomputable def i6(s:Stmt):List Stmt:=match s with
 | .FunctionDef _ _ b _ _ _ _ _ _ _=>b
 |_=>[]
noncomputable def y4(s:Stmt):Scope:=match s with
 | .FunctionDef _ _ _ _ _ _ sc _ _ _=>sc
 |_=>{ kind:=.function,names:=[],isGenerator:=false,isCoroutine:=false }
abbrev CX0:CXT:=λ_ _ _ _ _ _=>False
abbrev E0:XK:=λ_ _ _=>False
theorem vo3{X:Cx}:xs4 CX0 X E0:=λ_ _ _ _ _ _ _ h=>h.elim
structure Fun(K:W.Frag)(x qual:Str)(st:Stmt)(f:Addr)(fd:FuncData):Prop where
 ex:∃(oc:Value)(od:Option Addr)(kV doc pm:Value)(an:Option Addr)(cdv ct:Value)(osl:Array (Option Value)),
  fd=W.fnOf x qual (V1 st) (i6 st) (y4 st) .none kV doc pm an cdv ct/\K.lookup f=some ⟨oc,od,.func fd,osl⟩/\W.codeIn K cdv qual=true
 kp:W.keepIn K (.ref f)=true
section
variable {P:Program}{w:World}{K:W.Frag}{mg:Qb}{base:Heap}
theorem Fun.ok{st:Stmt}{k:Nat}(F:Fun K x b st f m)(S:FnScope N g (y4 st))(i:∀d H Q E,sp d H Q E->d.length=g.length)
  (e:∀(c:Value)(A:Around)(a:List Env)(s:Shared)(H:Hp)(d:List V)(Q:VK)(E:XK),Room k (A.deeper (envOfC b (y4 st) s.heap.objs.size f c))->sp d H Q E->
   ∃t,PSs (cxOf CX0 P w K mg base N b (y4 st) f c A a s H E).nox (i6 st) t/\t { nx:=λ_ u=>Q .non u,rt:=Q } (X3 N d) H):FnOk P w K mg base CX0 (k+1) f m g sp:=by
 let⟨z,y,B,r,v,C,c,ct,n,rfl,o,l⟩:=F.ex;show vk1 o l S i λA a s H d Q E p j=>?_;let⟨t,h,q⟩:=e c A a s H d Q E p j;show⟨t,h.nox,q⟩
theorem Fun.binds{st:Stmt}(F:Fun K x a st f k)
  (h:∀(i b g:Value)(j:Option Addr)(c ct:Value)(d:List Value),d.length=e.length->bindArgs (W.fnOf x a (V1 st) (i6 st) (y4 st) .none i b g j c ct) ⟨d,[]⟩=pure (e.zip d)):Binds K k e []:=by
 let⟨o,n,i,b,g,j,c,ct,l,rfl,p,m⟩:=F.ex;show .all (h i b g j c ct)
theorem xx3{st:Stmt}(l:K.lookup f=some ⟨m,j,.func (W.fnOf x a (V1 st) (i6 st) (y4 st) .none h d g i b ct),e⟩)
  (c:W.codeIn K b a=true) (k:W.keepIn K (.ref f)=true):Fun K x a st f (W.fnOf x a (V1 st) (i6 st) (y4 st) .none h d g i b ct):=⟨⟨m,j,h,d,g,i,b,ct,e,rfl,l,c⟩,k⟩
end
section
theorem pv(i:Nat)(e:X.N[i]? =some x:=by rfl)(c:Vis X.env.scope x:=by first|show Or.inl rfl|show Or.inr (Or.inl rfl)|show Or.inr (Or.inr rfl))(d:(x==("__debug__":Str))=false:=by decide)
  (b:(x==("__classdict__":Str))=false:=by decide):PE X (.Name x a) (tVar i):=wd0 e c d b
end
theorem iteF{A B:Prop}(h:B):if false=true then A else B:=by rw[aF bd];show h
theorem iteT{A B:Prop}(h:A):if true=true then A else B:=by rw[aH rfl];show h
def Same(H H':Hp):Prop:=∀b o,H b=some o->H' b=some o
theorem Same.refl(H:Hp):Same H H:=λ_ _ h=>h
theorem Same.trans(a:Same H d)(b:Same d H2):Same H H2:=λc o h=>b c o (a c o h)
theorem Same.free(e:Same H a)(h:a l=Option.none):H l=Option.none:=by
 cases q:H l with
 |none=>rfl
 |some o=>rw[e l o q]at h;ext h
theorem Same.seq{K:W.Frag}(e:Same H b)(h:SqL K H a xs):SqL K b a xs:=by
 rcases h with (h|⟨o,h⟩)|h
 .exact .inl (.inl (e _ _ h))
 .exact .inl (.inr ⟨o,e _ _ h⟩)
 .exact .inr h
noncomputable def clOf(cells:List (Str×Addr)):List (Str×NameKind)->List (Str×Addr)->List (Str×Addr)
 |[],cs=>cs
 | (n,k)::r,cs=>if k= .free then (match cells.lookup n with |some c=>clOf cells r ((n,c)::cs)|none=>clOf cells r cs)else clOf cells r cs
theorem Q9{a:Env}:∀(names:List (Str×NameKind))(d:List (Str×Addr)),(∀x∈names,x.2= .free->∃c,a.cells.lookup x.1=some c)->
  (forIn names d λx r=>if (x.2==NameKind.free)=true then do let c ← cellOf a x.1;pure (ForInStep.yield ((x.1,c)::r))else pure (ForInStep.yield r):Sem (List (Str×Addr)))=pure (clOf a.cells names d)
 |[],d,_=>rfl
 | (n,k)::r,d,h=>by
  have g:∀x∈r,x.2= .free->∃c,a.cells.lookup x.1=some c:=λx i=>h x (aX _ i);rw[forIn_cons];by_cases f:k= .free
  .subst f;let⟨c,j⟩:=h (n,.free) bE rfl;have b:a.cells.lookup n=some c:=j;have e:cellOf a n=pure c:=by unfold cellOf;rw[b]
   simp only[beq_self_eq_true,if_true,e,pure_bind];rw[Q9 r _ g];simp only[clOf,if_true,b]
  .have hb:(k==NameKind.free)=false:=by simpa using f
   simp only[hb,Bool.false_eq_true,if_false,pure_bind];rw[Q9 r d g];simp only[clOf,f,if_false]
theorem zx3{scope:Scope}(h:∀x∈scope.names,x.2= .free->∃c,a.cells.lookup x.1=some c):closureFor scope a=pure (clOf a.cells scope.names []):=by
 simp only[closureFor];show Eq.trans ?_ (Q9 scope.names [] h)
 first| (rfl)|rfl|simp
theorem D5{a:List (Str×Addr)}{x:Str}{c:Addr}:∀(names:List (Str×NameKind))(b:List (Str×Addr)),(∀y d,b.lookup y=some d->a.lookup y=some d)->(clOf a names b).lookup x=some c->a.lookup x=some c
 |[],b,h,e=>h x c e
 | (n,k)::r,b,h,e=>by
  unfold clOf at e;split at e
  .split at e
   .rename_i d hd;show D5 r _ (λy d' q=>?_) e;rw[cX]at q;split at q
    .rename_i f;have:y=n:=by simpa using f
     subst this;ext q;show hd
    .exact h y d' q
   .exact D5 r b h e
  .exact D5 r b h e
theorem M2{a:List (Str×Addr)}{x:Str}:∀(names:List (Str×NameKind))(b:List (Str×Addr)),(b.lookup x).isSome=true->((clOf a names b).lookup x).isSome=true
 |[],b,h=>h
 | (n,k)::r,b,h=>by
  unfold clOf;split
  .split
   .refine M2 r _ ?_;rw[cX];split
    .rfl
    .exact h
   .exact M2 r b h
  .exact M2 r b h
theorem M3{a:List (Str×Addr)}{x:Str}{c:Addr}(d:a.lookup x=some c):∀(names:List (Str×NameKind))(b:List (Str×Addr)),(x,NameKind.free)∈names->((clOf a names b).lookup x).isSome=true
 |[],b,h=>aV h az
 | (n,k)::r,b,h=>by
  unfold clOf;rcases aT.mp h with e|h
  .cases e;rw[aH rfl,d];show M2 r _ ?_;simp[lookup_cons]
  .split
   .split
    .exact M3 d r _ h
    .exact M3 d r b h
   .exact M3 d r b h
theorem Z6{a:Env}:∀{names:List (Str×NameKind)}{x:Str},names.lookup x=some .free->
  (names.map λ(n,k)=>if (k==NameKind.free&&a.scope.kind== .function&&a.kindOf n==some .cell)then (n,NameKind.cell)else (n,k)).lookup x=some .cell\/
  (names.map λ(n,k)=>if (k==NameKind.free&&a.scope.kind== .function&&a.kindOf n==some .cell)then (n,NameKind.cell)else (n,k)).lookup x=some .free
 |[],_,h=>by simp at h
 | (n,k)::r,x,h=>by
  have b:=@Z6 a r x;show List.lookup x ((if (k==NameKind.free&&a.scope.kind== .function&&a.kindOf n==some .cell)=true then (n,NameKind.cell)else (n,k))::_)=_\/List.lookup x ((if (k==NameKind.free&&a.scope.kind== .function&&a.kindOf n==some .cell)=true then (n,NameKind.cell)else (n,k))::_)=_;by_cases c:(k==NameKind.free&&a.scope.kind== .function&&a.kindOf n==some .cell)=true
  .rw[aH c];cases hx:x==n with
   |true=>left;simp only[lookup_cons,hx]
   |false=>simp only[lookup_cons,hx]at h ⊢;show b h
  .rw[aF c];cases hx:x==n with
   |true=>right;simp only[lookup_cons,hx]at h ⊢;show h
   |false=>simp only[lookup_cons,hx]at h ⊢;show b h
theorem V5{a:Env}:∀{names:List (Str×NameKind)}{x:Str}{k:NameKind},(∀y∈names,y.2≠ .cell)->
  (names.map λ(n,k)=>if (k==NameKind.free&&a.scope.kind== .function&&a.kindOf n==some .cell)then (n,NameKind.cell)else (n,k)).lookup x=some k->(k= .cell\/k= .free)->(x,NameKind.free)∈names
 |[],_,_,_,h,_=>by simp at h
 | (n,d)::r,x,k,f,h,c=>by
  have i:=@V5 a r x k (λy j=>f y (aX _ j));have h:List.lookup x ((if (d==NameKind.free&&a.scope.kind== .function&&a.kindOf n==some .cell)=true then (n,NameKind.cell)else (n,d))::_)=_:=h;by_cases g:(d==NameKind.free&&a.scope.kind== .function&&a.kindOf n==some .cell)=true
  .rw[aH g]at h;have l:d= .free:=by have:=g;simp only[Bool.and_eq_true]at this;simpa using this.1.1
   cases hx:x==n with
   |true=>
    have b:x=n:=by simpa using hx
    subst b;subst l;show bE
   |false=>simp only[lookup_cons,hx]at h;show aX _ (i h c)
  .rw[aF g]at h;cases hx:x==n with
   |true=>
    have b:x=n:=by simpa using hx
    subst b;simp only[lookup_cons,hx]at h;have e:d=k:=bm h;subst e;rcases c with c|c
    .exact aV c (f _ bE)
    .subst c;show bE
   |false=>simp only[lookup_cons,hx]at h;show aX _ (i h c)
structure Blk(X:Cx)(sc:Scope)(N:List Str)(src:Qd):Prop where
 kind:sc.kind= .function
 nocell:∀y∈sc.names,y.2≠ .cell
 names:∀y∈sc.names,y.2= .local->sc.names.lookup y.1=some .local
 free:∀y∈sc.names,y.2= .free->X.env.kindOf y.1=some .cell\/X.env.kindOf y.1=some .free
 fv:∀(j i:Nat),src[j]? =some (some i)->∃x,N[j]? =some x/\X.N[i]? =some x/\sc.names.lookup x=some .free
 len:src.length=N.length
def blk0(src:Qd)(a:St):St:=src.map λo=>o.bind λi=>(a[i]?).join
def d8(X:Cx)(sc:Scope)(C:Addr)(N:List Str)(fp:List Addr)(s:Shared)(H:Hp):Cx where
 prog:=X.prog
 w:=X.w
 K:=X.K
 mg:=X.mg
 base:=X.base
 A:=X.A
 N:=N
 s₀:=s
 H₀:=H
 env:=compEnvC sc (clOf X.env.cells sc.names []) C X.env
 outer:=X.stack
 stack:=X.stack
 ex:=fp
 fn:=λ_=>false
 calm:=X.calm
 pn:=[]
 xe:=λ_ _=>False
section
variable {X:Cx}{f:St}
theorem Blk.cl{src:Qd}(B:Blk X b N src)(ok:X.Ok):closureFor b X.env=pure (clOf X.env.cells b.names []):=
 zx3 λx c d=>ok.has x.1 (B.free x c d)
theorem G6{b:Scope}{x:Str}{c:Addr}(h:(clOf X.env.cells b.names []).lookup x=some c):X.env.cells.lookup x=some c:=
 D5 b.names [] (λy d e=>by simp at e) h
theorem xv8{src:Qd}{D C:Addr}{t:Nat}{m:Qb}
  (B:Blk X j N src) (I:Inv X a f H s) (E:∀b∈fp,FpOk X a H b) (R:∀b∈fp,∃o,s.heap.get? b=some o)
  (A:∀b o,s.heap.get? b=some o->J.get? b=some o) (F:s.heap.objs.size<=D) (U:J.get? D=some { cls:=.type "list",data:=.seq #[] 0 })
  (hn:J.Ns C m) (G:s.heap.objs.size<=C) (V:D≠C):
  Inv (d8 X j C N fp s H) [] (blk0 src f) (upd H D (.lst [])) { s with heap:=J,toks:=t }:=by
 have cC:∀x c,X.env.cells.lookup x=some c->c≠C:=λx c e z=>by let⟨v,q⟩:=I.cell x c e;show aV (bb q.lt (by rw[z];show G)) (bO _)
 have cD:∀x c,X.env.cells.lookup x=some c->c≠D:=λx c e z=>by let⟨v,q⟩:=I.cell x c e;show aV (bb q.lt (by rw[z];show F)) (bO _)
 show⟨⟨I.ok.mod,?_,I.ok.glob,I.ok.blt,G,λx y c h1 h2=>?_,λx n=>?_,λx c h _=>(by cases h),I.ok.hd,I.ok.frames,.inl rfl,λb g=>⟨?_,λx c e=>?_⟩,I.bs,bD I.ok.bsz I.sz,λb o e g=>?_,λb g z=>?_,I.stack,I.stkFree⟩,
  rfl,I.bare,Un.laid A F (I.hok.fresh F),⟨m,hn,λi x v K d e3=>?_⟩,λx c e=>?_,?_,λx c e=>?_,λp hp=>?_,I.hok.laid A F ⟨aW _,[],0,.nil,U⟩,?_⟩
 .exact B.kind
 .exact I.ok.inj x y c (G6 h1) (G6 h2)
 .have hx':(∃k,(relabel j X.env).names.lookup x=some k/\(k= .cell\/k= .free)):=by
   rcases n with n|n
   .exact⟨_,n,.inl rfl⟩
   .exact⟨_,n,.inr rfl⟩
  let⟨k,e,Q⟩:=hx';have W:=V5 B.nocell e Q;let⟨c,T⟩:=I.ok.has x (B.free _ W rfl);show Option.isSome_iff_exists.mp (M3 T j.names [] W)
 .let⟨o,e⟩:=R b g;show bp (bb (aS e) G)
 .exact(E b g).2.2.2.2.1 x c (G6 e)
 .rcases (E b g).2.2.2.1 with z|z
  .exact I.ok.noex b o e z
  .exact aV (bb (aS e) (bD I.ok.bsz z)) (bO _)
 .rcases aT.mp (I.stkSub b z)with z|z
  .exact(E b g).2.1 z
  .exact(E b g).2.2.1 z
 .have e2':∃k,src[i]? =some (some k)/\f[k]? =some (some v):=by
   unfold blk0 at d;rw[bn]at d;rcases q:src[i]?,d with o;cases o with
   |none=>cases d
   |some k=>
    show⟨k,rfl,?_⟩;have d:(f[k]?).join=some v:=bm d;rcases qq:f[k]?,d with z;show bf some d
  let⟨k,ek,ev⟩:=e2';let⟨L,n1,Z,M⟩:=B.fv i k ek;have:L=x:=by have K:N[i]? =some x:=K;rw[n1]at K;show bm K
  subst this;let⟨m0,a0,P⟩:=I.loc;have w:=B.free (L,.free) (cV M) rfl;let⟨u,r,l⟩:=P k L v Z ev (by rcases w with z|z;show .inr (.inl z);show .inr (.inr z));show⟨u,r,.inr ⟨?_,?_⟩⟩
  .exact Z6 M
  .rcases l with⟨l,_⟩|⟨_,c,Y,z⟩
   .rcases w with q|q <;> (rw[q]at l;cases l)
   .let⟨c',ec'⟩:=Option.isSome_iff_exists.mp (M3 Y j.names [] (cV M));have:=G6 ec';rw[Y]at this;cases this;let⟨o,O,S⟩:=z;show⟨c,ec',o,A c o O,S⟩
 .let⟨v,o,O,S⟩:=I.cell x c (G6 e);show⟨v,o,A c o O,S⟩
 .show upd H D _ C=none;rw[z9 (dr V)];show(I.hok.fresh G)
 .rw[z9 (cD x c (G6 e))];show I.freeC x c (G6 e)
 .exact aV (show p∈([]:Qc)++[]from hp) az
 .unfold blk0;rw[aL];show B.len
end
abbrev noE:Qa:=λ_ _=>False
theorem toE{b:Type}{t:Sem b}{Q c:b->Shared->Prop}{E:Qa}(h:wpAny M A t Q noE s)(d:∀a s,Q a s->c a s):wpAny M A t c E s:=
 dE h d λ_ _ x=>x.elim
noncomputable abbrev zf0(ifs:List Expr)(env:Env):Sem Bool:=forIn ifs true λc r=>if r=true then do let ok ← isTrue c env (eval c env);pure (ForInStep.yield ok)else pure (ForInStep.yield r)
theorem zf1{prog:Program}{R:Result->Shared->Prop}{scope:Scope}(I:Nat->Shared->Prop)
  (turn:∀n s,I n s->wpAny (model prog w) A (pyNext it) (λr d=>match r with
   |none=>R (.ok .next) d
   |some v=>wpAny (model prog w) A (letOwnedTupleGo a it v) (λ_ c=>wpAny (model prog w) A (assign a e v) (λ_ i=>
     wpAny (model prog w) A (zf0 p e) (λok b=>
      if ok=true then wpAny (model prog w) A (eval y e) (λx g=>
       wpAny (model prog w) A (call (.builtin "list.append") [z,x]) (λ_ f=>∃m,m<n/\I m f) noE g) noE b
      else ∃m,m<n/\I m b) noE i) noE c) noE d) noE s)
  (n:Nat) (h:I n s):
  codeAny (model prog w) A (.compLoop (.ListComp y [⟨a,o,p,0⟩] scope B) 0 it z e) R s:=by
 show codeAny_loop rfl I (λn s C=>?_) n h;show wpAny_noted ?_;show aB (eu (aB (toE (turn n s C) (λr d k=>?_))));cases r with
 |none=>show aD k
 |some v=>
  show aB (toE k λ_ c l=>?_);show aB (toE l (λ_ i u=>aB (toE u (λok b j=>?_))));cases ok with
  |false=>show aD ⟨rfl,j⟩
  |true=>show aB (aB (toE j (λx g t=>aB (toE t (λ_ f q=>aD (aD ⟨rfl,q⟩))))))
def PTs(X:Cx)(ifs:List Expr)(t:TT):Prop:=
 ∀(pins:Qc)(s:Shared)(a:St)(H:Hp)(Q:Bool->Hp->Prop),Inv X pins a H s->t a H Q->wpAny (model X.prog X.w) X.A (zf0 ifs X.env) (TP X pins a Q) X.xe s
def tYes:TT:=λ_ H Q=>Q true H
theorem ww0{X:Cx}:PTs X [] tYes:=λa s b H Q I h=>aD ⟨H,I,h⟩
theorem wx9{X:Cx}(h:PT X c t):PTs X [c] t:=λa s b H Q I q=>wpAny_tests_one (h a s b H Q I q)
def zr0(src:Qd)(wi:TI)(g:TG)(tc:TT)(te:TE):TE:=λa H Q=>wi a H λJ H1=>∀D,H1 D=none->∃W:Nat->Nat->St->Hp->Prop,(∃m,W 0 m (blk0 src a) (upd H1 D (.lst [])))/\∀i m σ' H',W i m σ' H'->
 (J.stop i H'/\Q (.ref D) H')\/(J.go i H'/\∃N:St->Hp->Prop,(∀σ2 H2,N σ2 H2->∃m',m'<m/\W (i+1) m' σ2 H2)/\∀x H2,J.yld i H' x H2->g x σ' H2 λσ3 H3=>tc σ3 H3 λb H4=>
  if b=true then te σ3 H4 λy H5=>∃xs,H5 D=some (.lst xs)/\xs.length<sizeLine/\N σ3 (upd H5 D (.lst (xs++[y])))else N σ3 H4)
section
theorem zt7{k:Scope}{N:List Str}{src:Qd}{tg a2 S:Expr}{a0:List Expr}{aa:Pos}{g:TG}{tc:TT}{te:TE}{cx:Cx->Prop}(B:Blk X k N src)(hc:∀C fp s H,cx (d8 X k C N fp s H))
  (hg:∀C fp s H,PG (d8 X k C N fp s H) tg g) (ht:∀C fp s H,PTs (d8 X k C N fp s H) a0 tc) (he:∀C fp s H,PE (d8 X k C N fp s H) a2 te)
  {M:Qc} {σ:St} {H:Hp} {s:Shared} {it:Addr} {fp:List Addr} {tn:Nat->Heap->Prop} {J:It} {Q:VK} {E:Qa}
  (I:Inv X M σ H s) (T:TurnC cx X.prog X.w X.K tg J fp it tn) (st:tn 0 s.heap) (hf:∀b∈fp,FpOk X M H b)
  (hW:∀D,H D=none->∃W:Nat->Nat->St->Hp->Prop,(∃m,W 0 m (blk0 src σ) (upd H D (.lst [])))/\∀i m q H',W i m q H'->
   (J.stop i H'/\Q (.ref D) H')\/(J.go i H'/\∃N:St->Hp->Prop,(∀a4 l,N a4 l->∃m',m'<m/\W (i+1) m' a4 l)/\∀x l,J.yld i H' x l->g x q l λh H3=>tc h H3 λb H4=>
    if b=true then te h H4 λy H5=>∃xs,H5 D=some (.lst xs)/\xs.length<sizeLine/\N h (upd H5 D (.lst (xs++[y])))else N h H4))
  {RR:Value->Addr->Result->Shared->Prop}
  (ai:∀D C H' s' m',Inv X M σ H' s'->s'.heap.Ns C m'->H' C=none->s.heap.objs.size<=C->Q (.ref D) H'->RR (.ref D) C (.ok .next) s'):
  wpAny (model X.prog X.w) X.A (newList []) (λae s₃=>wpAny (model X.prog X.w) X.A (newFunctionEnv k X.env.globals (clOf X.env.cells k.names []) [] X.env.qual none .none (some X.env)) (λV a5=>
   codeAny (model X.prog X.w) X.A (.compStart (.ListComp a2 [⟨tg,S,a0,0⟩] k aa) 0 (.ref it) ae { V with scope:=relabel k X.env }) (RR ae V.locals) a5) E s₃) E s:=by
 show bU (wpAny_newFunctionEnv B.nocell (by intro y hy;simp at hy) (λO F j=>?_) B.kind);generalize a1:s.heap.push { cls:=.type "list",dict:=none,data:=.seq ([]:List Value).toArray }=l at F j ⊢;have hC:l.objs.size=s.heap.objs.size+1:=by rw[<-a1,cy]
 have ac:s.heap.objs.size≠l.objs.size:=by rw[hC];show bp (bZ _)
 have U:s.heap.objs.size<=l.objs.size:=by rw[hC];show dR _
 have a3:∀b,b<s.heap.objs.size->b≠l.objs.size:=λb f=>by rw[hC];show bp (bK f)
 have old:=λb o e=>j.extBut b o (a3 b (aS e)) (aC _ (a1 ▸ aC _ e));have ab:∀b∈fp,∃o,s.heap.get? b=some o:=λb f=>by let⟨o,e,_⟩:=T.obj _ _ st b f;show⟨o,e⟩
 have a9:=T.keep _ _ _ st λb _ o e=>old b o e;let⟨W,⟨m0,w0⟩,turn⟩:=hW s.heap.objs.size I.fresh;have I1:=xv8 (t:=s.toks+([]:List (Str×Value)).length) B I hf ab old (aK _) (j.extBut _ _ ac (aC _ (a1 ▸ aQ _ rfl))) F U ac;have L:∀{H':Hp},(∀b∈fp,H' b=none)->∀b∈fp,FpOk (d8 X k l.objs.size N fp s H) [] H' b:=λ{H'} hn b f=>by let⟨f0,f1,f2,f3,f4,f5⟩:=hf b f;show⟨hn b f,I1.ok.exf b f |>.1,I1.ok.exfs b f,.inl f,λx c e=>f4 x c (G6 e),λp hp=>aV (show p∈([]:Qc)++[]from hp) az⟩
 have ah:∀b∈fp,b≠s.heap.objs.size:=λb f z=>by let⟨o,e⟩:=ab b f;show aV (aS e) (by rw[z];show bO _)
 have R:∀s₃:Shared,s₃={ s with heap:=O,toks:=s.toks+([]:List (Str×Value)).length }->
   codeAny (model X.prog X.w) X.A (.compLoop (.ListComp a2 [⟨tg,S,a0,0⟩] k aa) 0 (.ref it) (.ref s.heap.objs.size) (compEnvC k (clOf X.env.cells k.names []) l.objs.size X.env))
    (RR (.ref s.heap.objs.size) l.objs.size) s₃:=by
  rintro s₃ rfl;show zf1 (λn s'=>∃i q H',Inv (d8 X k l.objs.size N fp s H) [] q H' s'/\tn i s'.heap/\(∀b∈fp,H' b=none)/\W i n q H') ?_ m0
   ⟨0,_,_,I1,a9,λb f=>by rw[z9 (ah b f)];show(hf b f).1,w0⟩
  rintro n s3 ⟨i,h,H3,I3,a8,ad,w3⟩;rcases turn i n h H3 w3 with⟨a6,qn⟩|⟨go,N',aj,a7⟩
  .refine thn (T.done (d8 X k l.objs.size N fp s H) rfl rfl rfl (hc _ _ _ _) i [] s3 h H3 noE I3 (L ad) a8 a6) λr s4 ⟨hr,I4⟩=>?_;subst hr;let⟨m4,ag,_⟩:=id I4.loc;show ai _ _ H3 s4 m4 ?_ ag I4.free U qn;show I.call' I4.os I4.base I4.hok I4.bare λb f=>⟨(hf b f).2.2.2.1,(hf b f).2.1,(hf b f).2.2.2.2.1,(hf b f).2.2.2.2.2⟩
  .refine thn (T.item (d8 X k l.objs.size N fp s H) rfl rfl rfl (hc _ _ _ _) i [] s3 h H3 noE I3 (L ad) a8 go) λr s4 ⟨u,hr,h4⟩=>?_;subst hr;show thn h4 λ_ s5 a=>?_;let⟨x,H5,I5,r5,y5,Z,al⟩:=a;have P:∀{s7:Shared}{G:St}{H7:Hp},Inv (d8 X k l.objs.size N fp s H) ([]++zj4 fp s5.heap) G H7 s7->N' G H7->∃m,m<n/\∃i q H',Inv (d8 X k l.objs.size N fp s H) [] q H' s7/\tn i s7.heap/\(∀b∈fp,H' b=none)/\W i m q H':=λ{s7 G H7} I7 n7=>by let⟨m',hm,w7⟩:=aj G H7 n7;show⟨m',hm,i+1,G,H7,I7.unpinned,T.keep _ _ _ Z λb f o e=>(I7.pin (b,o) (bC _ (bC _ (S3 f e)))).1,λb f=>?_,w7⟩;let⟨o,e,d⟩:=T.obj _ _ Z b f;show(I7.pin (b,o) (bC _ (bC _ (S3 f e)))).2.1
   show thn (hg _ _ _ _ _ s5 h H5 x u _ (I5.pinned (L al) (T.obj _ _ Z)) r5 (a7 x H5 y5)) λ_ s6 a=>?_;let⟨Y,H6,I6,q6⟩:=a;show thn (ht _ _ _ _ _ s6 Y H6 _ I6 q6) λok s7 a=>?_;let⟨H7,I7,q7⟩:=a;cases ok with
   |false=>show P I7 q7
   |true=>show thn (he _ _ _ _ _ s7 Y H7 _ I7 q7) λy s8 a=>?_;let⟨v8,H8,I8,r8,q8⟩:=a;let⟨xs,ak,af,n8⟩:=q8;show thn (zi5 _ s8 Y H8 (.ref s.heap.objs.size) [v8] (.ref s.heap.objs.size) [y] (λ_ H9=>H9=upd H8 s.heap.objs.size (.lst (xs++[v8]))) I8 rfl (.cons r8 .nil) ⟨_,xs,v8,rfl,rfl,ak,af,rfl⟩) λ_ s9 a=>?_;let⟨v9,H9,I9,r9,q9⟩:=a;subst q9;show P I9 n8
 show codeAny_compStart_list (R _ rfl) (toE (T.self X.A 0 { s with heap:=O,toks:=s.toks+([]:List (Str×Value)).length } (λv s'=>v= .ref it/\s'={ s with heap:=O,toks:=s.toks+([]:List (Str×Value)).length }) noE a9 ⟨rfl,rfl⟩) λv s' a=>?_);let⟨e1,e2⟩:=a;subst e1;subst e2;show R _ rfl
theorem Inv.letGo{a:Qc}(I:Inv X a h H s)(d:∃f j,Inv X a f j i)(g:i.heap.objs.size<=C)(m:H C=none)(k:Heap.SameBut C s.heap h'):Inv X a h H { s with heap:=h' }:=by
 let⟨f,j,d⟩:=d;show I.turned (λb o n e=>(k.2 b n).trans e) m (cO (bb d.lt g)) (.inr (bD d.sz g)) (λx c e z=>?_) λp l z=>?_
 .let⟨v,q⟩:=d.cell x c e;show aV (bb q.lt (by rw[z];show g)) (bO _)
 .exact aV (bb (aS (d.pin p l).1) (by rw[z];show g)) (bO _)
theorem zb4{src:Qd}(B:Blk X b N src)(K:X.calm=true)
  (hi:PI X l a p) (F:∀C fp s H,PG (d8 X b C N fp s H) l g) (z:∀C fp s H,PTs (d8 X b C N fp s H) d tc) (G:∀C fp s H,PE (d8 X b C N fp s H) k te)
  (A:∀x,foldedSetIterable a X.env x=pure x:=by intro _;rfl):
  PE X (.ListComp k [⟨l,a,d,0⟩] b n) (zr0 src p g tc te):=by
 intro c s v H Q I h;show wpAny_comprehension_free rfl A (B.cl I.ok) B.kind B.names (dE (hi c s v H _ I h) (λU t i=>dE i (λy r f=>?_) λ_ _ e=>e) λ_ _ e=>e);let⟨it,fp,V,J,Y,rfl,u,T,m,P,L⟩:=f;show zt7 B (λ_ _ _ _=>K) F z G u T m P L ?_;intro D C S W w R E M o q;show⟨w,E,λO j=>⟨.ref D,S,R.letGo ⟨_,_,u⟩ o M j,rfl,q⟩⟩
theorem yf6{i:Nat}{S:Pos}{src:Qd}(hN:X.N.Nodup)(G:X.N[i]? =some y)(Z:Loc X.env.scope y)
  (B:Blk X k N src) (hc:X.calm=true)
  (hi:PI X u b O) (hg:∀C fp s H,PG (d8 X k C N fp s H) u g) (ht:∀C fp s H,PTs (d8 X k C N fp s H) d tc) (he:∀C fp s H,PE (d8 X k C N fp s H) j te)
  (E:swapsWith (.ListComp j [⟨u,b,d,0⟩] k l) (some (.Name y S)) c.line X.env=pure true:=by rfl)
  (hs:∀x,foldedSetIterable b X.env x=pure x:=by intro _;rfl) (hf:X.fn y=true\/X.env.scope.names.lookup y=some .local:=by first|show .inl rfl|show .inr rfl|assumption):
  PS X (.Assign [.Name y S] (.ListComp j [⟨u,b,d,0⟩] k l) c) (tAsg (zr0 src O g tc te) (R0 i)):=by
 intro m s M H Dn I h;rw[exec_Assign_Name_used _ _ _ _ E];show aB (eu (aB ?_));show aB (dE (wpAny_comprehension_free rfl hs (B.cl I.ok) B.kind B.names
  (dE (hi m s M H _ I h) (λxv R o=>dE o (λY P n=>?_) λ_ _ e=>e) λ_ _ e=>e)) (λ_ V hq=>aD (aD hq)) λ_ _ e=>e)
 let⟨it,fp,tn,J,H2,rfl,w,T,A,f2,hW⟩:=n;show zt7 (Q:=λx H1=>R0 i x M H1 Dn.nx) B (λ_ _ _ _=>hc) hg ht he w T A f2 hW ?_;intro D C H' V W I' hn hC f q;show wpAny_assign_Name (zk3 I' hN G Z (v:=.ref D) rfl (λU L r=>?_) hf);let⟨a,F,t⟩:=r;have K:C≠a:=λz=>by
  rcases t with t|t
  .have:=w.lt;rw[<-t,<-z]at this;show aV (bb this f) (bO _)
  .let⟨v,qv⟩:=w.cell y a t;show aV (bb qv.lt (by rw[<-z];show f)) (bO _)
 show⟨W,hn.sameBut F K,λa0 p=>⟨_,H',L.letGo ⟨_,_,w⟩ f hC p,q⟩⟩
end
section
variable {d:St}
theorem Inv.turnedL{t':Nat}{fp:List Addr}(I:Inv X a d H s)(k:∀b o,b∉fp->s.heap.get? b=some o->h'.get? b=some o)(g:∀b∈fp,FpOk X a H b):Inv X a d H { s with heap:=h',toks:=t' }:=by
 have h:∀b u,H b=some u->b∉fp:=λb u e z=>by rw[(g b z).1]at e;ext e
 show I.step (λb i=>⟨(g b i).2.2.2.1,(g b i).2.1,(g b i).2.2.2.2.1,(g b i).2.2.2.2.2⟩) (λb o _ _ f e _=>k b o f e) (λb o _ _ f e _=>⟨o.slots,k b o f e⟩) (λ_ _ _ _ n=>n)
  (λb o f e=>⟨o,k b o f e⟩) (λ_ _ e=>e) (λ_ _ _ e=>e) (λb l e=>⟨#[],by rw[e];simp⟩) (λm j=>?_) (λb u e=>?_) I.bare
 .let⟨o,es,ep,ho,r⟩:=j;show⟨o,es,ep,k _ o (λz=>(g _ z).2.1 rfl) ho,r⟩
 .refine(I.hok b u e).stay (λc v f q=>k c v ?_ q) (λ_ q=>q) λ_ _ q=>q;rcases f with z|z
  .rw[z];show h b u e
  .exact h c _ z
theorem Inv.turnedN{t':Nat}{fp:List Addr}{T:Addr}{o:HO}(I:Inv X a d H s)(k:∀b o,b∉fp->s.heap.get? b=some o->h'.get? b=some o)(h:∀b∈fp,FpOk X a H b)(p:s.heap.objs.size<=T)
  (l:ObjOk X.prog X.w (upd H T o) h' T o):Inv X a d (upd H T o) { s with heap:=h',toks:=t' }:=by
 have j:=I.hok.fresh p;have i:∀b u,H b=some u->b∉fp:=λb u e z=>by rw[(h b z).1]at e;ext e
 show I.step (λb g=>⟨(h b g).2.2.2.1,(h b g).2.1,(h b g).2.2.2.2.1,(h b g).2.2.2.2.2⟩) (λb o _ _ f e _=>k b o f e) (λb o _ _ f e _=>⟨o.slots,k b o f e⟩) (λb o _ e n=>by rw[z9 ((λb u e z=>aV (bb (aS e) (by rw[z];show p)) (bO _)) b o e)];show n)
  (λb o f e=>⟨o,k b o f e⟩) (λb t e=>by rw[z9 (m9 e j)];show e) (λb _ _ e=>by rw[z9 (m9 e j)];show e) (λb y e=>⟨#[],by rw[z9 (m9 e j),e];simp⟩) (λm x=>?_) (λb u e=>?_) I.bare
 .let⟨o,es,ep,ho,r⟩:=x;show⟨o,es,ep,k _ o (λz=>(h _ z).2.1 rfl) ho,r⟩
 .by_cases g:b=T
  .subst g;rw[z8]at e;ext e;show l
  .rw[z9 g]at e;show(I.hok b u e).stay (λc v f q=>k c v ?_ q) (λc q=>by rw[z9 (m9 q j)];show q) λc t q=>by rw[z9 (m9 q j)];show q
   rcases f with z|z
   .rw[z];show i b u e
   .exact i c _ z
end
def Itz2(K:W.Frag)(l1 l2:Addr):It:=
 ⟨λi H=>∃xs ys x y,SqL K H l1 xs/\SqL K H l2 ys/\xs[i]? =some x/\ys[i]? =some y,
  λi H v H'=>∃t x y,v= .ref t/\H t=none/\H'=upd H t (.tup [x,y])/\(∀xs,SqL K H l1 xs->xs[i]? =some x)/\(∀ys,SqL K H l2 ys->ys[i]? =some y),
  λi H=>∃xs ys,SqL K H l1 xs/\SqL K H l2 ys/\(xs.length<=i\/ys.length<=i)⟩
structure Zip2(z TI TO i1 i2:Addr):Prop where
 TIz:TI≠z
 TOz:TO≠z
 i1z:i1≠z
 i2z:i2≠z
 TITO:TI≠TO
 TIi1:TI≠i1
 TIi2:TI≠i2
 TOi1:TO≠i1
 TOi2:TO≠i2
 i12:i1≠i2
theorem X7{h:Heap}{a b:Addr}{o u:Obj}(e:h.get? a=some o)(c:h.get? b=some u)(d:o.cls≠u.cls):a≠b:=by intro z;subst z;rw[e]at c;show d (bf Obj.cls (bm c))
theorem j8(h:("list"==n)=false):Value.type "list"≠Value.type n:=λe=>by ext e;revert h;decide
theorem xr0(n:Nat):Zip2 (n+4) (n+2) (n+3) n (n+1):=by constructor <;> (lia)
theorem zv5{z TI TO m l k l2:Addr}{x w:Nat}(D:Zip2 z TI TO m l)(n:IsZip h z TI TO B)(j:IsPair h TO a b)(A:h.IsListIter m k x)(y:h.IsListIter l l2 w)
  (v:h.IsList k i) (t:h.IsList l2 g):ZipApart z TI TO m l k l2:=by
 let⟨E,p,r,_⟩:=A;let⟨C,o,q,_⟩:=y;let⟨u,d,f,_⟩:=v;let⟨s,c,e,_⟩:=t;show⟨D.TIz,D.TOz,D.i1z,D.i2z,D.TITO,D.TIi1,D.TIi2,D.TOi1,D.TOi2,D.i12,
  X7 d n (by rw[f];show j8 ay),X7 d j (by rw[f];show j8 ay),X7 d p (by rw[f,r];decide),X7 d o (by rw[f,q];decide),
  X7 c n (by rw[e];show j8 ay),X7 c j (by rw[e];show j8 ay),X7 c p (by rw[e,r];decide),X7 c o (by rw[e,q];decide)⟩
theorem yh1{P:Program}{w:World}{K:W.Frag}{es:List Expr}{tk:Nat}{tp:Pos}(z TI TO J G l1 l2:Addr)(D:Zip2 z TI TO J G):
  Turn P w K (.Tuple es tk tp) (Itz2 K l1 l2) [z,TI,TO,J,G] z
   (λi h=>IsZip h z TI TO .none/\IsPair h TI (.ref J) (.ref G)/\(∃a b,IsPair h TO a b)/\h.IsListIter J l1 i/\h.IsListIter G l2 i) where
 mem:=by simp
 obj:=λi h st b hb=>by
  let⟨m,g,⟨a,c,d⟩,⟨o1,e1,_,d1⟩,⟨o2,e2,_,d2⟩⟩:=st;simp at hb;rcases hb with rfl|rfl|rfl|rfl|rfl
  .exact⟨_,m,λv q=>by cases q⟩
  .exact⟨_,g,λv q=>by cases q⟩
  .exact⟨_,d,λv q=>by cases q⟩
  .exact⟨_,e1,λv q=>by rw[d1]at q;cases q⟩
  .exact⟨_,e2,λv q=>by rw[d2]at q;cases q⟩
 keep:=λi h h' st k=>by let⟨m,g,⟨a,c,d⟩,A,t⟩:=st;show⟨k z az _ m,k TI az _ g,⟨a,c,k TO az _ d⟩,A.at λo e=>k J az o e,t.at λo e=>k G az o e⟩
 item:=by
  intro X hP hw hK j i r s σ H E I U st Z;subst hP hw hK;let⟨xs,ys,x,y,p,n,hx,hy⟩:=Z;let⟨O,C,M,_⟩:=I.list p;let⟨N,B,L,_⟩:=I.list n;let⟨u,hu,ru⟩:=C.get hx;let⟨v,hv,V⟩:=B.get hy;let⟨m,g,⟨a,b,d⟩,A,t⟩:=st;show wpAny_pyNext_zip_item (zv5 D m d A t M.isList L.isList) m g d A t M.isList L.isList (by simpa using hu) (by simpa using hv) λh' a1 a2 a3 a4 a5 a6 T=>?_;show⟨_,rfl,?_⟩;show wpAny_letOwnedTupleGo_zip a1 λS R f=>?_;have Q:=aS m;have kk:∀c o,c∉[z,TI,TO,J,G]->s.heap.get? c=some o->S.get? c=some o:=λc o j e=>by simp at j;show f.extBut _ _ j.1 (T c o j.1 j.2.2.1 j.2.2.2.1 j.2.2.2.2 e)
  have I2:Inv X r σ (upd H s.heap.objs.size (.tup [x,y])) { s with heap:=S,toks:=s.toks }:=
   I.turnedN kk U (aK _) ⟨by show 2<=sizeLine;decide,[u,v],.cons ru (.cons V .nil),⟨_,(f.extBut _ _ (cO Q) a5),rfl,_,rfl⟩⟩
  show⟨.ref s.heap.objs.size,_,I2,rfl,⟨_,x,y,rfl,I.fresh,rfl,λzs l=>by rw[I.list_inj l p];show hx,λzs l=>by rw[I.list_inj l n];show hy⟩,
   ⟨R,f.extBut _ _ D.TIz (T _ _ D.TIz D.TITO D.TIi1 D.TIi2 g),⟨_,_,f.extBut _ _ D.TOz a2⟩,a3.extBut f.extBut D.i1z,a4.extBut f.extBut D.i2z⟩,λc F=>?_⟩
  have Y:c<s.heap.objs.size:=by
   let⟨o1,e1,_⟩:=A;let⟨o2,e2,_⟩:=t;simp at F;rcases F with rfl|rfl|rfl|rfl|rfl
   .exact Q
   .exact aS g
   .exact aS d
   .exact aS e1
   .exact aS e2
  rw[z9 (bp Y)];show(U c F).1
 done:=by
  intro X hP hw hK j i r s σ H E I U st Z;subst hP hw hK;let⟨xs,ys,p,n,hl⟩:=Z;let⟨O,C,M,_⟩:=I.list p;let⟨N,B,L,_⟩:=I.list n;let⟨m,g,⟨a,b,d⟩,A,t⟩:=st;have a7:=C.length;have a0:=B.length;show wpAny_pyNext_zip_end (I.ok.hd j) (zv5 D m d A t M.isList L.isList) m g d A t M.isList L.isList (hl.elim (λq=>.inl (by simp;lia)) λq=>.inr (by simp;lia)) λh' T=>⟨rfl,?_⟩;show I.turnedL (λc o j e=>by simp at j;show T c o j.1 j.2.2.1 j.2.2.2.1 j.2.2.2.2 e) U
 self:=λ_ _ _ _ _ st h=>wpAny_pyIter_zip st.1 h
section
def vm2(K:W.Frag)(ta:TA):TI:=λc H R=>ta c H λvs H1=>∃a b xs ys,vs=[.ref a,.ref b]/\SqL K H1 a xs/\SqL K H1 b ys/\R (Itz2 K a b) H1
theorem wv4{tk:Nat}(S:Gl X "zip")(P:X.mg "zip"=none)(T:PA X [a,b] v)(O:starEach [a,b] X.env=[(false,eval a X.env),(false,eval b X.env)]:=by rfl)(g:starEach [b] X.env=[(false,eval b X.env)]:=by rfl):
  PI X (.Tuple es tk tp) (.Call (.Name "zip" p) [a,b] [] d) (vm2 X.K v):=by
 intro f s A H R I h;show Call_ (V6 I S P boot_zip (bI (thn (T d f s A H _ I h) λZ c i=>?_) (by rw[O,g]) (by rw[g];rfl)));let⟨Y,U,k,D,m⟩:=i;let⟨M,L,W,V,e,m,F,q⟩:=m;subst e;cases D with
 |cons r l=>
  cases l with
  |cons E l=>
   ext l;ext r;ext E;let⟨x,C,J,_⟩:=k.list m;let⟨w,B,G,_⟩:=k.list F;show call_zip_2 J.isList G.isList λh' y u t o n N Q=>?_;show wpAny_pyIter_zip y ?_;show⟨_,[c.heap.objs.size+4,c.heap.objs.size+2,c.heap.objs.size+3,c.heap.objs.size,c.heap.objs.size+1],_,_,U,rfl,(k.kept Q),yh1 _ _ _ _ _ M L (xr0 _),
    ⟨y,u,⟨_,_,t⟩,o,n⟩,λb z=>?_,q⟩
   have j:c.heap.objs.size<=b:=by
    simp at z;rcases z with rfl|rfl|rfl|rfl|rfl
    .exact ci _ 4
    .exact ci _ 2
    .exact ci _ 3
    .exact aK _
    .exact ci _ 1
   show k.fpOk j (k.hok.fresh j)
end
abbrev e7(h:Heap)(T:Addr)(a b c:Value):Prop:=h.get? T=some { cls:=.type "tuple",data:=.seq #[a,b,c] }
structure Zip3(z TI TO i1 i2 i3:Addr):Prop where
 TIz:TI≠z
 TOz:TO≠z
 i1z:i1≠z
 i2z:i2≠z
 i3z:i3≠z
 TITO:TI≠TO
 TIi1:TI≠i1
 TIi2:TI≠i2
 TIi3:TI≠i3
 TOi1:TO≠i1
 TOi2:TO≠i2
 TOi3:TO≠i3
 i12:i1≠i2
 i13:i1≠i3
 i23:i2≠i3
theorem xs9(n:Nat):Zip3 (n+5) (n+3) (n+4) n (n+1) (n+2):=by constructor <;> (lia)
structure Apart3(z TO i1 i2 i3 l:Addr):Prop where
 lz:l≠z
 lTO:l≠TO
 l1:l≠i1
 l2:l≠i2
 l3:l≠i3
section
theorem i7{T:Addr}{k:Nat}{Q:Unit->Shared->Prop}(d:e7 s.heap T a b c)
  (h:∀h',h'.get? T=some { cls:=.type "tuple",data:=.seq ((#[a,b,c]:Array Value).setIfInBounds k x) }->Heap.SameBut T s.heap h'->Q () { s with heap:=h' }):
  wpAny (model prog w) A (updateSeq T (·.setIfInBounds k x)) Q E s:=by
 show cJ d rfl (h _ ?_ (bH ..));rw[bL _ d rfl];simp[Obj.mapSeq]
theorem zw1{z TI TO I H G l1 l2 l3:Addr}{k1 k2 k3:Nat}{Q:Qa}(D:Zip3 z TI TO I H G)(A1:Apart3 z TO I H G l1)(A2:Apart3 z TO I H G l2)(Z:Apart3 z TO I H G l3)
  (W:IsZip s.heap z TI TO .none) (a4:e7 s.heap TI (.ref I) (.ref H) (.ref G)) (a3:e7 s.heap TO a b c)
  (h1:s.heap.IsListIter I l1 k1) (h2:s.heap.IsListIter H l2 k2) (h3:s.heap.IsListIter G l3 k3) (a2:s.heap.IsList l1 xs) (a1:s.heap.IsList l2 ys) (a0:s.heap.IsList l3 zs) (hx:xs[k1]? =some x) (hy:ys[k2]? =some y) (hv:zs[k3]? =some v)
  (hQ:∀h',IsZip h' z TI TO (rawInt s.heap.objs.size)->e7 h' TO x y v->h'.IsListIter I l1 (k1+1)->h'.IsListIter H l2 (k2+1)->h'.IsListIter G l3 (k3+1)->e7 h' s.heap.objs.size x y v->h'.objs.size=s.heap.objs.size+1->
   (∀c o,c≠z->c≠TO->c≠I->c≠H->c≠G->s.heap.get? c=some o->h'.get? c=some o)->Q (.ref s.heap.objs.size) { s with heap:=h' }):
  wpAny (model prog w) A (Builtin.«zip.__next__» ⟨[.ref z],[]⟩) (λfin s'=>∃v,fin= .done (.ret v)/\Q v s') E s:=by
 show wpAny _ _ (field (.ref z) 2 >>= _) _ _ _;show aB (cK W rfl rfl ?_);show aB (cK W rfl rfl ?_);show aB (bS a4 rfl ?_);show aB ?_;show aB (cK W rfl rfl (aD ?_));show aB (cn ?_);show aB (cK W rfl rfl ?_);show aB (cZ W az λab N d=>?_);show aB ?_;show aB (aB (ew ?_));show aB (dk (h1.extBut d.extBut D.i1z) (a2.extBut d.extBut A1.lz) hx λaa S g=>aD ?_);have t:=g.extBut _ _ D.TOi1 (d.extBut _ _ D.TOz a3);show aB (bS t rfl ?_);show aB (i7 t λa9 K f=>?_);show aB (dF (aD ?_));show aB (aB (ew ?_));show aB (dk (((h2.extBut d.extBut D.i2z).extBut g.extBut D.i12.symm).extBut f.extBut D.TOi2.symm)
  (((a1.extBut d.extBut A2.lz).extBut g.extBut A2.l1).extBut f.extBut A2.lTO) hy λa8 R i=>aD ?_)
 have r:=i.extBut _ _ D.TOi2 K;show aB (bS r rfl ?_);show aB (i7 r λa7 J h=>?_);show aB (dF (aD ?_));show aB (aB (ew ?_));show aB (dk (((((h3.extBut d.extBut D.i3z).extBut g.extBut D.i13.symm).extBut f.extBut D.TOi3.symm).extBut i.extBut D.i23.symm).extBut h.extBut D.TOi3.symm)
  (((((a0.extBut d.extBut Z.lz).extBut g.extBut Z.l1).extBut f.extBut Z.lTO).extBut i.extBut Z.l2).extBut h.extBut Z.lTO) hv λa6 P k=>aD ?_)
 have q:=k.extBut _ _ D.TOi3 J;show aB (bS q rfl ?_);show aB (i7 q λm l j=>?_);replace l:e7 m TO x y v:=l;show aB (dF (aD (aD ?_)));show aB (bS l rfl ?_);show aB (wpAny_newTuple ?_);have X:m.objs.size=s.heap.objs.size:=by rw[j.1,k.1,h.1,i.1,f.1,g.1,d.1]
 have B:=j.extBut _ _ D.TOz.symm (k.extBut _ _ D.i3z.symm (h.extBut _ _ D.TOz.symm (i.extBut _ _ D.i2z.symm (f.extBut _ _ D.TOz.symm (g.extBut _ _ D.i1z.symm N)))));have O:∀c o,c≠z->c≠TO->c≠I->c≠H->c≠G->s.heap.get? c=some o->m.get? c=some o:=λc o T Y c3 c4 c5 e=>
  j.extBut _ _ Y (k.extBut _ _ c5 (h.extBut _ _ Y (i.extBut _ _ c4 (f.extBut _ _ Y (g.extBut _ _ c3 (d.extBut _ _ T e))))))
 have L:=aS B;show aB ?_;show aB (cZ (aC _ B) az λa5 M n=>?_);show cZ M az λu C p=>?_;have U:∀c o,c≠z->m.get? c=some o->u.get? c=some o:=λc o T e=>p.extBut _ _ T (n.extBut _ _ T (aC _ e));have F:=p.extBut _ _ (cO L) (n.extBut _ _ (cO L) (aQ _ rfl));have V:u.objs.size=m.objs.size+1:=by rw[p.1,n.1,cy]
 rw[X]at C F V;show aD ⟨_,rfl,?_⟩;rw[X];show hQ u C (U _ _ D.TOz l) ((((((S.extBut f.extBut D.TOi1.symm).extBut i.extBut D.i12).extBut h.extBut D.TOi1.symm).extBut k.extBut D.i13).extBut j.extBut D.TOi1.symm).at λo e=>U _ o D.i1z e) ((((R.extBut h.extBut D.TOi2.symm).extBut k.extBut D.i23).extBut j.extBut D.TOi2.symm).at λo e=>U _ o D.i2z e) ((P.extBut j.extBut D.TOi3.symm).at λo e=>U _ o D.i3z e) F V λc o T Y c3 c4 c5 e=>U c o T (O c o T Y c3 c4 c5 e)
theorem zs3{z TI TO K J I l1 l2 l3:Addr}{k1 k2 k3:Nat}{Q:Fin->Shared->Prop}(hh:A.handled=none)(D:Zip3 z TI TO K J I)(A1:Apart3 z TO K J I l1)(L:Apart3 z TO K J I l2)(X:Apart3 z TO K J I l3)
  (R:IsZip s.heap z TI TO .none) (a2:e7 s.heap TI (.ref K) (.ref J) (.ref I)) (a1:e7 s.heap TO a b c)
  (h1:s.heap.IsListIter K l1 k1) (h2:s.heap.IsListIter J l2 k2) (h3:s.heap.IsListIter I l3 k3) (T:s.heap.IsList l1 xs) (S:s.heap.IsList l2 ys) (a0:s.heap.IsList l3 zs) (U:xs[k1]? =none\/ys[k2]? =none\/zs[k3]? =none)
  (hE:∀h' e,(∀c o,c≠z->c≠TO->c≠K->c≠J->c≠I->s.heap.get? c=some o->h'.get? c=some o)->(∃o,h'.get? e=some o/\o.cls= .type "StopIteration")->E (.ref e) { s with heap:=h' }):
  wpAny (model prog w) A (Builtin.«zip.__next__» ⟨[.ref z],[]⟩) Q E s:=by
 show wpAny _ _ (field (.ref z) 2 >>= _) _ _ _;show aB (cK R rfl rfl ?_);show aB (cK R rfl rfl ?_);show aB (bS a2 rfl ?_);show aB ?_;show aB (cK R rfl rfl (aD ?_));show aB (cn ?_);show aB (cK R rfl rfl ?_);show aB (cZ R az λa6 m f=>?_);show aB ?_;show aB (aB (ew ?_));cases hx:xs[k1]? with
 |none=>
  show aB (wpAny_nextOf_list_end hh (h1.extBut f.extBut D.i1z) (T.extBut f.extBut A1.lz) hx λP e d V=>?_);let⟨M,k,l⟩:=V;have t:=d _ _ D.i1z.symm m;have B:e≠z:=λx=>by subst x;rw[t]at k;ext k;simp at l
  show cZ t az λG _ g=>hE G e (λc o H _ W _ _ x=>g.extBut _ _ H (d _ _ W (f.extBut _ _ H x))) ⟨M,g.extBut _ _ B k,l⟩
 |some x=>
  show aB (dk (h1.extBut f.extBut D.i1z) (T.extBut f.extBut A1.lz) hx λP a4 d=>aD ?_);have p:=d.extBut _ _ D.TOi1 (f.extBut _ _ D.TOz a1);show aB (bS p rfl ?_);show aB (i7 p λG C g=>?_);show aB (dF (aD ?_));show aB (aB (ew ?_));cases hy:ys[k2]? with
  |none=>
   show aB (wpAny_nextOf_list_end hh (((h2.extBut f.extBut D.i2z).extBut d.extBut D.i12.symm).extBut g.extBut D.TOi2.symm)
    (((S.extBut f.extBut L.lz).extBut d.extBut L.l1).extBut g.extBut L.lTO) hy λO e i V=>?_)
   let⟨M,k,l⟩:=V;have r:=i _ _ D.i2z.symm (g.extBut _ _ D.TOz.symm (d.extBut _ _ D.i1z.symm m));have B:e≠z:=λx=>by subst x;rw[r]at k;ext k;simp at l
   show cZ r az λF _ j=>hE F e (λc o H Z W c4 _ x=>j.extBut _ _ H (i _ _ c4 (g.extBut _ _ Z (d.extBut _ _ W (f.extBut _ _ H x))))) ⟨M,j.extBut _ _ B k,l⟩
  |some y=>
   have hv:zs[k3]? =none:=by
    rcases U with h|h|h
    .rw[hx]at h;ext h
    .rw[hy]at h;ext h
    .exact h
   show aB (dk (((h2.extBut f.extBut D.i2z).extBut d.extBut D.i12.symm).extBut g.extBut D.TOi2.symm)
    (((S.extBut f.extBut L.lz).extBut d.extBut L.l1).extBut g.extBut L.lTO) hy λO a3 i=>aD ?_)
   have n:=i.extBut _ _ D.TOi2 C;show aB (bS n rfl ?_);show aB (i7 n λF Y j=>?_);show aB (dF (aD ?_));show aB (aB (ew ?_));show aB (wpAny_nextOf_list_end hh (((((h3.extBut f.extBut D.i3z).extBut d.extBut D.i13.symm).extBut g.extBut D.TOi3.symm).extBut i.extBut D.i23.symm).extBut j.extBut D.TOi3.symm)
    (((((a0.extBut f.extBut X.lz).extBut d.extBut X.l1).extBut g.extBut X.lTO).extBut i.extBut X.l2).extBut j.extBut X.lTO) hv λa5 e v V=>?_)
   let⟨M,k,l⟩:=V;have q:=v _ _ D.i3z.symm (j.extBut _ _ D.TOz.symm (i.extBut _ _ D.i2z.symm (g.extBut _ _ D.TOz.symm (d.extBut _ _ D.i1z.symm m))));have B:e≠z:=λx=>by subst x;rw[q]at k;ext k;simp at l
   show cZ q az λN _ u=>hE N e (λc o H Z W c4 c5 x=>u.extBut _ _ H (v _ _ c5 (j.extBut _ _ Z (i.extBut _ _ c4 (g.extBut _ _ Z (d.extBut _ _ W (f.extBut _ _ H x))))))) ⟨M,u.extBut _ _ B k,l⟩
theorem F9{z TI TO f e d i h g:Addr}{l k j:Nat}{Q:Option Value->Shared->Prop}(D:Zip3 z TI TO f e d)(Y:Apart3 z TO f e d i)(X:Apart3 z TO f e d h)(W:Apart3 z TO f e d g)
  (B:IsZip s.heap z TI TO .none) (r:e7 s.heap TI (.ref f) (.ref e) (.ref d)) (q:e7 s.heap TO a b c)
  (M:s.heap.IsListIter f i l) (L:s.heap.IsListIter e h k) (K:s.heap.IsListIter d g j) (p:s.heap.IsList i xs) (n:s.heap.IsList h u) (m:s.heap.IsList g t) (H:xs[l]? =some x) (G:u[k]? =some y) (I:t[j]? =some v)
  (J:∀h',IsZip h' z TI TO (rawInt s.heap.objs.size)->e7 h' TO x y v->h'.IsListIter f i (l+1)->h'.IsListIter e h (k+1)->h'.IsListIter d g (j+1)->e7 h' s.heap.objs.size x y v->h'.objs.size=s.heap.objs.size+1->
   (∀c o,c≠z->c≠TO->c≠f->c≠e->c≠d->s.heap.get? c=some o->h'.get? c=some o)->Q (some (.ref s.heap.objs.size)) { s with heap:=h' }):
  wpAny (model prog w) A (pyNext (.ref z)) Q E s:=by
 have C:s.TypeIs (.ref z) "zip":=⟨_,B,rfl⟩;show aB (cW (ce C F.slot_zip_next
  (bJ F.slot_zip_next C F.entry_zip_next
   (zw1 D Y X W B r q M L K p n m H G I λh' V U T S R P O N=>aD (J h' V U T S R P O N)) (F.args_zip_next_1 _))))
theorem A7{z TI TO g f d k j i:Addr}{x v u:Nat}{Q:Option Value->Shared->Prop}(H:A.handled=none)(D:Zip3 z TI TO g f d)(R:Apart3 z TO g f d k)(P:Apart3 z TO g f d j)(O:Apart3 z TO g f d i)
  (y:IsZip s.heap z TI TO .none) (q:e7 s.heap TI (.ref g) (.ref f) (.ref d)) (p:e7 s.heap TO a b c)
  (N:s.heap.IsListIter g k x) (M:s.heap.IsListIter f j v) (L:s.heap.IsListIter d i u) (n:s.heap.IsList k xs) (m:s.heap.IsList j t) (l:s.heap.IsList i r) (h:xs[x]? =none\/t[v]? =none\/r[u]? =none)
  (K:∀h',(∀c o,c≠z->c≠TO->c≠g->c≠f->c≠d->s.heap.get? c=some o->h'.get? c=some o)->Q none { s with heap:=h' }):wpAny (model prog w) A (pyNext (.ref z)) Q E s:=by
 have B:s.TypeIs (.ref z) "zip":=⟨_,y,rfl⟩;show aB (cW (ce B F.slot_zip_next
  (bJ F.slot_zip_next B F.entry_zip_next (zs3 H D R P O y q p N M L n m l h λh' e G I=>?_) (F.args_zip_next_1 _))))
 let⟨o,C,J⟩:=I;show aB (dY ⟨o,C,J⟩ isSubtype_stop ?_);show aD (K _ G)
noncomputable abbrev z3H1(h:Heap)(l1:Addr):Heap:=h.push { cls:=.type "list_iterator",data:=.fields #[.ref l1,.int 0 0] }
abbrev z3H2(h:Heap)(l1 l2:Addr):Heap:=(z3H1 h l1).push { cls:=.type "list_iterator",data:=.fields #[.ref l2,.int 0 0] }
abbrev z3H3(h:Heap)(l1 l2 l3:Addr):Heap:=(z3H2 h l1 l2).push { cls:=.type "list_iterator",data:=.fields #[.ref l3,.int 0 0] }
abbrev z3H4(h:Heap)(l1 l2 l3:Addr):Heap:=(z3H3 h l1 l2 l3).push { cls:=.type "tuple",data:=.seq #[.ref h.objs.size,.ref (z3H1 h l1).objs.size,.ref (z3H2 h l1 l2).objs.size] }
abbrev z3H5(h:Heap)(l1 l2 l3:Addr):Heap:=(z3H4 h l1 l2 l3).push { cls:=.type "tuple",data:=.seq #[.none,.none,.none] }
abbrev z3H6(h:Heap)(l1 l2 l3:Addr):Heap:=(z3H5 h l1 l2 l3).push { cls:=.type "zip",data:=.fields #[.none,.bool false,.bool false,.ref (z3H3 h l1 l2 l3).objs.size,.ref (z3H4 h l1 l2 l3).objs.size] }
theorem zw2(a b c:Value):checkTypeCall "zip" ⟨[a,b,c],[]⟩=pure ():=by kernel_rfl
theorem zp0(a b c:Value):checkBuiltinCall "zip.__new__" ⟨[.type "zip",a,b,c],[]⟩=pure ():=by kernel_rfl
theorem yw2(a b c d:Value):argsOk "object.__init__" ⟨[a,b,c,d],[]⟩:=by unfold argsOk;kernel_rfl
set_option maxHeartbeats 8000000 in
theorem zw6(c b a:Addr)(xs l k:Array Value):
  Meets (Builtin.«zip.__new__» ⟨[.type "zip",.ref c,.ref b,.ref a],[]⟩) (λ_ R s=>s.heap.IsList c xs/\s.heap.IsList b l/\s.heap.IsList a k/\
   R (.ok (.ret (.ref (z3H5 s.heap c b a).objs.size))) { s with heap:=z3H6 s.heap c b a }):=
 .of_wp λprog w A R s h=>by
  let⟨o,g,d,m,n⟩:=s;let⟨i,f,e,h⟩:=h;have j:=sub_zip
  wp_walk using dB i,dB (Heap.IsList.push f _),dB (Heap.IsList.push (Heap.IsList.push e _) _)
  show⟨_,rfl,h⟩
theorem yk7{Q:Qa}(l:s.heap.IsList a xs)(k:s.heap.IsList b q)(j:s.heap.IsList d n)
  (h:∀h',IsZip h' (s.heap.objs.size+5) (s.heap.objs.size+3) (s.heap.objs.size+4) .none->e7 h' (s.heap.objs.size+3) (.ref s.heap.objs.size) (.ref (s.heap.objs.size+1)) (.ref (s.heap.objs.size+2))->
   e7 h' (s.heap.objs.size+4) .none .none .none->h'.IsListIter s.heap.objs.size a 0->h'.IsListIter (s.heap.objs.size+1) b 0->h'.IsListIter (s.heap.objs.size+2) d 0->
   (∀c o,s.heap.get? c=some o->h'.get? c=some o)->Q (.ref (s.heap.objs.size+5)) { s with heap:=h' }):
  wpAny (model prog w) A (call (.type "zip") [.ref a,.ref b,.ref d]) Q E s:=by
 show callType_new F.called_zip ay (zw2 _ _ _) (zp0 _ _ _) (λobj=>yw2 obj _ _ _) F.entry_zip_new
  (zw6 a b d xs q n) ⟨l,k,j,?_⟩
 have i:(z3H1 s.heap a).objs.size=s.heap.objs.size+1:=cy ..;have g:(z3H2 s.heap a b).objs.size=s.heap.objs.size+2:=by rw[cy,i]
 have f:(z3H3 s.heap a b d).objs.size=s.heap.objs.size+3:=by rw[cy,g]
 have e:(z3H4 s.heap a b d).objs.size=s.heap.objs.size+4:=by rw[cy,f]
 have p:(z3H5 s.heap a b d).objs.size=s.heap.objs.size+5:=by rw[cy,e]
 have m:(z3H6 s.heap a b d).get? (z3H5 s.heap a b d).objs.size=some _:=aQ _ rfl;have r:(z3H6 s.heap a b d).get? (z3H4 s.heap a b d).objs.size=some _:=aC _ (aQ _ rfl);have t:(z3H6 s.heap a b d).get? (z3H3 s.heap a b d).objs.size=some _:=aC _ (aC _ (aQ _ rfl));have u:(z3H6 s.heap a b d).get? (z3H2 s.heap a b).objs.size=some _:=aC _ (aC _ (aC _ (aQ _ rfl)));have v:(z3H6 s.heap a b d).get? (z3H1 s.heap a).objs.size=some _:=aC _ (aC _ (aC _ (aC _ (aQ _ rfl))));rw[f,e,p]at m;rw[e]at r;rw[i,g,f]at t;rw[g]at u;rw[i]at v;rw[p];show⟨⟨_,m,rfl⟩,h _ m t r ⟨_,(aC _ (aC _ (aC _ (aC _ (aC _ (aQ _ rfl)))))),rfl,rfl⟩ ⟨_,v,rfl,rfl⟩ ⟨_,u,rfl,rfl⟩ λc o x=>
  aC _ (aC _ (aC _ (aC _ (aC _ (aC _ x)))))⟩
end
def Itz3(K:W.Frag)(l1 l2 l3:Addr):It:=
 ⟨λi H=>∃xs ys zs x y z,SqL K H l1 xs/\SqL K H l2 ys/\SqL K H l3 zs/\xs[i]? =some x/\ys[i]? =some y/\zs[i]? =some z,
  λi H v H'=>∃t x y z,v= .ref t/\H t=none/\H'=upd H t (.tup [x,y,z])/\(∀xs,SqL K H l1 xs->xs[i]? =some x)/\(∀ys,SqL K H l2 ys->ys[i]? =some y)/\(∀zs,SqL K H l3 zs->zs[i]? =some z),
  λi H=>∃xs ys zs,SqL K H l1 xs/\SqL K H l2 ys/\SqL K H l3 zs/\(xs.length<=i\/ys.length<=i\/zs.length<=i)⟩
theorem W4{z TI TO k j i l o n m:Addr}{s r q:Nat}(t:IsZip h z TI TO x)(g:e7 h TO a b c)(w:h.IsListIter k o s)(v:h.IsListIter j n r)(u:h.IsListIter i m q)
  (p:h.IsList l f):Apart3 z TO k j i l:=by
 let⟨I,B,E,_⟩:=w;let⟨H,A,D,_⟩:=v;let⟨G,y,C,_⟩:=u;let⟨F,d,e,_⟩:=p;show⟨X7 d t (by rw[e];show j8 ay),X7 d g (by rw[e];show j8 ay),X7 d B (by rw[e,E];show j8 ay),X7 d A (by rw[e,D];show j8 ay),X7 d y (by rw[e,C];show j8 ay)⟩
theorem yh0{P:Program}{w:World}{K:W.Frag}{es:List Expr}{tk:Nat}{tp:Pos}(z TI TO O N M l1 l2 l3:Addr)(D:Zip3 z TI TO O N M):
  Turn P w K (.Tuple es tk tp) (Itz3 K l1 l2 l3) [z,TI,TO,O,N,M] z
   (λi h=>IsZip h z TI TO .none/\e7 h TI (.ref O) (.ref N) (.ref M)/\(∃a b c,e7 h TO a b c)/\h.IsListIter O l1 i/\h.IsListIter N l2 i/\h.IsListIter M l3 i) where
 mem:=by simp
 obj:=λi h st b hb=>by
  let⟨n,j,⟨a,c,d,f⟩,⟨o1,e1,_,d1⟩,⟨o2,e2,_,d2⟩,⟨o3,e3,_,d3⟩⟩:=st;simp at hb;rcases hb with rfl|rfl|rfl|rfl|rfl|rfl
  .exact⟨_,n,λv q=>by cases q⟩
  .exact⟨_,j,λv q=>by cases q⟩
  .exact⟨_,f,λv q=>by cases q⟩
  .exact⟨_,e1,λv q=>by rw[d1]at q;cases q⟩
  .exact⟨_,e2,λv q=>by rw[d2]at q;cases q⟩
  .exact⟨_,e3,λv q=>by rw[d3]at q;cases q⟩
 keep:=λi h h' st k=>by let⟨n,j,⟨a,c,d,f⟩,t,r,p⟩:=st;show⟨k z az _ n,k TI az _ j,⟨a,c,d,k TO az _ f⟩,t.at λo e=>k O az o e,r.at λo e=>k N az o e,p.at λo e=>k M az o e⟩
 item:=by
  intro X hP hw hK m i C s σ H E I hf st hg;subst hP hw hK;let⟨xs,ys,zs,x,y,v,B,A,u,hx,hy,hv⟩:=hg;let⟨V,J,S,_⟩:=I.list B;let⟨U,G,R,_⟩:=I.list A;let⟨T,F,Q,_⟩:=I.list u;let⟨u1,ac,a9⟩:=J.get hx;let⟨u2,ab,a8⟩:=G.get hy;let⟨u3,aa,a7⟩:=F.get hv;let⟨n,j,⟨a,b,c,f⟩,t,r,p⟩:=st;show F9 D (W4 n f t r p S.isList) (W4 n f t r p R.isList) (W4 n f t r p Q.isList) n j f t r p S.isList R.isList Q.isList (by simpa using ac) (by simpa using ab) (by simpa using aa) λh' a1 a2 a3 a4 ae a5 a6 hk=>?_;show⟨_,rfl,?_⟩;show wpAny_letOwnedTupleGo_zip a1 λa0 Z g=>?_;have Y:=aS n;have kk:∀c o,c∉[z,TI,TO,O,N,M]->s.heap.get? c=some o->a0.get? c=some o:=λc o m e=>by simp at m;show g.extBut _ _ m.1 (hk c o m.1 m.2.2.1 m.2.2.2.1 m.2.2.2.2.1 m.2.2.2.2.2 e)
  have I2:Inv X C σ (upd H s.heap.objs.size (.tup [x,y,v])) { s with heap:=a0,toks:=s.toks }:=
   I.turnedN kk hf (aK _) ⟨by show 3<=sizeLine;decide,[u1,u2,u3],.cons a9 (.cons a8 (.cons a7 .nil)),⟨_,(g.extBut _ _ (cO Y) a5),rfl,_,rfl⟩⟩
  show⟨.ref s.heap.objs.size,_,I2,rfl,⟨_,x,y,v,rfl,I.fresh,rfl,λzs l=>by rw[I.list_inj l B];show hx,λzs l=>by rw[I.list_inj l A];show hy,λzs l=>by rw[I.list_inj l u];show hv⟩,
   ⟨Z,g.extBut _ _ D.TIz (hk _ _ D.TIz D.TITO D.TIi1 D.TIi2 D.TIi3 j),⟨_,_,_,g.extBut _ _ D.TOz a2⟩,a3.extBut g.extBut D.i1z,a4.extBut g.extBut D.i2z,ae.extBut g.extBut D.i3z⟩,λc L=>?_⟩
  have ad:c<s.heap.objs.size:=by
   let⟨o1,e1,_⟩:=t;let⟨o2,e2,_⟩:=r;let⟨o3,e3,_⟩:=p;simp at L;rcases L with rfl|rfl|rfl|rfl|rfl|rfl
   .exact Y
   .exact aS j
   .exact aS f
   .exact aS e1
   .exact aS e2
   .exact aS e3
  rw[z9 (bp ad)];show(hf c L).1
 done:=by
  intro X hP hw hK m i C s σ H E I hf st hg;subst hP hw hK;let⟨xs,ys,zs,B,A,u,hl⟩:=hg;let⟨V,J,S,_⟩:=I.list B;let⟨U,G,R,_⟩:=I.list A;let⟨T,F,Q,_⟩:=I.list u;let⟨n,j,⟨a,b,c,f⟩,t,r,p⟩:=st;have ah:=J.length;have ag:=G.length;have af:=F.length;show A7 (I.ok.hd m) D (W4 n f t r p S.isList) (W4 n f t r p R.isList) (W4 n f t r p Q.isList) n j f t r p S.isList R.isList Q.isList ?_ λh' hk=>⟨rfl,?_⟩
  .rcases hl with q|q|q
   .exact .inl (by simp;lia)
   .exact .inr (.inl (by simp;lia))
   .exact .inr (.inr (by simp;lia))
  show I.turnedL (λc o m e=>by simp at m;show hk c o m.1 m.2.2.1 m.2.2.2.1 m.2.2.2.2.1 m.2.2.2.2.2 e) hf
 self:=λ_ _ _ _ _ st h=>wpAny_pyIter_zip st.1 h
section
def vm1(K:W.Frag)(ta:TA):TI:=λd H R=>ta d H λvs H1=>∃a b c xs ys zs,vs=[.ref a,.ref b,.ref c]/\SqL K H1 a xs/\SqL K H1 b ys/\SqL K H1 c zs/\R (Itz3 K a b c) H1
theorem wv3{tk:Nat}(hg:Gl X "zip")(Z:X.mg "zip"=none)(ha:PA X [a,b,c] z)(Y:starEach [a,b,c] X.env=(false,eval a X.env)::starEach [b,c] X.env:=by rfl)(o:∀d,((backTo d (starEach [b,c] X.env)).any λx=>x.1)=false:=by intro _;rfl):
  PI X (.Tuple es tk tp) (.Call (.Name "zip" p) [a,b,c] [] d) (vm1 X.K z):=by
 intro j s F H R I h;show Call_ (V6 I hg Z boot_zip (bI (thn (ha d j s F H _ I h) λus f k=>?_) Y (o _)));let⟨vs,H1,g,M,n⟩:=k;let⟨W,V,U,xs,ys,zs,e,n,P,O,q⟩:=n;subst e;cases M with
 |cons r i=>
  cases i with
  |cons N i=>
   cases i with
   |cons m i=>
   ext i;ext r;ext N;ext m;let⟨C,L,T,_⟩:=g.list n;let⟨B,J,S,_⟩:=g.list P;let⟨A,G,Q,_⟩:=g.list O;show yk7 T.isList S.isList Q.isList λh' D y w v u t hk=>?_;show wpAny_pyIter_zip D ?_;show⟨_,[f.heap.objs.size+5,f.heap.objs.size+3,f.heap.objs.size+4,f.heap.objs.size,f.heap.objs.size+1,f.heap.objs.size+2],_,_,H1,rfl,(g.kept hk),yh0 _ _ _ _ _ _ W V U (xs9 _),
    ⟨D,y,⟨_,_,_,w⟩,v,u,t⟩,λb E=>?_,q⟩
   have l:f.heap.objs.size<=b:=by
    simp at E;rcases E with rfl|rfl|rfl|rfl|rfl|rfl
    .exact ci _ 5
    .exact ci _ 3
    .exact ci _ 4
    .exact aK _
    .exact ci _ 1
    .exact ci _ 2
   show g.fpOk l (g.hok.fresh l)
end
def Ite(K:W.Frag)(l:Addr):It:=
 ⟨λi H=>∃xs x,SqL K H l xs/\xs[i]? =some x,
  λi H v H'=>∃t x,v= .ref t/\H t=none/\H'=upd H t (.tup [.int i,x])/\(∀xs,SqL K H l xs->xs[i]? =some x),
  λi H=>∃xs,SqL K H l xs/\xs.length<=i⟩
theorem zm9{P:Program}{w:World}{K:W.Frag}{es:List Expr}{tk:Nat}{tp:Pos}(e it l:Addr)(y:e≠it):
  Turn P w K (.Tuple es tk tp) (Ite K l) [e,it] e (λi h=>(∃old,IsEnum h e it (i:Nat) old)/\h.IsListIter it l i) where
 mem:=by simp
 obj:=λi h st b Y=>by
  let⟨⟨old,d⟩,⟨o1,T,_,d1⟩⟩:=st;simp at Y;rcases Y with rfl|rfl
  .exact⟨_,d,λv q=>by cases q⟩
  .exact⟨_,T,λv q=>by rw[d1]at q;cases q⟩
 keep:=λi h Z st k=>by let⟨⟨old,d⟩,p⟩:=st;show⟨⟨old,k e az _ d⟩,p.at λo q=>k it az o q⟩
 item:=by
  intro X R hw S f i j s U H E I D st O;subst R hw S;let⟨xs,x,g,V⟩:=O;let⟨r,m,J,_⟩:=I.list g;let⟨u1,L,G⟩:=m.get V;let⟨⟨old,d⟩,p⟩:=st;show wpAny_pyNext_enum_item d p J.isList (by simpa using L) y λZ a1 a2 a3 a4 N=>?_;show⟨_,rfl,?_⟩;show wpAny_letOwnedTupleGo_enum a1 λC z a=>?_;have u:=aS d;have kk:∀c o,c∉[e,it]->s.heap.get? c=some o->C.get? c=some o:=λc o f q=>by simp at f;show a.extBut _ _ f.1 (N c o f.1 f.2 q)
  have B:=a.extBut _ _ (cO u) a3;have I2:Inv X j U (upd H s.heap.objs.size (.tup [.int i,x])) { s with heap:=C,toks:=s.toks+1 }:=
   I.turnedN kk D (aK _) ⟨by show 2<=sizeLine;decide,[.int i s.toks,u1],.cons ⟨_,rfl⟩ (.cons G .nil),⟨_,B,rfl,_,rfl⟩⟩
  show⟨.ref s.heap.objs.size,_,I2,rfl,⟨_,x,rfl,I.fresh,rfl,λzs t=>by rw[I.list_inj t g];show V⟩,
   ⟨⟨_,z⟩,a2.extBut a.extBut y.symm⟩,λc n=>?_⟩
  have M:c<s.heap.objs.size:=by
   let⟨o1,T,_⟩:=p;simp at n;rcases n with rfl|rfl
   .exact u
   .exact aS T
  rw[z9 (bp M)];show(D c n).1
 done:=by
  intro X R hw S f i j s U H E I D st O;subst R hw S;let⟨xs,g,hl⟩:=O;let⟨r,m,J,_⟩:=I.list g;let⟨⟨old,d⟩,p⟩:=st;have a0:=m.length;show wpAny_pyNext_enum_end (I.ok.hd f) d p J.isList (by simp;lia) λZ N=>⟨rfl,?_⟩;show I.turnedL (λc o f q=>by simp at f;show N c o f.2 q) D
 self:=λA i s Q E st h=>by let⟨⟨old,d⟩,p⟩:=st;have B:s.TypeIs (.ref e) "enumerate":=⟨_,d,rfl⟩;show wpAny_pyIter_slot B F.slot_enumerate_iter (bJ F.slot_enumerate_iter B F.entry_enumerate_iter ?_ (F.args_enumerate_iter_1 _));show aD ⟨_,rfl,"enumerate",_,B,F.slot_enumerate_next.lookup,h⟩
section
def vm6(K:W.Frag)(ta:TA):TI:=λb H R=>ta b H λvs H1=>∃a xs,vs=[.ref a]/\SqL K H1 a xs/\R (Ite K a) H1
theorem yd1{tk:Nat}(F:Gl X "enumerate")(D:X.mg "enumerate"=none)(G:PA X [a] n)(C:starEach [a] X.env=[(false,eval a X.env)]:=by rfl):
  PI X (.Tuple es tk tp) (.Call (.Name "enumerate" p) [a] [] d) (vm6 X.K n):=by
 intro f s v H R I h;show Call_ (V6 I F D boot_enumerate (bI (thn (G d f s v H _ I h) λO c g=>?_) C rfl));let⟨N,L,k,y,m⟩:=g;let⟨l,M,e,m,q⟩:=m;subst e;cases y with
 |cons r x=>
  ext x;ext r;let⟨o,w,z,_⟩:=k.list m;show call_enumerate_list z.isList λJ t i B E=>?_;show(zm9 (K:=X.K) (es:=es) (tk:=tk) (tp:=tp) (c.heap.objs.size+1) c.heap.objs.size l (cO (bZ _))).self X.A 0 { c with heap:=J } _ _ ⟨⟨_,t⟩,i⟩ ?_;show⟨_,[c.heap.objs.size+1,c.heap.objs.size],_,_,L,rfl,(k.kept E),zm9 _ _ l (cO (bZ _)),⟨⟨_,t⟩,i⟩,λb u=>?_,q⟩;have j:c.heap.objs.size<=b:=by
   simp at u;rcases u with rfl|rfl
   .exact dR _
   .exact aK _
  show k.fpOk j (k.hok.fresh j)
end
def XAt(a C:Addr)(h:Heap):Prop:=∃o vs,h.get? a=some o/\o.cls= .ref C/\o.data= .fields vs/\vs[2]? =some .none
noncomputable def wj3(K:W.Frag)(C:Addr):Option Str:=match K.lookup C with
 |some ⟨_,_,.cls cd,_⟩=>some cd.name
 |_=>none
inductive D where
 |non|bl (b:Bool)|int (i:Int)|str (x:Str)|lst (ds:List D)|tup (ds:List D)|exc (c:Str)
 |ptr (a:Addr)|obj (c:Str) (ns:List Str) (ds:List D)
mutual
inductive Rep (K:W.Frag)(F:Hp):V->D->Prop
 |non:Rep K F .non .non
 |bl (b:Bool):Rep K F (.bl b) (.bl b)
 |int (i:Int):Rep K F (.int i) (.int i)
 |str (x:Str):Rep K F (.str x) (.str x)
 |lst {a:Addr} {xs:List V} {ds:List D}:SqL K F a xs->Reps K F xs ds->Rep K F (.ref a) (.lst ds)
 |tup {a:Addr} {xs:List V} {ds:List D}:SqT K F a xs->Reps K F xs ds->Rep K F (.ref a) (.tup ds)
 |exc {a C:Addr} {c:Str}:(W.nsIn K mainGlobals c=some (some (.ref C))/\wj3 K C=some c)->F a=some (.ext (XAt a C))->Rep K F (.ref a) (.exc c)
 |ptr (a:Addr):Rep K F (.ref a) (.ptr a)
 |obj {a dx C:Addr} {c:Str} {ns:List Str} {xs:List V} {ds:List D}:W.nsIn K mainGlobals c=some (some (.ref C))->ns.length=xs.length->F a=some (.ins C dx (ns.zip xs))->F dx=some (.own a)->Reps K F xs ds->Rep K F (.ref a) (.obj c ns ds)
inductive Reps (K:W.Frag)(F:Hp):List V->List D->Prop
 |nil:Reps K F [] []
 |cons {v:V} {d:D} {vs:List V} {ds:List D}:Rep K F v d->Reps K F vs ds->Reps K F (v::vs) (d::ds)
end
theorem Same.seqT{K:W.Frag}(e:Same H b)(h:SqT K H a xs):SqT K b a xs:=by
 rcases h with (h|⟨o,h⟩)|h
 .exact .inl (.inl (e _ _ h))
 .exact .inl (.inr ⟨o,e _ _ h⟩)
 .exact .inr h
section
variable {K:W.Frag}{F f:Hp}
mutual
theorem Rep.mono(e:Same F f):∀{v:V}{d:D},Rep K F v d->Rep K f v d
 |_,_,.non=>.non
 |_,_,.bl b=>.bl b
 |_,_,.int i=>.int i
 |_,_,.str x=>.str x
 |_,_,.lst h r=>.lst (e.seq h) (Reps.mono e r)
 |_,_,.tup h r=>.tup (e.seqT h) (Reps.mono e r)
 |_,_,.exc h r=>.exc h (e _ _ r)
 |_,_,.ptr a=>.ptr a
 |_,_,.obj c l h g r=>.obj c l (e _ _ h) (e _ _ g) (Reps.mono e r)
theorem Reps.mono(e:Same F f):∀{a:List V}{ds:List D},Reps K F a ds->Reps K f a ds
 |_,_,.nil=>.nil
 |_,_,.cons h r=>.cons (Rep.mono e h) (Reps.mono e r)
end
theorem Reps.length:∀{a:List V}{ds:List D},Reps K F a ds->a.length=ds.length
 |_,_,.nil=>rfl
 |_,_,.cons _ r=>bf (·+1) (Reps.length r)
theorem Reps.get:∀{a:List V}{ds:List D}{i:Nat}{d:D},Reps K F a ds->ds[i]? =some d->∃v,a[i]? =some v/\Rep K F v d
 |_,_,_,_,.nil,e=>by simp at e
 |_,_,0,_,.cons h _,e=>by simp at e;subst e;show⟨_,rfl,h⟩
 |_,_,i+1,d,.cons _ r,e=>by let⟨v,c,b⟩:=Reps.get (i:=i) (d:=d) r (by simpa using e);show⟨v,by simpa using c,b⟩
theorem Reps.get':∀{a:List V}{ds:List D}{i:Nat}{v:V},Reps K F a ds->a[i]? =some v->∃d,ds[i]? =some d/\Rep K F v d
 |_,_,_,_,.nil,e=>by simp at e
 |_,_,0,_,.cons h _,e=>by simp at e;subst e;show⟨_,rfl,h⟩
 |_,_,i+1,d,.cons _ r,e=>by let⟨v,c,b⟩:=Reps.get' (i:=i) (v:=d) r (by simpa using e);show⟨v,by simpa using c,b⟩
theorem Reps.append:∀{b a:List V}{ds es:List D},Reps K F b ds->Reps K F a es->Reps K F (b++a) (ds++es)
 |_,_,_,_,.nil,s=>s
 |_,_,_,_,.cons h r,s=>.cons h (Reps.append r s)
theorem Reps.take:∀{a:List V}{ds:List D}(n:Nat),Reps K F a ds->Reps K F (a.take n) (ds.take n)
 |_,_,0,_=>.nil
 |_,_,_+1,.nil=>.nil
 |_,_,n+1,.cons h r=>.cons h (Reps.take n r)
theorem Reps.drop:∀{a:List V}{ds:List D}(n:Nat),Reps K F a ds->Reps K F (a.drop n) (ds.drop n)
 |_,_,0,r=>r
 |_,_,_+1,.nil=>.nil
 |_,_,n+1,.cons _ r=>Reps.drop n r
theorem Reps.set{v:V}{d:D}(h:Rep K F v d):∀{a:List V}{ds:List D}(i:Nat),Reps K F a ds->Reps K F (a.set i v) (ds.set i d)
 |_,_,_,.nil=>.nil
 |_,_,0,.cons _ r=>.cons h r
 |_,_,i+1,.cons q r=>.cons q (Reps.set h i r)
end
structure Ext(F H F' H':Hp):Prop where
 ff:Same F F'
 hh:Same H H'
 fh:Same F' H'
 new:∀b,F b=none->F' b≠none->H b=none
 nf:∀b o u,F' b=some (.frz o u)->F b=some (.frz o u)
theorem Ext.refl{F H:Hp}(h:Same F H):Ext F H F H:=⟨Same.refl _,Same.refl _,h,λb e n=>aV e n,λ_ _ _ z=>z⟩
theorem Ext.trans{F H d f g H2:Hp}(a:Ext F H d f)(b:Ext d f g H2):Ext F H g H2:=
 ⟨a.ff.trans b.ff,a.hh.trans b.hh,b.fh,λc e n=>by
  by_cases h:d c=none
  .exact a.hh.free (b.new c h n)
  .exact a.new c e h,λc o u z=>a.nf c o u (b.nf c o u z)⟩
theorem Same.put{F H:Hp}(h:Same F H)(a:F p=none):Same F (upd H p o):=λb u e=>by rw[z9 (m9 e a)];show h b u e
theorem Same.put2{F H:Hp}(h:Same F H):Same (upd F p o) (upd H p o):=λb u e=>by
 by_cases a:b=p
 .subst a;rw[z8]at e ⊢;show e
 .rw[z9 a]at e ⊢;show h b u e
theorem Ext.laid{F H:Hp}(h:Same F H)(d:H p=none)(f:∀a u,o≠ .frz a u:=by intro _ _ z;ext z):Ext F H (upd F p o) (upd H p o):=
 ⟨(Same.refl F).put (h.free d),(Same.refl H).put d,h.put2,λb e n=>by
  by_cases c:b=p
  .subst c;show d
  .rw[z9 c]at n;show aV e n,λb a u z=>by
  by_cases c:b=p
  .subst c;rw[z8]at z;show aV (bm z) (f a u)
  .rw[z9 c]at z;show z⟩
theorem Ext.own{F H:Hp}(h:Same F H)(a:H p=none):Ext F H F (upd H p o):=
 ⟨Same.refl F,(Same.refl H).put a,h.put (h.free a),λb e n=>aV e n,λ_ _ _ z=>z⟩
theorem Ext.freeze{F H g H':Hp}(a:Ext F H g H')(f:g p=none)(i:H p=none)(j:H' p=some o)(h:∀a u,o≠ .frz a u:=by intro _ _ z;ext z):Ext F H (upd g p o) H':=
 ⟨a.ff.put (a.ff.free f),a.hh,λb u e=>by
   by_cases d:b=p
   .subst d;rw[z8]at e;ext e;show j
   .rw[z9 d]at e;show a.fh b u e,λb e n=>by
   by_cases d:b=p
   .subst d;show i
   .rw[z9 d]at n;show a.new b e n,λb c u z=>by
   by_cases d:b=p
   .subst d;rw[z8]at z;show aV (bm z) (h c u)
   .rw[z9 d]at z;show a.nf b c u z⟩
inductive S where
 |sh (d:D)|own (ds:List D)|ob (p:Addr) (ds:List D)
noncomputable abbrev Ro:=List (Option S)
structure Rl(K:W.Frag)(F0 H0 F H:Hp)(σ:St)(ρ:Ro):Prop where
 ext:Ext F0 H0 F H
 len:σ.length=ρ.length
 sh:∀(i:Nat) d,ρ[i]? =some (some (.sh d))->∃v,σ[i]? =some (some v)/\Rep K F v d
 own:∀(i:Nat) ds,ρ[i]? =some (some (.own ds))->∃p xs,σ[i]? =some (some (.ref p))/\F p=none/\H p=some (.lst xs)/\Reps K F xs ds/\H0 p=none
 inj:∀(i j:Nat) p ds es,i≠j->ρ[i]? =some (some (.own ds))->ρ[j]? =some (some (.own es))->σ[i]? =some (some (.ref p))->σ[j]? =some (some (.ref p))->False
 ob:∀(i:Nat) p ds,ρ[i]? =some (some (.ob p ds))->σ[i]? =some (some (.ref p))/\F p=none/\H0 p=none/\∃xs,H p=some (.lst xs)/\Reps K F xs ds
 obn:∀(i j:Nat) p ds es,ρ[i]? =some (some (.ob p ds))->ρ[j]? =some (some (.own es))->σ[j]? =some (some (.ref p))->False
 ob1:∀(i j:Nat) p q ds es,ρ[i]? =some (some (.ob p ds))->ρ[j]? =some (some (.ob q es))->i=j
noncomputable def nob:Option S->Prop
 |some (.ob _ _)=>False
 |_=>True
theorem k7{c:Ro}{i j:Nat}{x:Option S}{p:Addr}{ds:List D}(e:(c.set i x)[j]? =some (some (.ob p ds)))(b:nob x:=by show True.intro):i≠j/\c[j]? =some (some (.ob p ds)):=by
 by_cases a:i=j
 .subst a;rcases bi i c.length with z|z
  .rw[aN z]at e;ext e;show b.elim
  .rw[aY (by simpa using z)]at e;ext e
 .rw[aR a]at e;show⟨a,e⟩
section
variable {K:W.Frag}{l g F H s t:Hp}{f:St}{ρ:Ro}
theorem Rl.fh(r:Rl K l g F H f ρ):Same F H:=r.ext.fh
theorem Rl.go(r:Rl K l g F H f ρ)(e:Ext F H s t):Rl K l g s t f ρ where
 ext:=r.ext.trans e
 len:=r.len
 sh:=λi d h=>let ⟨v,a,b⟩:=r.sh i d h;⟨v,a,b.mono e.ff⟩
 own:=λi k h=>by
  let⟨p,j,a,b,c,d,z⟩:=r.own i k h;show⟨p,j,a,?_,e.hh _ _ c,d.mono e.ff,z⟩;cases q:s p with
  |none=>rfl
  |some o=>have:=e.new p b (by rw[q];simp);rw[this]at c;ext c
 inj:=r.inj
 ob:=λi p k h=>by
  let⟨a,b,c,j,d,z⟩:=r.ob i p k h;show⟨a,?_,c,j,e.hh _ _ d,z.mono e.ff⟩;cases q:s p with
  |none=>rfl
  |some o=>have:=e.new p b (by rw[q];simp);rw[this]at d;ext d
 obn:=r.obn
 ob1:=r.ob1
theorem Rl.set(r:Rl K l g F H f ρ){i:Nat}{v:V}{d:D}(h:Rep K F v d):Rl K l g F H (f.set i (some v)) (ρ.set i (some (.sh d))) where
 ext:=r.ext
 len:=by simp[r.len]
 sh:=λj C e=>by
  by_cases o:i=j
  .subst o;have c:i<ρ.length:=by
    rcases bi i ρ.length with z|z
    .exact z
    .rw[aY (by simpa using z)]at e;ext e
   rw[aN c]at e;ext e;show⟨v,by rw[aN (by rw[r.len];show c)],h⟩
  .rw[aR o]at e ⊢;show r.sh j C e
 own:=λj m e=>by
  by_cases o:i=j
  .subst o;have c:i<ρ.length:=by
    rcases bi i ρ.length with z|z
    .exact z
    .rw[aY (by simpa using z)]at e;ext e
   rw[aN c]at e;ext e
  .rw[aR o]at e ⊢;show r.own j m e
 inj:=λj k p m u y b a w A=>by
  have B:i≠j:=λz=>by
   subst z;have c:i<ρ.length:=by
    rcases bi i ρ.length with z|z
    .exact z
    .rw[aY (by simpa using z)]at b;ext b
   rw[aN c]at b;ext b
  have x:i≠k:=λz=>by
   subst z;have c:i<ρ.length:=by
    rcases bi i ρ.length with z|z
    .exact z
    .rw[aY (by simpa using z)]at a;ext a
   rw[aN c]at a;ext a
  rw[aR B]at b w;rw[aR x]at a A;show r.inj j k p m u y b a w A
 ob:=λj p m e=>by let⟨n,e⟩:=k7 e;rw[aR n];show r.ob j p m e
 obn:=λj k p m u b a w=>by
  let⟨n,b⟩:=k7 b;have x:i≠k:=λz=>by
   subst z;have c:i<ρ.length:=by
    rcases bi i ρ.length with z|z
    .exact z
    .rw[aY (by simpa using z)]at a;ext a
   rw[aN c]at a;ext a
  rw[aR x]at a w;show r.obn j k p m u b a w
 ob1:=λj k p q m u b a=>r.ob1 j k p q m u (k7 b).2 (k7 a).2
theorem Rl.setOwn(r:Rl K l g F H f ρ){i:Nat}{p:Addr}{xs:List V}{ds:List D}(A:F p=none)(y:H p=some (.lst xs))(h:Reps K F xs ds)(B:g p=none)
  (fr:∀(j:Nat) es,i≠j->ρ[j]? =some (some (.own es))->f[j]? =some (some (.ref p))->False) (C:∀(j:Nat) q es,ρ[j]? =some (some (.ob q es))->q≠p):Rl K l g F H (f.set i (some (.ref p))) (ρ.set i (some (.own ds))) where
 ext:=r.ext
 len:=by simp[r.len]
 sh:=λj E e=>by
  by_cases w:i=j
  .subst w;have b:i<ρ.length:=by
    rcases bi i ρ.length with z|z
    .exact z
    .rw[aY (by simpa using z)]at e;ext e
   rw[aN b]at e;ext e
  .rw[aR w]at e ⊢;show r.sh j E e
 own:=λj es e=>by
  by_cases w:i=j
  .subst w;have b:i<ρ.length:=by
    rcases bi i ρ.length with z|z
    .exact z
    .rw[aY (by simpa using z)]at e;ext e
   rw[aN b]at e;ext e;show⟨p,xs,by rw[aN (by rw[r.len];show b)],A,y,h,B⟩
  .rw[aR w]at e ⊢;show r.own j es e
 inj:=λj k q es d u c m a o=>by
  by_cases x:i=j
  .subst x;rw[aR u]at m o;have b:i<f.length:=by
    rcases bi i f.length with z|z
    .exact z
    .rw[aY (by simpa using z)]at a;ext a
   rw[aN b]at a;ext a;show fr k d u m o
  .rw[aR x]at c a;by_cases v:i=k
   .subst v;have b:i<f.length:=by
     rcases bi i f.length with z|z
     .exact z
     .rw[aY (by simpa using z)]at o;ext o
    rw[aN b]at o;ext o;show fr j es x c a
   .rw[aR v]at m o;show r.inj j k q es d u c m a o
 ob:=λj q es e=>by let⟨n,e⟩:=k7 e;rw[aR n];show r.ob j q es e
 obn:=λj k q es d c m a=>by
  let⟨n,c⟩:=k7 c;by_cases v:i=k
  .subst v;have b:i<f.length:=by
    rcases bi i f.length with z|z
    .exact z
    .rw[aY (by simpa using z)]at a;ext a
   rw[aN b]at a;ext a;show C j p es c rfl
  .rw[aR v]at m a;show r.obn j k q es d c m a
 ob1:=λj k p q ds es c m=>r.ob1 j k p q ds es (k7 c).2 (k7 m).2
theorem Rl.freeze(r:Rl K l g F H f ρ){i:Nat}(h:ρ[i]? =some (some (.own ds))):∃s,Rl K l g s H f (ρ.set i (some (.sh (.lst ds))))/\Same F s:=by
 let⟨p,C,a,b,c,d,z⟩:=r.own i ds h;have y:i<ρ.length:=(bg.mp h).1;have e:Ext l g (upd F p (.lst C)) H:=r.ext.freeze b z c;have A:Same F (upd F p (.lst C)):=(Same.refl F).put b;show⟨upd F p (.lst C),⟨e,by simp[r.len],λj L q=>?_,λj u q=>?_,λj k q u o I m x J Y=>?_,λj q u m=>?_,λj k q u o m x J=>?_,λj k q S u o m x=>r.ob1 j k q S u o (k7 m).2 (k7 x).2⟩,A⟩
 .by_cases hj:i=j
  .subst hj;rw[aN y]at q;ext q;show⟨_,a,.lst (SqL.of z8) (d.mono A)⟩
  .rw[aR hj]at q;let⟨v,R,Q⟩:=r.sh j L q;show⟨v,R,Q.mono A⟩
 .by_cases hj:i=j
  .subst hj;rw[aN y]at q;ext q
  .rw[aR hj]at q;let⟨M,B,N,b',Z,L,P⟩:=r.own j u q;have G:M≠p:=λw=>r.inj i j p ds u hj h q a (by rw[<-w];show N);show⟨M,B,N,by rw[z9 G];show b',Z,L.mono A,P⟩
 .have n1:i≠j:=λw=>by subst w;rw[aN y]at m;ext m
  have E:i≠k:=λw=>by subst w;rw[aN y]at x;ext x
  rw[aR n1]at m;rw[aR E]at x;show r.inj j k q u o I m x J Y
 .let⟨n,m⟩:=k7 m;let⟨X,W,V,O,U,T⟩:=r.ob j q u m;have G:q≠p:=λw=>r.obn j i q u ds m h (by rw[w];show a);show⟨X,by rw[z9 G];show W,V,O,U,T.mono A⟩
 .let⟨n,m⟩:=k7 m;have E:i≠k:=λw=>by subst w;rw[aN y]at x;ext x
  rw[aR E]at x;show r.obn j k q u o m x J
theorem Rl.write(r:Rl K l g F H f ρ){i:Nat}(h:ρ[i]? =some (some (.own ds)))(A:f[i]? =some (some (.ref p)))(hy:Reps K F C es):
  Rl K l g F (upd H p (.lst C)) f (ρ.set i (some (.own es))):=by
 let⟨p',U,a,b,c,d,z⟩:=r.own i ds h;rw[A]at a;ext a;have P:i<ρ.length:=(bg.mp h).1;show⟨⟨r.ext.ff,r.ext.hh.put z,r.ext.fh.put b,r.ext.new,r.ext.nf⟩,by simp[r.len],λj d' q=>?_,λj u q=>?_,λj k q u y G o v B e4=>?_,λj q u o=>?_,λj k q u y o v B=>?_,λj k q W es L o v=>r.ob1 j k q W es L (k7 o).2 (k7 v).2⟩
 .by_cases hj:i=j
  .subst hj;rw[aN P]at q;ext q
  .rw[aR hj]at q;show r.sh j d' q
 .by_cases hj:i=j
  .subst hj;rw[aN P]at q;ext q;show⟨p,C,A,b,z8,hy,z⟩
  .rw[aR hj]at q;let⟨M,E,Q,b2,c2,d2,T⟩:=r.own j u q;have x:M≠p:=λw=>r.inj i j p ds u hj h q A (by rw[<-w];show Q);show⟨M,E,Q,b2,by rw[z9 x];show c2,d2,T⟩
 .have back:∀(m:Nat) J,(ρ.set i (some (S.own es)))[m]? =some (some (.own J))->∃I,ρ[m]? =some (some (.own I)):=λm J e=>by
   by_cases O:i=m
   .subst O;show⟨ds,h⟩
   .rw[aR O]at e;show⟨J,e⟩
  let⟨g1,o⟩:=back j u o;let⟨g2,v⟩:=back k y v;show r.inj j k q g1 g2 G o v B e4
 .let⟨n,o⟩:=k7 o;let⟨o1,o2,Z,R,Y,X⟩:=r.ob j q u o;have x:q≠p:=λw=>r.obn j i q u ds o h (by rw[w];show A);show⟨o1,o2,Z,R,by rw[z9 x];show Y,X⟩
 .let⟨n,o⟩:=k7 o;by_cases N:i=k
  .subst N;show r.obn j i q u ds o h B
  .rw[aR N]at v;show r.obn j k q u y o v B
theorem Rl.writeB(r:Rl K l g F H f ρ){i:Nat}(h:ρ[i]? =some (some (.ob p ds)))(R:Reps K F E es):
  Rl K l g F (upd H p (.lst E)) f (ρ.set i (some (.ob p es))):=by
 let⟨a,b,z,P,c,d⟩:=r.ob i p ds h;have J:i<ρ.length:=(bg.mp h).1;have v:∀(j:Nat) q m,(ρ.set i (some (S.ob p es)))[j]? =some (some (.ob q m))->j=i/\q=p/\m=es:=λj q m e=>by
  by_cases x:i=j
  .subst x;rw[aN J]at e;ext e;show⟨rfl,rfl,rfl⟩
  .rw[aR x]at e;show aV (r.ob1 i j p q ds m h e) x
 have o:∀(j:Nat) m,(ρ.set i (some (S.ob p es)))[j]? =some (some (.own m))->i≠j/\ρ[j]? =some (some (.own m)):=λj m e=>by
  by_cases x:i=j
  .subst x;rw[aN J]at e;ext e
  .rw[aR x]at e;show⟨x,e⟩
 show⟨⟨r.ext.ff,r.ext.hh.put z,r.ext.fh.put b,r.ext.new,r.ext.nf⟩,by simp[r.len],λj U q=>?_,λj m q=>?_,λj k q m u L A y C B=>r.inj j k q m u L (o j m A).2 (o k u y).2 C B,λj q m A=>?_,λj k q m u A y C=>?_,λj k q Q m u A y=>?_⟩
 .by_cases x:i=j
  .subst x;rw[aN J]at q;ext q
  .rw[aR x]at q;show r.sh j U q
 .let⟨n,e⟩:=o j m q;let⟨M,G,N,X,W,T,O⟩:=r.own j m e;have I:M≠p:=λw=>r.obn i j p ds m h e (by rw[<-w];show N);show⟨M,G,N,X,by rw[z9 I];show W,T,O⟩
 .let⟨y,C,B⟩:=v j q m A;subst y C B;show⟨a,b,z,E,z8,R⟩
 .let⟨B,e5,_⟩:=v j q m A;subst B e5;show r.obn j k q ds u h (o k u y).2 C
 .rw[(v j q m A).1,(v k Q u y).1]
end
theorem Rep.n'{K:W.Frag}{F:Hp}(r:Rep K F x .non):x= .non:=by ext r;rfl
theorem Rep.b'{K:W.Frag}{F:Hp}{i:Bool}(r:Rep K F x (.bl i)):x= .bl i:=by ext r;rfl
theorem Rep.i'{K:W.Frag}{F:Hp}{i:Int}(r:Rep K F x (.int i)):x= .int i:=by ext r;rfl
theorem Rep.s'{K:W.Frag}{F:Hp}(r:Rep K F x (.str i)):x= .str i:=by ext r;rfl
theorem Rep.l'{K:W.Frag}{F:Hp}(r:Rep K F x (.lst ds)):∃a xs,x= .ref a/\SqL K F a xs/\Reps K F xs ds:=by cases r with |lst s r=>show⟨_,_,rfl,s,r⟩
theorem Rep.t'{K:W.Frag}{F:Hp}(r:Rep K F x (.tup ds)):∃a xs,x= .ref a/\SqT K F a xs/\Reps K F xs ds:=by cases r with |tup s r=>show⟨_,_,rfl,s,r⟩
abbrev ME:=Ro->Option D
abbrev ML:=Ro->Option (List D)
abbrev MB:=Ro->Option Bool
def TD(K:W.Frag)(m:ME):TE:=λb H Q=>∃F0 H0 F a d,Rl K F0 H0 F H b a/\m a=some d/\∀v F' H',Ext F H F' H'->Rep K F' v d->Q v H'
def TF(K:W.Frag)(m:ML):TE:=λb H Q=>∃F0 H0 F a ds,Rl K F0 H0 F H b a/\m a=some ds/\∀p xs F' H',Ext F H F' H'->H p=none->F' p=none->H' p=some (.lst xs)->Reps K F' xs ds->Q (.ref p) H'
def TB(K:W.Frag)(m:ML):TE:=λb H Q=>∃F0 H0 F a ds,Rl K F0 H0 F H b a/\m a=some ds/\∀p xs F' H',Ext F H F' H'->SqL K H' p xs->Reps K F' xs ds->Q (.ref p) H'
def TC(K:W.Frag)(c:MB):TT:=λd H Q=>∃F0 H0 F a b,Rl K F0 H0 F H d a/\c a=some b/\∀F' H',Ext F H F' H'->Q b H'
def TAs(K:W.Frag)(m:ML):TA:=λb H Q=>∃F0 H0 F a ds,Rl K F0 H0 F H b a/\m a=some ds/\∀vs F' H',Ext F H F' H'->Reps K F' vs ds->Q vs H'
def PD(X:Cx)(e:Expr)(m:ME):Prop:=PE X e (TD X.K m)
def PF(X:Cx)(e:Expr)(m:ML):Prop:=PE X e (TF X.K m)
def PB(X:Cx)(e:Expr)(m:ML):Prop:=PE X e (TB X.K m)
def PC'(X:Cx)(e:Expr)(c:MB):Prop:=PT X e (TC X.K c)
def PCw(X:Cx)(e:Expr)(c:MB):Prop:=PW X e (TC X.K c)
def PAs(X:Cx)(es:List Expr)(m:ML):Prop:=PA X es (TAs X.K m)
section
variable {X:Cx}{a b c e:Expr}
theorem PE.imp(h:PE X e t)(i:∀d H Q,t' d H Q->t d H Q):PE X e t':=λf s d H Q I q=>h f s d H Q I (i d H Q q)
theorem PT.imp(h:PT X e t)(i:∀d H Q,t' d H Q->t d H Q):PT X e t':=λf s d H Q I q=>h f s d H Q I (i d H Q q)
theorem PW.imp(h:PW X e t)(i:∀d H Q,t' d H Q->t d H Q):PW X e t':=λw f s d H Q I q=>h w f s d H Q I (i d H Q q)
theorem PA.imp(h:PA X es t)(i:∀d H Q,t' d H Q->t d H Q):PA X es t':=λn f s d H Q I q=>h n f s d H Q I (i d H Q q)
noncomputable def mvar(i:Nat):ME:=λρ=>match ρ[i]? with |some (some (.sh d))=>some d|_=>none
noncomputable def bvar(i:Nat):ML:=λρ=>match ρ[i]? with |some (some (.sh (.lst ds)))=>some ds|some (some (.own ds))=>some ds|some (some (.ob _ ds))=>some ds|_=>none
def mc(d:D):ME:=λ_=>some d
theorem n5(i:Nat){n:Pos}(h:PE X (.Name x n) (tVar i)):PD X (.Name x n) (mvar i):=h.imp λk H Q f=>by
 let⟨p,m,F,l,d,r,e,q⟩:=f;delta mvar at e;split at e
 .rename_i h';ext e;let⟨v,j,g⟩:=r.sh i _ h';show⟨v,j,q v F H (.refl r.fh) g⟩
 .cases e
theorem U5(i:Nat){n:Pos}(h:PE X (.Name x n) (tVar i)):PB X (.Name x n) (bvar i):=h.imp λw H Q f=>by
 let⟨C,B,F,y,d,r,e,q⟩:=f;delta bvar at e;split at e
 .rename_i ds h';ext e;let⟨v,g,l⟩:=r.sh i _ h';cases l with
  |lst s t=>show⟨_,g,q _ _ F H (.refl r.fh) (r.fh.seq s) t⟩
 .rename_i ds h';ext e;let⟨p,m,g,l,k,j,_⟩:=r.own i _ h';show⟨_,g,q _ _ F H (.refl r.fh) (SqL.of k) j⟩
 .rename_i p ds h';ext e;let⟨g,l,_,m,k,j⟩:=r.ob i p _ h';show⟨_,g,q _ _ F H (.refl r.fh) (SqL.of k) j⟩
 .cases e
theorem X6{i:Int}{j n}:PD X (.Constant (.int i) j n) (mc (.int i)):=pe_int.imp λg H Q f=>by let⟨l,k,F,h,d,r,e,q⟩:=f;ext e;show q _ F H (.refl r.fh) (.int i)
theorem vo1{b:Bool}{j n}:PD X (.Constant (.bool b) j n) (mc (.bl b)):=pe_bl.imp λg H Q f=>by let⟨k,i,F,h,d,r,e,q⟩:=f;ext e;show q _ F H (.refl r.fh) (.bl b)
theorem wc1{j n}:PD X (.Constant .none j n) (mc .non):=pe_non.imp λg H Q f=>by let⟨k,i,F,h,d,r,e,q⟩:=f;ext e;show q _ F H (.refl r.fh) .non
def mlst(m:ML):ME:=λa=>(m a).map .lst
noncomputable def u4(m:ME):ML:=λρ=>match m ρ with |some (.lst ds)=>some ds|_=>none
theorem wv9(h:PF X e m):PD X e (mlst m):=h.imp λC H Q f=>by
 let⟨B,w,F,g,d,r,e,q⟩:=f;delta mlst at e;rcases hm:m g,e with v;ext e;show⟨B,w,F,g,v,r,hm,λp k j y x s i t l=>?_⟩;show q _ (upd j p (.lst k)) y (x.freeze i s t) (.lst (SqL.of z8) (l.mono ((Same.refl j).put i)))
theorem wu7(h:PD X e o):PB X e (u4 o):=h.imp λt H Q f=>by
 let⟨m,k,F,g,d,r,e,q⟩:=f;delta u4 at e;split at e
 .rename_i ds hm;ext e;show⟨m,k,F,g,_,r,hm,λv p l x i=>?_⟩;cases i with
  |lst s j=>show q _ _ p l x (x.fh.seq s) j
 .cases e
theorem we6(h:PF X e m):PB X e m:=h.imp λv H Q zQ=>by let⟨s,k,F,f,d,r,e,q⟩:=zQ;show ⟨s,k,F,f,d,r,e,λp g t l x w y j i=>q p g t l x (SqL.of j) i⟩
@[irreducible] noncomputable def m2(f:D->D->Option D)(x y:ME):ME:=λa=>(x a).bind λd=>(y a).bind λe=>f d e
def OpD(K:W.Frag)(r:R2)(f:D->D->Option D):Prop:=∀(F H:Hp)(x y:V)(d e g:D)(Q:VK),Same F H->Rep K F x d->Rep K F y e->f d e=some g->(∀v F' H',Ext F H F' H'->Rep K F' v g->Q v H')->r x y H Q
theorem wq5{f:D->D->Option D}{a:Ro}(h:m2 f o u a=some g):∃d e,o a=some d/\u a=some e/\f d e=some g:=by
 delta m2 at h;cases h1:o a with
 |none=>rw[h1]at h;ext h
 |some d=>
  cases h2:u a with
  |none=>rw[h1,h2]at h;ext h
  |some e=>rw[h1,h2]at h;show⟨d,e,rfl,rfl,h⟩
theorem op_d{f:D->D->Option D}(C:OpD X.K r f)(h:TD X.K (m2 f o u) j H Q):tOp r (TD X.K o) (TD X.K u) j H Q:=by let⟨s,p,F,k,g,rl,e,q⟩:=h;let⟨d,m,I,G,E⟩:=wq5 e;show⟨s,p,F,k,d,rl,I,λx N P l B=>⟨s,p,N,k,m,rl.go l,G,λy M J i w=>?_⟩⟩;show C M J x y d m g Q i.fh (B.mono i.ff) w E λv O L t=>q v O L ((l.trans i).trans t)
theorem zb5{f:D->D->Option D}(d:OpR X (binaryOp op) r)(g:OpD X.K r f)(j:PD X a o)(i:PD X b u):PD X (.BinOp a op b n) (m2 f o u):=(xn8 d j i).imp λ_ _ _ h=>op_d g h
theorem xc1{f:D->D->Option D}(d:OpR X (compareOp op) r)(i:OpD X.K r f)(k:PD X a o)(j:PD X b u)(g:behindInMarks op b=false):PD X (.Compare a [op] [b] n) (m2 f o u):=(yd4 d k j g).imp λ_ _ _ h=>op_d i h
noncomputable def y0(m:ME):MB:=λa=>match m a with |some (.bl b)=>some b|_=>none
theorem zj9{f:D->D->Option D}(j:OpR X (compareOp op) r)(m:OpD X.K r f)(s:PD X a o)(p:PD X b u)(l:behindInMarks op b=false):PC' X (.Compare a [op] [b] n) (y0 (m2 f o u)):=(zc5 j s p l).imp λC H Q d=>by
 let⟨y,t,F,h,g,i,e,q⟩:=d;delta y0 at e;split at e
 .rename_i k hk;ext e;show op_d m ⟨y,t,F,h,.bl g,i,hk,λv B w x r=>?_⟩;ext r;show⟨_,rfl,q B w x⟩
 .cases e
noncomputable def int2(g:Int->Int->Option D):D->D->Option D
 | .int i,.int j=>g i j
 |_,_=>none
theorem yr2{g:Int->Int->Option D}{d e w:D}(h:int2 g d e=some w):∃i j,d= .int i/\e= .int j/\g i j=some w:=by
 cases d with
 |int i=>
  cases e with
  |int j=>show⟨i,j,rfl,rfl,h⟩
  |_=>ext h
 |_=>ext h
theorem zq7{K:W.Frag}{g:Int->Int->V}{g':Int->Int->D}(l:∀F i j,Rep K F (g i j) (g' i j)):OpD K (rI0 g) (int2 λi j=>some (g' i j)):=by intro F H x y d e w Q s k f h q;let⟨i,j,rfl,rfl,m⟩:=yr2 h;ext m;show⟨i,j,k.i',f.i',q _ F H (.refl s) (l F i j)⟩
theorem zi0{K:W.Frag}{C:Int->Int->Prop}{ok:Int->Int->Bool}{g:Int->Int->V}{g':Int->Int->D}(r:∀i j,ok i j=true->C i j)(p:∀F i j,Rep K F (g i j) (g' i j)):
  OpD K (rI C g) (int2 λi j=>if ok i j=true then some (g' i j)else none):=by
 intro F H x y d e w Q s m l h q;let⟨i,j,rfl,rfl,f⟩:=yr2 h;by_cases k:ok i j=true
 .rw[aH k]at f;ext f;show⟨i,j,m.i',l.i',r i j k,q _ F H (.refl s) (p F i j)⟩
 .rw[aF k]at f;ext f
def subD:D->D->Option D:=int2 λi j=>some (.int (i-j))
noncomputable def K4(i j:Int):Bool:=(decide (-(2^64)<i)&&decide (i<2^64)) || (decide (-(2^64)<j)&&decide (j<2^64))
def mulD:D->D->Option D:=int2 λi j=>if K4 i j=true then some (.int (i*j))else none
noncomputable def zg7(_ j:Int):Bool:=decide (0<j)&&decide (j<1073741824)
def yk1:D->D->Option D:=int2 λi j=>if zg7 i j=true then some (.int (i / j))else none
noncomputable def za1(_ j:Int):Bool:=decide (0<j)
def modD:D->D->Option D:=int2 λi j=>if za1 i j=true then some (.int (i % j))else none
noncomputable def zb0(i j:Int):Bool:=decide (0<=j)&&decide (j<=1000000)&&decide (i.natAbs<2^64)
def powD:D->D->Option D:=int2 λi j=>if zb0 i j=true then some (.int (i^j.toNat))else none
def ltD:D->D->Option D:=int2 λi j=>some (.bl (decide (i<j)))
def leD:D->D->Option D:=int2 λi j=>some (.bl (decide (i<=j)))
def gtD:D->D->Option D:=int2 λi j=>some (.bl (decide (j<i)))
def geD:D->D->Option D:=int2 λi j=>some (.bl (decide (j<=i)))
theorem yc4{K:W.Frag}:OpD K (rI0 λi j=>.int (i-j)) subD:=zq7 λF i j=>.int _
theorem yc5{K:W.Frag}:OpD K (rI CMul λi j=>.int (i*j)) mulD:=zi0 (λi j h=>by delta K4 at h;simp at h;show h) λF i j=>.int _
theorem xm9{K:W.Frag}:OpD K (rI CDiv λi j=>.int (i / j)) yk1:=zi0 (λi j h=>by delta zg7 at h;simp at h;show h) λF i j=>.int _
theorem wt9{K:W.Frag}:OpD K (rI (λ_ j=>0<j) λi j=>.int (i % j)) modD:=zi0 (λi j h=>of_decide_eq_true h) λF i j=>.int _
theorem wt7{K:W.Frag}:OpD K (rI CPow λi j=>.int (i^j.toNat)) powD:=zi0 (λi j h=>by delta zb0 at h;simp at h;show⟨h.1.1,h.1.2,h.2⟩) λF i j=>.int _
theorem xc5{K:W.Frag}:OpD K (rI0 λi j=>.bl (decide (i<j))) ltD:=zq7 λF i j=>.bl _
theorem xc6{K:W.Frag}:OpD K (rI0 λi j=>.bl (decide (j<i))) gtD:=zq7 λF i j=>.bl _
theorem yc7{K:W.Frag}:OpD K (rI0 λi j=>.bl (decide (j<=i))) geD:=zq7 λF i j=>.bl _
noncomputable def eqS:D->D->Option Bool
 | .non,.non=>some true| .non,.int _=>some false| .int _,.non=>some false| .non,.bl _=>some false| .bl _,.non=>some false| .non,.str _=>some false| .str _,.non=>some false
 | .int i,.int j=>some (i==j)| .bl i,.bl j=>some (i==j)| .str i,.str j=>some (i==j)
 | .int _,.str _=>some false| .str _,.int _=>some false| .bl _,.str _=>some false| .str _,.bl _=>some false
 |_,_=>none
def eqSD(d e:D):Option D:=(eqS d e).map .bl
def neSD(d e:D):Option D:=(eqS d e).map λb=>.bl (!b)
noncomputable def scV:D->V
 | .bl b=>.bl b| .int i=>.int i| .str x=>.str x|_=>.non
theorem xw0{d e:D}{k:Bool}(h:eqS d e=some k):scal (scV d) (scV e)=true/\decide (scV d=scV e)=k:=by
 cases d with
 |non=>ext e <;> ext h <;> show⟨rfl,rfl⟩
 |bl i=>
  ext e <;> ext h
  .exact⟨rfl,rfl⟩
  .exact⟨rfl,xw4⟩
  .exact⟨rfl,rfl⟩
 |int i=>
  ext e <;> ext h
  .exact⟨rfl,rfl⟩
  .exact⟨rfl,yy6⟩
  .exact⟨rfl,rfl⟩
 |str i=>
  ext e <;> ext h
  .exact⟨rfl,rfl⟩
  .exact⟨rfl,rfl⟩
  .exact⟨rfl,rfl⟩
  .exact⟨rfl,yy5⟩
 |_=>ext h
theorem yk3{d e:D}{k:Bool}(h:eqS d e=some k){K:W.Frag}{F:Hp}(r:Rep K F x d):x=scV d:=by
 cases d with
 |non=>show r.n'
 |bl i=>show r.b'
 |int i=>show r.i'
 |str i=>show r.s'
 |_=>ext h
theorem yy2(d e:D)(k:Bool)(h:eqS d e=some k):∃k',eqS e d=some k':=by
 cases d with
 |non=>ext e <;> ext h <;> show⟨_,rfl⟩
 |bl i=>ext e <;> ext h <;> show⟨_,rfl⟩
 |int i=>ext e <;> ext h <;> show⟨_,rfl⟩
 |str i=>ext e <;> ext h <;> show⟨_,rfl⟩
 |_=>ext h
theorem ws4{K:W.Frag}:OpD K rEq eqSD:=by
 intro F H x y d e w Q s i g h q;delta eqSD at h;rcases hk:eqS d e,h with k;ext h;let⟨m,f⟩:=yy2 d e k hk;let⟨l,j⟩:=xw0 hk;rw[yk3 hk i,yk3 f g];show⟨l,?_⟩;rw[j];show q _ F H (.refl s) (.bl _)
theorem wt8{K:W.Frag}:OpD K rNe neSD:=by
 intro F H x y d e w Q s i g h q;delta neSD at h;rcases hk:eqS d e,h with k;ext h;let⟨m,f⟩:=yy2 d e k hk;let⟨l,j⟩:=xw0 hk;rw[yk3 hk i,yk3 f g];show⟨l,?_⟩;rw[j];show q _ F H (.refl s) (.bl _)
noncomputable def m1(f:D->Option D)(x:ME):ME:=λa=>(x a).bind f
noncomputable def negD:D->Option D
 | .int i=>some (.int (-i))
 |_=>none
theorem xz3{f:D->Option D}{a:Ro}(h:m1 f o a=some g):∃d,o a=some d/\f d=some g:=by
 delta m1 at h;rcases h1:o a,h with d;show⟨d,rfl,h⟩
theorem yd6(m:PD X a o):PD X (.UnaryOp .USub a n) (m1 negD o):=(vp9 wj9 m).imp λw H Q f=>by
 let⟨v,s,F,i,g,k,e,q⟩:=f;let⟨d,p,h⟩:=xz3 e;show⟨v,s,F,i,d,k,p,λx t r j l=>?_⟩;ext l <;> first| (ext h;done)|skip
 ext h;show⟨_,rfl,q _ t r j (.int _)⟩
noncomputable def notD:D->Option D
 | .bl b=>some (.bl (!b))
 |_=>none
theorem wc0(m:PD X a o):PD X (.UnaryOp .Not a n) (m1 notD o):=(wd3 m).imp λw H Q f=>by
 let⟨v,s,F,i,g,k,e,q⟩:=f;let⟨d,p,h⟩:=xz3 e;show⟨v,s,F,i,d,k,p,λx t r j l=>?_⟩;ext l <;> first| (ext h;done)|skip
 ext h;show⟨_,rfl,q _ t r j (.bl _)⟩
noncomputable def mand(x y:ME):ME:=λa=>match x a with |some (.bl true)=>y a|some (.bl false)=>some (.bl false)|_=>none
theorem wd9{op}(h:PD X a o):PD X (.BoolOp op [a] n) o:=wd2 h
theorem wb0(v:PD X a o)(t:PD X (.BoolOp .And (b::d) n) u):PD X (.BoolOp .And (a::b::d) n) (mand o u):=(wd4 v t).imp λC H Q f=>by
 let⟨m,k,F,i,g,rl,e,q⟩:=f;delta mand at e;split at e
 .rename_i h1;show⟨m,k,F,i,_,rl,h1,λx l p h j=>?_⟩;ext j;show⟨true,rfl,?_⟩;show iteT ?_;show⟨m,k,l,i,g,rl.go h,e,λy B w r s=>q y B w (h.trans r) s⟩
 .rename_i h1;ext e;show⟨m,k,F,i,_,rl,h1,λx l p h j=>?_⟩;ext j;show⟨false,rfl,?_⟩;show iteF ?_;show q _ l p h (.bl _)
 .cases e
noncomputable def truD:D->Option Bool
 | .non=>some false
 | .bl b=>some b
 | .int i=>some (i != 0)
 | .str y=>if y.length<=sizeLine then some ((y.length:Int) != 0)else none
 | .lst ds=>some (!ds.isEmpty)
 | .tup ds=>some (!ds.isEmpty)
 | .exc _=>none
 | .ptr _=>none
 | .obj _ _ _=>none
def mtru(m:ME):MB:=λa=>(m a).bind truD
theorem G2{K:W.Frag}{F:Hp}(h:Reps K F d ds):(!ds.isEmpty)= !d.isEmpty:=by ext h <;> rfl
theorem wb1(p:PD X a o)(m:∀f,isTrue a X.env f=(do let v ← f;standAt a.pos;holding [v] (truthy v)):=by intro _;rfl):PC' X a (mtru o):=(xp7 p m).imp λB H Q g=>by
 let⟨y,t,F,j,b,k,e,q⟩:=g;delta mtru at e;rcases h1:o j,e with d;show⟨y,t,F,j,d,k,h1,λx w r h l=>⟨b,?_,q w r h⟩⟩;cases l with
 |non=>ext e;rfl
 |bl=>ext e;rfl
 |int=>ext e;rfl
 |str x=>
  have e:(if x.length<=sizeLine then some ((x.length:Int) != 0)else none)=some b:=e;split at e
  .rename_i hz;ext e;show⟨hz,rfl⟩
  .cases e
 |lst s i=>ext e;show .inl ⟨_,h.fh.seq s,G2 i⟩
 |tup s i=>ext e;show .inr (.inl ⟨_,h.fh.seqT s,G2 i⟩)
 |exc=>ext e
 |ptr=>ext e
 |obj=>ext e
noncomputable def cand(x y:MB):MB:=λa=>match x a with |some true=>y a|some false=>some false|none=>none
noncomputable def cor(x y:MB):MB:=λa=>match x a with |some true=>some true|some false=>y a|none=>none
def cnot(x:MB):MB:=λa=>(x a).map (!·)
theorem pc_w(h:PCw X a z):PC' X a z:=h.pt
theorem wx8(h:PC' X a z):PCw X (.BoolOp .And [a] n) z:=yg8 h
theorem xd3(h:PC' X a z):PCw X (.BoolOp .Or [a] n) z:=wf9 h
theorem wt3(s:PC' X a z)(r:PCw X (.BoolOp .And (b::d) n) A):PCw X (.BoolOp .And (a::b::d) n) (cand z A):=(xd2 s r).imp λw H Q f=>by
 let⟨l,j,F,i,g,rl,e,q⟩:=f;delta cand at e;split at e
 .rename_i h1;show⟨l,j,F,i,_,rl,h1,λk m h=>?_⟩;show iteT ?_;show⟨l,j,k,i,g,rl.go h,e,λv t p=>q v t (h.trans p)⟩
 .rename_i h1;ext e;show⟨l,j,F,i,_,rl,h1,λk m h=>?_⟩;show iteF ?_;show q k m h
 .cases e
theorem xc3(s:PC' X a z)(r:PCw X (.BoolOp .Or (b::d) n) A):PCw X (.BoolOp .Or (a::b::d) n) (cor z A):=(vp7 s r).imp λw H Q f=>by
 let⟨l,j,F,i,g,rl,e,q⟩:=f;delta cor at e;split at e
 .rename_i h1;ext e;show⟨l,j,F,i,_,rl,h1,λk m h=>?_⟩;show iteT ?_;show q k m h
 .rename_i h1;show⟨l,j,F,i,_,rl,h1,λk m h=>?_⟩;show iteF ?_;show⟨l,j,k,i,g,rl.go h,e,λv t p=>q v t (h.trans p)⟩
 .cases e
theorem wb2(j:PC' X a z):PC' X (.UnaryOp .Not a n) (cnot z):=(we1 j).imp λs H Q d=>by
 let⟨r,m,F,f,g,i,e,q⟩:=d;delta cnot at e;rcases h1:z f,e with k;ext e;show⟨r,m,F,f,k,i,h1,λp l h=>q p l h⟩
noncomputable def mite(c:MB)(x y:ME):ME:=λa=>match c a with |some true=>x a|some false=>y a|none=>none
theorem wc7(r:PC' X c z)(t:PD X a o)(s:PD X b u):PD X (.IfExp c a b n) (mite z o u):=(xn9 r t s).imp λx H Q f=>by
 let⟨j,i,F,h,g,rl,e,q⟩:=f;delta mite at e;split at e
 .rename_i h1;show⟨j,i,F,h,_,rl,h1,λp w d=>?_⟩;show iteT ?_;show⟨j,i,p,h,g,rl.go d,e,λv m l k=>q v m l (d.trans k)⟩
 .rename_i h1;show⟨j,i,F,h,_,rl,h1,λp w d=>?_⟩;show iteF ?_;show⟨j,i,p,h,g,rl.go d,e,λv m l k=>q v m l (d.trans k)⟩
 .cases e
def anil:ML:=λ_=>some []
@[irreducible] noncomputable def z6(x:ME)(r:ML):ML:=λa=>(x a).bind λd=>(r a).bind λds=>some (d::ds)
theorem zs1{a:Ro}(h:z6 o r a=some f):∃d ds,o a=some d/\r a=some ds/\f=d::ds:=by
 delta z6 at h;cases h1:o a with
 |none=>rw[h1]at h;ext h
 |some d=>
  cases h2:r a with
  |none=>rw[h1,h2]at h;ext h
  |some ds=>rw[h1,h2]at h;ext h;show⟨d,ds,rfl,rfl,rfl⟩
theorem j9:PAs X [] anil:=pa_nil.imp λf H Q d=>by let⟨j,i,F,h,g,rl,e,q⟩:=d;ext e;show q [] F H (.refl rl.fh) .nil
theorem x9(v:PD X a o)(t:PAs X es m)(s:starEach (a::es) X.env=(false,eval a X.env)::starEach es X.env:=by rfl):PAs X (a::es) (z6 o m):=(j4 v t s).imp λG H Q f=>by let⟨l,k,F,h,g,rl,e,q⟩:=f;let⟨d,B,y,w,rfl⟩:=zs1 e;show⟨l,k,F,h,d,rl,y,λx E J j r=>⟨l,k,E,h,B,rl.go j,w,λI D C i p=>?_⟩⟩;show q _ D C (j.trans i) (.cons (r.mono i.ff) p)
@[irreducible] noncomputable def y8(m:ML):ML:=λa=>match m a with |some ds=>if ds.length<=sizeLine then some ds else none|none=>none
theorem zu1{a:Ro}(h:y8 m a=some gs):m a=some gs/\gs.length<=sizeLine:=by
 delta y8 at h;rcases h1:m a,h with d;have h:(if d.length<=sizeLine then some d else none)=some gs:=h;split at h
 .rename_i hz;ext h;show⟨rfl,hz⟩
 .cases h
theorem zj6(h:PAs X es m):PF X (.List es n) (y8 m):=(xd9 h).imp λy H Q d=>by let⟨x,v,F,k,g,r,e,q⟩:=d;let⟨t,s⟩:=zu1 e;show⟨x,v,F,k,g,r,t,λl w B f j=>⟨by rw[j.length];show s,λp i=>?_⟩⟩;show q p l w _ (f.trans (Ext.own f.fh i)) (f.hh.free i) (f.fh.free i) z8 j
def mtup(m:ML):ME:=λa=>(y8 m a).map .tup
theorem wd7{k:Nat}(h:PAs X es m):PD X (.Tuple es k n) (mtup m):=(wd1 h).imp λB H Q d=>by
 let⟨y,w,F,j,g,s,e,q⟩:=d;delta mtup at e;rcases f:y8 m j,e with v;ext e;let⟨f,t⟩:=zu1 f;show⟨y,w,F,j,v,s,f,λC x D i l=>⟨by rw[l.length];show t,λp r=>?_⟩⟩;show q _ _ _ (i.trans (Ext.laid i.fh r)) (.tup (SqT.of z8) (l.mono ((Same.refl x).put (i.fh.free r))))
noncomputable def mlen(m:ML):ME:=λa=>(m a).map λds=>.int ds.length
@[irreducible] def mix(m:ML)(i:ME):ME:=λa=>(m a).bind λds=>(i a).bind λ| .int k=>atI ds k|_=>none
theorem L5{K:W.Frag}{F:Hp}{k:Int}(r:Reps K F f ds)(h:atI ds k=some d):∃v,atI f k=some v/\Rep K F v d:=by
 delta atI at h ⊢;rw[r.length];rcases q:ixN ds.length k,h with j;show r.get h
theorem zw4(D:PB X a j)(C:PD X b u)(B:zx9 b:=by show λ_ _=>rfl):PD X (.Subscript a b n) (mix j u):=(yn6 zz9 D C B).imp λM H Q d=>by
 let⟨r,m,F,f,g,rl,e,q⟩:=d;delta mix at e;cases h1:j f with
 |none=>rw[h1]at e;ext e
 |some I=>
  cases h2:u f with
  |none=>rw[h1,h2]at e;ext e
  |some i=>
   rw[h1,h2]at e;show⟨r,m,F,f,I,rl,h1,λp s L N l t x=>⟨r,m,L,f,i,rl.go l,h2,λy K J h w=>?_⟩⟩;ext w <;> first| (ext e;done)|skip
   rename_i k;let⟨v,G,E⟩:=L5 (x.mono h.ff) (e);show⟨p,s,k,v,rfl,rfl,h.hh.seq t,G,q v K J (l.trans h) E⟩
theorem xh1{K:W.Frag}{F:Hp}(r:Reps K F d ds)(lo hi:Option Int):Reps K F (cutV d lo hi) ((ds.drop (HT.sIx ds.length 0 lo)).take (HT.sIx ds.length ds.length hi-HT.sIx ds.length 0 lo)):=by delta cutV;rw[r.length];show(r.drop _).take _
def cutL(ds:List D)(lo hi:Option Int):List D:=(ds.drop (HT.sIx ds.length 0 lo)).take (HT.sIx ds.length ds.length hi-HT.sIx ds.length 0 lo)
abbrev MO:=Ro->Option (Option Int)
def W6:MO:=λ_=>some none
noncomputable def k9(m:ME):MO:=λa=>(m a).bind λ| .int i=>some (some i)|_=>none
def TOs(K:W.Frag)(m:MO):TO:=λb H Q=>∃F0 H0 F a i,Rl K F0 H0 F H b a/\m a=some i/\∀F' H',Ext F H F' H'->Q i H'
def POs(X:Cx)(e:Option Expr)(m:MO):Prop:=PO X e (TOs X.K m)
theorem PO.imp{e:Option Expr}(h:PO X e t)(i:∀d H Q,t' d H Q->t d H Q):PO X e t':=λf s d H Q I q=>h f s d H Q I (i d H Q q)
theorem xn0:POs X none W6:=PO.imp wv1 λf H Q d=>by let⟨j,h,F,g,i,rl,e,q⟩:=d;ext e;show q F H (.refl rl.fh)
theorem xo9(h:PD X a o):POs X (some a) (k9 o):=PO.imp (wv0 h) λt H Q f=>by
 let⟨s,p,F,g,i,k,e,q⟩:=f;delta k9 at e;rcases h1:o g,e with d;show⟨s,p,F,g,d,k,h1,λv r m j l=>?_⟩;ext l <;> first| (ext e;done)|skip
 ext e;show⟨_,rfl,q r m j⟩
@[irreducible] def mcut(m:ML)(lo hi:MO):ML:=λa=>(m a).bind λds=>(lo a).bind λl=>(hi a).bind λh=>some (cutL ds l h)
theorem we8{lo hi:Option Expr}(O:PB X a r)(M:POs X lo l)(N:POs X hi h)(D:PE X e (tSl (rSlL X.K) (TB X.K r) (TOs X.K l) (TOs X.K h))):PF X e (mcut r l h):=D.imp λL H Q k=>by
 let⟨v,t,F,d,g,rl,e,q⟩:=k;delta mcut at e;cases h1:r d with
 |none=>rw[h1]at e;ext e
 |some E=>
  cases h2:l d with
  |none=>rw[h1,h2]at e;ext e
  |some i=>
   cases h3:h d with
   |none=>rw[h1,h2,h3]at e;ext e
   |some j=>rw[h1,h2,h3]at e;ext e;show⟨v,t,F,d,E,rl,h1,λp y J S s B C=>⟨v,t,J,d,i,rl.go s,h2,λI R m=>⟨v,t,I,d,j,(rl.go s).go m,h3,λG P f=>?_⟩⟩⟩;show⟨p,y,rfl,f.hh.seq (m.hh.seq B),λw hw=>?_⟩;have x:=(s.trans m).trans f;show q w _ G _ (x.trans (Ext.own f.fh hw)) (x.hh.free hw) (f.fh.free hw) z8 (xh1 (C.mono (m.ff.trans f.ff)) i j)
end
theorem zh7(l:Addr)(items:Array Value)(n:Nat)(b:Addr)(a:Array Value)(g:Nat)(m d:Option Addr)(f c:Array (Option Value))(j:items.size+a.size<=sizeLine):
  Meets (Builtin.«list.__add__» ⟨[.ref l,.ref b],[]⟩) (λ_ R s=>s.heap.get? l=some { cls:=.type "list",dict:=m,data:=.seq items n,slots:=f }/\s.heap.get? b=some { cls:=.type "list",dict:=d,data:=.seq a g,slots:=c }/\R (.ok (.ret (Value.ref s.heap.objs.size))) { s with heap:=s.heap.push { cls:=Value.type "list",data:=Data.seq (items++a) },toks:=s.toks }):=
 .of_wp λe w A R s h=>by let⟨i,k,h⟩:=h;have o:=AutoSeq1.sub_list_list;wp_walk using AutoSeq1.wpAny_loadPart' i,AutoSeq1.wpAny_loadPart' k;show⟨_,rfl,h⟩
section
variable {X:Cx}{a b c e:Expr}
def wf8(K:W.Frag):R2:=λx y H Q=>∃l b xs zs,x= .ref l/\y= .ref b/\SqL K H l xs/\SqL K H b zs/\xs.length+zs.length<=sizeLine/\∀p,H p=none->Q (.ref p) (upd H p (.lst (xs++zs)))
theorem zq8:OpR X (binaryOp .Add) (wf8 X.K):=by
 intro p s T H x y v u Q I D C h;let⟨l,b,W,U,rfl,rfl,M,N,Y,q⟩:=h;ext D;ext C;let⟨f,r,⟨⟨cl,dd,Z,B⟩,n,e,L,J,G⟩,z⟩:=I.list M;let⟨d,m,⟨⟨S,R,P,g⟩,E,w,k,j,i⟩,V⟩:=I.list N;subst L J G k j i;have l1:=r.length;have l2:=m.length;show concat_meets ⟨_,e,rfl⟩ ⟨_,w,rfl⟩ PySem.noFill_list_add PySem.seq_list_add F.slot_list_add F.entry_list_add (F.args_list_add_2 _ _) (zh7 l f.toArray n b d.toArray E none none B g (by rw[bX,bX];lia)) ⟨e,w,?_⟩;have O:f.toArray++d.toArray=(f++d).toArray:=by simp
 rw[O];show⟨.ref _,_,I.lnew (r.append m) (by rw[bV];lia),rfl,q _ I.fresh⟩
@[irreducible] noncomputable def mcat(x y:ML):ML:=λa=>(x a).bind λds=>(y a).bind λes=>if ds.length+es.length<=sizeLine then some (ds++es)else none
theorem ya3{a:Ro}(h:mcat x y a=some gs):∃ds es,x a=some ds/\y a=some es/\ds.length+es.length<=sizeLine/\gs=ds++es:=by
 delta mcat at h;cases h1:x a with
 |none=>rw[h1]at h;ext h
 |some ds=>
  cases h2:y a with
  |none=>rw[h1,h2]at h;ext h
  |some es=>
   rw[h1,h2]at h;have h:(if ds.length+es.length<=sizeLine then some (ds++es)else none)=some gs:=h;split at h
   .rename_i hz;ext h;show⟨ds,es,rfl,rfl,hz,rfl⟩
   .cases h
theorem we9(D:PB X a x)(C:PB X b y):PF X (.BinOp a .Add b o) (mcat x y):=(xn8 zq8 D C).imp λM H Q f=>by let⟨n,m,F,h,g,rl,e,q⟩:=f;let⟨J,I,G,E,B,rfl⟩:=ya3 e;show⟨n,m,F,h,J,rl,G,λp s L O j v l=>⟨n,m,L,h,I,rl.go j,E,λz r K N d u k=>?_⟩⟩;show⟨p,z,s,r,rfl,rfl,d.hh.seq v,u,by rw[l.length,k.length];show B,λw hw=>?_⟩;have i:=j.trans d;show q w _ K _ (i.trans (Ext.own d.fh hw)) (i.hh.free hw) (d.fh.free hw) z8 ((l.mono d.ff).append k)
noncomputable def addD:D->D->Option D
 | .int i,.int j=>some (.int (i+j))
 | .lst ds,.lst es=>if ds.length+es.length<=sizeLine then some (.lst (ds++es))else none
 |_,_=>none
theorem yc9{K:W.Frag}:OpD K (λx y H Q=>(rI0 λi j=>V.int (i+j)) x y H Q\/wf8 K x y H Q) addD:=by
 intro F H x y d e w Q s r n h q;cases d with
 |int i=>
  cases e with
  |int j=>ext h;show .inl ⟨_,_,r.i',n.i',q _ F H (.refl s) (.int _)⟩
  |_=>ext h
 |lst g=>
  cases e with
  |lst f=>
   let⟨J,z,G,C,m⟩:=r.l';let⟨I,v,E,B,l⟩:=n.l';have h:(if g.length+f.length<=sizeLine then some (D.lst (g++f))else none)=some w:=h;by_cases k:g.length+f.length<=sizeLine
   .rw[aH k]at h;ext h;show .inr ⟨_,_,_,_,G,E,s.seq C,s.seq B,by rw[m.length,l.length];show k,λp u=>?_⟩;show q _ _ _ (Ext.laid s u) (.lst (SqL.of z8) ((m.append l).mono ((Same.refl F).put (s.free u))))
   .rw[aF k]at h;ext h
  |_=>ext h
 |_=>ext h
theorem yd9(f:PD X a A)(d:PD X b t):PD X (.BinOp a .Add b o) (m2 addD A t):=zb5 (OpR.or xb0 zq8) yc9 f d
theorem zj8(f:PD X a A)(d:PD X b t):PD X (.BinOp a .Sub b o) (m2 subD A t):=zb5 xc7 yc4 f d
theorem wc2(f:PD X a A)(d:PD X b t):PD X (.BinOp a .Mult b o) (m2 mulD A t):=zb5 xc8 yc5 f d
theorem wt1(f:PD X a A)(d:PD X b t):PD X (.BinOp a .FloorDiv b o) (m2 yk1 A t):=zb5 ws6 xm9 f d
theorem wc3(f:PD X a A)(d:PD X b t):PD X (.BinOp a .Mod b o) (m2 modD A t):=zb5 wa0 wt9 f d
theorem wd8(f:PD X a A)(d:PD X b t):PD X (.BinOp a .Pow b o) (m2 powD A t):=zb5 wb8 wt7 f d
@[irreducible] noncomputable def w5(f:List D->Option D)(m:ML):ME:=λa=>(m a).bind f
def yj4(K:W.Frag)(r:List V->Hp->VK->Prop)(f:List D->Option D):Prop:=∀(F H:Hp)(vs:List V)(ds:List D)(g:D)(Q:VK),Same F H->Reps K F vs ds->f ds=some g->(∀v F' H',Ext F H F' H'->Rep K F' v g->Q v H')->r vs H Q
theorem zf9{r:List V->Hp->VK->Prop}{f:List D->Option D}(u:yj4 X.K r f)(h:TD X.K (w5 f m) d H Q):tCB r (TAs X.K m) d H Q:=by
 let⟨B,x,F,i,g,p,e,q⟩:=h;delta w5 at e;rcases h1:m i,e with k;show⟨B,x,F,i,k,p,h1,λn z w j s=>u z w n k g Q j.fh s e λv C y l=>q v C y (j.trans l)⟩
noncomputable def lenF:List D->Option D
 |[.lst ds]=>some (.int ds.length)
 |[.tup ds]=>some (.int ds.length)
 |[.str x]=>if x.length<=sizeLine then some (.int x.length)else none
 |_=>none
theorem xv3{K:W.Frag}:yj4 K (λxs H Q=>(∃p d,xs=[.ref p]/\(SqL K H p d\/SqT K H p d)/\Q (.int d.length) H)\/(∃z,xs=[.str z]/\z.length<=sizeLine/\Q (.int z.length) H)) lenF:=by
 intro F H k l g Q s r h q;cases r with
 |nil=>ext h
 |cons r j=>
  cases j with
  |cons _ _=>revert h;delta lenF;intro h;split at h <;> simp_all
  |nil=>
   cases r with
   |lst i f=>ext h;show .inl ⟨_,_,rfl,.inl (s.seq i),by rw[f.length];show q _ F H (.refl s) (.int _)⟩
   |tup i f=>ext h;show .inl ⟨_,_,rfl,.inr (s.seqT i),by rw[f.length];show q _ F H (.refl s) (.int _)⟩
   |str x=>
    have h:(if x.length<=sizeLine then some (D.int x.length)else none)=some g:=h;split at h
    .rename_i hz;ext h;show .inr ⟨_,rfl,hz,q _ F H (.refl s) (.int _)⟩
    .cases h
   |_=>ext h
theorem wc4{e:Expr}(g:Gl X "len")(f:X.mg "len"=none)(j:PAs X [e] m)(i:starEach [e] X.env=(false,eval e X.env)::starEach [] X.env:=by rfl)(d:(backTo o (starEach [] X.env)).any (·.1)=false:=by rfl):PD X (.Call (.Name "len" p) [e] [] o) (w5 lenF m):=
 (j7 (CallR.or G7 zf7) g f PySem.boot_len j ay ay i d).imp λ_ _ _ h=>zf9 xv3 h
theorem zq4{e:Expr}(u:Gl X "len")(s:X.mg "len"=none)(w:PB X e m)(r:starEach (e::[]) X.env=(false,eval e X.env)::starEach [] X.env:=by rfl)(v:starEach [e] X.env=(false,eval e X.env)::starEach [] X.env:=by rfl)(f:(backTo o (starEach [] X.env)).any (·.1)=false:=by rfl):PD X (.Call (.Name "len" p) [e] [] o) (mlen m):=
 (j7 G7 u s PySem.boot_len (j4 w pa_nil r) ay ay v f).imp λD H Q d=>by
  let⟨C,z,F,h,g,l,e,q⟩:=d;delta mlen at e;rcases h1:m h,e with x;ext e;show⟨C,z,F,h,x,l,h1,λp i B y j k n=>⟨p,i,rfl,.inl k,?_⟩⟩;rw[n.length];show q _ B y j (.int _)
noncomputable def absF:List D->Option D
 |[.int i]=>some (.int (if i<0 then -i else i))
 |_=>none
theorem zf3{K:W.Frag}:yj4 K (λxs H Q=>∃i,xs=[.int i]/\Q (.int (if i<0 then -i else i)) H) absF:=by
 intro F H f j g Q s r h q;cases r with
 |nil=>ext h
 |cons r d=>
  cases d with
  |cons _ _=>revert h;delta absF;intro h;split at h <;> simp_all
  |nil=>
   cases r with
   |int i=>ext h;show⟨_,rfl,q _ F H (.refl s) (.int _)⟩
   |_=>ext h
theorem xc2{e:Expr}(g:Gl X "abs")(f:X.mg "abs"=none)(j:PAs X [e] m)(i:starEach [e] X.env=(false,eval e X.env)::starEach [] X.env:=by rfl)(d:(backTo o (starEach [] X.env)).any (·.1)=false:=by rfl):PD X (.Call (.Name "abs" p) [e] [] o) (w5 absF m):=
 (j7 yq4 g f PyProof.Rows.boot_abs j ay ay i d).imp λ_ _ _ h=>zf9 zf3 h
noncomputable def two2(k:Int->Int->Int):List D->Option D
 |[.int i,.int j]=>some (.int (k i j))
 |_=>none
theorem xr7{k:Int->Int->Int}(h:two2 k ds=some g):∃i j,ds=[.int i,.int j]/\g= .int (k i j):=by
 cases ds with
 |nil=>ext h
 |cons d ds=>
  cases ds with
  |nil=>ext d <;> ext h
  |cons e ds=>
   cases ds with
   |cons f ds=>ext d <;> first| (ext h;done)| (ext e <;> ext h)
   |nil=>
    cases d with
    |int i=>
     cases e with
     |int j=>ext h;show⟨i,j,rfl,rfl⟩
     |_=>ext h
    |_=>ext h
theorem zx5{K:W.Frag}{k:Int->Int->Int}:yj4 K (λxs H Q=>∃i j,xs=[.int i,.int j]/\Q (.int (k i j)) H) (two2 k):=by
 intro F H l m g Q s r h q;let⟨i,j,rfl,rfl⟩:=xr7 h;cases r with
 |cons r d=>
  cases d with
  |cons f d=>ext d;rw[r.i',f.i'];show⟨_,_,rfl,q _ F H (.refl s) (.int _)⟩
def K7:List D->Option D:=two2 λi j=>if j>i then j else i
def Q3:List D->Option D:=two2 λi j=>if j<i then j else i
theorem wt0(j:X.calm=true)(g:Gl X "max")(f:X.mg "max"=none)(k:PAs X [x,y] m)(i:starEach [x,y] X.env=(false,eval x X.env)::starEach [y] X.env:=by rfl)(d:(backTo o (starEach [y] X.env)).any (·.1)=false:=by rfl):PD X (.Call (.Name "max" p) [x,y] [] o) (w5 K7 m):=
 (j7 (xv6 j) g f PyProof.Rows.boot_max k ay ay i d).imp λ_ _ _ h=>zf9 (zx5) h
theorem yd7(j:X.calm=true)(g:Gl X "min")(f:X.mg "min"=none)(k:PAs X [x,y] m)(i:starEach [x,y] X.env=(false,eval x X.env)::starEach [y] X.env:=by rfl)(d:(backTo o (starEach [y] X.env)).any (·.1)=false:=by rfl):PD X (.Call (.Name "min" p) [x,y] [] o) (w5 Q3 m):=
 (j7 (zf5 j) g f PyProof.Rows.boot_min k ay ay i d).imp λ_ _ _ h=>zf9 (zx5) h
noncomputable def intF:List D->Option D
 |[.int i]=>some (.int i)
 |[.bl k]=>some (.int (if k then 1 else 0))
 |_=>none
theorem zf2{K:W.Frag}:yj4 K (λxs H Q=>(∃i,xs=[.int i]/\Q (.int i) H)\/∃k,xs=[.bl k]/\Q (.int (if k then 1 else 0)) H) intF:=by
 intro F H f j g Q s r h q;cases r with
 |nil=>ext h
 |cons r d=>
  cases d with
  |cons _ _=>revert h;delta intF;intro h;split at h <;> simp_all
  |nil=>
   cases r with
   |int i=>ext h;show .inl ⟨_,rfl,q _ F H (.refl s) (.int _)⟩
   |bl i=>ext h;show .inr ⟨_,rfl,q _ F H (.refl s) (.int _)⟩
   |_=>ext h
theorem yd8{e:Expr}(i:Gl X "int")(g:X.mg "int"=none)(k:PAs X [e] m)(f:bootBuiltins "int"=some (.type "int"))(j:starEach [e] X.env=(false,eval e X.env)::starEach [] X.env:=by rfl)(d:(backTo o (starEach [] X.env)).any (·.1)=false:=by rfl):PD X (.Call (.Name "int" p) [e] [] o) (w5 intF m):=
 (U4 zf8 i g f k ay ay j d).imp λ_ _ _ h=>zf9 zf2 h
theorem wu0{e:Expr}(u:Gl X "list")(s:X.mg "list"=none)(v:PB X e m)(r:bootBuiltins "list"=some (.type "list"))(h:starEach (e::[]) X.env=(false,eval e X.env)::starEach [] X.env:=by rfl)(g:(backTo o (starEach [] X.env)).any (·.1)=false:=by rfl):PF X (.Call (.Name "list" p) [e] [] o) m:=
 (U4 zf6 u s r (j4 v pa_nil h) ay ay h g).imp λC H Q d=>by let⟨B,y,F,i,x,l,e,q⟩:=d;show⟨B,y,F,i,x,l,e,λp j z D f k n=>⟨p,j,rfl,.inl k,λw hw=>?_⟩⟩;show q w _ z _ (f.trans (Ext.own f.fh hw)) (f.hh.free hw) (f.fh.free hw) z8 n
end
inductive Out where
 |nx (ρ:Ro)|bk (ρ:Ro)|ct (ρ:Ro)|rt (d:D)|rf (ds:List D)|rp (d:D) (ds:List D)|rg (d:D) (p:Addr) (r:List D)|rgf (ds:List D) (p:Addr) (r:List D)
abbrev MS:=Ro->Option Out
def okO(K:W.Frag)(F0 H0 Fb:Hp)(Dn:Ends):Out->Prop
 | .nx a=>∀F H b,Rl K F0 H0 F H b a->Same Fb F->Dn.nx b H
 | .bk a=>∀F H b,Rl K F0 H0 F H b a->Same Fb F->Dn.bk b H
 | .ct a=>∀F H b,Rl K F0 H0 F H b a->Same Fb F->Dn.ct b H
 | .rt d=>∀v F H,Ext F0 H0 F H->Rep K F v d->Dn.rt v H
 | .rf ds=>∀p xs F H,Ext F0 H0 F H->H0 p=none->F p=none->H p=some (.lst xs)->Reps K F xs ds->Dn.rt (.ref p) H
 | .rp d ds=>∀t v p xs F H,Ext F0 H0 F H->H0 t=none->H0 p=none->t≠p->F t=none->F p=none->H t=some (.tup [v,.ref p])->H p=some (.lst xs)->Rep K F v d->Reps K F xs ds->Dn.rt (.ref t) H
 | .rg d p r=>∀v F H xs,Ext F0 H0 F H->Rep K F v d->F p=none->H p=some (.lst xs)->Reps K F xs r->Dn.rt v H
 | .rgf ds p r=>∀q ys F H xs,Ext F0 H0 F H->H0 q=none->F q=none->q≠p->H q=some (.lst ys)->Reps K F ys ds->F p=none->H p=some (.lst xs)->Reps K F xs r->Dn.rt (.ref q) H
def TSd(K:W.Frag)(m:MS):TS:=λDn b H=>∃F0 H0 F a o,Rl K F0 H0 F H b a/\m a=some o/\okO K F0 H0 F Dn o
theorem okO.mono{K:W.Frag}{f d e c:Hp}{Dn:Ends}(s:Same e c):∀{o:Out},okO K f d e Dn o->okO K f d c Dn o
 | .nx _,h=>λF H a b q=>h F H a b (s.trans q)
 | .bk _,h=>λF H a b q=>h F H a b (s.trans q)
 | .ct _,h=>λF H a b q=>h F H a b (s.trans q)
 | .rt _,h=>h
 | .rf _,h=>h
 | .rp _ _,h=>h
 | .rg _ _ _,h=>h
 | .rgf _ _ _,h=>h
def PSd(X:Cx)(st:Stmt)(m:MS):Prop:=PS X st (TSd X.K m)
def PSsd(X:Cx)(st:List Stmt)(m:MS):Prop:=PSs X st (TSd X.K m)
section
variable {X:Cx}{a b c e:Expr}{A C:ME}{st:Stmt}{rest:List Stmt}{m1 B:MS}
theorem PS.imp(h:PS X st t)(i:∀D d H,t' D d H->t D d H):PS X st t':=λf s d H D I q=>h f s d H D I (i D d H q)
theorem PSs.imp(h:PSs X f t)(i:∀D d H,t' D d H->t D d H):PSs X f t':=λg s d H D I q=>h g s d H D I (i D d H q)
def w8:MS:=λa=>some (.nx a)
noncomputable def mseq(x y:MS):MS:=λa=>match x a with |some (.nx ρ')=>y ρ'|o=>o
theorem yu8:PSsd X [] w8:=pss_nil.imp λD f H d=>by let⟨j,i,F,h,o,g,e,ok⟩:=d;ext e;show ok F H f g (Same.refl _)
theorem zj2(v:PSd X st m1)(u:PSsd X rest B):PSsd X (st::rest) (mseq m1 B):=(S2 v u).imp λD x H m=>by
 let⟨i,g,F,f,o,j,e,ok⟩:=m;delta mseq at e;rcases h:m1 f,e with t;cases t with
 |nx k=>show⟨i,g,F,f,_,j,h,λw z q n s=>⟨i,g,w,k,o,n,e,ok.mono s⟩⟩
 |bk k=>ext e;show⟨i,g,F,f,_,j,h,ok⟩
 |ct k=>ext e;show⟨i,g,F,f,_,j,h,ok⟩
 |rt d=>ext e;show⟨i,g,F,f,_,j,h,ok⟩
 |rf d=>ext e;show⟨i,g,F,f,_,j,h,ok⟩
 |rp d y=>ext e;show⟨i,g,F,f,_,j,h,ok⟩
 |rg d p r=>ext e;show⟨i,g,F,f,_,j,h,ok⟩
 |rgf d p r=>ext e;show⟨i,g,F,f,_,j,h,ok⟩
theorem E9(d:PSd X st m1):PSsd X [st] m1:=zc9 d
noncomputable def mif(c:MB)(x y:MS):MS:=λa=>match c a with |some true=>x a|some false=>y a|none=>none
theorem xd6(r:PC' X c n)(q:PSsd X x m)(p:PSsd X y k):PSd X (.If c x y l) (mif n m k):=(ww7 r q p).imp λD t H f=>by
 let⟨i,h,F,g,o,rl,e,ok⟩:=f;delta mif at e;split at e
 .rename_i h1;show⟨i,h,F,g,_,rl,h1,λj s d=>iteT ⟨i,h,j,g,o,rl.go d,e,ok.mono d.ff⟩⟩
 .rename_i h1;show⟨i,h,F,g,_,rl,h1,λj s d=>iteF ⟨i,h,j,g,o,rl.go d,e,ok.mono d.ff⟩⟩
 .cases e
def zi9:MS:=λ_=>none
theorem zj3:PSd X st zi9:=ps_never.imp λD f H d=>by let⟨j,i,F,g,o,h,e,ok⟩:=d;ext e
noncomputable def mset(i:Nat)(x:ME):MS:=λa=>(x a).map λd=>.nx (a.set i (some (.sh d)))
noncomputable def Z4(i:Nat)(x:ML):MS:=λa=>(x a).map λds=>.nx (a.set i (some (.own ds)))
theorem vu5{i:Nat}(h:PS X st (tAsg t (R0 i)))(n:∀g H Q,TD X.K A g H Q->t g H Q):PSd X st (mset i A):=h.imp λD g H f=>by
 let⟨s,q,F,j,o,rl,e,ok⟩:=f;delta mset at e;rcases h1:A j,e with d;ext e;show n _ _ _ ⟨s,q,F,j,d,rl,h1,λv r p k m=>ok r p _ ((rl.go k).set m) k.ff⟩
theorem vk8{i:Nat}(h:PS X st (tAsg t (R0 i)))(w:∀f H Q,TF X.K g f H Q->t f H Q):PSd X st (Z4 i g):=h.imp λD f H d=>by
 let⟨L,I,F,r,o,rl,e,ok⟩:=d;delta Z4 at e;rcases h1:g r,e with E;ext e;show w _ _ _ ⟨L,I,F,r,E,rl,h1,λp M J G s k y x v=>ok J G _ ?_ s.ff⟩;show(rl.go s).setOwn y x v (rl.ext.hh.free k) (λj m N n u=>?_) λj q m n z=>?_
 .let⟨q,ys,a1,a2,a3,_⟩:=rl.own j m n;rw[a1]at u;ext u;rw[k]at a3;ext a3
 .let⟨_,_,_,ys,a3,_⟩:=rl.ob j q m n;rw[z,k]at a3;ext a3
theorem zq1{i:Nat}(m:X.N.Nodup)(hi:X.N[i]? =some x)(f:Loc X.env.scope x)(k:PD X e A)(g:swapsWith e (some (.Name x d)) l.line X.env=pure false:=by rfl)(j:X.fn x=true\/X.env.scope.names.lookup x=some .local:=by first|show .inl rfl|show .inr rfl|assumption):
  PSd X (.Assign [.Name x d] e l) (mset i A):=vu5 (yf7 m hi f k g j) λ_ _ _ h=>h
theorem xo3{i:Nat}(n:X.N.Nodup)(hi:X.N[i]? =some x)(g:Loc X.env.scope x)(m:PF X e f)(j:swapsWith e (some (.Name x d)) l.line X.env=pure false:=by rfl)(k:X.fn x=true\/X.env.scope.names.lookup x=some .local:=by first|show .inl rfl|show .inr rfl|assumption):
  PSd X (.Assign [.Name x d] e l) (Z4 i f):=vk8 (yf7 n hi g m j k) λ_ _ _ h=>h
noncomputable def maug(i:Nat)(x:ME):MS:=λa=>match a[i]? with |some (some (.sh (.int k)))=>(x a).bind (λd=>match d with | .int j=>some (.nx (a.set i (some (.sh (.int (k+j))))))|_=>none)|_=>none
theorem ww5{i:Nat}(r:X.N.Nodup)(hi:X.N[i]? =some x)(n:Loc X.env.scope x)(q:PD X e A)(p:X.fn x=true\/X.env.scope.names.lookup x=some .local:=by first|show .inl rfl|show .inr rfl|assumption):
  PSd X (.AugAssign (.Name x f) .Add e l) (maug i A):=(xd7 r hi n q vw5 p).imp λD G H g=>by
 let⟨E,w,F,h,o,rl,e,ok⟩:=g;delta maug at e;split at e
 .rename_i k h1;let⟨v,t,s⟩:=rl.sh i _ h1;ext s;rcases h2:A h,e with d;show⟨_,t,E,w,F,h,d,rl,h2,λy z u j m=>?_⟩;ext m <;> first| (ext e;done)|skip
  ext e;show⟨_,_,rfl,rfl,ok z u _ ((rl.go j).set (.int _)) j.ff⟩
 .cases e
noncomputable def zo0(x:ME):MS:=λa=>(x a).map λ_=>.nx a
theorem yt0(j:PD X e A)(i:swapsWith e none l.line X.env=pure false:=by rfl):PSd X (.Expr e l) (zo0 A):=(zq2 j i).imp λD q H f=>by
 let⟨p,m,F,g,o,rl,e,ok⟩:=f;delta zo0 at e;rcases h1:A g,e with d;ext e;show⟨p,m,F,g,d,rl,h1,λv n k h r=>ok n k _ (rl.go h) h.ff⟩
def mret(x:ME):MS:=λa=>(x a).map .rt
def zi8(x:ML):MS:=λa=>(x a).map .rf
noncomputable def K5(i:Nat):MS:=λa=>match a[i]? with |some (some (.own ds))=>some (.rf ds)|some (some (.sh d))=>some (.rt d)|_=>none
theorem ww1(j:PD X e A):PSd X (.Return (some e) l) (mret A):=(J4 j).imp λD q H f=>by
 let⟨p,m,F,g,o,rl,e,ok⟩:=f;delta mret at e;rcases h1:A g,e with d;ext e;show⟨p,m,F,g,d,rl,h1,λv n k h i=>ok v n k (rl.ext.trans h) i⟩
theorem yu9(m:PF X e f):PSd X (.Return (some e) l) (zi8 f):=(J4 m).imp λD w H d=>by
 let⟨v,t,F,g,o,rl,e,ok⟩:=d;delta zi8 at e;rcases h1:f g,e with r;ext e;show⟨v,t,F,g,r,rl,h1,λp h u s i k q n j=>ok p h u s (rl.ext.trans i) (rl.ext.hh.free k) q n j⟩
theorem xo5(i:Nat)(h:PE X (.Name x f) (tVar i)):PSd X (.Return (some (.Name x f)) l) (K5 i):=(J4 h).imp λD s H g=>by
 let⟨w,u,F,t,o,rl,e,ok⟩:=g;delta K5 at e;split at e
 .rename_i ds h1;ext e;let⟨p,m,k,j,r,q,n⟩:=rl.own i _ h1;show⟨_,k,ok p m F H rl.ext n j r q⟩
 .rename_i d h1;ext e;let⟨v,k,j⟩:=rl.sh i _ h1;show⟨_,k,ok v F H rl.ext j⟩
 .cases e
noncomputable def mapp(i:Nat)(x:ME):MS:=λa=>match a[i]? with |some (some (.own ds))=>(x a).bind λd=>if ds.length<sizeLine then some (.nx (a.set i (some (.own (ds++[d])))))else none|_=>none
theorem yn2{i:Nat}{e:Expr}(N:PE X (.Name x k) (tVar i))(O:PD X e A)
  (E:∀t,PA X [e] t->PE X (.Call (.Attribute (.Name x k) "append" g) [e] [] f) (tBM X.K "list" A6 (tVar i) t)) (G:PAs X [e] (z6 A anil)) (z:swapsWith (.Call (.Attribute (.Name x k) "append" g) [e] [] f) none l.line X.env=pure false:=by rfl):
  PSd X (.Expr (.Call (.Attribute (.Name x k) "append" g) [e] [] f) l) (mapp i A):=(zq2 (E _ G) z).imp λD u H h=>by
 let⟨L,I,F,m,o,rl,e,ok⟩:=h;delta mapp at e;split at e
 .rename_i ds h1;let⟨p,v,s,Q,q,n,P⟩:=rl.own i _ h1;rcases h2:A m,e with d;split at e
  .rename_i hz;ext e;show⟨_,s,.inl ⟨rfl,_,SqL.of q⟩,L,I,F,m,[d],rl,by delta z6 anil;rw[h2];rfl,λM J R j y=>?_⟩;cases y with
   |cons r w=>ext w;show⟨p,v,_,rfl,rfl,(j.hh _ _ q),by rw[n.length];show hz,ok J _ u ((rl.go j).write h1 s ((n.mono j.ff).append (.cons r .nil))) j.ff⟩
  .cases e
 .cases e
def a9(i:Nat)(ix v:ME):MS:=λa=>(v a).bind λd=>match a[i]? with
 |some (some (.own ds))=>(ix a).bind (λx=>match x with | .int k=>(ixN ds.length k).map λj=>.nx (a.set i (some (.own (ds.set j d))))|_=>none)
 |some (some (.ob p ds))=>(ix a).bind (λx=>match x with | .int k=>(ixN ds.length k).map λj=>.nx (a.set i (some (.ob p (ds.set j d))))|_=>none)
 |_=>none
theorem yf2{i:Nat}(J:PS X st (tAsg (TD X.K C) (gSub (tVar i) (TD X.K A) xp4))):PSd X st (a9 i A C):=J.imp λD E H m=>by
 let⟨x,v,F,g,o,rl,e,ok⟩:=m;delta a9 at e;rcases h1:C g,e with d;show⟨x,v,F,g,d,rl,h1,λy I O h G=>?_⟩;split at e
 .rename_i ds h2;let⟨p,r,q,M,u,n,L⟩:=(rl.go h).own i _ h2;rcases h3:A g,e with t;show⟨_,q,x,v,I,g,t,rl.go h,h3,λz w N f s=>?_⟩;ext s <;> first| (ext e;done)|skip
  rename_i k;have e:(ixN ds.length k).map (λj=>Out.nx (g.set i (some (.own (ds.set j d)))))=some o:=e;rcases h4:ixN ds.length k,e with j;ext e;show⟨p,r,k,j,rfl,rfl,f.hh _ _ u,by rw[n.length];show h4,ok w _ E (((rl.go h).go f).write h2 q (Reps.set (G.mono f.ff) j (n.mono f.ff))) (h.ff.trans f.ff)⟩
 .rename_i p ds h2;let⟨q,M,L,r,u,n⟩:=(rl.go h).ob i p _ h2;rcases h3:A g,e with t;show⟨_,q,x,v,I,g,t,rl.go h,h3,λz w N f s=>?_⟩;ext s <;> first| (ext e;done)|skip
  rename_i k;have e:(ixN ds.length k).map (λj=>Out.nx (g.set i (some (.ob p (ds.set j d)))))=some o:=e;rcases h4:ixN ds.length k,e with j;ext e;show⟨p,r,k,j,rfl,rfl,f.hh _ _ u,by rw[n.length];show h4,ok w _ E (((rl.go h).go f).writeB h2 (Reps.set (G.mono f.ff) j (n.mono f.ff))) (h.ff.trans f.ff)⟩
 .cases e
noncomputable def Y9(i:Nat)(m:MS):MS:=λa=>match a[i]? with |some (some (.own ds))=>m (a.set i (some (.sh (.lst ds))))|_=>m a
theorem zc8(i:Nat)(h:PSsd X d m):PSsd X d (Y9 i m):=h.imp λD r H f=>by
 let⟨k,j,F,n,o,rl,e,ok⟩:=f;delta Y9 at e;split at e
 .rename_i ds h1;let⟨q,g,p⟩:=rl.freeze h1;show⟨k,j,q,_,o,g,e,ok.mono p⟩
 .exact⟨k,j,F,n,o,rl,e,ok⟩
inductive Tg where
 |nm (i:Nat)|tp (is:List Nat)|nt (i:Nat) (is:List Nat)
def R4:List Nat->List D->Ro->Option Ro
 |[],[],a=>some a
 |i::is,d::ds,a=>R4 is ds (a.set i (some (.sh d)))
 |_,_,_=>none
def tgD:Tg->D->Ro->Option Ro
 | .nm i,d,a=>some (a.set i (some (.sh d)))
 | .tp is,.tup ds,a=>R4 is ds a
 | .nt i is,.tup [d,.tup ds],a=>R4 is ds (a.set i (some (.sh d)))
 |_,_,_=>none
def TGd(K:W.Frag)(g:Tg):TG:=λv b H Q=>∃F0 H0 F a d ρ',Rl K F0 H0 F H b a/\Rep K F v d/\tgD g d a=some ρ'/\∀F' H' σ',Rl K F0 H0 F' H' σ' ρ'->Ext F H F' H'->Q σ' H'
def PGd(X:Cx)(tg:Expr)(g:Tg):Prop:=PG X tg (TGd X.K g)
theorem PG.imp(h:PG X g t)(i:∀v d H Q,t' v d H Q->t v d H Q):PG X g t':=λf s d H v u Q I r q=>h f s d H v u Q I r (i v d H Q q)
theorem W5{i:Nat}{l:Pos}(h:PG X (.Name x l) (R0 i)):PGd X (.Name x l) (.nm i):=PG.imp h λv j H Q f=>by let⟨n,m,F,k,d,g,rl,r,e,q⟩:=f;ext e;show q F H _ (rl.set r) (.refl rl.fh)
def gAll:List Nat->TGs
 |[]=>gNil
 |i::is=>xi8 (R0 i) (gAll is)
theorem yz8{K:W.Frag}{m k F H:Hp}{Q:St->Hp->Prop}:∀(h:List Nat)(j:List V)(ds:List D)(g:St)(a ρ':Ro),Rl K m k F H g a->Reps K F j ds->R4 h ds a=some ρ'->(∀f,Rl K m k F H f ρ'->Q f H)->gAll h j g H Q
 |[],_,[],g,a,ρ',rl,r,e,q=>by ext r;ext e;show⟨rfl,q g rl⟩
 |[],_,_::_,_,_,_,_,_,e,_=>by ext e
 |_::_,_,[],_,_,_,_,_,e,_=>by ext e
 |i::h,_,d::ds,g,a,ρ',rl,r,e,q=>by
  cases r with
  |cons r n=>show⟨_,_,rfl,yz8 h _ ds _ _ ρ' (rl.set r) n e q⟩
theorem L8:∀(d:List Nat)(ds:List D)(a ρ':Ro),R4 d ds a=some ρ'->ds.length=d.length
 |[],[],_,_,_=>rfl
 |[],_::_,_,_,e=>by ext e
 |_::_,[],_,_,e=>by ext e
 |_::d,_::ds,a,ρ',e=>bf (·+1) (L8 d ds _ ρ' e)
theorem wv6{k n:Nat}{l:Pos}(h:PG X (.Tuple es k l) (gTup X.K n (gAll g)))(u:g.length=n:=by rfl):PGd X (.Tuple es k l) (.tp g):=PG.imp h λv o H Q f=>by
 let⟨x,w,F,p,d,j,rl,r,e,q⟩:=f;cases r with
 |tup s t=>show⟨_,_,rfl,rl.fh.seqT s,by rw[t.length,L8 _ _ _ _ e,u],yz8 g _ _ o p j rl t e λi m=>q F H i m (.refl rl.fh)⟩
 |_=>ext e
def masg(g:Tg)(x:ME):MS:=λa=>(x a).bind λd=>(tgD g d a).map .nx
theorem ww6(h:PS X st (tAsg (TD X.K A) (TGd X.K g))):PSd X st (masg g A):=h.imp λD x H i=>by
 let⟨q,p,F,f,o,rl,e,ok⟩:=i;delta masg at e;rcases h1:A f,e with d;have e:(tgD g d f).map Out.nx=some o:=e;rcases h2:tgD g d f,e with k;ext e;show⟨q,p,F,f,d,rl,h1,λv u y n s=>⟨q,p,u,f,d,k,rl.go n,s,h2,λw t j m r=>ok w t j m (n.ff.trans r.ff)⟩⟩
structure ItD(K:W.Frag)(F:Hp)(J:It)(its:List D):Prop where
 go:∀(i:Nat) F1 H1,Same F F1->Same F1 H1->i<its.length->J.go i H1
 yld:∀(i:Nat) F1 H1 x H2 d,Same F F1->Same F1 H1->its[i]? =some d->J.yld i H1 x H2->∃F2,Ext F1 H1 F2 H2/\Rep K F2 x d
 stop:∀F1 H1,Same F F1->Same F1 H1->J.stop its.length H1
def TId(K:W.Frag)(mi:ML):TI:=λb H R=>∃F0 H0 F a its,Rl K F0 H0 F H b a/\mi a=some its/\∀J F' H',Ext F H F' H'->ItD K F' J its->R J H'
def PId(X:Cx)(tg iter:Expr)(mi:ML):Prop:=PI X tg iter (TId X.K mi)
theorem PI.imp(h:PI X g it t)(i:∀d H R,t' d H R->t d H R):PI X g it t':=λf s d H R I q=>h f s d H R I (i d H R q)
theorem xi2{K:W.Frag}{F:Hp}{p:Addr}{xs:List V}{ds:List D}(s:SqL K F p xs)(r:Reps K F xs ds):ItD K F (Itl K p) ds where
 go:=λi f g a b hi=>by let⟨v,e,_⟩:=r.get (aG hi);show⟨xs,v,b.seq (a.seq s),e⟩
 yld:=λi f g x k d a b e y=>by let⟨rfl,y⟩:=y;let⟨v,j,h⟩:=r.get e;have:=y xs (b.seq (a.seq s));rw[j]at this;ext this;show⟨f,.refl b,h.mono a⟩
 stop:=λf g a b=>⟨xs,b.seq (a.seq s),by rw[r.length];show aK _⟩
theorem zq3(m:PD X e A):PId X h e (u4 A):=PI.imp (wv5 m) λu H R d=>by
 let⟨r,o,F,g,k,i,e,q⟩:=d;delta u4 at e;split at e
 .rename_i ds h1;ext e;show⟨r,o,F,g,_,i,h1,λv p n f j=>?_⟩;cases j with
  |lst s t=>show⟨_,rfl,⟨_,f.fh.seq s⟩,q _ p n f (xi2 s t)⟩
 .cases e
noncomputable def U2(lo:Int)(n:Nat):List D:=(List.range n).map λ(i:Nat)=>D.int (lo+(i:Int))
theorem O4(lo:Int)(n:Nat):(U2 lo n).length=n:=by delta U2;simp
theorem zh9{K:W.Frag}{F:Hp}{lo:Int}{n:Nat}:ItD K F (Itr lo n) (U2 lo n) where
 go:=λi f g a b hi=>by rw[O4]at hi;show hi
 yld:=λi f g x j d a b e y=>by
  let⟨rfl,rfl⟩:=y;delta U2 at e;rw[bn]at e;have hi:i<n:=by
   rcases bi i n with h|h
   .exact h
   .rw[aY (by simpa using h)]at e;ext e
  rw[cw hi]at e;ext e;show⟨f,.refl b,.int _⟩
 stop:=λf g a b=>by rw[O4];show aK n
noncomputable def okR(j:Int):Bool:=decide (-(2^62)<=j)&&decide (j<2^62)
def rng1:List D->Option (List D)
 |[.int j]=>if okR j=true then some (U2 0 j.toNat)else none
 |_=>none
def rng2:List D->Option (List D)
 |[.int i,.int j]=>if (okR i&&okR j)=true then some (U2 i (j-i).toNat)else none
 |_=>none
@[irreducible] noncomputable def w4(f:List D->Option (List D))(m:ML):ML:=λa=>(m a).bind f
theorem g8{f:List D->Option (List D)}{a:Ro}(h:w4 f m a=some gs):∃ds,m a=some ds/\f ds=some gs:=by
 delta w4 at h;rcases h1:m a,h with ds;show⟨ds,rfl,h⟩
theorem yn4{i a:Expr}{p l:Pos}(v:Gl X "range")(u:X.mg "range"=none)(w:PAs X [a] m)(t:starEach [a] X.env=[(false,eval a X.env)]:=by rfl):PId X i (.Call (.Name "range" p) [a] [] l) (w4 rng1 m):=PI.imp (yd0 v u w t) λI H R f=>by
 let⟨G,D,F,g,s,n,e,q⟩:=f;let⟨y,x,d⟩:=g8 e;show⟨G,D,F,g,y,n,x,λJ E z h o=>?_⟩;delta rng1 at d;split at d
 .rename_i j;split at d
  .rename_i hk;ext d;delta okR at hk;simp at hk;cases o with
   |cons r k=>ext k;ext r;show⟨j,rfl,hk.1,hk.2,q _ E z h zh9⟩
  .cases d
 .cases d
theorem K3{o a b:Expr}{p l:Pos}(y:Gl X "range")(x:X.mg "range"=none)(z:PAs X [a,b] m)(w:starEach [a,b] X.env=[(false,eval a X.env),(false,eval b X.env)]:=by rfl)(h:starEach [b] X.env=[(false,eval b X.env)]:=by rfl):PId X o (.Call (.Name "range" p) [a,b] [] l) (w4 rng2 m):=PI.imp (ye9 y x z w h) λL H R f=>by
 let⟨K,I,F,k,v,s,e,q⟩:=f;let⟨E,D,d⟩:=g8 e;show⟨K,I,F,k,E,s,D,λM J G n u=>?_⟩;delta rng2 at d;split at d
 .rename_i i j;split at d
  .rename_i hk;ext d;delta okR at hk;simp at hk;cases u with
   |cons r g=>
    cases g with
    |cons t g=>ext g;ext r;ext t;show⟨i,j,rfl,⟨hk.1.1,hk.1.2,hk.2.1,hk.2.2⟩,q _ J G n zh9⟩
  .cases d
 .cases d
noncomputable def zip2:List D->Option (List D)
 |[.lst ds,.lst es]=>some (List.zipWith (λd e=>.tup [d,e]) ds es)
 |_=>none
theorem xi1{K:W.Frag}{F:Hp}{p q:Addr}{xs f:List V}{ds es:List D}(s:SqL K F p xs)(r:Reps K F xs ds)(h:SqL K F q f)(j:Reps K F f es):ItD K F (Itz2 K p q) (List.zipWith (λd e=>D.tup [d,e]) ds es) where
 go:=λi g n a b hi=>by rw[length_zipWith]at hi;let⟨v,e,_⟩:=r.get (aG (show i<ds.length by lia));let⟨w,J,_⟩:=j.get (aG (show i<es.length by lia));show⟨xs,f,v,w,b.seq (a.seq s),b.seq (a.seq h),e,J⟩
 yld:=λi g n x N d a b e y=>by let⟨t,u,v,rfl,m,rfl,z,o⟩:=y;let⟨M,I,G⟩:=r.get' (z xs (b.seq (a.seq s)));let⟨L,H,E⟩:=j.get' (o f (b.seq (a.seq h)));rw[getElem?_zipWith,I,H]at e;ext e;show⟨upd g t (.tup [u,v]),Ext.laid b m,.tup (SqT.of z8) ?_⟩;have k:Same F (upd g t (.tup [u,v])):=a.trans ((Same.refl g).put (b.free m));show .cons (G.mono k) (.cons (E.mono k) .nil)
 stop:=λg n a b=>⟨xs,f,b.seq (a.seq s),b.seq (a.seq h),by rw[r.length,j.length,length_zipWith];lia⟩
theorem xn2{tk:Nat}{a b:Expr}{p l:Pos}(z:Gl X "zip")(y:X.mg "zip"=none)(D:PAs X [a,b] m)(x:starEach [a,b] X.env=[(false,eval a X.env),(false,eval b X.env)]:=by rfl)(i:starEach [b] X.env=[(false,eval b X.env)]:=by rfl):PId X (.Tuple es tk tp) (.Call (.Name "zip" p) [a,b] [] l) (w4 zip2 m):=PI.imp (wv4 z y D x i) λM H R d=>by
 let⟨L,J,F,k,w,o,e,q⟩:=d;let⟨G,E,f⟩:=g8 e;show⟨L,J,F,k,G,o,E,λN K I g v=>?_⟩;delta zip2 at f;split at f
 .cases f;cases v with
  |cons r h=>
   cases h with
   |cons u h=>
    ext h;cases r with
    |lst s t=>
     cases u with
     |lst j n=>show⟨_,_,_,_,rfl,g.fh.seq s,g.fh.seq j,q _ K I g (xi1 s t j n)⟩
 .cases f
noncomputable def G8:List D->List D->List D->List D
 |d::ds,e::es,f::fs=>.tup [d,e,f]::G8 ds es fs
 |_,_,_=>[]
theorem U0:∀ds es fs,(G8 ds es fs).length=min ds.length (min es.length fs.length)
 |[],_,_=>by simp[G8]
 |_::_,[],_=>by simp[G8]
 |_::_,_::_,[]=>by simp[G8]
 |_::ds,_::es,_::fs=>by simp only[G8,length_cons,U0 ds es fs];lia
theorem zm3:∀ds es g (i:Nat) d e f,ds[i]? =some d->es[i]? =some e->g[i]? =some f->(G8 ds es g)[i]? =some (.tup [d,e,f])
 |[],_,_,_,_,_,_,h,_,_=>by simp at h
 |_::_,[],_,_,_,_,_,_,h,_=>by simp at h
 |_::_,_::_,[],_,_,_,_,_,_,h=>by simp at h
 |_::ds,_::es,_::g,0,d,e,f,m,k,j=>by simp at m k j;subst m k j;rfl
 |_::ds,_::es,_::g,i+1,d,e,f,m,k,j=>by have:=zm3 ds es g i d e f (by simpa using m) (by simpa using k) (by simpa using j);simpa[G8]using this
def zip3:List D->Option (List D)
 |[.lst ds,.lst es,.lst fs]=>some (G8 ds es fs)
 |_=>none
theorem xi0{K:W.Frag}{F:Hp}{p q o:Addr}{xs j h:List V}{ds es fs:List D}(s:SqL K F p xs)(r:Reps K F xs ds)(m:SqL K F q j)(n:Reps K F j es)(f:SqL K F o h)(g:Reps K F h fs):ItD K F (Itz3 K p q o) (G8 ds es fs) where
 go:=λi k H a b hi=>by rw[U0]at hi;let⟨v,e,_⟩:=r.get (aG (show i<ds.length by lia));let⟨w,S,_⟩:=n.get (aG (show i<es.length by lia));let⟨u,E,_⟩:=g.get (aG (show i<fs.length by lia));show⟨xs,j,h,v,w,u,b.seq (a.seq s),b.seq (a.seq m),b.seq (a.seq f),e,S,E⟩
 yld:=λi k H x Z d a b e y=>by let⟨t,u,v,w,rfl,G,rfl,L,J,I⟩:=y;let⟨Y,R,O⟩:=r.get' (L xs (b.seq (a.seq s)));let⟨U,Q,N⟩:=n.get' (J j (b.seq (a.seq m)));let⟨T,P,M⟩:=g.get' (I h (b.seq (a.seq f)));rw[zm3 _ _ _ i Y U T R Q P]at e;ext e;show⟨upd k t (.tup [u,v,w]),Ext.laid b G,.tup (SqT.of z8) ?_⟩;have z:Same F (upd k t (.tup [u,v,w])):=a.trans ((Same.refl k).put (b.free G));show .cons (O.mono z) (.cons (N.mono z) (.cons (M.mono z) .nil))
 stop:=λk H a b=>⟨xs,j,h,b.seq (a.seq s),b.seq (a.seq m),b.seq (a.seq f),by rw[r.length,n.length,g.length,U0];lia⟩
theorem xn1{tk:Nat}{a b c:Expr}{p l:Pos}(I:Gl X "zip")(G:X.mg "zip"=none)(J:PAs X [a,b,c] m)(E:starEach [a,b,c] X.env=(false,eval a X.env)::starEach [b,c] X.env:=by rfl)(i:∀l,((backTo l (starEach [b,c] X.env)).any λx=>x.1)=false:=by intro _;rfl):PId X (.Tuple es tk tp) (.Call (.Name "zip" p) [a,b,c] [] l) (w4 zip3 m):=PI.imp (wv3 I G J E i) λQ H R f=>by
 let⟨P,N,F,n,D,v,e,q⟩:=f;let⟨L,K,h⟩:=g8 e;show⟨P,N,F,n,L,v,K,λS O M g z=>?_⟩;delta zip3 at h;split at h
 .cases h;cases z with
  |cons r d=>
   cases d with
   |cons y d=>
    cases d with
    |cons w d=>
    ext d;cases r with
    |lst s t=>
     cases y with
     |lst k u=>
      cases w with
      |lst j o=>show⟨_,_,_,_,_,_,rfl,g.fh.seq s,g.fh.seq k,g.fh.seq j,q _ O M g (xi0 s t k u j o)⟩
 .cases h
noncomputable def V9:Nat->List D->List D
 |_,[]=>[]
 |i,d::ds=>.tup [.int i,d]::V9 (i+1) ds
theorem U8:∀i ds,(V9 i ds).length=ds.length
 |_,[]=>rfl
 |i,_::ds=>by simp[V9,U8 (i+1) ds]
theorem zg8:∀(k:Nat) ds (i:Nat) d,ds[i]? =some d->(V9 k ds)[i]? =some (.tup [.int ((k+i:Nat):Int),d])
 |_,[],_,_,h=>by simp at h
 |k,_::ds,0,d,h=>by simp at h;subst h;rfl
 |k,_::ds,i+1,d,h=>by have:=zg8 (k+1) ds i d (by simpa using h);have e:k+1+i=k+(i+1):=aw;rw[e]at this;simpa[V9]using this
def Q8:List D->Option (List D)
 |[.lst ds]=>some (V9 0 ds)
 |_=>none
theorem xi3{K:W.Frag}{F:Hp}{p:Addr}{xs:List V}{ds:List D}(s:SqL K F p xs)(r:Reps K F xs ds):ItD K F (Ite K p) (V9 0 ds) where
 go:=λi f h a b hi=>by rw[U8]at hi;let⟨v,e,_⟩:=r.get (aG hi);show⟨xs,v,b.seq (a.seq s),e⟩
 yld:=λi f h x o d a b e y=>by let⟨t,u,rfl,g,rfl,j⟩:=y;let⟨n,m,k⟩:=r.get' (j xs (b.seq (a.seq s)));rw[zg8 0 ds i n m,cg]at e;ext e;show⟨upd f t (.tup [.int i,u]),Ext.laid b g,.tup (SqT.of z8) ?_⟩;show .cons (.int _) (.cons (k.mono (a.trans ((Same.refl f).put (b.free g)))) .nil)
 stop:=λf h a b=>⟨xs,b.seq (a.seq s),by rw[r.length,U8];show aK _⟩
theorem xn4{tk:Nat}{a:Expr}{p l:Pos}(v:Gl X "enumerate")(u:X.mg "enumerate"=none)(w:PAs X [a] m)(o:starEach [a] X.env=[(false,eval a X.env)]:=by rfl):PId X (.Tuple es tk tp) (.Call (.Name "enumerate" p) [a] [] l) (w4 Q8 m):=PI.imp (yd1 v u w o) λI H R d=>by
 let⟨G,D,F,h,n,j,e,q⟩:=d;let⟨y,x,f⟩:=g8 e;show⟨G,D,F,h,y,j,x,λJ E z g k=>?_⟩;delta Q8 at f;split at f
 .cases f;cases k with
  |cons r i=>
   ext i;cases r with
   |lst s t=>show⟨_,_,rfl,g.fh.seq s,q _ E z g (xi3 s t)⟩
 .cases f
end
def forD(g:Tg)(body:MS):List D->MS
 |[],a=>some (.nx a)
 |d::ds,a=>match tgD g d a with
  |some ρ1=>match body ρ1 with
   |some (.nx ρ2)=>forD g body ds ρ2
   |some (.ct ρ2)=>forD g body ds ρ2
   |some (.bk ρ2)=>some (.nx ρ2)
   |o=>o
  |none=>none
def mfor(mi:ML)(g:Tg)(body:MS):MS:=λa=>(mi a).bind λits=>forD g body its a
theorem N8{a:Type}{xs:List a}{i:Nat}{d:a}(h:xs[i]? =some d):xs.drop i=d::xs.drop (i+1):=by let⟨b,e⟩:=bg.mp h;rw[cP b,e]
section
variable {a b c e:Expr}{j f:ME}{h:Pos}
theorem ww4{f:MS}(hp:PassesOwn (model X.prog X.w) X.A X.env X.xe)(hc:X.calm=true)(hi:PId X Y u mi)(hg:PGd X Y g)(hb:PSsd X v f)
  (hs:∀x,foldedSetIterable u X.env x=pure x:=by intro _;rfl):PSd X (.For Y u v [] h) (mfor mi g f):=(yf8 hp hc hi hg hb hs).imp λDn a H P=>by
 let⟨T,R,F,V,o,rl,e,ok⟩:=P;delta mfor at e;cases h1:mi V with
 |none=>rw[h1]at e;ext e
 |some l=>
  rw[h1]at e;show⟨T,R,F,V,l,rl,h1,λJ F1 H1 W I=>?_⟩;show⟨λi m B G=>∃E q,Rl X.K T R E G B q/\Same F1 E/\i<=l.length/\m=l.length-i/\forD g f (l.drop i) q=some o,⟨_,F1,V,rl.go W,Same.refl _,aW _,rfl,e⟩,?_⟩;rintro i m B G ⟨E,q,t,N,a2,rfl,n⟩;by_cases D:i<l.length
  .right;have hd:=aG D;show⟨I.go i E G N t.fh D,λM U=>∃L k,Rl X.K T R L U M k/\Same F1 L/\forD g f (l.drop (i+1)) k=some o,?_,λx U y=>?_⟩
   .rintro M U ⟨L,k,rl2,sf2,e2⟩;show⟨l.length-(i+1),ax,L,k,rl2,sf2,D,rfl,e2⟩
   .let⟨L,x2,r2⟩:=I.yld i E G x U _ N t.fh hd y;rw[N8 hd]at n;unfold forD at n;cases h2:tgD g l[i] q with
    |none=>simp only[h2]at n;ext n
    |some C=>
     simp only[h2]at n;show⟨T,R,L,q,_,C,t.go x2,r2,h2,λF3 H3 a1 a0 x3=>?_⟩;have Z:=(N.trans x2.ff).trans x3.ff;cases h3:f C with
     |none=>simp only[h3]at n;ext n
     |some o1=>
      simp only[h3]at n;show⟨T,R,F3,C,o1,a0,h3,?_⟩;cases o1 with
      |nx k=>show λS H4 z s O=>⟨S,k,s,Z.trans O,n⟩
      |ct k=>show λS H4 z s O=>⟨S,k,s,Z.trans O,n⟩
      |bk k=>ext n;show λS H4 z s O=>ok S H4 z s ((W.ff.trans Z).trans O)
      |rt d=>ext n;show ok
      |rf d=>ext n;show ok
      |rp d ds=>ext n;show ok
      |rg d p r=>ext n;show ok
      |rgf d p r=>ext n;show ok
  .left;have Q:i=l.length:=ax;subst Q;rw[drop_length]at n;ext n;show⟨I.stop E G N t.fh,ok E G B t (W.ff.trans N)⟩
end
noncomputable def P3(src:Qd)(a:Ro):Ro:=src.map λo=>o.bind λi=>match a[i]? with |some (some (.sh d))=>some (.sh d)|_=>none
def c9(g:Tg)(c:MB)(elt:ME):List D->Ro->List D->Option (List D)
 |[],_,acc=>some acc
 |d::ds,a,acc=>match tgD g d a with
  |some ρ1=>match c ρ1 with
   |some true=>match elt ρ1 with
    |some x=>if acc.length<sizeLine then c9 g c elt ds ρ1 (acc++[x])else none
    |none=>none
   |some false=>c9 g c elt ds ρ1 acc
   |none=>none
  |none=>none
@[irreducible] def t9(src:Qd)(mi:ML)(g:Tg)(c:MB)(elt:ME):ML:=λa=>(mi a).bind λits=>c9 g c elt its (P3 src a) []
def NoOwn(a:Ro):Prop:=∀(i:Nat) ds,a[i]? ≠some (some (.own ds))/\∀p,a[i]? ≠some (some (.ob p ds))
theorem NoOwn.set(h:NoOwn f)(i:Nat)(d:D):NoOwn (f.set i (some (.sh d))):=λj b=>⟨λe=>by
 by_cases a:i=j
 .subst a;have c:i<f.length:=by
   rcases bi i f.length with z|z
   .exact z
   .rw[aY (by simpa using z)]at e;ext e
  rw[aN c]at e;ext e
 .rw[aR a]at e;show(h j b).1 e,λp e=>(h j b).2 p (k7 e).2⟩
theorem NoOwn.all:∀(a:List Nat)(ds:List D){b ρ':Ro},NoOwn b->R4 a ds b=some ρ'->NoOwn ρ'
 |[],[],b,ρ',h,e=>by ext e;show h
 |[],_::_,_,_,_,e=>by ext e
 |_::_,[],_,_,_,e=>by ext e
 |i::a,d::ds,b,ρ',h,e=>NoOwn.all a ds (h.set i d) e
theorem NoOwn.tg(h:NoOwn c)(e:tgD g d c=some ρ'):NoOwn ρ':=by
 cases g with
 |nm i=>ext e;show h.set i d
 |tp a=>ext d <;> first| (ext e;done)|show NoOwn.all a _ h e
 |nt i a=>
  cases d with
  |tup b=>
   match b,e with
   |[d,.tup b],e=>show NoOwn.all a _ (h.set i d) e
  |_=>ext e
theorem Rl.blk{K:W.Frag}{s n F H:Hp}(r:Rl K s n F H f t)(src:Qd):Rl K F H F H (blk0 src f) (P3 src t)/\NoOwn (P3 src t):=by
 have c:∀(i:Nat) x,(P3 src t)[i]? =some (some x)->∃d,x=S.sh d:=λi x e=>by
  unfold P3 at e;rw[bn]at e;rcases h:src[i]?,e with o;cases o with
  |none=>ext e
  |some k=>
   simp at e;split at e
   .cases e;show⟨_,rfl⟩
   .cases e
 have b:NoOwn (P3 src t):=λi a=>⟨λe=>(by let⟨d,z⟩:=c i _ e;ext z),λp e=>(by let⟨d,z⟩:=c i _ e;ext z)⟩;show⟨⟨.refl r.fh,by unfold blk0 P3;simp,λi d e=>?_,λi a e=>aV e (b i a).1,λi j p a g _ e=>aV e (b i a).1,λi p a e=>aV e ((b i a).2 p),λi j p a g e=>aV e ((b i a).2 p),λi j p q a g e=>aV e ((b i a).2 p)⟩,b⟩;unfold P3 at e;unfold blk0;rw[bn]at e ⊢;rcases h:src[i]?,e with o;cases o with
 |none=>ext e
 |some k=>
  simp at e ⊢;split at e
  .rename_i d' h';ext e;let⟨v,m,l⟩:=r.sh k _ h';show⟨v,by rw[m];rfl,l⟩
  .cases e
theorem Rl.other{K:W.Frag}{f b F H:Hp}(r:Rl K f b F H c j)(d:NoOwn j)(h:b p=none)(g:F p=none):Rl K f b F (upd H p o) c j:=
 ⟨⟨r.ext.ff,r.ext.hh.put h,r.ext.fh.put g,r.ext.new,r.ext.nf⟩,r.len,r.sh,λi a e=>aV e (d i a).1,r.inj,λi p a e=>aV e ((d i a).2 p),r.obn,r.ob1⟩
theorem Rl.rebase{K:W.Frag}{g F H:Hp}(r:Rl K g (upd g p (.lst xs)) F H j s)(m:F p=none)(o:g p=none):Rl K g (upd g p (.lst k)) F (upd H p (.lst k)) j s:=by
 have l:∀q,upd g p (.lst xs) q=none->q≠p:=λq z w=>by rw[w,z8]at z;ext z
 show⟨⟨r.ext.ff,λb u e=>?_,r.fh.put m,λb e n=>?_,r.ext.nf⟩,r.len,r.sh,λi h e=>?_,r.inj,λi q h e=>?_,r.obn,r.ob1⟩
 .by_cases hb:b=p
  .subst hb;rw[z8]at e ⊢;show e
  .rw[z9 hb]at e ⊢;show r.ext.hh b u (by rw[z9 hb];show e)
 .have hb:b≠p:=λw=>by rw[w,m]at n;show n rfl
  rw[z9 hb];show e
 .let⟨q,zs,a,b,c,d,z⟩:=r.own i h e;have f:=l q z;rw[z9 f]at z;show⟨q,zs,a,b,by rw[z9 f];show c,d,by rw[z9 f];show z⟩
 .let⟨a,b,z,zs,c,d⟩:=r.ob i q h e;have f:=l q z;rw[z9 f]at z;show⟨a,b,by rw[z9 f];show z,zs,by rw[z9 f];show c,d⟩
theorem Ext.acc{F H a b:Hp}(x:Ext F H a b)(c:H p=none)(d:a p=none):Ext F H a (upd b p o):=⟨x.ff,x.hh.put c,x.fh.put d,x.new,x.nf⟩
theorem Ext.stay(f:Ext e d c g)(b:e p=none)(a:d p=some o):c p=none:=by
 cases qq:c p with
 |none=>rfl
 |some u=>have:=f.new p b (by rw[qq];simp);rw[this]at a;ext a
theorem Rl.noB{K:W.Frag}{F H:Hp}(r:Rl K F H F H c g)(d:NoOwn g)(f:H p=none):Rl K F (upd F p (.lst [])) F (upd H p (.lst [])) c g:=
 ⟨⟨Same.refl F,r.fh.put2,r.fh.put (r.fh.free f),λb e n=>aV e n,λ_ _ _ z=>z⟩,r.len,r.sh,λi a e=>aV e (d i a).1,r.inj,λi p a e=>aV e ((d i a).2 p),r.obn,r.ob1⟩
theorem yk4{ds acc out:List D}(h:c9 g c a (d::ds) e acc=some out):∃ρ1,tgD g d e=some ρ1/\((c ρ1=some false/\c9 g c a ds ρ1 acc=some out)\/∃x,c ρ1=some true/\a ρ1=some x/\acc.length<sizeLine/\c9 g c a ds ρ1 (acc++[x])=some out):=by
 rw[c9]at h;rcases h2:tgD g d e,h with ρ1;simp only at h;show⟨ρ1,rfl,?_⟩;rcases h3:c ρ1,h with k;cases k with
 |false=>show .inl ⟨rfl,h⟩
 |true=>
  rcases h4:a ρ1,h with x;simp only at h;by_cases b:acc.length<sizeLine
  .rw[aH b]at h;show .inr ⟨x,rfl,rfl,b,h⟩
  .rw[aF b]at h;ext h
theorem zg9{K:PySem.W.Frag}{src:Qd}{g:Tg}{c:MB}{H:ME}{f out:List D}{h R:Hp}{σ:St}{M:Ro}{p:Addr}{J:It}{Q:VK}(f1:Same h R)(hp:R p=none)(rb:Rl K h (upd h p (.lst [])) h (upd R p (.lst [])) (blk0 src σ) M)(I:ItD K h J f)(e:c9 g c H f M []=some out)
  (q:∀xs l a,Ext h R l a->l p=none->a p=some (.lst xs)->Reps K l xs out->Q (.ref p) a):
  ∃W:Nat->Nat->St->Hp->Prop,(∃m,W 0 m (blk0 src σ) (upd R p (.lst [])))/\∀i m s a,W i m s a->
   (J.stop i a/\Q (.ref p) a)\/(J.go i a/\∃N:St->Hp->Prop,(∀r n,N r n->∃m',m'<m/\W (i+1) m' r n)/\∀x n,J.yld i a x n->TGd K g x s n λo H3=>TC K c o H3 λb Z=>
    if b=true then TD K H o Z λy H5=>∃xs,H5 p=some (.lst xs)/\xs.length<sizeLine/\N o (upd H5 p (.lst (xs++[y])))else N o Z):=by
 have O:=f1.free hp;show⟨λi m s a=>∃l C A xs,Rl K h (upd h p (.lst xs)) l a s C/\Ext h R l a/\a p=some (.lst xs)/\l p=none/\Reps K l xs A/\i<=f.length/\m=f.length-i/\c9 g c H (f.drop i) C A=some out,
  ⟨_,h,M,[],[],rb,(Ext.refl f1).acc hp O,z8,O,.nil,aW _,rfl,e⟩,?_⟩
 rintro i m s a ⟨l,C,A,xs,G,S,z,P,X,a0,rfl,Y⟩;by_cases w:i<f.length
 .right;have hd:=aG w;show⟨I.go i l a S.ff G.fh w,λr n=>∃L B j t,Rl K h (upd h p (.lst t)) L n r B/\Ext h R L n/\n p=some (.lst t)/\L p=none/\Reps K L t j/\c9 g c H (f.drop (i+1)) B j=some out,?_,λx n y=>?_⟩
  .rintro r n ⟨L,B,j,t,b1,b2,b3,b4,b5,b6⟩;show⟨f.length-(i+1),Nat.sub_lt_sub_left w (bZ i),L,B,j,t,b1,b2,b3,b4,b5,w,rfl,b6⟩
  .let⟨L,x2,r2⟩:=I.yld i l a x n _ S.ff G.fh hd y;rw[N8 hd]at Y;let⟨k,h2,e3⟩:=yk4 Y;show⟨h,_,L,C,_,k,G.go x2,r2,h2,λF3 H3 o u x3=>?_⟩;have U:=x2.trans x3;rcases e3 with⟨h3,e4⟩|⟨d,h3,h4,hz,e4⟩
   .refine⟨h,_,F3,k,false,u,h3,λF4 Z T=>?_⟩;have F:=U.trans T;show iteF ⟨F4,k,A,xs,u.go T,S.trans F,F.hh _ _ z,F.stay P z,X.mono F.ff,e4⟩
   .refine⟨h,_,F3,k,true,u,h3,λF4 Z T=>iteT ⟨h,_,F4,k,d,u.go T,h4,λv F5 H5 x5 r5=>?_⟩⟩;have E:=(U.trans T).trans x5;have pn:=E.stay P z;show⟨xs,E.hh _ _ z,by rw[X.length];show hz,F5,k,A++[d],xs++[v],((u.go T).go x5).rebase pn O,(S.trans E).acc hp pn,z8,pn,(X.mono E.ff).append (.cons r5 .nil),e4⟩
 .left;have V:=Nat.le_antisymm a0 (Nat.le_of_not_lt w);subst V;rw[drop_length]at Y;ext Y;show⟨I.stop l a S.ff G.fh,q xs l a S P z X⟩
section
variable {X:Cx}{a b c e:Expr}{st:Stmt}
def PTsd(X:Cx)(ifs:List Expr)(c:MB):Prop:=PTs X ifs (TC X.K c)
def cyes:MB:=λ_=>some true
theorem O5:PTsd X [] cyes:=λd s g H Q I f=>by let⟨j,i,F,h,b,rl,e,q⟩:=f;ext e;show ww0 d s g H Q I (q F H (.refl rl.fh))
theorem xp6(h:PC' X c ca):PTsd X [c] ca:=wx9 h
theorem xw8{K:W.Frag}{src:Qd}{c:MB}(h:TF K (t9 src mi g c d) o H Q):zr0 src (TId K mi) (TGd K g) (TC K c) (TD K d) o H Q:=by
 let⟨D,B,F,r,x,rl,e,q⟩:=h;delta t9 at e;rcases h1:mi r,e with i;show⟨D,B,F,r,i,rl,h1,λJ M L f I p j=>?_⟩;let⟨v,A⟩:=(rl.go f).blk src;show zg9 f.fh j (v.noB A j) I e λs G C t n k w=>q p s G C (f.trans t) (f.hh.free j) n k w
theorem zb2{src:Qd}(B:Blk X f N src)(v:X.calm=true)
  (hi:PId X k d mi) (r:∀C fp s H,PGd (d8 X f C N fp s H) k g) (p:∀C fp s H,PTsd (d8 X f C N fp s H) i o) (t:∀C fp s H,PD (d8 X f C N fp s H) j n)
  (q:∀x,foldedSetIterable d X.env x=pure x:=by intro _;rfl):
  PF X (.ListComp j [⟨k,d,i,0⟩] f y) (t9 src mi g o n):=(zb4 (g:=TGd X.K g) (tc:=TC X.K o) (te:=TD X.K n) B v hi (λC fp s H=>r C fp s H) (λC fp s H=>p C fp s H) (λC fp s H=>t C fp s H) q).imp λ_ _ _ h=>xw8 h
theorem we7(h:TD X.K (mlst l) f H Q):TF X.K l f H Q:=by
 let⟨A,v,F,g,d,r,e,q⟩:=h;delta mlst at e;rcases hm:l g,e with t;ext e;show⟨A,v,F,g,t,r,hm,λp k j w x o i s n=>?_⟩;show q _ (upd j p (.lst k)) w (x.freeze i o s) (.lst (SqL.of z8) (n.mono ((Same.refl j).put i)))
theorem yf3{i:Nat}{src:Qd}(h:PS X st (tAsg (zr0 src (TId X.K mi) (TGd X.K g) (TC X.K f) (TD X.K d)) (R0 i))):PSd X st (mset i (mlst (t9 src mi g f d))):=vu5 h λ_ _ _ q=>xw8 (we7 q)
def V4(c:MB)(body:MS):Nat->MS
 |0,_=>none
 |n+1,a=>match c a with
  |some true=>match body a with
   |some (.nx ρ2)=>V4 c body n ρ2
   |some (.ct ρ2)=>V4 c body n ρ2
   |some (.bk ρ2)=>some (.nx ρ2)
   |o=>o
  |some false=>some (.nx a)
  |none=>none
theorem yf1{u:MS}(n:Nat)(W:PassesOwn (model X.prog X.w) X.A X.env X.xe)(Y:PC' X c C)(Z:PSsd X j u):PSd X (.While c j [] y) (V4 C u n):=(xo8 W Y Z).imp λDn a H B=>by
 let⟨L,I,F,U,o,V,e,ok⟩:=B;show⟨λm s S=>∃M h,Rl X.K L I M S s h/\Same F M/\V4 C u m h=some o,⟨n,F,U,V,Same.refl _,e⟩,?_⟩;rintro m s S ⟨M,h,t,P,g⟩;cases m with
 |zero=>ext g
 |succ m=>
  unfold V4 at g;cases h1:C h with
  |none=>simp only[h1]at g;ext g
  |some k=>
   show⟨L,I,M,h,k,t,h1,λT H1 G=>?_⟩;cases k with
   |false=>simp only[h1]at g;ext g;show iteF (ok T H1 s (t.go G) (P.trans G.ff))
   |true=>
    simp only[h1]at g;show iteT ⟨λv R=>∃J f,Rl X.K L I J R v f/\Same F J/\V4 C u m f=some o,λv R zQ=>by let⟨J,f,a1,a2,a3⟩:=zQ;show ⟨m,bZ m,J,f,a1,a2,a3⟩,?_⟩;cases h2:u h with
    |none=>simp only[h2]at g;ext g
    |some Q=>
     simp only[h2]at g;show⟨L,I,T,h,Q,t.go G,h2,?_⟩;have N:=P.trans G.ff;cases Q with
     |nx f=>show λD O q i x=>⟨D,f,i,N.trans x,g⟩
     |ct f=>show λD O q i x=>⟨D,f,i,N.trans x,g⟩
     |bk f=>ext g;show λD O q i x=>ok D O q i (N.trans x)
     |rt d=>ext g;show ok
     |rf d=>ext g;show ok
     |rp d ds=>ext g;show ok
     |rg d p r=>ext g;show ok
     |rgf d p r=>ext g;show ok
inductive Rt where
 |sh (d:D)|fr (ds:List D)|pr (d:D) (ds:List D)
noncomputable abbrev MF:=List D->Option Rt
def okT(K:W.Frag)(F H:Hp)(Q:VK):Rt->Prop
 | .sh d=>∀v F' H',Ext F H F' H'->Rep K F' v d->Q v H'
 | .fr ds=>∀p xs F' H',Ext F H F' H'->H p=none->F' p=none->H' p=some (.lst xs)->Reps K F' xs ds->Q (.ref p) H'
 | .pr d ds=>∀t v p xs F' H',Ext F H F' H'->H t=none->H p=none->t≠p->F' t=none->F' p=none->H' t=some (.tup [v,.ref p])->H' p=some (.lst xs)->Rep K F' v d->Reps K F' xs ds->Q (.ref t) H'
def spR(K:W.Frag)(n:Nat)(m:MF):Sp:=λvs H Q _=>vs.length=n/\∃F ds r,Same F H/\Reps K F vs ds/\m ds=some r/\okT K F H Q r
noncomputable def u8(n:Nat)(ds:List D):Ro:=ds.map (λd=>some (.sh d))++List.replicate (n-ds.length) none
def runB(n:Nat)(m:MS):MF:=λds=>match m (u8 n ds)with
 |some (.nx _)=>some (.sh .non)
 |some (.rt d)=>some (.sh d)
 |some (.rf es)=>some (.fr es)
 |some (.rp d es)=>some (.pr d es)
 |_=>none
theorem E8{K:W.Frag}{F H:Hp}(s:Same F H)(r:Reps K F g ds):Rl K F H F H (X3 N g) (u8 N.length ds):=by
 have f:∀(i:Nat) x,(u8 N.length ds)[i]? =some (some x)->∃d,x=S.sh d/\ds[i]? =some d:=λi x e=>by
  delta u8 at e;by_cases hi:i<ds.length
  .rw[bW (by simpa using hi),bn]at e;rcases q:ds[i]?,e with d;ext e;show⟨d,rfl,rfl⟩
  .rw[cr (by simpa using hi),dP]at e;split at e <;> ext e
 show⟨.refl s,?_,λi d e=>?_,λi ds e=>?_,λi j p ds es _ e=>?_,λi p ds e=>?_,λi j p ds es e=>?_,λi j p q ds es e=>?_⟩
 .delta X3 u8;simp[r.length]
 .let⟨d',e1,e2⟩:=f i _ e;ext e1;let⟨v,h,k⟩:=r.get e2;show⟨v,?_,k⟩;delta X3;rw[bW (by simpa using ((bg.mp h).1)),bn,h];rfl
 .let⟨d',e1,_⟩:=f i _ e;ext e1
 .let⟨d',e1,_⟩:=f i _ e;ext e1
 .let⟨d',e1,_⟩:=f i _ e;ext e1
 .let⟨d',e1,_⟩:=f i _ e;ext e1
 .let⟨d',e1,_⟩:=f i _ e;ext e1
theorem Fun.okD{P:Program}{K:W.Frag}{v:Qb}{base:Heap}{st:Stmt}{k:Nat}(R:Fun K x i st f B)(M:FnScope N q (y4 st))
  (n:∀(j:Value)(A:Around)(g:List Env)(s:Shared)(H:Hp)(E:XK),Room k (A.deeper (envOfC i (y4 st) s.heap.objs.size f j))->PSsd (cxOf CX0 P w K v base N i (y4 st) f j A g s H E).nox (i6 st) m):
  FnOk P w K v base CX0 (k+1) f B q (spR K q.length (runB N.length m)):=by
 show R.ok M (λG H Q E h=>h.1) λj A g s H G Q E L h=>?_;let⟨T,F,C,r,I,J,e,ok⟩:=h;delta runB at e;cases h1:m (u8 N.length C)with
 |none=>rw[h1]at e;ext e
 |some o=>
  rw[h1]at e;show⟨_,n j A g s H E L,F,H,F,u8 N.length C,o,E8 I J,h1,?_⟩;cases o with
  |nx t=>ext e;show λS O D rl _=>ok .non S O rl.ext .non
  |rt d=>ext e;show ok
  |rf es=>ext e;show ok
  |rp d es=>ext e;show ok
  |rg d p r=>ext e
  |rgf d p r=>ext e
  |bk t=>ext e
  |ct t=>ext e
@[irreducible] noncomputable def u0(f:MF)(m:ML):ME:=λa=>(m a).bind λds=>match f ds with |some (.sh d)=>some d|some (.fr es)=>some (.lst es)|some (.pr d es)=>some (.tup [d,.lst es])|none=>none
@[irreducible] noncomputable def W1(f:MF)(m:ML):ML:=λa=>(m a).bind λds=>match f ds with |some (.fr es)=>some es|_=>none
theorem zq5{n:Nat}(h:∀t,PA X es t->PE X e (yo6 (spR X.K n l) [] E t))(T:es.length=n)(U:PAs X es m)(S:∀a ds,m a=some ds->ds.length=es.length):PD X e (u0 l m):=(h _ U).imp λb H Q o=>by
 let⟨F0,Y,F,a,d,P,e,q⟩:=o;delta u0 at e;rcases h1:m a,e with ds;show⟨F0,Y,F,a,ds,P,h1,λM Z W j x=>?_⟩;dsimp only[Option.bind]at e;show spR X.K n l (M++[]) W Q E;rw[append_nil];show⟨by rw[x.length,S a ds h1,T],Z,ds,?_⟩;split at e
 .rename_i d' h2;ext e;show⟨_,j.fh,x,h2,λv f w k A=>q v f w (j.trans k) A⟩
 .rename_i es' h2;ext e;show⟨_,j.fh,x,h2,λp i f w k B L V A=>q _ (upd f p (.lst i)) w (j.trans (k.freeze L B V)) (.lst (SqL.of z8) (A.mono ((Same.refl f).put L)))⟩
 .rename_i d' es' h2;ext e;show⟨_,j.fh,x,h2,λt v p i f w k R B r G s C D N O=>?_⟩;have g:upd f p (.lst i) t=none:=by rw[z9 r];show G
  have J:Same f (upd f p (.lst i)):=(Same.refl f).put s;have I:Same (upd f p (.lst i)) (upd (upd f p (.lst i)) t (.tup [v,.ref p])):=(Same.refl _).put g;show q _ (upd (upd f p (.lst i)) t (.tup [v,.ref p])) w (j.trans ((k.freeze s B D).freeze g R C)) (.tup (SqT.of z8) (.cons (N.mono (J.trans I)) (.cons (.lst (SqL.of (by rw[z9 (dr r)];show z8)) (O.mono (J.trans I))) .nil)))
 .cases e
theorem zb3{n:Nat}(h:∀t,PA X es t->PE X e (yo6 (spR X.K n l) [] E t))(x:es.length=n)(A:PAs X es m)(w:∀a ds,m a=some ds->ds.length=es.length):PF X e (W1 l m):=(h _ A).imp λN H Q f=>by
 let⟨M,I,F,a,d,r,e,q⟩:=f;delta W1 at e;rcases h1:m a,e with ds;show⟨M,I,F,a,ds,r,h1,λo L G g i=>?_⟩;dsimp only[Option.bind]at e;show spR X.K n l (o++[]) G Q E;rw[append_nil];show⟨by rw[i.length,w a ds h1,x],L,ds,?_⟩;split at e
 .rename_i es' h2;ext e;show⟨_,g.fh,i,h2,λp j J D k v C B s=>q p j J D (g.trans k) (g.hh.free v) C B s⟩
 .cases e
theorem xf3(a:Ro)(ds:List D)(h:anil a=some ds):ds.length=0:=by ext h;rfl
theorem T7{n:Nat}(f:∀a ds,r a=some ds->ds.length=n)(a:Ro)(ds:List D)(h:z6 x r a=some ds):ds.length=n+1:=by let⟨d,es,_,g,rfl⟩:=zs1 h;rw[bA,f a es g]
end
section
variable {a b c e:Expr}{k f:ME}{d:Pos}
noncomputable def bl2(g:Bool->Bool->Bool):D->D->Option D
 | .bl i,.bl j=>some (.bl (g i j))
 |_,_=>none
def vp4:List V->Hp->VK->Prop:=λvs H Q=>∃j:Int,vs=[.int j]/\∀p,H p=none->Q (.ref p) (upd H p (.rng 0 j))
theorem xv4:CallR X (.type "range") vp4:=by intro g s i H l m Q I r h;let⟨j,rfl,q⟩:=h;let⟨u,rfl,t,rfl⟩:=U1 r;show call_range_1 ⟨.ref s.heap.objs.size,_,I.laid (o:=.rng 0 j) (λb o e=>aC _ e) (aK _) ⟨_,_,_,aQ _ rfl⟩,rfl,q _ I.fresh⟩
theorem B9{K:W.Frag}{F:Hp}:∀ns:List Int,Reps K F (ns.map V.int) (ns.map D.int)
 |[]=>.nil
 |n::ns=>.cons (.int n) (B9 ns)
theorem wh1{K:W.Frag}(h:∀ns:List Int,ns.length<=63->m [.lst (ns.map .int)]=some (.sh (.bl true)))(H:Hp)(a:Addr)(ns:List Int)(g:ns.length<=63)(i:SqL K H a (ns.map V.int))(E:XK):
  spR K 1 m [.ref a] H (λv _=>v= .bl true) E:=
 ⟨rfl,H,_,_,Same.refl H,.cons (.lst i (B9 ns)) .nil,h ns g,λv l j _ r=>by ext r;rfl⟩
end
noncomputable def xv9(fsc:Scope)(fN:List Str)(sc:Scope)(N:List Str)(src:Qd):Bool:=
 (sc.kind== .function)&&sc.names.all (λy=>y.2 != .cell)&&sc.names.all (λy=>y.2 != .local || sc.names.lookup y.1==some .local)
  &&sc.names.all (λy=>y.2 != .free || (fsc.names.lookup y.1==some .cell || fsc.names.lookup y.1==some .free))&&(src.length==N.length)
  &&(List.range src.length).all λj=>match src[j]? with
   |some (some i)=>match N[j]? with
    |some x=>fN[i]? ==some x&&sc.names.lookup x==some .free
    |none=>false
   |_=>true
theorem ze0{X:Cx}{src:Qd}(a:Scope)(f:List Str)(l:X.env.scope=a)(g:X.N=f)(h:xv9 a f d N src=true):Blk X d N src:=by
 delta xv9 at h;simp only[Bool.and_eq_true,all_eq_true,beq_iff_eq,Bool.or_eq_true,bne_iff_ne]at h;let⟨⟨⟨⟨⟨r,q⟩,p⟩,o⟩,n⟩,m⟩:=h;show⟨r,q,λy b c=>?_,λy b c=>?_,λj i e=>?_,n⟩
 .rcases p y b with z|z
  .exact aV c z
  .exact z
 .have k:∀x,X.env.kindOf x=a.names.lookup x:=λx=>by rw[<-l];rfl
  rw[k];rcases o y b with z|z
  .exact aV c z
  .exact z
 .have:=m j (bq.mpr ((bg.mp e).1));rw[e]at this;rcases hx:N[j]?,this with x;simp at this;show⟨x,rfl,by rw[g];show this.1,this.2⟩
theorem vp8{X:Cx}{lo hi:Option Expr}(f:PB X a c)(d:POs X lo l)(e:POs X hi h):PF X (.Subscript a (.Slice lo hi none g) b) (mcut c l h):=we8 f d e (xn7 wy9 f d e)
noncomputable def zipE(f:D->D->Option Bool):List D->List D->Option Bool
 |d::ds,e::es=>(f d e).bind λa=>(zipE f ds es).bind λb=>some (a&&b)
 |_,_=>some true
def eqF:Nat->D->D->Option Bool
 |0,_,_=>none
 |n+1,.lst ds,.lst es=>if ds.length=es.length then zipE (eqF n) ds es else some false
 |n+1,.tup ds,.tup es=>(zipE (eqF n) ds es).map λb=>b&&ds.length==es.length
 |_+1,d,e=>eqS d e
theorem zs2{f:D->D->Option Bool}:∀{ds es:List D}{k:Bool},zipE f ds es=some k->∃g:Nat->Bool,(∀j d e,ds[j]? =some d->es[j]? =some e->f d e=some (g j))/\k=(List.range (min ds.length es.length)).all g
 |[],es,k,h=>by
  have h:some true=some k:=by simpa[zipE]using h
  ext h;show⟨λ_=>true,by simp,by simp⟩
 |_::_,[],k,h=>by
  have h:some true=some k:=by simpa[zipE]using h
  ext h;show⟨λ_=>true,by simp,by simp⟩
 |d::ds,e::es,k,h=>by
  unfold zipE at h;rcases h1:f d e,h with a;rcases h2:zipE f ds es,h with b;have h:some (a&&b)=some k:=h;ext h;let⟨g,i,c⟩:=zs2 h2;show⟨λj=>match j with |0=>a|j+1=>g j,?_,?_⟩
  .intro j d' e' hd he;cases j with
   |zero=>simp at hd he;subst hd he;show h1
   |succ j=>show i j d' e' (by simpa using hd) (by simpa using he)
  .rw[c,bA,bA,Nat.add_min_add_right,cq,all_cons,all_map];rfl
section
variable {X:Cx}
theorem C7{f:D->D->Option Bool}(j:∀{v:V}{d e:D}{k:Bool},Rep X.K H v d->Rep X.K H v e->f d e=some k->k=true):∀{i:List V}{ds es:List D}{k:Bool},Reps X.K H i ds->Reps X.K H i es->zipE f ds es=some k->k=true:=by
 intro i ds es k r s h;cases r with
 |nil=>ext s;simp[zipE]at h;show h
 |@cons v d vs ds o n=>
  obtain⟨e,es,r2,m,rfl⟩:∃e es',Rep X.K H v e/\Reps X.K H vs es'/\es=e::es':=by cases s with|cons a b=>show⟨_,_,a,b,rfl⟩
  unfold zipE at h;rcases g:f d e,h with a;rcases c:zipE f ds es,h with b;have h:some (a&&b)=some k:=h;ext h;rw[j o r2 g,C7 j n m c];rfl
theorem Rep.eqT(I:Inv X l q H s):∀(n:Nat){v:V}{d e:D}{k:Bool},Rep X.K H v d->Rep X.K H v e->eqF n d e=some k->k=true
 |0,_,_,_,_,_,_,h=>by simp[eqF]at h
 |n+1,v,d,e,k,m,r2,h=>by
  cases m with
  |non=>ext r2;show(bm (show some true=some k from h)).symm
  |bl b=>ext r2;show(bm (show some (b==b)=some k from h)).symm.trans (bT b)
  |int b=>ext r2;show(bm (show some (b==b)=some k from h)).symm.trans (bT b)
  |str b=>ext r2;show(bm (show some (b==b)=some k from h)).symm.trans (bT b)
  |lst j i=>
   cases r2 with
   |lst g f=>
    have e:=I.list_inj j g;subst e;simp only[eqF]at h;split at h
    .exact C7 (λa b c=>Rep.eqT I n a b c) i f h
    .rename_i hl;show aV (i.length.symm.trans f.length) hl
   |_=>ext h
  |tup j i=>
   cases r2 with
   |tup g f=>
    have e:=I.tuple_inj j g;subst e;simp only[eqF]at h;rcases hz:zipE (eqF n) _ _,h with o;have h:=bm h;rw[<-h,C7 (λa b c=>Rep.eqT I n a b c) i f hz,i.length.symm.trans f.length];simp
   |_=>ext h
  |_=>ext h
open PySem.SeqAt in
theorem vv6{K:W.Frag}{H:Hp}{s:Shared}{k:Bool}(g:Rep K H x d)(r2:Rep K H y e)(c:RelV x v)(a:RelV y u)(h:eqS d e=some k):EqAt A s v u k/\RcAt A s v u k/\RcNeAt A s v u (!k):=by
 let⟨m,f⟩:=yy2 d e k h;rw[yk3 h g]at c;rw[yk3 f r2]at a;clear g r2 f;cases d with
 |non=>
  ext c;cases e with
  |non=>ext a;ext h;show⟨EqAt.same _,.none_none,.none_none⟩
  |bl b=>ext a;ext h;show⟨.none_bool _,.none_bool _,.none_bool _⟩
  |int b=>let⟨t,rfl⟩:=a;ext h;show⟨.none_int _ _,.none_int _ _,.none_int _ _⟩
  |str b=>let⟨t,rfl⟩:=a;ext h;show⟨.none_str _ _,.none_str _ _,.none_str _ _⟩
  |_=>ext h
 |bl i=>
  ext c;cases e with
  |non=>ext a;ext h;show⟨.bool_none _,.bool_none _,.bool_none _⟩
  |bl b=>ext a;ext h;show⟨.bool_bool _ _,.bool_bool _ _,.bool_bool _ _⟩
  |str b=>let⟨t,rfl⟩:=a;ext h;show⟨.bool_str _ _ _,.bool_str _ _ _,.bool_str _ _ _⟩
  |_=>ext h
 |int i=>
  let⟨j,rfl⟩:=c;cases e with
  |non=>ext a;ext h;show⟨.int_none _ _,.int_none _ _,.int_none _ _⟩
  |int b=>let⟨t,rfl⟩:=a;ext h;show⟨.int_int _ _ _ _,.int_int _ _ _ _,.int_int _ _ _ _⟩
  |str b=>let⟨t,rfl⟩:=a;ext h;show⟨.int_str _ _ _ _,.int_str _ _ _ _,.int_str _ _ _ _⟩
  |_=>ext h
 |str i=>
  let⟨j,rfl⟩:=c;cases e with
  |non=>ext a;ext h;show⟨.str_none _ _,.str_none _ _,.str_none _ _⟩
  |bl b=>ext a;ext h;show⟨.str_bool _ _ _,.str_bool _ _ _,.str_bool _ _ _⟩
  |int b=>let⟨t,rfl⟩:=a;ext h;show⟨.str_int _ _ _ _,.str_int _ _ _ _,.str_int _ _ _ _⟩
  |str b=>let⟨t,rfl⟩:=a;ext h;show⟨.str_str _ _ _ _,.str_str _ _ _ _,.str_str _ _ _ _⟩
  |_=>ext h
 |_=>ext h
theorem wo2{n:Nat}{k:Bool}(h:eqF (n+1) d e=some k):eqS d e=some k\/(∃ds es,d= .lst ds/\e= .lst es/\(if ds.length=es.length then zipE (eqF n) ds es else some false)=some k)\/∃ds es a,d= .tup ds/\e= .tup es/\zipE (eqF n) ds es=some a/\(a&&ds.length==es.length)=k:=by
 cases d with
 |lst ds=>
  cases e with
  |lst es=>show .inr (.inl ⟨ds,es,rfl,rfl,h⟩)
  |_=>show .inl h
 |tup ds=>
  cases e with
  |tup es=>
   have h:((zipE (eqF n) ds es).map λb=>b&&ds.length==es.length)=some k:=h;rcases hz:zipE (eqF n) ds es,h with a;show .inr (.inr ⟨ds,es,a,rfl,rfl,hz,bm h⟩)
  |_=>show .inl h
 |_=>show .inl h
theorem ys8{K:W.Frag}{H:Hp}{s:Shared}{n:Nat}{g:Nat->Bool}(M:∀{x y:V}{v u:Value}{d e:D}{k:Bool},Rep K H x d->Rep K H y e->RelV x v->RelV y u->eqF n d e=some k->PySem.SeqAt.EqAt A s v u k)(E:Reps K H xs ds)(f:Reps K H B es)(C:Vals xs b)(c:Vals B a)
  (N:∀(j:Nat) d e,ds[j]? =some d->es[j]? =some e->eqF n d e=some (g j)) (j:Nat) (I:j<b.toArray.size) (G:j<a.toArray.size):PySem.SeqAt.EqAt A s b.toArray[j] a.toArray[j] (g j):=by
 have L:b.length=ds.length:=by rw[<-C.length,E.length]
 have J:a.length=es.length:=by rw[<-c.length,f.length]
 obtain⟨d',m⟩:∃d',ds[j]? =some d':=⟨_,aG (L ▸ I)⟩;obtain⟨e',i⟩:∃e',es[j]? =some e':=⟨_,aG (J ▸ G)⟩;let⟨Q,w,o⟩:=E.get m;let⟨R,z,r⟩:=f.get i;let⟨p,F,rp⟩:=C.get w;let⟨p2,h,t⟩:=c.get z;have P:b.toArray[j]=p:=by rw[aG I]at F;simpa using F
 have O:a.toArray[j]=p2:=by rw[aG G]at h;simpa using h
 rw[P,O];show M o r rp t (N j d' e' m i)
open PySem.SeqAt in
theorem yk2(I:Inv X l q H s):∀(n:Nat){A:Around}{x y:V}{v u:Value}{d e:D}{k:Bool},A.units+n<cLine->Rep X.K H x d->Rep X.K H y e->RelV x v->RelV y u->eqF n d e=some k->EqAt A s v u k/\RcAt A s v u k/\RcNeAt A s v u (!k)
 |0,A,x,y,v,u,d,e,k,hu,W,r2,Z,Y,h=>by simp[eqF]at h
 |n+1,A,x,y,v,u,d,e,k,hu,W,r2,Z,Y,h=>by
  have r:A.units<cLine:=aw;have N:A.in1.units+n<cLine:=by show A.units+1+n<cLine;lia
  rcases wo2 h with J|⟨ds,es,rfl,rfl,J⟩|⟨ds,es,kk,rfl,rfl,F,Q⟩
  .exact vv6 W r2 Z Y J
  .let⟨a,xs,rfl,sq,rs⟩:=W.l';let⟨b,ys,rfl,w,p⟩:=r2.l';ext Z;ext Y;let⟨i,M,⟨o,m,O,T,_,S⟩,_⟩:=I.list sq;let⟨f,t,⟨o2,m2,z,C,_,B⟩,_⟩:=I.list w;have G:s.heap.IsList a i.toArray:=⟨o,O,T,m,S⟩;have L2:s.heap.IsList b f.toArray:=⟨o2,z,C,m2,B⟩;clear O T S z C B;have L:i.length=ds.length:=by rw[<-M.length,rs.length]
   have U:f.length=es.length:=by rw[<-t.length,p.length]
   have j:RcAt A s (.ref a) (.ref b) k/\RcNeAt A s (.ref a) (.ref b) (!k):=by
    by_cases P:ds.length=es.length
    .rw[aH P]at J;let⟨g,g1,g2⟩:=zs2 J;have R:=ys8 (λa b c d e=>(yk2 I n N a b c d e).1) rs p M t g1;have F:i.toArray.size=f.toArray.size:=by simp only[size_toArray];rw[L,U,P]
     have Q:k=(List.range i.toArray.size).all g:=by rw[g2];simp only[size_toArray];rw[L,P,Nat.min_self]
     rw[Q];show⟨.lists G L2 F r R,.lists G L2 F r R⟩
    .rw[aF P]at J;ext J;have F:(i.toArray.size != f.toArray.size)=true:=by simp only[size_toArray];rw[L,U];show bne_iff_ne.mpr P
     show⟨.lists_lengths G L2 F r,.lists_lengths G L2 F r⟩
   show⟨?_,j⟩;by_cases E:a=b
   .subst E;rw[Rep.eqT I (n+1) (.lst sq rs) (.lst w p) h];show EqAt.same _
   .exact .of_refs E j.1
  .let⟨a,xs,rfl,sq,rs⟩:=W.t';let⟨b,ys,rfl,w,p⟩:=r2.t';ext Z;ext Y;let⟨i,M,⟨o,O,T,m,S⟩,_⟩:=I.tuple sq;let⟨f,t,⟨o2,z,C,m2,B⟩,_⟩:=I.tuple w;have G:s.heap.IsTuple a i.toArray:=⟨o,O,T,m,S⟩;have L2:s.heap.IsTuple b f.toArray:=⟨o2,z,C,m2,B⟩;clear O T S z C B;have L:i.length=ds.length:=by rw[<-M.length,rs.length]
   have U:f.length=es.length:=by rw[<-t.length,p.length]
   have j:RcAt A s (.ref a) (.ref b) k/\RcNeAt A s (.ref a) (.ref b) (!k):=by
    let⟨g,g1,g2⟩:=zs2 F;have R:=ys8 (λa b c d e=>(yk2 I n N a b c d e).1) rs p M t g1;have Q:k=((List.range (min i.toArray.size f.toArray.size)).all g&&i.toArray.size==f.toArray.size):=by rw[<-Q,g2];simp only[size_toArray];rw[L,U]
    rw[Q];show⟨.tuples G L2 r R,.tuples G L2 r R⟩
   show⟨?_,j⟩;by_cases E:a=b
   .subst E;rw[Rep.eqT I (n+1) (.tup sq rs) (.tup w p) h];show EqAt.same _
   .exact .of_refs E j.1
end
section
variable {X:Cx}{a b c e:Expr}{f:Pos}
def rEqF(K:W.Frag)(neg:Bool):R2:=λx y H Q=>∃d e k,Rep K H x d/\Rep K H y e/\eqF 8 d e=some k/\Q (.bl (if neg then !k else k)) H
theorem wa4(t:X.A.units+64<cLine):OpR X (compareOp .Eq) (rEqF X.K false):=by intro g s r H x y v u Q I m i h;let⟨d,e,k,p,o,h,q⟩:=h;show(yk2 I 8 aw p o m i h).2.1 X.prog X.w _ _ ⟨.bl k,H,I,rfl,q⟩
theorem wb9(t:X.A.units+64<cLine):OpR X (compareOp .NotEq) (rEqF X.K true):=by intro g s r H x y v u Q I m i h;let⟨d,e,k,p,o,h,q⟩:=h;show(yk2 I 8 aw p o m i h).2.2 X.prog X.w _ _ ⟨.bl (!k),H,I,rfl,q⟩
def eqFD(neg:Bool)(d e:D):Option D:=(eqF 8 d e).map λk=>.bl (if neg then !k else k)
@[irreducible] def meqB(neg:Bool)(x y:ML):ME:=λa=>(x a).bind λds=>(y a).bind λes=>eqFD neg (.lst ds) (.lst es)
theorem vk2{d:Bool}(h:TD X.K (meqB d la j) s H Q):tOp (rEqF X.K d) (TB X.K la) (TB X.K j) s H Q:=by
 let⟨v,u,F,m,g,rl,e,q⟩:=h;delta meqB at e;cases h1:la m with
 |none=>rw[h1]at e;ext e
 |some r=>
  cases h2:j m with
  |none=>rw[h1,h2]at e;ext e
  |some o=>
   rw[h1,h2]at e;have e:eqFD d (.lst r) (.lst o)=some g:=e;show⟨v,u,F,m,r,rl,h1,λp E D I t y A=>⟨v,u,D,m,o,rl.go t,h2,λG w C B i x z=>?_⟩⟩;delta eqFD at e;cases hk:eqF 8 (.lst r) (.lst o)with
   |none=>rw[hk]at e;ext e
   |some k=>rw[hk]at e;ext e;show⟨_,_,k,.lst (i.hh.seq y) (A.mono (i.ff.trans i.fh)),.lst x (z.mono i.fh),hk,q _ C B (t.trans i) (.bl _)⟩
theorem wb4{d:Bool}(o:OpR X (compareOp op) (rEqF X.K d))(t:PB X a la)(s:PB X b j)(p:behindInMarks op b=false):PC' X (.Compare a [op] [b] f) (y0 (meqB d la j)):=(zc5 o t s p).imp λA H Q h=>by
 let⟨y,u,F,i,g,m,e,q⟩:=h;delta y0 at e;split at e
 .rename_i k hk;ext e;show vk2 ⟨y,u,F,i,.bl g,m,hk,λv z w x r=>?_⟩;ext r;show⟨_,rfl,q z w x⟩
 .cases e
noncomputable def tyD:D->String
 | .non=>"NoneType"| .bl _=>"bool"| .int _=>"int"| .str _=>"str"| .lst _=>"list"| .tup _=>"tuple"| .exc _=>"?"| .ptr _=>"?"| .obj _ _ _=>"?"
noncomputable def kitB(t c:String):Option Bool:=if t="?" then none else if (Value.type t==Value.type c)=true then some true else if W.kitMeta c=true then (fastBuiltinMro t).map (·.contains (Value.type c))else none
theorem vx4{K:W.Frag}{t c:String}{k:Bool}(h:kitB t c=some k):t≠"?"/\W.kitOne K (.type t) (.type c)=some k:=by
 delta kitB at h;split at h
 .cases h
 .rename_i z;show⟨z,h⟩
theorem wp4{p:Qc}{F:St}{E:Qa}{Q:Qa}{c:Value}{k:Bool}(I:Inv X p F H s)(g:RelV x u)(r:Rep X.K H x d)
  (e:tyD d≠"?"/\W.kitOne X.K (.type (tyD d)) c=some k) (h:∀tk,Q (.bool k) { s with toks:=tk }):wpAny (model X.prog X.w) A (call (.builtin "isinstance") [u,c]) Q E s:=by
 let⟨v,e⟩:=e;cases r with
 |exc _ _=>show aV rfl v
 |ptr _=>show aV rfl v
 |obj _ _ _ _ _=>show aV rfl v
 |non=>show N4 I g .non e h
 |bl y=>show N4 I g (.bl y) e h
 |int i=>show N4 I g (.int i) e h
 |str y=>show N4 I g (.str y) e h
 |lst q J=>ext g;let⟨t,G,⟨o,m,B,C,_,L⟩,_⟩:=I.list q;show di W.kitx_list I.kIn ⟨_,B,C⟩ e (λz=>nomatch z) h
 |tup q J=>ext g;let⟨t,G,⟨o,B,C,m,L⟩,_⟩:=I.tuple q;show di W.kitx_tuple I.kIn ⟨_,B,C⟩ e (λz=>nomatch z) h
def rIsi(K:W.Frag)(c:String):List V->Hp->VK->Prop:=λvs H Q=>∃x d k,vs=[x,.ty c]/\Rep K H x d/\kitB (tyD d) c=some k/\Q (.bl k) H
theorem xh8{c:String}:CallR X (.builtin "isinstance") (rIsi X.K c):=by intro g s p H t v Q I r h;let⟨x,d,k,rfl,o,e,q⟩:=h;let⟨u,w,rfl,m,i⟩:=wz6 r;ext i;show wp4 I m o (vx4 e) λy=>⟨.bl k,H,I.tok _,rfl,q⟩
@[irreducible] def misi(c:String)(m:ME):ME:=λa=>(m a).bind λd=>(kitB (tyD d) c).map .bl
theorem wc8{c:Str}(E:Gl X "isinstance")(B:X.mg "isinstance"=none)(s:Gl X c)(r:X.mg c=none)(z:bootBuiltins c=some (.type C))(I:PD X a l)
  (A:c≠"__name__":=by decide) (G:(c==("__debug__":Str))=false:=by decide)
  (w:starEach (a::[.Name c h]) X.env=(false,eval a X.env)::starEach [.Name c h] X.env:=by rfl) (m:starEach [.Name c h] X.env=(false,eval (.Name c h) X.env)::starEach [] X.env:=by rfl)
  (o:(backTo f (starEach [.Name c h] X.env)).any (·.1)=false:=by rfl):PD X (.Call (.Name "isinstance" p) [a,.Name c h] [] f) (misi C l):=
 (j7 (xh8) E B PyProof.Rows.boot_isinstance (j4 I (j4 (wu3 (v:=.ty C) s r z rfl A G) pa_nil m) w) ay ay w o).imp λN H Q i=>by
  let⟨M,K,F,t,g,x,e,q⟩:=i;delta misi at e;rcases h1:l t,e with d;have e:(kitB (tyD d) C).map D.bl=some g:=e;rcases h2:kitB (tyD d) C,e with k;ext e;show⟨M,K,F,t,d,x,h1,λv L J u y=>⟨v,d,k,rfl,y.mono u.fh,h2,q _ L J u (.bl _)⟩⟩
end
section
variable {a b c e k:Expr}{h g:ME}{d f:Pos}
end
section
variable {a b c e:Expr}{g f:ME}{d:Pos}
def gLst(K:W.Frag)(n:Nat)(t:TGs):TG:=λv b H Q=>∃a xs,v= .ref a/\SqL K H a xs/\xs.length=n/\t xs b H Q
theorem wv7{k:Nat}{n:Nat}(D:X.calm=true)(h:PGs X es t)
  (B:(assignEach es X.env).length=n:=by rfl) (p:(assignEach es X.env).findIdx? (·.1)=none:=by rfl):PG X (.Tuple es k d) (gLst X.K n t):=by
 intro j s w H v u Q I r hw;let⟨a,x,E,A,C,hw⟩:=hw;subst E;ext r;let⟨l,q,z,F⟩:=I.list A;have m:l.toArray.size=n:=by rw[bX,<-q.length,C]
 show aB (eu ?_);unfold unpack;rw[p,show (assignEach es X.env).length=l.toArray.size by rw[B,m]];show aB (cv (W.kun_itemsOf (I.ok.hd D) z.isList λG y=>?_));show h j _ w H x _ Q (I.kept (t':=s.toks) λb o e=>y b o (bp (aS e)) e) (by simpa using q) hw
end
section
variable {K:W.Frag}{g f F H:Hp}{e:St}{Y:Ro}
theorem Rl.freezeP(r:Rl K g f F H e Y){i:Nat}(h:Y[i]? =some (some (.own ds))):∃p xs,F p=none/\Rl K g f (upd F p (.lst xs)) H e (Y.set i (some (.sh (.lst ds)))):=by
 let⟨p,xs,a,b,c,d,z⟩:=r.own i ds h;have t:=(bg.mp h).1;have u:Same F (upd F p (.lst xs)):=(Same.refl F).put b;show⟨p,xs,b,⟨r.ext.freeze b z c,by simp[r.len],λj C q=>?_,λj o q=>?_,λj k q o m A l s B T=>?_,λj q o l=>?_,λj k q o m l s B=>?_,λj k q M o m l s=>r.ob1 j k q M o m (k7 l).2 (k7 s).2⟩⟩
 .by_cases hj:i=j
  .subst hj;rw[aN t]at q;ext q;show⟨_,a,.lst (SqL.of z8) (d.mono u)⟩
  .rw[aR hj]at q;let⟨v,L,J⟩:=r.sh j C q;show⟨v,L,J.mono u⟩
 .by_cases hj:i=j
  .subst hj;rw[aN t]at q;ext q
  .rw[aR hj]at q;let⟨N,x,E,V,U,C,I⟩:=r.own j o q;show⟨N,x,E,by rw[z9 (λw=>r.inj i j p ds o hj h q a (by rw[<-w];show E))];show V,U,C.mono u,I⟩
 .have n1:i≠j:=λw=>by subst w;rw[aN t]at l;ext l
  have y:i≠k:=λw=>by subst w;rw[aN t]at s;ext s
  rw[aR n1]at l;rw[aR y]at s;show r.inj j k q o m A l s B T
 .let⟨n,l⟩:=k7 l;let⟨S,R,Q,G,P,O⟩:=r.ob j q o l;show⟨S,by rw[z9 (λw=>r.obn j i q o ds l h (by rw[w];show a))];show R,Q,G,P,O.mono u⟩
 .let⟨n,l⟩:=k7 l;have y:i≠k:=λw=>by subst w;rw[aN t]at s;ext s
  rw[aR y]at s;show r.obn j k q o m l s B
end
noncomputable def isSc:D->Bool
 | .lst _=>false
 | .tup _=>false
 | .exc _=>false
 | .ptr _=>false
 | .obj _ _ _=>false
 |_=>true
theorem xe9{K:W.Frag}{F G:Hp}(h:isSc d=true)(r:Rep K F v d):Rep K G v d:=by
 cases r with
 |non=>show .non
 |bl b=>show .bl b
 |int i=>show .int i
 |str x=>show .str x
 |lst _ _=>ext h
 |tup _ _=>ext h
 |exc _ _=>ext h
 |ptr _=>ext h
 |obj _ _ _ _ _=>ext h
section
variable {a b c e:Expr}{f:Pos}
def ixTD:D->D->Option D
 | .tup ds,.int k=>atI ds k
 |_,_=>none
theorem ws0{K:W.Frag}:OpD K (rIxT K) ixTD:=by
 intro F H x y d e w Q s m j h q;cases d with
 |tup u=>
  cases e with
  |int k=>let⟨a,t,r,g,i⟩:=m.t';let⟨v,p,n⟩:=L5 i (h);show⟨_,_,k,v,r,j.i',s.seqT g,p,q v F H (.refl s) n⟩
  |_=>ext h
 |_=>ext h
theorem wc5(i:PD X a o)(g:PD X b l)(d:zx9 b:=by show λ_ _=>rfl):PD X (.Subscript a b f) (m2 ixTD o l):=(yn6 xb5 i g d).imp λj H Q h=>op_d ws0 h
noncomputable def isND(neg:Bool):D->D->Option D
 | .non,.non=>some (.bl (!neg))
 |_,.non=>some (.bl neg)
 |_,_=>none
theorem ws3{K:W.Frag}:OpD K (λx y H Q=>y= .non/\Q (.bl (decide (x= .non))) H) (isND false):=by
 intro F H x y d e w Q s i g h q;cases g with
 |non=>ext i <;> ext h <;> show⟨rfl,q _ F H (.refl s) (.bl _)⟩
 |_=>ext d <;> ext h
noncomputable def maxI:List Int->Int
 |[]=>0
 |a::r=>r.foldl (λx y=>if y>x then y else x) a
theorem yz9:∀(r:List Int)(a:Int),(r.foldl (λx y=>if y>x then y else x) a∈a::r)/\∀y∈a::r,y<=r.foldl (λx y=>if y>x then y else x) a
 |[],a=>⟨by simp,λy d=>by simp at d;subst d;show Int.le_refl _⟩
 |b::r,a=>by
  let⟨i,g⟩:=yz9 r (if b>a then b else a);rw[foldl_cons];show⟨?_,λy d=>?_⟩
  .rcases aT.mp i with h|h
   .rw[h];split <;> simp
   .exact aX _ (aX _ h)
  .have h0:=g _ bE;rcases aT.mp d with h|h
   .subst h;show Int.le_trans ?_ h0;split <;> lia
   .rcases aT.mp h with h|h
    .subst h;show Int.le_trans ?_ h0;split <;> lia
    .exact g y (aX _ h)
theorem zo2(h:ns≠[]):maxI ns∈ns:=by
 cases ns with
 |nil=>show aV rfl h
 |cons a r=>show(yz9 r a).1
theorem za7{y:Int}(h:y∈ns):y<=maxI ns:=by
 cases ns with
 |nil=>ext h
 |cons a r=>show(yz9 r a).2 y h
theorem Z1:∀{ns:List Int}{d:List Value},Vals (ns.map V.int) d->∃xs:List (Int×Tok),d.toArray=intItems xs.toArray/\xs.map (·.1)=ns
 |[],_,.nil=>⟨[],by unfold intItems;simp,rfl⟩
 |n::ns,_,.cons r t=>by let⟨k,rfl⟩:=r;let⟨xs,h,g⟩:=Z1 t;show⟨(n,k)::xs,?_,by rw[br,g]⟩;have:=bf Array.toList h;unfold intItems at this ⊢;simp at this ⊢;show this
theorem zi1(xs:List (Int×Tok)){i:Nat}(h:i<xs.length):numAt xs.toArray i=(xs[i]).1:=by unfold numAt;simp[h]
def vp5(K:W.Frag):List V->Hp->VK->Prop:=λvs H Q=>∃p ns,vs=[.ref p]/\SqL K H p (ns.map V.int)/\ns≠[]/\Q (.int (maxI ns)) H
theorem xv5(R:X.calm=true):CallR X (.builtin "max") (vp5 X.K):=by
 intro y s V H W Y Q I r h;let⟨p,ns,rfl,E,m,q⟩:=h;let⟨u,rfl,F⟩:=U1 r;ext F;let⟨L,D,G,hz⟩:=I.list E;let⟨d,S,w⟩:=Z1 D;have hp:=G.isList;rw[S]at hp;have n:0<d.length:=by
  cases d with
  |nil=>simp at w;show aV w.symm (by simpa using m)
  |cons _ _=>simp
 show max_intList (I.ok.hd R) hp (by simpa using n) λv h' Z e k=>?_;let⟨C,x⟩:=argBest_gt (numAt d.toArray) (d.toArray.size-1);rw[bX]at C x e;generalize hi:argBest (λi j=>decide (numAt d.toArray i>numAt d.toArray j)) (d.length-1)=i at C x e;have g:i<d.length:=aw;have M:v=Value.int (d[i]).1 (d[i]).2:=by unfold intItems at e;simp[g]at e;show e.symm
 have O:(d[i]).1=maxI ns:=by
  have J:(d[i]).1∈ns:=by rw[<-w];show mem_map_of_mem (dj g)
  show Int.le_antisymm (za7 J) ?_;have B:=zo2 m;rw[<-w]at B;let⟨t,N,U⟩:=bj.mp B;let⟨j,P,T⟩:=dg N;have:=x j aw;rw[zi1 d P,zi1 d g,T,U,w]at this;show this
 subst M;show⟨.int (maxI ns),H,I.kept k,⟨_,by rw[O]⟩,q⟩
noncomputable def V0:List D->Option (List Int)
 |[]=>some []
 | .int i::r=>match V0 r with |some ns=>some (i::ns)|none=>none
 |_=>none
theorem Z3{K:W.Frag}{F:Hp}:∀{j:List V}{ds:List D}{ns:List Int},Reps K F j ds->V0 ds=some ns->j=ns.map V.int:=by
 intro j ds ns i h;cases i with
 |nil=>ext h;rfl
 |@cons v d vs ds r t=>
  cases r with
  |int i=>
   unfold V0 at h;rcases g:V0 ds,h with ns;ext h;rw[Z3 t g];rfl
  |_=>ext h
theorem Z7:∀ns:List Int,V0 (ns.map D.int)=some ns
 |[]=>rfl
 |n::ns=>by show (match V0 (ns.map D.int)with |some ns=>some (n::ns)|none=>none)=_;rw[Z7 ns]
@[irreducible] def za2(m:ML):ME:=λa=>match m a with |some ds=>(match V0 ds with |some (n::ns)=>some (.int (maxI (n::ns)))|_=>none)|none=>none
theorem wu8(y:X.calm=true)(w:Gl X "max")(v:X.mg "max"=none)(B:PB X e m)(u:starEach (e::[]) X.env=(false,eval e X.env)::starEach [] X.env:=by rfl)(x:starEach [e] X.env=(false,eval e X.env)::starEach [] X.env:=by rfl)(h:(backTo f (starEach [] X.env)).any (·.1)=false:=by rfl):PD X (.Call (.Name "max" p) [e] [] f) (za2 m):=
 (j7 (xv5 y) w v PyProof.Rows.boot_max (j4 B pa_nil u) ay ay x h).imp λI H Q d=>by
  let⟨G,D,F,i,g,s,e,q⟩:=d;delta za2 at e;rcases h1:m i,e with j;cases h2:V0 j with
  |none=>simp only[h2]at e;ext e
  |some ns=>
   cases ns with
   |nil=>simp only[h2]at e;ext e
   |cons n ns=>simp only[h2]at e;ext e;show⟨G,D,F,i,j,s,h1,λp J E C k r t=>⟨p,n::ns,rfl,?_,by simp,q _ E C k (.int _)⟩⟩;rw[<-Z3 t h2];show r
noncomputable def wi5:List (Str×Str)->List DictEntry->Prop
 |[],[]=>True
 | (k,v)::r,e::es=>(∃t,e.key= .str k t)/\(∃t,e.val= .str v t)/\wi5 r es
 |_,_=>False
structure KTab(w:World)(K:W.Frag)(a:Addr)(tab:List (Str×Str)):Prop where
 ns:(a==sysModules)=false
 nd:(tab.map (·.1)).Nodup
 obj:∃es ep,K.lookup a=some ⟨.type "dict",none,.dict es ep,#[]⟩/\wi5 tab es.toList/\∀e∈es.toList,∀k t,e.key= .str k t->e.hash=hashStr w k
end
section
structure ApT(z TO i1 i2 l:Addr):Prop where
 lz:l≠z
 lTO:l≠TO
 l1:l≠i1
 l2:l≠i2
end
section
end
section
variable {a b c e:Expr}{g f:ME}{la h:ML}{d:Pos}
end
section
variable {d b F H c:Hp}
end
section
variable {a b c k:Expr}{i h:ME}{d:Pos}{g:MF}{f:MS}
end
abbrev MEm:=Ro->Option (D×Ro)
abbrev MLm:=Ro->Option (List D×Ro)
def TDm(K:W.Frag)(m:MEm):TE:=λb H Q=>∃F0 H0 F a d ρ',Rl K F0 H0 F H b a/\m a=some (d,ρ')/\∀v F' H',Rl K F0 H0 F' H' b ρ'->Same F F'->Rep K F' v d->Q v H'
def TAm(K:W.Frag)(m:MLm):TA:=λb H Q=>∃F0 H0 F a ds ρ',Rl K F0 H0 F H b a/\m a=some (ds,ρ')/\∀vs F' H',Rl K F0 H0 F' H' b ρ'->Same F F'->Reps K F' vs ds->Q vs H'
def PDm(X:Cx)(e:Expr)(m:MEm):Prop:=PE X e (TDm X.K m)
def PAm(X:Cx)(es:List Expr)(m:MLm):Prop:=PA X es (TAm X.K m)
section
variable {X:Cx}{a b c e:Expr}
@[irreducible] noncomputable def mpu(m:ME):MEm:=λa=>match m a with |some d=>some (d,a)|none=>none
@[irreducible] noncomputable def apu(m:ML):MLm:=λa=>match m a with |some d=>some (d,a)|none=>none
theorem xm0(h:PD X e u):PDm X e (mpu u):=h.imp λp H Q f=>by
 let⟨m,j,F,i,d,g,rl,e,q⟩:=f;delta mpu at e;split at e
 .rename_i d' hm;ext e;show⟨m,j,F,i,d,rl,hm,λv o k x r=>q v o k (rl.go x) x.ff r⟩
 .cases e
theorem xm5(h:PAs X es m):PAm X es (apu m):=h.imp λs H Q f=>by
 let⟨o,j,F,i,d,g,rl,e,q⟩:=f;delta apu at e;split at e
 .rename_i d' hm;ext e;show⟨o,j,F,i,d,rl,hm,λv p k x r=>q v p k (rl.go x) x.ff r⟩
 .cases e
@[irreducible] noncomputable def m2m(f:D->D->Option D)(x y:MEm):MEm:=λa=>match x a with
 |some (d,ρ1)=>(match y ρ1 with |some (e,ρ2)=>(match f d e with |some g=>some (g,ρ2)|none=>none)|none=>none)
 |none=>none
theorem xm8{f:D->D->Option D}(J:OpD X.K r f)(h:TDm X.K (m2m f n t) m H Q):tOp r (TDm X.K n) (TDm X.K t) m H Q:=by
 let⟨w,s,F,z,g,j,C,e,q⟩:=h;delta m2m at e;split at e
 .rename_i d ρ1 h1;split at e
  .rename_i d2 ρ2 h2;split at e
   .rename_i g' h3;ext e;show⟨w,s,F,z,d,ρ1,C,h1,λx O R k B I=>⟨w,s,O,ρ1,d2,j,k,h2,λy N L i p G=>?_⟩⟩;show J N L x y d d2 g Q i.fh (I.mono p) G h3 λv P M o E=>q v P M (i.go o) (B.trans (p.trans o.ff)) E
   .cases e
  .cases e
 .cases e
theorem wd5{f:D->D->Option D}(d:OpR X (binaryOp op) r)(g:OpD X.K r f)(j:PDm X a n)(i:PDm X b t):PDm X (.BinOp a op b l) (m2m f n t):=(xn8 d j i).imp λ_ _ _ h=>xm8 g h
theorem wu5{f:D->D->Option D}(d:OpR X (compareOp op) r)(i:OpD X.K r f)(k:PDm X a n)(j:PDm X b t)(g:behindInMarks op b=false):PDm X (.Compare a [op] [b] l) (m2m f n t):=(yd4 d k j g).imp λ_ _ _ h=>xm8 i h
def ixLD:D->D->Option D
 | .lst ds,.int k=>atI ds k
 |_,_=>none
theorem ws1{K:W.Frag}:OpD K (rIxL K) ixLD:=by
 intro F H x y d e w Q s j i h q;cases d with
 |lst z=>
  cases e with
  |int k=>let⟨a,r,p,f,g⟩:=j.l';let⟨v,o,m⟩:=L5 g (h);show⟨_,_,k,v,p,i.i',s.seq f,o,q v F H (.refl s) m⟩
  |_=>ext h
 |_=>ext h
theorem wd6(g:PDm X a n)(f:PDm X b t)(d:zx9 b:=by show λ_ _=>rfl):PDm X (.Subscript a b l) (m2m ixLD n t):=(yn6 zz9 g f d).imp λi H Q h=>xm8 ws1 h
@[irreducible] noncomputable def e8(x:MEm)(r:MLm):MLm:=λa=>match x a with |some (d,ρ1)=>(match r ρ1 with |some (ds,ρ2)=>some (d::ds,ρ2)|none=>none)|none=>none
theorem xm6(C:PDm X a n)(B:PAm X es m)(z:starEach (a::es) X.env=(false,eval a X.env)::starEach es X.env:=by rfl):PAm X (a::es) (e8 n m):=(j4 C B z).imp λI H Q f=>by
 let⟨p,o,F,r,g,h,v,e,q⟩:=f;delta e8 at e;split at e
 .rename_i d ρ1 h1;split at e
  .rename_i ds ρ2 h2;ext e;show⟨p,o,F,r,d,ρ1,v,h1,λx G K j s y=>⟨p,o,G,ρ1,ds,h,j,h2,λJ E D i k w=>?_⟩⟩;show q _ E D i (s.trans k) (.cons (y.mono k) w)
  .cases e
 .cases e
@[irreducible] noncomputable def za3(m:MLm):MEm:=λa=>match m a with |some (ds,ρ1)=>if ds.length<=sizeLine then some (.lst ds,ρ1)else none|none=>none
theorem wu4(h:PAm X es m):PDm X (.List es l) (za3 m):=(xd9 h).imp λB H Q f=>by
 let⟨z,y,F,k,g,i,v,e,q⟩:=f;delta za3 at e;split at e
 .rename_i ds ρ1 h1;split at e
  .rename_i hz;ext e;show⟨z,y,F,k,ds,i,v,h1,λr D C d s j=>⟨by rw[j.length];show hz,λp w=>?_⟩⟩;have x:=Ext.laid (o:=.lst r) d.fh w;show q _ _ _ (d.go x) (s.trans x.ff) (.lst (SqL.of z8) (j.mono x.ff))
  .cases e
 .cases e
@[irreducible] noncomputable def V8(f:List D->Option D)(m:MLm):MEm:=λa=>match m a with |some (ds,ρ1)=>(match f ds with |some d=>some (d,ρ1)|none=>none)|none=>none
theorem yx5{r:List V->Hp->VK->Prop}{f:List D->Option D}(B:yj4 X.K r f)(h:TDm X.K (V8 f m) k H Q):tCB r (TAm X.K m) k H Q:=by
 let⟨J,E,F,p,g,j,x,e,q⟩:=h;delta V8 at e;split at e
 .rename_i ds ρ1 h1;split at e
  .rename_i d h2;ext e;show⟨J,E,F,p,ds,j,x,h1,λs I C i w z=>B I C s ds g Q i.fh z h2 λv L G o y=>q v L G (i.go o) (w.trans o.ff) y⟩
  .cases e
 .cases e
theorem wu6(g:Gl X "abs")(f:X.mg "abs"=none)(j:PAm X [e] m)(i:starEach [e] X.env=(false,eval e X.env)::starEach [] X.env:=by rfl)(d:(backTo l (starEach [] X.env)).any (·.1)=false:=by rfl):PDm X (.Call (.Name "abs" p) [e] [] l) (V8 absF m):=
 (j7 yq4 g f PyProof.Rows.boot_abs j ay ay i d).imp λ_ _ _ h=>yx5 zf3 h
theorem xm2(i:Gl X "int")(g:X.mg "int"=none)(k:PAm X [e] m)(f:bootBuiltins "int"=some (.type "int"))(j:starEach [e] X.env=(false,eval e X.env)::starEach [] X.env:=by rfl)(d:(backTo l (starEach [] X.env)).any (·.1)=false:=by rfl):PDm X (.Call (.Name "int" p) [e] [] l) (V8 intF m):=
 (U4 zf8 i g f k ay ay j d).imp λ_ _ _ h=>yx5 zf2 h
@[irreducible] noncomputable def X8(i:Nat)(x:MEm):MS:=λa=>match x a with |some (d,ρ1)=>some (.nx (ρ1.set i (some (.sh d))))|none=>none
theorem xo2{i:Nat}(y:X.N.Nodup)(hi:X.N[i]? =some x)(q:Loc X.env.scope x)(w:PDm X e n)(r:swapsWith e (some (.Name x f)) l.line X.env=pure false:=by rfl)(s:X.fn x=true\/X.env.scope.names.lookup x=some .local:=by first|show .inl rfl|show .inr rfl|assumption):
  PSd X (.Assign [.Name x f] e l) (X8 i n):=(yf7 y hi q w r s).imp λD G H g=>by
 let⟨E,B,F,j,o,m,e,ok⟩:=g;delta X8 at e;split at e
 .rename_i d ρ1 h1;ext e;show⟨E,B,F,j,d,ρ1,m,h1,λv C z h k p=>ok C z _ (h.set p) k⟩
 .cases e
@[irreducible] noncomputable def zw5(i:Nat)(x:MEm):MS:=λa=>match x a with
 |some (d,ρ1)=>(match ρ1[i]? with |some (some (.ob p r))=>some (.rg d p r)|_=>none)
 |none=>none
theorem xo6(i:Nat)(x:PDm X e n):PSd X (.Return (some e) l) (zw5 i n):=(J4 x).imp λD E H g=>by
 let⟨C,z,F,h,o,k,e,ok⟩:=g;delta zw5 at e;split at e
 .rename_i d ρ1 h1;split at e
  .rename_i p r h2;ext e;show⟨C,z,F,h,d,ρ1,k,h1,λv B y f G m=>?_⟩;let⟨J,w,I,j,s,q⟩:=f.ob i p r h2;show ok v B y j f.ext m w s q
  .cases e
 .cases e
@[irreducible] noncomputable def yt8(i j:Nat):MS:=λa=>match a[i]?,a[j]? with
 |some (some (.ob p r)),some (some (.own ds))=>some (.rgf ds p r)
 |_,_=>none
theorem yf4(i j:Nat)(h:PE X (.Name x d) (tVar j)):PSd X (.Return (some (.Name x d)) l) (yt8 i j):=(J4 h).imp λD G H f=>by
 let⟨M,L,F,I,o,rl,e,ok⟩:=f;delta yt8 at e;split at e
 .rename_i p r ds h1 h2;ext e;let⟨K,w,J,m,v,s⟩:=rl.ob i p r h1;let⟨q,k,g,E,C,B,y⟩:=rl.own j ds h2;show⟨_,g,ok q k F H m rl.ext y E (λz=>rl.obn i j p r ds h1 h2 (by rw[<-z];show g)) C B w v s⟩
 .cases e
end
noncomputable abbrev MG:=Addr->List D->List D->Option (Rt×List D)
noncomputable def del(H:Hp)(p:Addr):Hp:=λb=>if b=p then none else H b
theorem yr9:del H p p=none:=by delta del;rw[aH rfl]
theorem R7(h:b≠p):del H p b=H b:=by delta del;rw[aF h]
def okG(K:W.Frag)(F H:Hp)(p:Addr)(Q:VK)(r':List D):Rt->Prop
 | .sh d=>∀v F' H' xs,Ext F (del H p) F' H'->Rep K F' v d->F' p=none->H' p=some (.lst xs)->Reps K F' xs r'->Q v H'
 | .fr ds=>∀q ys F' H' xs,Ext F (del H p) F' H'->H q=none->F' q=none->H' q=some (.lst ys)->Reps K F' ys ds->F' p=none->H' p=some (.lst xs)->Reps K F' xs r'->Q (.ref q) H'
 | .pr _ _=>False
def spG(K:W.Frag)(n:Nat)(m:MG):Sp:=λvs H Q _=>vs.length=n/\∃p ws F r0 ds r r1 xs,vs= .ref p::ws/\H p=some (.lst xs)/\F p=none/\Same F H/\Reps K F xs r0/\Reps K F ws ds/\m p r0 ds=some (r,r1)/\okG K F H p Q r1 r
def Z9(n:Nat)(p:Addr)(r:List D)(ds:List D):Ro:=some (.ob p r)::u8 (n-1) ds
def runG(n:Nat)(m:MS):MG:=λp r ds=>match m (Z9 n p r ds)with
 |some (.rg d q r')=>if q=p then some (.sh d,r')else none
 |some (.rgf es q r')=>if q=p then some (.fr es,r')else none
 |_=>none
theorem yg6{K:W.Frag}{F H:Hp}(v:0<N.length)(s:Same F H)(l:F p=none)(k:H p=some (.lst xs))(h:Reps K F xs r)(g:Reps K F ws ds):Rl K F (del H p) F H (X3 N (.ref p::ws)) (Z9 N.length p r ds):=by
 have t:X3 N (.ref p::ws)=some (.ref p)::X3 N.tail ws:=by delta X3;rw[br,cons_append,bA,length_tail];congr 2;congr 1;omega
 have m:Z9 N.length p r ds=some (.ob p r)::u8 N.tail.length ds:=by delta Z9;rw[length_tail]
 have base:=E8 (N:=N.tail) s g;have only:∀(j:Nat) x,(u8 N.tail.length ds)[j]? =some (some x)->∃d,x=S.sh d:=λj x e=>by
  delta u8 at e;by_cases hi:j<ds.length
  .rw[bW (by simpa using hi),bn]at e;rcases q:ds[j]?,e with d;ext e;show⟨d,rfl⟩
  .rw[cr (by simpa using hi),dP]at e;split at e <;> ext e
 rw[t,m];show⟨⟨Same.refl F,λb o e=>?_,s,λb e n=>aV e n,λ_ _ _ z=>z⟩,by rw[bA,bA,base.len],λi d e=>?_,λi c e=>?_,λi j q c a _ e=>?_,λi q c e=>?_,λi j q c a e f=>?_,λi j q u c a e f=>?_⟩
 .by_cases hb:b=p
  .subst hb;rw[yr9]at e;ext e
  .rw[R7 hb]at e;show e
 .cases i with
  |zero=>ext e
  |succ i=>show base.sh i d e
 .cases i with
  |zero=>ext e
  |succ i=>let⟨d,z⟩:=only i _ e;ext z
 .cases i with
  |zero=>ext e
  |succ i=>let⟨d,z⟩:=only i _ e;ext z
 .cases i with
  |zero=>ext e;show⟨rfl,l,yr9,xs,k,h⟩
  |succ i=>let⟨d,z⟩:=only i _ e;ext z
 .cases j with
  |zero=>ext f
  |succ j=>let⟨d,z⟩:=only j _ f;ext z
 .cases i with
  |zero=>
   cases j with
   |zero=>rfl
   |succ j=>let⟨d,z⟩:=only j _ f;ext z
  |succ i=>let⟨d,z⟩:=only i _ e;ext z
theorem Fun.okGl{P:Program}{K:W.Frag}{J:Qb}{base:Heap}{st:Stmt}{k:Nat}(Fn:Fun K x b st f M)(Sc:FnScope N u (y4 st))(hn:0<N.length)
  (j:∀(c:Value)(A:Around)(a:List Env)(s:Shared)(H:Hp)(E:XK),Room k (A.deeper (envOfC b (y4 st) s.heap.objs.size f c))->PSsd (cxOf CX0 P w K J base N b (y4 st) f c A a s H E).nox (i6 st) m):
  FnOk P w K J base CX0 (k+1) f M u (spG K u.length (runG N.length m)):=by
 show Fn.ok Sc (λS H Q E h=>h.1) λc A a s H S Q E hr h=>?_;let⟨hl,p,ws,F,I,O,r,G,xs,rfl,hH,hF,T,U,X,e,ok⟩:=h;delta runG at e;cases l:m (Z9 N.length p I O)with
 |none=>rw[l]at e;ext e
 |some o=>
  rw[l]at e;show⟨_,j c A a s H E hr,F,del H p,F,Z9 N.length p I O,o,yg6 hn T hF hH U X,l,?_⟩;cases o with
  |rg d q t=>
   have e:(if q=p then some (Rt.sh d,t)else none)=some (r,G):=e;by_cases i:q=p
   .rw[aH i]at e;ext e;subst i;show λv D C g x V B l n=>ok v D C g x V B l n
   .rw[aF i]at e;ext e
  |rgf es q t=>
   have e:(if q=p then some (Rt.fr es,t)else none)=some (r,G):=e;by_cases i:q=p
   .rw[aH i]at e;ext e;subst i;show λZ R D C g x L f0 z y Y B l n=>ok Z R D C g x (by rw[R7 z]at L;show L) f0 y Y B l n
   .rw[aF i]at e;ext e
  |nx _=>ext e
  |bk _=>ext e
  |ct _=>ext e
  |rt _=>ext e
  |rf _=>ext e
  |rp _ _=>ext e
section
variable {K:W.Frag}{t s F H l m:Hp}{y:St}{ρ:Ro}
theorem Ext.lent(a:Ext t s F H)(f:s p=none)(x:Ext F (del H p) l m):Ext t s l m:=
 ⟨a.ff.trans x.ff,λb o e=>by
  have c:b≠p:=λz=>by rw[z,f]at e;ext e
  show x.hh b o (by rw[R7 c];show a.hh b o e),x.fh,λb e n=>by
  by_cases d:F b=none
  .by_cases c:b=p
   .rw[c];show f
   .have:=x.new b d n;rw[R7 c]at this;show a.hh.free this
  .exact a.new b e d,λb o u z=>a.nf b o u (x.nf b o u z)⟩
theorem Rl.lent(r:Rl K t s F H y ρ){i:Nat}{r0 P:List D}(h:ρ[i]? =some (some (.own r0)))(Q:y[i]? =some (some (.ref p)))(x:Ext F (del H p) l m)(hF:l p=none)(hH:m p=some (.lst xs))(hr:Reps K l xs P):Rl K t s l m y (ρ.set i (some (.own P))):=by
 let⟨p',a0,a,b,c,d,z⟩:=r.own i r0 h;rw[Q]at a;ext a;have Z:=(bg.mp h).1;have E:∀q,q≠p->F q=none->(∃o,H q=some o)->l q=none:=λq R f M=>by
  let⟨o,T⟩:=M;cases w:l q with
  |none=>rfl
  |some u=>have:=x.new q f (by rw[w];simp);rw[R7 R,T]at this;ext this
 have C:=λq o R T=>x.hh q o (by rw[R7 R];show T);have B:∀(j:Nat) A,(ρ.set i (some (S.own P)))[j]? =some (some (.own A))->(j=i/\A=P)\/(i≠j/\ρ[j]? =some (some (.own A))):=λj A e=>by
  by_cases L:i=j
  .subst L;rw[aN Z]at e;ext e;show .inl ⟨rfl,rfl⟩
  .rw[aR L]at e;show .inr ⟨L,e⟩
 show⟨r.ext.lent z x,by simp[r.len],λj d' q=>?_,λj A q=>?_,λj k q A J U I O N e4=>?_,λj q A I=>?_,λj k q A J I O N=>?_,λj k q q' es W I O=>r.ob1 j k q q' es W (k7 I).2 (k7 O).2⟩
 .by_cases L:i=j
  .subst L;rw[aN Z]at q;ext q
  .rw[aR L]at q;let⟨v,v1,v2⟩:=r.sh j d' q;show⟨v,v1,v2.mono x.ff⟩
 .rcases B j A q with⟨rfl,rfl⟩|⟨n,e⟩
  .exact⟨p,xs,Q,hF,hH,hr,z⟩
  .let⟨p2,xs2,a2,X,c2,d2,z2⟩:=r.own j A e;have G:p2≠p:=λw=>r.inj i j p r0 A n h e Q (by rw[<-w];show a2);show⟨p2,xs2,a2,E p2 G X ⟨_,c2⟩,C _ _ G c2,d2.mono x.ff,z2⟩
 .have b1:∃g,ρ[j]? =some (some (.own g)):=by
   rcases B j A I with⟨rfl,_⟩|⟨_,w⟩
   .exact⟨_,h⟩
   .exact⟨_,w⟩
  have X:∃g,ρ[k]? =some (some (.own g)):=by
   rcases B k J O with⟨rfl,_⟩|⟨_,w⟩
   .exact⟨_,h⟩
   .exact⟨_,w⟩
  let⟨g1,w1⟩:=b1;let⟨g2,w2⟩:=X;show r.inj j k q g1 g2 U w1 w2 N e4
 .let⟨n,I⟩:=k7 I;let⟨o1,o2,o3,zs,Y,o5⟩:=r.ob j q A I;have G:q≠p:=λw=>r.obn j i q A r0 I h (by rw[w];show Q);show⟨o1,E q G o2 ⟨_,Y⟩,o3,zs,C _ _ G Y,o5.mono x.ff⟩
 .let⟨n,e5⟩:=k7 I;rcases B k J O with⟨e6,_⟩|⟨_,w⟩
  .rw[e6]at N;show r.obn j i q A r0 e5 h N
  .exact r.obn j k q A J e5 w N
theorem Rl.lentB(r:Rl K t s F H y ρ){i:Nat}(h:ρ[i]? =some (some (.ob p r0)))(x:Ext F (del H p) l m)(hF:l p=none)(hH:m p=some (.lst xs))(hr:Reps K l xs r1):Rl K t s l m y (ρ.set i (some (.ob p r1))):=by
 let⟨a,b,z,a0,c,d⟩:=r.ob i p r0 h;have W:=(bg.mp h).1;have I:∀q,q≠p->F q=none->(∃o,H q=some o)->l q=none:=λq T f N=>by
  let⟨o,U⟩:=N;cases w:l q with
  |none=>rfl
  |some u=>have:=x.new q f (by rw[w];simp);rw[R7 T,U]at this;ext this
 have G:=λq o T U=>x.hh q o (by rw[R7 T];show U);have C:∀(j:Nat) q g,(ρ.set i (some (S.ob p r1)))[j]? =some (some (.ob q g))->j=i/\q=p/\g=r1:=λj q g e=>by
  by_cases E:i=j
  .subst E;rw[aN W]at e;ext e;show⟨rfl,rfl,rfl⟩
  .rw[aR E]at e;show aV (r.ob1 i j p q r0 g h e) E
 have A:∀(j:Nat) g,(ρ.set i (some (S.ob p r1)))[j]? =some (some (.own g))->i≠j/\ρ[j]? =some (some (.own g)):=λj g e=>by
  by_cases E:i=j
  .subst E;rw[aN W]at e;ext e
  .rw[aR E]at e;show⟨E,e⟩
 show⟨r.ext.lent z x,by simp[r.len],λj d' q=>?_,λj g q=>?_,λj k q g B X L J P O=>r.inj j k q g B X (A j g L).2 (A k B J).2 P O,λj q g L=>?_,λj k q g B L J P=>?_,λj k q q' g B L J=>?_⟩
 .by_cases E:i=j
  .subst E;rw[aN W]at q;ext q
  .rw[aR E]at q;let⟨v,v1,v2⟩:=r.sh j d' q;show⟨v,v1,v2.mono x.ff⟩
 .let⟨n,e⟩:=A j g q;let⟨R,Q,Z,b2,Y,d2,z2⟩:=r.own j g e;have M:R≠p:=λw=>r.obn i j p r0 g h e (by rw[<-w];show Z);show⟨R,Q,Z,I R M b2 ⟨_,Y⟩,G _ _ M Y,d2.mono x.ff,z2⟩
 .let⟨J,P,O⟩:=C j q g L;subst J P O;show⟨a,hF,z,xs,hH,hr⟩
 .let⟨O,e5,_⟩:=C j q g L;subst O e5;show r.obn j k q r0 B h (A k B J).2 P
 .rw[(C j q g L).1,(C k q' B J).1]
end
open Classical in
noncomputable def anyP{α:Type}(f:Addr->Option α):Option α:=if h:∃x,∀p,f p=some x then some (Classical.choose h)else none
theorem xt2{a:Type}{f:Addr->Option a}{x:a}(h:anyP f=some x):∀p,f p=some x:=by
 delta anyP at h;split at h
 .rename_i hx;ext h;show c0 hx
 .cases h
theorem wm8{a:Type}{f:Addr->Option a}{x:a}(h:∀p,f p=some x):anyP f=some x:=by delta anyP;have b:∃x,∀p,f p=some x:=⟨x,h⟩;rw[dif_pos b];have:=c0 b 0;rw[h 0]at this;show this.symm
noncomputable def rtD:Rt->Option D
 | .sh d=>some d
 | .fr es=>some (.lst es)
 | .pr _ _=>none
@[irreducible] def u6(f:MG)(i:Nat)(m:MLm):MEm:=λa=>match a[i]? with
 |some (some (.own _))=>(match m a with
  |some (ds,ρ1)=>(match ρ1[i]? with
   |some (some (.own r0))=>(match anyP (λp=>f p r0 ds)with
    |some (t,r1)=>(match rtD t with |some d=>some (d,ρ1.set i (some (.own r1)))|none=>none)
    |none=>none)
   |_=>none)
  |none=>none)
 |some (some (.ob _ _))=>(match m a with
  |some (ds,ρ1)=>(match ρ1[i]? with
   |some (some (.ob p r0))=>(match f p r0 ds with
    |some (t,r1)=>(match rtD t with |some d=>some (d,ρ1.set i (some (.ob p r1)))|none=>none)
    |none=>none)
   |_=>none)
  |none=>none)
 |_=>none
theorem wm7{n:Nat}(h:∀a ds,m a=some ds->ds.length=n)(a:Ro)(ds:List D)(ρ':Ro)(e:apu m a=some (ds,ρ')):ds.length=n:=by
 delta apu at e;split at e
 .rename_i d hm;ext e;show h a _ hm
 .cases e
section
variable {b:Pos}
theorem yd5{n i:Nat}(h:∀t,PA X (.Name x O::es) t->PE X e (yo6 (spG X.K n a) [] E t))(W:es.length+1=n)(hv:PE X (.Name x O) (tVar i))(ha:PAm X es m)(V:∀b ds ρ',m b=some (ds,ρ')->ds.length=es.length)
  (hs:starEach (.Name x O::es) X.env=(false,eval (.Name x O) X.env)::starEach es X.env:=by rfl):PDm X e (u6 a i m):=(h _ (j4 hv ha hs)).imp λσ H Q I=>by
 let⟨Z,Y,F,b,d,ρ',rl,e,q⟩:=I;delta u6 at e;split at e
 .rename_i r00 h0;let⟨p,xs,y,a2,a3,a4,a5⟩:=rl.own i r00 h0;split at e
  .rename_i ds ρ1 h1;split at e
   .rename_i r0 h2;split at e
    .rename_i t r1 J;split at e
     .rename_i d' h4;ext e;have J:=xt2 J;show⟨_,y,Z,Y,F,b,ds,ρ1,rl,h1,λR U H1 c D G=>?_⟩;let⟨p',P,N,T,M,S,b5⟩:=c.own i r0 h2;rw[y]at N;ext N;rw[append_nil];show⟨by rw[bA,G.length,V b ds ρ1 h1,W],p,R,U,r0,ds,t,r1,P,rfl,M,T,c.fh,S,G,J p,?_⟩;cases t with
      |sh g=>ext h4;show λv f A k x rg u s l=>q v f A (c.lent h2 y x u s l) (D.trans x.ff) rg
      |fr gs=>
       ext h4;intro w k f A us x hw L r o u s l;have j:w≠p:=λz=>by rw[z,M]at hw;ext hw
       have B:=x.freeze L (by rw[R7 j];show hw) r;have C:Same f (upd f w (.lst k)):=(Same.refl f).put L;show q _ (upd f w (.lst k)) A (c.lent h2 y B (by rw[z9 (dr j)];show u) s (l.mono C)) (D.trans B.ff) (.lst (SqL.of z8) (o.mono C))
      |pr _ _=>ext h4
     .cases e
    .cases e
   .cases e
  .cases e
 .rename_i p00 r00 h0;let⟨y,a2,a5,xs,a3,a4⟩:=rl.ob i p00 r00 h0;split at e
  .rename_i ds ρ1 h1;split at e
   .rename_i p r0 h2;split at e
    .rename_i t r1 J;split at e
     .rename_i d' h4;ext e;show⟨_,y,Z,Y,F,b,ds,ρ1,rl,h1,λR U H1 c D G=>?_⟩;let⟨N,T,b5,P,M,S⟩:=c.ob i p r0 h2;rw[y]at N;ext N;rw[append_nil];show⟨by rw[bA,G.length,V b ds ρ1 h1,W],p00,R,U,r0,ds,t,r1,P,rfl,M,T,c.fh,S,G,J,?_⟩;cases t with
      |sh g=>ext h4;show λv f A k x rg u s l=>q v f A (c.lentB h2 x u s l) (D.trans x.ff) rg
      |fr gs=>
       ext h4;intro w k f A us x hw L r o u s l;have j:w≠p00:=λz=>by rw[z,M]at hw;ext hw
       have B:=x.freeze L (by rw[R7 j];show hw) r;have C:Same f (upd f w (.lst k)):=(Same.refl f).put L;show q _ (upd f w (.lst k)) A (c.lentB h2 B (by rw[z9 (dr j)];show u) s (l.mono C)) (D.trans B.ff) (.lst (SqL.of z8) (o.mono C))
      |pr _ _=>ext h4
     .cases e
    .cases e
   .cases e
  .cases e
 .cases e
end
section
variable {a b c e:Expr}{i g:ME}{f:Pos}
def ixAD:D->D->Option D
 | .lst ds,.int k=>atI ds k
 | .tup ds,.int k=>atI ds k
 |_,_=>none
theorem ws2{K:W.Frag}:OpD K (λx y H Q=>rIxL K x y H Q\/rIxT K x y H Q) ixAD:=by
 intro F H x y d e w Q s r p h q;cases d with
 |lst u=>
  cases e with
  |int k=>let⟨a,t,o,j,l⟩:=r.l';let⟨v,n,m⟩:=L5 l (h);show .inl ⟨_,_,k,v,o,p.i',s.seq j,n,q v F H (.refl s) m⟩
  |_=>ext h
 |tup u=>
  cases e with
  |int k=>let⟨a,t,o,j,l⟩:=r.t';let⟨v,n,m⟩:=L5 l (h);show .inr ⟨_,_,k,v,o,p.i',s.seqT j,n,q v F H (.refl s) m⟩
  |_=>ext h
 |_=>ext h
theorem wc6(k:PD X a i)(j:PD X b g)(d:zx9 b:=by show λ_ _=>rfl):PD X (.Subscript a b f) (m2 ixAD i g):=(yn6 (IxR.or zz9 xb5) k j d).imp λl H Q h=>op_d ws2 h
end
def noL:D->Bool
 | .tup ds=>ds.all isSc
 |d=>isSc d
@[irreducible] def za5(i:Nat)(m:ME):ME:=λa=>match a[i]? with
 |some (some (.own ds))=>(match m (a.set i (some (.sh (.lst ds))))with |some d=>if noL d=true then some d else none|none=>none)
 |_=>m a
theorem yh9{K:W.Frag}{F G:Hp}:∀{a:List V}{ds:List D},ds.all isSc=true->Reps K F a ds->Reps K G a ds:=by
 intro a ds h i;cases i with
 |nil=>show .nil
 |cons r t=>rw[all_cons,ej]at h;show .cons (xe9 h.1 r) (yh9 h.2 t)
theorem wr0{K:W.Frag}{F:Hp}(e:F p=some (.lst xs))(h:noL d=true)(r:Rep K F v d):Rep K (λb=>if b=p then none else F b) v d:=by
 cases r with
 |non=>show .non
 |bl b=>show .bl b
 |int i=>show .int i
 |str x=>show .str x
 |lst _ _=>ext h
 |exc _ _=>ext h
 |ptr _=>ext h
 |obj _ _ _ _ _=>ext h
 |tup c f=>
  rename_i a g j;show .tup ?_ (yh9 h f);rcases c with (c|⟨o,c⟩)|c
  .have hne:a≠p:=λz=>by rw[z,e]at c;ext c
   show .inl (.inl (by show (if a=p then none else F a)=_;rw[aF hne];show c))
  .have hne:a≠p:=λz=>by rw[z,e]at c;ext c
   show .inl (.inr ⟨o,by show (if a=p then none else F a)=_;rw[aF hne];show c⟩)
  .exact .inr c
theorem wt2{X:Cx}(i:Nat)(h:PD X e m):PD X e (za5 i m):=h.imp λy H Q f=>by
 let⟨l,k,F,n,d,rl,e,q⟩:=f;delta za5 at e;split at e
 .rename_i ds h1;let⟨p,A,s,j⟩:=rl.freezeP h1;split at e
  .rename_i d' h2;split at e
   .rename_i hs;ext e;show⟨l,k,_,_,d,j,h2,λv x t c r=>?_⟩;show q v (λb=>if b=p then none else x b) t ⟨λb o a=>?_,c.hh,λb o a=>?_,λb a g=>?_,λb o u z=>by
     split at z
     .cases z
     .rename_i hne;have:=c.nf b o u z
      rwa [z9 hne]at this⟩ (wr0 (c.ff _ _ z8) hs r)
    .have hne:b≠p:=λw=>by rw[w,s]at a;ext a
     rw[aF hne];show c.ff b o (by rw[z9 hne];show a)
    .have a:=a;split at a
     .cases a
     .exact c.fh b o a
    .have g:=g;split at g
     .exact aV rfl g
     .rename_i hne;show c.new b (by rw[z9 hne];show a) g
   .cases e
  .cases e
 .exact⟨l,k,F,n,d,rl,e,q⟩
def LtAt(A:Around)(s:Shared)(v u:Value)(k:Bool):Prop:=∀(prog:Program)(w:World)(E:Qa)(Q:Qa),Q (.bool k) s->wpAny (model prog w) A (richCompare .Lt v u) Q E s
noncomputable def yj3(A:Around)(s:Shared):List Value->List Value->Bool->Prop
 |[],[],k=>k=false
 |[],_::_,k=>k=true
 |_::_,[],k=>k=false
 |y::ys,x::xs,k=>∃e,SeqAt.EqAt A s y x e/\((e=true/\yj3 A s ys xs k)\/(e=false/\LtAt A s y x k))
section
open PySem.SeqAt
open PySem.AutoSeq1 (wpAny_loadPart')
open PySem.MeetsSeq PySem.MeetsSeq2 PySem.MeetsSeq3
set_option maxHeartbeats 4000000 in
theorem wi1(l b:Addr)(items f:Array Value)(n I:Nat)(P D:Option Addr)(H v:Array (Option Value))(k:Bool):
  Meets (Builtin.«tuple.__lt__» ⟨[.ref l,.ref b],[]⟩)
   (λA R s=>s.heap.get? l=some { cls:=.type "tuple",dict:=P,data:=.seq items n,slots:=H }/\s.heap.get? b=some { cls:=.type "tuple",dict:=D,data:=.seq f I,slots:=v }/\
    yj3 A.in1 s items.toList f.toList k/\R (.ok (.ret (.bool k))) s):=
 .of_wp λq w A R s h=>by
  let⟨G,g,d,E,F⟩:=s;let⟨M,O,K,h⟩:=h;have Q:=AutoSeq1.sub_tuple_tuple
  wp_walk using wpAny_loadPart' M,wpAny_loadPart' O,wpAny_forIn_list _ (λp b z=>b.1=none/\z=⟨G,g,d,E,F⟩/\∃(o j:List Value),p=o.zip j/\
   o.length+f.size=j.length+items.size/\yj3 A.in1 ⟨G,g,d,E,F⟩ o j k) _
  case turn=>
   rintro⟨y,x⟩ p b z ⟨u,rfl,o,j,r,i,m⟩;cases o with
   |nil=>rw[zip_nil_left]at r;ext r
   |cons a o=>
    cases j with
    |nil=>rw[zip_nil_right]at r;ext r
    |cons c j=>
     injection r with B t
     injection B with J C
     subst J C;simp at i;let⟨e,N,m⟩:=m;show aB (N q w _ _ ?_);rcases m with⟨rfl,m⟩|⟨rfl,m⟩
     .wp_walk
      show⟨rfl,rfl,o,j,t,aw,m⟩
     .have hri:=m q w
      wp_walk using hri
      show⟨_,rfl,by simpa using h⟩
  case fin=>
   rintro⟨T,S⟩ z ⟨u,rfl,o,j,r,i,m⟩;subst u;have L:k=decide (items.size<f.size):=by
    cases o with
    |nil=>
     cases j with
     |nil=>rw[show k=false from m];show(aP aw).symm
     |cons c j=>simp at i;rw[show k=true from m];show(aO aw).symm
    |cons a o=>
     cases j with
     |nil=>simp at i;rw[show k=false from m];show(aP aw).symm
     |cons c j=>ext r
   rw[L]at h
   wp_walk
   show⟨_,rfl,by simpa[Builtin.Tuple.tupleCompareSizes]using h⟩
  case h=>show⟨rfl,rfl,items.toList,f.toList,rfl,by simp;lia,K⟩
set_option maxHeartbeats 4000000 in
theorem yz2(l b:Addr)(items a:Array Value)(n F:Nat)(M B:Option Addr)(D u:Array (Option Value))(r:Bool)(k:Nat):
  ∀i:Nat,items.size-i=k->i<=items.size->i<=a.size->Meets (Builtin.«list.__eq__.loop» ⟨[.ref l,.ref b,rawInt i,rawInt 0],[]⟩)
   (λA R s=>s.heap.get? l=some { cls:=.type "list",dict:=M,data:=.seq items n,slots:=D }/\s.heap.get? b=some { cls:=.type "list",dict:=B,data:=.seq a F,slots:=u }/\
    yj3 A.in1 s (items.toList.drop i) (a.toList.drop i) r/\R (.ok (.ret (.bool r))) s):=by
 induction k with
 |zero=>
  intro i I L K j w A R s h;let⟨H,g,d,C,E⟩:=s;let⟨p,q,f,h⟩:=h
  wp_walk using wpAny_loadPart' p,wpAny_loadPart' q
  have m:items[((i:Nat):Int).toNat]? =none:=by simp;lia
  have y:items.toList.drop i=[]:=cQ (by simp;lia);rw[y]at f;have v:r=decide (items.size<a.size):=by
   cases o:a.toList.drop i with
   |nil=>
    rw[o]at f;have:a.size<=i:=by simpa using o
    rw[show r=false from f];show(aP aw).symm
   |cons c N=>
    rw[o]at f;have:i<a.size:=by
     rcases bi i a.size with z|z
     .exact z
     .rw[cQ (by simpa using z)]at o;ext o
    rw[show r=true from f];show(aO aw).symm
  rw[m]
  wp_walk using wpAny_loadPart' p,wpAny_loadPart' q
  rw[v]at h;show h
 |succ k G=>
  intro i I L K j w A R s h;let⟨H,g,d,C,E⟩:=s;let⟨p,q,f,h⟩:=h;have x:i<items.size:=aw;have m:items[((i:Nat):Int).toNat]? =some items[i]:=by simp
  have y:items.toList.drop i=items[i]::items.toList.drop (i+1):=by rw[cP (by simpa using x)];simp
  have O:((i:Int)+1)=((i+1:Nat):Int):=by push_cast;rfl
  rw[y]at f;by_cases t:i<a.size
  .have hi2:a[((i:Nat):Int).toNat]? =some a[i]:=by simp
   have o:a.toList.drop i=a[i]::a.toList.drop (i+1):=by rw[cP (by simpa using t)];simp
   rw[o]at f;let⟨e,J,f⟩:=f
   wp_walk using wpAny_loadPart' p,wpAny_loadPart' q
   rw[m,hi2];show aB (J j w _ _ ?_);rcases f with⟨rfl,f⟩|⟨rfl,f⟩
   .wp_walk
    show⟨bY plain_eq_loop _,bF entry_eq_loop (by show G (i+1) aw aw aw j w A R _ ⟨p,q,f,h⟩)⟩
   .have hri:=f j w
    wp_walk using wpAny_loadPart' p,wpAny_loadPart' q
    rw[m,hi2]
    wp_walk using hri
    show h
  .have hi2:a[((i:Nat):Int).toNat]? =none:=by simp;lia
   have o:a.toList.drop i=[]:=cQ (by simp;lia);rw[o]at f;have v:r=decide (items.size<a.size):=by rw[show r=false from f];show(aP aw).symm
   wp_walk using wpAny_loadPart' p,wpAny_loadPart' q
   rw[m,hi2]
   wp_walk using wpAny_loadPart' p,wpAny_loadPart' q
   rw[v]at h;show h
set_option maxHeartbeats 4000000 in
theorem xb4(l b:Addr)(items a:Array Value)(n j:Nat)(o f:Option Addr)(i c:Array (Option Value))(r:Bool):
  Meets (Builtin.«list.__lt__» ⟨[.ref l,.ref b],[]⟩)
   (λA R s=>s.heap.get? l=some { cls:=.type "list",dict:=o,data:=.seq items n,slots:=i }/\s.heap.get? b=some { cls:=.type "list",dict:=f,data:=.seq a j,slots:=c }/\
    yj3 A.in1 s items.toList a.toList r/\R (.ok (.ret (.bool r))) s):=by
 intro e w A R s h;let⟨u,g,d,q,t⟩:=s;let⟨k,m,p,h⟩:=h;have v:=AutoSeq1.sub_list_list
 wp_walk using wpAny_loadPart' k,wpAny_loadPart' m
 show⟨bY plain_eq_loop _,bF entry_eq_loop (by show yz2 l b items a n j o f i c r _ 0 rfl (aW _) (aW _) e w A R _ ⟨k,m,by simpa using p,h⟩)⟩
end
noncomputable def lexF(eq lt:D->D->Option Bool):List D->List D->Option Bool
 |[],[]=>some false
 |[],_::_=>some true
 |_::_,[]=>some false
 |d::ds,e::es=>match eq d e with
  |some true=>lexF eq lt ds es
  |some false=>lt d e
  |none=>none
def ltF:Nat->D->D->Option Bool
 |0,_,_=>none
 |n+1,.lst ds,.lst es=>lexF (eqF n) (ltF n) ds es
 |n+1,.tup ds,.tup es=>lexF (eqF n) (ltF n) ds es
 |_+1,.int i,.int j=>some (decide (i<j))
 |_+1,_,_=>none
section
variable {f:Qc}{g:St}
theorem xz7(I:Inv X f g H s)(n:Nat)(t:A.units+n<cLine)(r:∀{x y:V}{v u:Value}{d e:D}{k:Bool},Rep X.K H x d->Rep X.K H y e->RelV x v->RelV y u->ltF n d e=some k->LtAt A s v u k)
     {k:Bool} (a:Reps X.K H xs ds) (r2:Reps X.K H i es) (q:Vals xs m) (c:Vals i j) (h:lexF (eqF n) (ltF n) ds es=some k):yj3 A s m j k:=by
 induction q generalizing ds i j es with
 |nil=>
  ext a;cases c with
  |nil=>ext r2;ext h;show rfl
  |cons _ _=>ext r2;ext h;show rfl
 |cons p q l=>
  cases c with
  |nil=>ext r2;ext a;ext h;show rfl
  |cons o c=>
   cases a with
   |@cons _ d _ _ a t1=>
    cases r2 with
    |@cons _ e _ _ r2 t2=>
     unfold lexF at h;rcases hq:eqF n d e,h with b;show⟨b,(yk2 I n t a r2 p o hq).1,?_⟩;cases b with
     |true=>show .inl ⟨rfl,l t1 t2 c h⟩
     |false=>show .inr ⟨rfl,r a r2 p o h⟩
theorem wq6(I:Inv X f g H s):∀(n:Nat){A:Around}{x y:V}{v u:Value}{d e:D}{k:Bool},A.units+n<cLine->Rep X.K H x d->Rep X.K H y e->RelV x v->RelV y u->ltF n d e=some k->LtAt A s v u k
 |0,A,x,y,v,u,d,e,k,hu,Z,r2,q1,q2,h=>by simp[ltF]at h
 |n+1,A,x,y,v,u,d,e,k,hu,Z,r2,q1,q2,h=>by
  have P:A.units<cLine:=aw;have z:A.in1.units+n<cLine:=by show A.units+1+n<cLine;lia
  cases d with
  |int i=>
   cases e with
   |int j=>obtain rfl:=Z.i';obtain rfl:=r2.i';let⟨t,rfl⟩:=q1;let⟨t',rfl⟩:=q2;ext h;show λl w E Q U=>HT.rcLt_int A s i t j t' l w E Q U
   |_=>ext h
  |lst a5=>
   cases e with
   |lst a4=>
    let⟨a1,a3,rfl,sq,rs⟩:=Z.l';let⟨a2,a0,rfl,C,J⟩:=r2.l';ext q1;ext q2;let⟨M,vr,⟨⟨a6,dd,W,sl⟩,m,R,T,a8,S⟩,_⟩:=I.list sq;let⟨o,B,⟨⟨Y,N,O,G⟩,m2,p,r,a7,q⟩,_⟩:=I.list C;simp only at T S r q;subst T S r q;have L:=xz7 I n z (λa b c d e=>wq6 I n z a b c d e) rs J vr B (show lexF (eqF n) (ltF n) _ _=some k from h);intro l w E Q U;show richCompare_meets_room (op:=.Lt) ⟨_,R,rfl⟩ ⟨_,p,rfl⟩ PySem.F.slot_list_lt PySem.F.entry_list_lt (PySem.F.args_list_lt_2 _ _) (xb4 _ _ M.toArray o.toArray m m2 dd N sl G k)
     ⟨R,p,by simpa using L,show Value.bool k≠Value.notImplemented/\Q (.bool k) s from⟨(λx=>nomatch x),U⟩⟩ P
   |_=>ext h
  |tup a5=>
   cases e with
   |tup a4=>
    let⟨a1,a3,rfl,sq,rs⟩:=Z.t';let⟨a2,a0,rfl,C,J⟩:=r2.t';ext q1;ext q2;let⟨M,vr,⟨⟨a6,dd,W,sl⟩,R,T,m,S⟩,_⟩:=I.tuple sq;let⟨o,B,⟨⟨Y,N,O,G⟩,p,r,m2,q⟩,_⟩:=I.tuple C;simp only at T S r q;subst T S r q;have L:=xz7 I n z (λa b c d e=>wq6 I n z a b c d e) rs J vr B (show lexF (eqF n) (ltF n) _ _=some k from h);intro l w E Q U;show richCompare_meets_room (op:=.Lt) ⟨_,R,rfl⟩ ⟨_,p,rfl⟩ PySem.F.slot_tuple_lt PySem.F.entry_tuple_lt (PySem.F.args_tuple_lt_2 _ _) (wi1 _ _ M.toArray o.toArray m m2 dd N sl G k)
     ⟨R,p,by simpa using L,show Value.bool k≠Value.notImplemented/\Q (.bool k) s from⟨(λx=>nomatch x),U⟩⟩ P
   |_=>ext h
  |_=>ext h
end
section
variable {b:St}
end
section
theorem F6:isSubtype (.type "range_iterator") (.type "reversed")=pure false:=by kernel_rfl
noncomputable def zk8(x left step:Int):Obj:={ cls:=.type "range_iterator",dict:=none,data:=.fields #[rawInt x,rawInt left,rawInt step],slots:=#[] }
theorem P2{j:Int}{Q:Qa}(a:IsRange s.heap l 0 j 1 t u v)(f:-(2^62)<=j)(d:j<2^62)
  (h:Q (.ref s.heap.objs.size) { s with heap:=s.heap.push (zk8 ((j.toNat:Int)-1) j.toNat (-1)) }):wpAny (model prog w) A (call (.builtin "range.__reversed__") [.ref l]) Q E s:=by
 show bJ F.slot_range_reversed ⟨_,a,rfl⟩ F.entry_range_reversed ?_ (F.args_range_reversed_1 _);have b:Builtin.Range.rangeSize 0 j 1=(j.toNat:Int):=by rw[rangeSize_one];split <;> lia
 show aB (bP rfl ?_);show aB ?_;show aB (cK a rfl rfl ?_);show aB (bP rfl ?_);show aB (cK a rfl rfl ?_);show aB (bP rfl ?_);show aB (cK a rfl rfl ?_);show aB (bP rfl ?_);show aD ?_;dsimp only;rw[b];have c:(Builtin.Range.rangeFitsLong 0&&Builtin.Range.rangeFitsLong j&&Builtin.Range.rangeFitsLong 1&&Builtin.Range.rangeFitsLong (-1)&&Builtin.Range.rangeFitsLong (0-1)&&Builtin.Range.rangeFitsLong (j.toNat:Int))=true:=by simp only[Builtin.Range.rangeFitsLong,Bool.and_eq_true];lia
 simp only[c,if_true];have e:(0:Int)+((j.toNat:Int)-1)*1=(j.toNat:Int)-1:=aw;rw[e];show aB (bU (aD ⟨_,rfl,h⟩))
theorem M0{j:Int}{Q₁:Qa}(a:IsRange s.heap l 0 j 1 t u v)(c:-(2^62)<=j)(b:j<2^62)
  (h:Q₁ (.ref s.heap.objs.size) { s with heap:=s.heap.push (zk8 ((j.toNat:Int)-1) j.toNat (-1)) }):
  codeAny (model prog w) A (.call (.builtin "reversed.__new__") ⟨[.type "reversed",.ref l],[]⟩) (wants Q₁ E) s:=by
 show codeAny_of_tree ?_;show aB (bP (F.newCall_reversed_1 _) (aD ⟨bY F.plain_reversed_new _,bF F.entry_reversed_new ?_⟩));show aB (bP (newClass_reversed _) ?_)
 try dsimp only
 show aB (bP (by first|rfl|kernel_rfl) ?_);show aB (bP (by first|rfl|kernel_rfl) ?_)
 try dsimp only
 show aB (wpAny_specialOf ⟨_,a,rfl⟩ F.slot_range_reversed.lookup ?_)
 try dsimp only
 show aB (bP (F.slot_range_reversed.bind _) ?_)
 try dsimp only
 first
 |rw[aF (bd)]
 | (rw[aF (show ¬ ((Value.builtin "range.__reversed__"==Value.none)=true)from bd)])
 show aB (cn ?_);show aB (m:=runValue (.call (.builtin "range.__reversed__") ⟨[.ref l],[]⟩)) (show wpAny _ _ (call (.builtin "range.__reversed__") [.ref l]) _ _ _ from P2 a c b ?_)
 first
 |show aD h
 |show aB (aD (aD h))
theorem P1{j:Int}{Q:Qa}(b:IsRange s.heap l 0 j 1 t u v)(d:-(2^62)<=j)(c:j<2^62)
  (h:Q (.ref s.heap.objs.size) { s with heap:=s.heap.push (zk8 ((j.toNat:Int)-1) j.toNat (-1)) }):wpAny (model prog w) A (call (.type "reversed") [.ref l]) Q E s:=by
 show callType_other (Q₁:=λobj a=>obj= .ref s.heap.objs.size/\a={ s with heap:=s.heap.push (zk8 ((j.toNat:Int)-1) j.toNat (-1)) }) aA F.create_reversed ⟨_,_,F.mro_reversed⟩ F.made_reversed F6 (F.typeCall_reversed_1 _) (M0 b d c ⟨rfl,rfl⟩) ?_;rintro obj a ⟨rfl,rfl⟩;show⟨⟨_,aQ _ rfl,rfl⟩,h⟩
end
noncomputable def Itdn(hi:Int)(n:Nat):It:=⟨λi _=>i<n,λi H x H'=>H'=H/\x= .int (hi-i),λi _=>n<=i⟩
theorem zk0{P:Program}{w:World}{K:W.Frag}{B:Expr}(it:Addr)(lo:Int)(n:Nat):Turn P w K B (Itdn lo n) [it] it (λi h=>IsRangeIter h it (lo+(i:Nat)*(-1)) ((n:Int)-(i:Nat)) (-1)) where
 mem:=by simp
 obj:=λi h st b a=>by
  have e:b=it:=by simpa using a
  subst e;show⟨_,st,λv z=>by cases z⟩
 keep:=λi h y st k=>k it az _ st
 item:=by intro X u hw x j i d s A H E I f st g;subst u hw x;let⟨r,q,F,p,m,l⟩:=f it az;show(Walks.range (prog:=X.prog) (w:=X.w) (I.ok.hd j) it lo (-1) n).item i s _ _ g st λv y J D c C=>?_;let⟨t,rfl⟩:=D;show⟨_,rfl,xi7 c rfl rfl ay ⟨.int (lo-i),H,(I.turned (λb o a e=>C b o (by simpa using a) e) r q p m l),⟨t,?_⟩,⟨rfl,rfl⟩,c,λb a=>(f b a).1⟩⟩;rw[show lo+(i:Int)*(-1)=lo-i by lia]
 done:=by intro X u hw x j i d s A H E I f st g;let⟨r,q,F,p,m,l⟩:=f it az;show wpAny_pyNext_range_end (I.ok.hd j) st (by have:n<=i:=g;lia) λy G=>⟨rfl,I.turned (λb o a e=>G b o a e) r q p m l⟩
 self:=λ_ _ _ _ _ st h=>wpAny_pyIter_rangeiter st h
section
noncomputable def zy9(n:Nat):List D:=(List.range n).map λ(i:Nat)=>D.int ((n:Int)-1-(i:Int))
theorem G4(n:Nat):(zy9 n).length=n:=by delta zy9;simp
theorem ys9{K:W.Frag}{F:Hp}{n:Nat}:ItD K F (Itdn ((n:Int)-1) n) (zy9 n) where
 go:=λi c f a b hi=>by rw[G4]at hi;show hi
 yld:=λi c f x g d a b e y=>by
  let⟨rfl,rfl⟩:=y;delta zy9 at e;rw[bn]at e;have hi:i<n:=by
   rcases bi i n with h|h
   .exact h
   .rw[aY (by simpa using h)]at e;ext e
  rw[cw hi]at e;ext e;show⟨c,.refl b,.int _⟩
 stop:=λc f a b=>by rw[G4];show aK n
def rngD:List D->Option (List D)
 |[.int j]=>if okR j=true then some (zy9 j.toNat)else none
 |_=>none
theorem ye3(Y:Gl X "reversed")(W:X.mg "reversed"=none)(J:Gl X "range")(G:X.mg "range"=none)(ha:PAs X [a] m)(Z:starEach [a] X.env=(false,eval a X.env)::starEach [] X.env:=by rfl)
  (k:∀d,(backTo d (starEach [] X.env)).any (·.1)=false:=by intro _;rfl)
  (K:starEach (Expr.Call (.Name "range" E) [a] [] c::[]) X.env=(false,eval (Expr.Call (.Name "range" E) [a] [] c) X.env)::starEach [] X.env:=by rfl):
  PId X O (.Call (.Name "reversed" p) [.Call (.Name "range" E) [a] [] c] [] d) (w4 rngD m):=by
 intro i s M H R I h;let⟨F0,H0,F,N,its,S,e,q⟩:=h;let⟨L,h1,f⟩:=g8 e;show Call_ (V6 I Y W boot_reversed (bI (thn (j4 (U4 xv4 J G boot_range ha ay ay Z (k _)) pa_nil K d i s M H (λC B=>∃p j w A,C=[.ref p]/\L=[.int j]/\A p=none/\B=upd A p (.rng 0 j)/\Ext F H w A) I ⟨F0,H0,F,N,L,S,h1,λC w B x D=>by
  delta rngD at f;split at f
  .rename_i j;cases D with
   |cons r Q=>ext Q;ext r;show⟨j,rfl,λp U=>⟨p,j,w,B,rfl,rfl,U,rfl,x⟩⟩
  .cases f⟩) λus g ⟨C,B,z,D,T⟩=>?_) K (k _)))
 let⟨l,j,w,A,ev,ed,V,eH,x⟩:=T;subst ev ed eH;let⟨u,rfl,P⟩:=U1 D;ext P;have f:(if okR j=true then some (zy9 j.toNat)else none)=some its:=f;split at f
 case isFalse=>ext f
 rename_i y;ext f;delta okR at y;simp at y;let⟨t,u,v,eo⟩:=z.hok l _ z8;show P1 eo y.1 y.2 ?_;have n:IsRangeIter (g.heap.push (zk8 ((j.toNat:Int)-1) j.toNat (-1))) g.heap.objs.size ((j.toNat:Int)-1) j.toNat (-1):=aQ _ rfl;show wpAny_pyIter_rangeiter n ?_;show⟨g.heap.objs.size,[g.heap.objs.size],_,_,_,rfl,z.kept λb o e=>aC _ e,zk0 _ ((j.toNat:Int)-1) j.toNat,?_,λb hb=>?_,q _ w _ (x.trans (Ext.own x.fh V)) ys9⟩
 .have e1:((j.toNat:Int)-1)+((0:Nat):Int)*(-1)=(j.toNat:Int)-1:=by simp
  have e2:((j.toNat:Nat):Int)-((0:Nat):Int)=j.toNat:=by simp
  rw[e1,e2];show n
 .have e:b=g.heap.objs.size:=by simpa using hb
  subst e;show z.fpOk (aK _) (z.hok.fresh (aK _))
end
section
variable {a b:Expr}{c:Pos}
end
section
variable {c:MG}{b:MEm}
end
section
variable {a b:Expr}{c:Pos}
noncomputable def F8(n:Nat)(k:Int):Bool:=decide (-(2^62)<=k)&&decide (k<2^62)&&decide (n*k.toNat<=sizeLine)
@[irreducible] def mrep(x:ML)(y:ME):ML:=λa=>(x a).bind λds=>match y a with
 |some (.int k)=>if F8 ds.length k=true then some (List.replicate k.toNat ds).flatten else none
 |_=>none
theorem yb8{a:Ro}(h:mrep x y a=some d):∃ds k,x a=some ds/\y a=some (.int k)/\F8 ds.length k=true/\d=(List.replicate k.toNat ds).flatten:=by
 delta mrep at h;rcases h1:x a,h with ds;rw[aI]at h;split at h
 .rename_i k h2;split at h
  .rename_i hk;show⟨ds,k,rfl,h2,hk,(bm h).symm⟩
  .cases h
 .cases h
theorem zp6{a:Ro}{k:Int}(f:x a=some ds)(e:y a=some (.int k))(d:F8 ds.length k=true):mrep x y a=some (List.replicate k.toNat ds).flatten:=by delta mrep;rw[f,aI,e];simp only[d,if_true]
theorem zk9{K:W.Frag}{F:Hp}{xs:List V}{ds:List D}(r:Reps K F xs ds):∀k:Nat,Reps K F (List.replicate k xs).flatten (List.replicate k ds).flatten
 |0=>.nil
 |k+1=>by rw[cF,cF,dI,dI];show r.append (zk9 r k)
theorem we5(u:PF X a x)(t:PD X b y):PF X (.BinOp a .Mult b c) (mrep x y):=(xn8 wb7 u t).imp λG H Q f=>by let⟨o,n,F,i,g,rl,e,q⟩:=f;let⟨C,k,A,z,h,rfl⟩:=yb8 e;delta F8 at h;simp at h;show⟨o,n,F,i,C,rl,A,λp r E L l I J B m=>⟨o,n,E,i,.int k,rl.go l,z,λv D K d s=>?_⟩⟩;ext s;show⟨p,k,r,rfl,rfl,d.hh _ _ B,aw,aw,by rw[m.length];show h.2,λw hw=>?_⟩;have j:=l.trans d;show q w _ D _ (j.trans (Ext.own d.fh hw)) (j.hh.free hw) (d.fh.free hw) z8 (zk9 (m.mono d.ff) k.toNat)
end
section
variable {b:St}
end
noncomputable def gtI:D->D->Option Bool
 | .int i,.int j=>some (decide (i>j))
 |_,_=>none
theorem wp7{k:Bool}(h:gtI d e=some k):∃i j,d= .int i/\e= .int j/\k=decide (i>j):=by
 cases d with
 |int i=>
  cases e with
  |int j=>ext h;show⟨i,j,rfl,rfl,rfl⟩
  |_=>ext h
 |_=>ext h
theorem vm8{K:W.Frag}{F l:Hp}{k:Bool}(b:Rep K F x d)(r2:Rep K l y e)(f:RelV x v)(c:RelV y u)(h:gtI d e=some k)(prog:Program)(w:World)(E:Qa)(Q:Qa)(g:Q (.bool k) s):wpAny (model prog w) A (richCompare .Gt v u) Q E s:=by let⟨i,j,rfl,rfl,rfl⟩:=wp7 h;obtain rfl:=b.i';obtain rfl:=r2.i';let⟨t,rfl⟩:=f;let⟨a,rfl⟩:=c;show CmpOf.ints_gt (prog:=prog) (w:=w) (A:=A) (P:=λn v=>∃t,v= .int (if n=1 then i else j) t) (λn=>if n=1 then i else j) (λi v h=>h) 1 0 _ _ _ _ _ ⟨t,rfl⟩ ⟨a,rfl⟩ g
section
variable {b:St}
end
section
end
theorem yj1(a u:Value):argsOk "max" ⟨[a],[(Str.ofString "default",u)]⟩:=by kernel_rfl
def maxP:List D->D->Option D
 |[],b=>some b
 |d::ds,b=>(match gtI d b with |some true=>maxP ds d|some false=>maxP ds b|none=>none)
def maxE(ds:List D)(d0:D):Option D:=match ds with
 |[]=>some d0
 |d::ds=>maxP ds d
section
variable {f:Qc}
set_option maxHeartbeats 8000000 in
theorem ya7(hc:X.calm=true)(hu:X.A.units+64<cLine){l I S:Addr}{kw:List (Str×Value)}(t:I≠S)(a4:l≠I)(a3:l≠S):
  ∀(r j:Nat)(H F B C:Hp)(s:Shared)(u:V)(m:Value)(y:D)(c:Nat)(R:Result->Shared->Prop),
   ds.length-(j+1)=r->j+1<=ds.length->Inv X f k H s->Ext C B F H->SqL X.K H l xs->Reps X.K F xs ds->s.heap.IsListIter I l (j+1)->s.heap.get? S=some (seqObj "list" #[m,m] c)->FpOk X f H I->FpOk X f H S->
   RelV u m->Rep X.K F u y->maxP (ds.drop (j+1)) y=some dm->
   (∀x v F' H' s',Inv X f k H' s'->RelV x v->Ext C B F' H'->Rep X.K F' x dm->R (.ok (.ret v)) s')->
   codeAny (model X.prog X.w) X.A (.builtin "max.loop" ⟨[.ref I,.none,.ref S],kw⟩) R s:=by
 have g:(toString "max"++toString ".loop":String)="max.loop":=by decide
 intro r;induction r with
 |zero=>
  intro j H F B C s u m y c R hr hj z ext E G p N Y W P Q h T;have a0:j+1=ds.length:=ax;let⟨J,Z,pl,_⟩:=z.list E;have zl:J.length=ds.length:=by rw[<-Z.length,G.length]
  rw[a0,drop_length]at h;ext h;show bF PySem.F.entry_max_loop ?_;show aB (bS N rfl ?_);show aB (wpAny_tryCatch (wpAny_pyNext_list_end (z.ok.hd hc) p pl.isList (by simp;omega) λh' L=>?_));have a2:=L S _ (dr t) N;have O:=bH h' S (Obj.mapSeq λ_=>(#[]:Array Value));show aB ?_;show cJ a2 rfl (aB (dF (aD ?_)));have I9:=z.turnedL (fp:=[I,S]) (t':=s.toks) (λb o a e=>by
   simp at a;show(O.2 b a.2).trans (L b o a.1 e)) (λb a=>by
   simp at a;rcases a with rfl|rfl <;> assumption)
  show T u m F H _ I9 P ext Q
 |succ r ih=>
  intro j H F B C s u m y c R hr hj z ext E G p N Y W P Q h T;have n:j+1<ds.length:=ax;let⟨J,Z,pl,_⟩:=z.list E;obtain⟨d,hd⟩:∃d,ds[j+1]? =some d:=⟨_,aG n⟩;let⟨x,hx,px⟩:=G.get hd;let⟨v,hv,rx⟩:=Z.get hx;rw[N8 hd]at h;unfold maxP at h;show bF PySem.F.entry_max_loop ?_;show aB (bS N rfl ?_);show aB (wpAny_tryCatch (wpAny_pyNext_list_item p pl.isList (by simpa using hv) λU i O=>?_));have I1:Inv X f k H { s with heap:=U,toks:=s.toks }:=z.turnedL (fp:=[I]) (λb o a e=>O.extBut b o (by simpa using a) e) (λb a=>by rw[aZ.mp a];show Y);have q:=O.extBut _ _ (dr t) N;rcases hlt8:gtI d y,h with bt;have M:=vm8 (A:=X.A.in1) (s:={ s with heap:=U,toks:=s.toks }) px Q rx P hlt8;show aB (aD ?_);show aB (wpAny_tryCatch (cv (aB (M X.prog X.w _ _ ?_))));show aB (cv (dU ?_));show aB (dF (aD ?_));cases bt with
  |true=>have s3:=bH U S (Obj.mapSeq λ_=>#[v,v]);obtain⟨c2,a1⟩:∃c2,(U.update S (Obj.mapSeq λ_=>#[v,v])).get? S=some (seqObj "list" #[v,v] c2):=⟨_,get?_update_seq q λ_=>#[v,v]⟩;simp;show aB ?_;show cJ q rfl (aB (dF ?_));rw[g];have I3:=I1.turnedL (t':=s.toks) (fp:=[S]) (λb o a e=>(s3.2 b (by simpa using a)).trans e) (λb a=>by rw[aZ.mp a];show W);show aD ⟨bY dW _,ih (j+1) H F B C _ x v d c2 R ax n I3 ext E G (i.at λo e=>(s3.2 I t).trans e) a1 Y W rx px h T⟩
  |false=>simp;show aB (dF ?_);rw[g];show aD ⟨bY dW _,ih (j+1) H F B C _ u m y c R ax n I1 ext E G i q Y W P Q h T⟩
set_option maxHeartbeats 8000000 in
theorem xk9(hc:X.calm=true)(hu:X.A.units+64<cLine){H F:Hp}{E:Qa}{Q:Qa}
  (I:Inv X f k H s) (sf:Same F H) (P:SqL X.K H l xs) (R:Reps X.K F xs ds) (r0:RelV N O) (p0:Rep X.K F N d0) (hm:maxE ds d0=some dm)
  (hQ:∀x v L G B,Inv X f k G B->RelV x v->Ext F H L G->Rep X.K L x dm->Q v B):
  wpAny (model X.prog X.w) X.A (call (.builtin "max") [.ref l] [(Str.ofString "default",O)]) Q E s:=by
 have h:(toString "max"++toString ".loop":String)="max.loop":=by decide
 let⟨a0,vr,pl,_⟩:=I.list P;have r:=pl.isList;let⟨ol,T,_⟩:=id r;have t:=aS T;show kmk_tree PySem.F.kind_max PySem.F.plain_max PySem.F.entry_max (yj1 _ _) ?_;show aB (bP (rfl) ?_);show aB (aD ?_);show aB (dB r ?_);show aB (wpAny_newList ?_ (aW _));rw[h];show aD ⟨bY dW _,?_⟩;generalize j:({ cls:=.type "list_iterator",data:=.fields #[.ref l,.int 0 0] }:Obj)=oI0;have C:(s.heap.push oI0).objs.size=s.heap.objs.size+1:=size_push' ..;have W:=bp t;have U:l≠(s.heap.push oI0).objs.size:=by rw[C];show bp (bK t)
 have m:s.heap.objs.size≠(s.heap.push oI0).objs.size:=by rw[C];show bp (bZ _)
 have gI:((s.heap.push oI0).push (seqObj "list" #[] 0)).get? s.heap.objs.size=some oI0:=aC _ (aQ _ (by rw[<-j];rfl));have gS:((s.heap.push oI0).push (seqObj "list" #[] 0)).get? (s.heap.push oI0).objs.size=some (seqObj "list" #[] 0):=aQ _ rfl;have fI:=I.fpOk (aK _) (I.hok.fresh (aK _));have fS:FpOk X f H (s.heap.push oI0).objs.size:=I.fpOk (by rw[C];show dR _) (I.hok.fresh (by rw[C];show dR _));have I0:Inv X f k H { s with heap:=(s.heap.push oI0).push (seqObj "list" #[] 0),toks:=s.toks }:=I.turnedL (fp:=[]) (λb o _ e=>aC _ (aC _ e)) (λb g=>by ext g);generalize (s.heap.push oI0).objs.size=S at*;generalize hI:s.heap.objs.size=J at*;generalize (s.heap.push oI0).push (seqObj "list" #[] 0)=h0 at*;have y:h0.IsListIter J l 0:=⟨_,gI,by rw[<-j],by rw[<-j];rfl⟩;let⟨q,n,p,_⟩:=I0.list P;have M:q.length=ds.length:=by rw[<-n.length,R.length]
 show bF PySem.F.entry_max_loop ?_;show aB (bS gS rfl ?_);cases ds with
 |nil=>ext hm;show aB (wpAny_tryCatch (wpAny_pyNext_list_end (I.ok.hd hc) y p.isList (by simp[M]) λh' Y=>?_));show aB (cn (aD ?_));have I9:=I0.turnedL (fp:=[J]) (t':=s.toks) (λb o g e=>Y b o (by simpa using g) e) (λb g=>by rw[aZ.mp g];show fI);show hQ N O F H _ I9 r0 (Ext.refl sf) p0
 |cons d ds=>let⟨x,hx,px⟩:=R.get (i:=0) rfl;let⟨v,hv,rx⟩:=n.get hx;show aB (wpAny_tryCatch (wpAny_pyNext_list_item y p.isList (by simpa using hv) λh1 u s1=>?_));have I1:=I0.turnedL (t':=s.toks) (fp:=[J]) (λb o g e=>s1.extBut b o (by simpa using g) e) (λb g=>by rw[aZ.mp g];show fI);have z:=s1.extBut _ _ (dr m) gS;show aB (aD ?_);have s3:=bH h1 S (Obj.mapSeq λ_=>#[v,v]);obtain⟨c2,Z⟩:∃c2,(h1.update S (Obj.mapSeq λ_=>#[v,v])).get? S=some (seqObj "list" #[v,v] c2):=⟨_,get?_update_seq z λ_=>#[v,v]⟩;show aB (cJ z rfl ?_);rw[h];have I3:=I1.turnedL (t':=s.toks) (fp:=[S]) (λb o g e=>(s3.2 b (by simpa using g)).trans e) (λb g=>by rw[aZ.mp g];show fS);show aD ⟨bY dW _,ya7 hc hu m W U _ 0 H F H F _ x v d c2 _ rfl az I3 (.refl sf) P R (u.at λo e=>(s3.2 J m).trans e) Z fI fS rx px hm λx v L G B a b c d=>hQ x v L G B a b c d⟩
@[irreducible] def zh0(m:ML)(md:ME):ME:=λa=>(m a).bind λds=>(md a).bind λd0=>maxE ds d0
theorem yn9(h:zh0 m a c=some g):∃ds b,m c=some ds/\a c=some b/\maxE ds b=some g:=by
 delta zh0 at h;cases h1:m c with
 |none=>rw[h1]at h;ext h
 |some d=>
  cases h2:a c with
  |none=>rw[h1,h2]at h;ext h
  |some e=>rw[h1,h2]at h;show⟨d,e,rfl,rfl,h⟩
theorem mmaxE_ev(c:m d=some ds)(b:a d=some d0):zh0 m a d=maxE ds d0:=by delta zh0;rw[c,b];rfl
theorem wu9{e L:Expr}(hc:X.calm=true)(hu:X.A.units+64<cLine)(hg:Gl X "max")(hm:X.mg "max"=none)(ha:PB X e m)(hd:PD X L J)
  (C:starEach (e::[]) X.env=(false,eval e X.env)::starEach [] X.env:=by rfl):
  PD X (.Call (.Name "max" p) [e] [⟨some "default",L,n⟩] b) (zh0 m J):=by
 intro f s k H Q I h;let⟨R,O,F,G,g,rl,em,Z⟩:=h;let⟨M,N,h1,h2,h3⟩:=yn9 em;show wpAny_Call_Name_kw (V6 I hg hm PyProof.Rows.boot_max ?_ ay ay);have A:=j4 ha pa_nil C b f s k H (λl i=>∃p j c,l=[.ref p]/\Ext F H c i/\SqL X.K i p j/\Reps X.K c j M) I ⟨R,O,F,G,M,rl,h1,λp j c i q r z=>⟨p,j,c,rfl,q,r,z⟩⟩;show callWith_kw (thn A λT r a=>?_) (by rw[C];rfl) (by rw[C];rfl);let⟨l,i,I1,z,p,j,c,D,q,U,Y⟩:=a;subst D;let⟨u,rfl,W⟩:=U1 z;ext W;have B:=wv2 (nm:=some "default") (kpos:=n) hd we3 b f r k i (λl E=>∃y o,l=[y]/\Ext c i o E/\Rep X.K o y N) I1 ⟨R,O,c,G,N,rl.go q,h2,λy o E d w=>⟨y,o,rfl,d,w⟩⟩;show thn B λT s2 a=>?_;let⟨l,E,I2,w,y,o,D,d,p0⟩:=a;subst D;let⟨u2,rfl,t⟩:=U1 w;show xk9 hc hu I2 d.fh (d.hh.seq U) (Y.mono d.ff) t p0 h3 λx v F' P s' I' V S px=>⟨x,P,I',V,Z x F' P ((q.trans d).trans S) px⟩
end
end L2
namespace L2
open List
open PySem PySem.Spec PyProof.Rows PySem.Builtin PySem.Builtin.Str
section
variable {a b c e o:Expr}{i h g:ME}{f:Pos}
theorem yt3{z:Int}(l:Gl X x)(k:X.mg x=some (.int z t))(m:(x==("__debug__":Str))=false:=by decide):PD X (.Name x p) (mc (.int z)):=(wu1 (v:=.int z) l k ⟨_,rfl⟩ m).imp λn H Q j=>by let⟨w,u,F,s,d,r,e,q⟩:=j;ext e;show q _ F H (.refl r.fh) (.int z)
end
section
variable {a b c e o:Expr}{h g f:ME}{d:Pos}
end
end L2
namespace L2
open List
open PySem PySem.Spec PyProof.Rows
noncomputable def zt8(src:Qd)(a:Ro):Ro:=src.map λo=>o.bind λi=>match a[i]? with |some (some (.sh d))=>some (.sh d)|some (some (.own ds))=>some (.own ds)|_=>none
@[irreducible] def zz6(src:Qd)(mi:ML)(g:Tg)(c:MB)(elt:ME):ML:=λa=>(mi a).bind λits=>c9 g c elt its (zt8 src a) []
def xq4(src:Qd):Prop:=∀i j k:Nat,src[i]? =some (some k)->src[j]? =some (some k)->i=j
theorem xq3{src:Qd}(h:∀i,i<src.length->∀j,j<src.length->src[i]? =src[j]?->src[i]? =some none\/i=j):xq4 src:=λi j k hi a=>by
 rcases h i ((bg.mp hi).1) j ((bg.mp a).1) (by rw[hi,a])with e|e
 .rw[hi]at e;ext e
 .exact e
theorem P4{src:Qd}{i:Nat}(e:(zt8 src a)[i]? =some (some x)):∃k,src[i]? =some (some k)/\a[k]? =some (some x)/\nob (some x):=by
 delta zt8 at e;rw[bn]at e;rcases h:src[i]?,e with o;cases o with
 |none=>ext e
 |some k=>
  simp at e;split at e
  .rename_i d h';ext e;show⟨k,rfl,h',True.intro⟩
  .rename_i ds h';ext e;show⟨k,rfl,h',True.intro⟩
  .cases e
theorem xu0{src:Qd}{i k:Nat}(h:src[i]? =some (some k))(b:a[k]? =some (some v)):(blk0 src a)[i]? =some (some v):=by delta blk0;rw[bn,h];simp only[Option.map_some,Option.bind_some,b];rfl
theorem ze1{src:Qd}{i k:Nat}(h:src[i]? =some (some k))(a:(blk0 src b)[i]? =some (some v)):b[k]? =some (some v):=by
 delta blk0 at a;rw[bn,h]at a;simp at a;rcases hk:b[k]?,a with o;simpa using a
theorem Rl.blkO{K:W.Frag}{E D F H:Hp}(r:Rl K E D F H m I){src:Qd}(ok:xq4 src)(s:H p=none):Rl K F (upd F p (.lst [])) F (upd H p (.lst [])) (blk0 src m) (zt8 src I):=by
 show⟨⟨Same.refl F,r.fh.put2,r.fh.put (r.fh.free s),λb e n=>aV e n,λ_ _ _ z=>z⟩,by delta blk0 zt8;simp,λi d e=>?_,λi f e=>?_,λi j q f h g C B y x=>?_,λi q f e=>?_,λi j q f h e=>?_,λi j q G f h e=>?_⟩
 .let⟨k,h1,h2,_⟩:=P4 e;let⟨v,a,b⟩:=r.sh k d h2;show⟨v,xu0 h1 a,b⟩
 .let⟨k,h1,h2,_⟩:=P4 e;let⟨q,u,a,b,c,d,z⟩:=r.own k f h2;have o:q≠p:=λw=>by rw[w,s]at c;ext c
  show⟨q,u,xu0 h1 a,b,by rw[z9 o];show c,d,by rw[z9 o];show b⟩
 .let⟨k,h1,h2,_⟩:=P4 C;let⟨l,t,A,_⟩:=P4 B;show r.inj k l q f h (λw=>?_) h2 A (ze1 h1 y) (ze1 t x);subst w;show g (ok i j k h1 t)
 .let⟨k,h1,h2,n⟩:=P4 e;show n.elim
 .let⟨k,h1,h2,n⟩:=P4 e;show n.elim
 .let⟨k,h1,h2,n⟩:=P4 e;show n.elim
theorem xh5{K:W.Frag}{src:Qd}(o:xq4 src)(h:TF K (zz6 src mi g c a) k H Q):zr0 src (TId K mi) (TGd K g) (TC K c) (TD K a) k H Q:=by
 let⟨v,t,F,l,s,rl,e,q⟩:=h;delta zz6 at e;rcases h1:mi l,e with d;show⟨v,t,F,l,d,rl,h1,λJ y x b I p f=>?_⟩;show zg9 b.fh f ((rl.go b).blkO o f) I e λm w u n j i r=>q p m w u (b.trans n) (b.hh.free f) j i r
section
variable {a b c e o:Expr}{j i f:ME}{d:Pos}
theorem xn6{src:Qd}(t:xq4 src)(B:Blk X l N src)(z:X.calm=true)
  (hi:PId X p k mi) (w:∀C fp s H,PGd (d8 X l C N fp s H) p g) (u:∀C fp s H,PTsd (d8 X l C N fp s H) m r) (y:∀C fp s H,PD (d8 X l C N fp s H) n q)
  (v:∀x,foldedSetIterable k X.env x=pure x:=by intro _;rfl):
  PF X (.ListComp n [⟨p,k,m,0⟩] l d) (zz6 src mi g r q):=(zb4 (g:=TGd X.K g) (tc:=TC X.K r) (te:=TD X.K q) B z hi (λC fp s H=>w C fp s H) (λC fp s H=>u C fp s H) (λC fp s H=>y C fp s H) v).imp λ_ _ _ h=>xh5 t h
def rSum(K:W.Frag):List V->Hp->VK->Prop:=λvs H Q=>∃(p:Addr)(ns:List Int),vs=[.ref p]/\SqL K H p (ns.map V.int)/\Q (.int ns.sum) H
theorem xh7(x:X.calm=true):CallR X (.builtin "sum") (rSum X.K):=by intro g s A H B C Q I r h;let⟨p,ns,rfl,n,q⟩:=h;let⟨u,rfl,t⟩:=U1 r;ext t;let⟨w,l,v,F⟩:=I.list n;let⟨D,z,y⟩:=Z1 l;have hp:=v.isList;rw[z]at hp;show sum_intListG (I.ok.hd x) hp λG E m k=>?_;show⟨.int ns.sum,H,I.kept k,⟨m,?_⟩,q⟩;rw[preSum_eq,dC az,<-y]
@[irreducible] def msum(m:ML):ME:=λa=>match m a with |some ds=>(match V0 ds with |some ns=>some (.int ns.sum)|none=>none)|none=>none
theorem xc0(A:X.calm=true)(y:Gl X "sum")(x:X.mg "sum"=none)(B:PB X e m)(v:bootBuiltins "sum"=some (.builtin "sum"))(w:starEach (e::[]) X.env=(false,eval e X.env)::starEach [] X.env:=by rfl)(z:starEach [e] X.env=(false,eval e X.env)::starEach [] X.env:=by rfl)(k:(backTo d (starEach [] X.env)).any (·.1)=false:=by rfl):PD X (.Call (.Name "sum" p) [e] [] d) (msum m):=
 (j7 (xh7 A) y x v (j4 B pa_nil w) ay ay z k).imp λI H Q h=>by
  let⟨G,D,F,l,g,t,e,q⟩:=h;delta msum at e;cases h1:m l with
  |none=>rw[h1]at e;ext e
  |some n=>
   rw[h1]at e;cases h2:V0 n with
   |none=>simp only[h2]at e;ext e
   |some ns=>simp only[h2]at e;ext e;show⟨G,D,F,l,n,t,h1,λp J E C r s u=>⟨p,ns,rfl,?_,q _ E C r (.int _)⟩⟩;rw[<-Z3 u h2];show s
end
section
end
section
variable {a b c e o:Expr}{h g f:ME}{d:Pos}
end
section
variable {a b c e:Expr}{i h:MEm}{d:Pos}
abbrev MBm:=Ro->Option (Bool×Ro)
def TCm(K:W.Frag)(c:MBm):TT:=λd H Q=>∃F0 H0 F a b ρ',Rl K F0 H0 F H d a/\c a=some (b,ρ')/\∀F' H',Rl K F0 H0 F' H' d ρ'->Same F F'->Q b H'
@[irreducible] noncomputable def zz2(x:MEm):MBm:=λa=>match x a with |some (.bl b,ρ1)=>some (b,ρ1)|_=>none
theorem wt4{f:D->D->Option D}(u:OpR X (compareOp op) r)(x:OpD X.K r f)(z:PDm X a i)(y:PDm X b h)(w:behindInMarks op b=false):PT X (.Compare a [op] [b] d) (TCm X.K (zz2 (m2m f i h))):=(zc5 u z y w).imp λI H Q l=>by
 let⟨C,A,F,p,g,n,t,e,q⟩:=l;delta zz2 at e;split at e
 .rename_i k ρ1 hk;ext e;show xm8 x ⟨C,A,F,p,.bl g,n,t,hk,λv G B o s r=>?_⟩;ext r;show⟨_,rfl,q G B o s⟩
 .cases e
@[irreducible] noncomputable def mifm(c:MBm)(x y:MS):MS:=λa=>match c a with |some (true,ρ1)=>x ρ1|some (false,ρ1)=>y ρ1|none=>none
theorem ww3(z:PT X c (TCm X.K u))(w:PSsd X x t)(v:PSsd X y s):PSd X (.If c x y d) (mifm u t s):=(ww7 z w v).imp λD B H g=>by
 let⟨l,k,F,q,o,r,e,ok⟩:=g;delta mifm at e;split at e
 .rename_i ρ1 h1;show⟨l,k,F,q,_,ρ1,r,h1,λp A f n=>iteT ⟨l,k,p,ρ1,o,f,e,ok.mono n⟩⟩
 .rename_i ρ1 h1;show⟨l,k,F,q,_,ρ1,r,h1,λp A f n=>iteF ⟨l,k,p,ρ1,o,f,e,ok.mono n⟩⟩
 .cases e
end
section
variable {a b c e:Expr}{g f:MEm}{d:Pos}
end
section
end
section
variable {b:MEm}{c:MG}
open Classical in
end
def rng3:List D->Option (List D)
 |[.int i,.int j,.int k]=>if -1<=i/\i<2^61/\j= -1/\k= -1 then some (zy9 (i+1).toNat)else none
 |_=>none
theorem zk7(i:Int)(h:-1<=i):Builtin.Range.rangeSize i (-1) (-1)=((i+1).toNat:Int):=by
 unfold Builtin.Range.rangeSize;rw[aF ay];split
 .lia
 .lia
theorem yo8(i:Int)(h:-1<=i)(a:i<2^61):Builtin.Range.small i (-1) (-1)=true:=by unfold Builtin.Range.small;rw[zk7 i h];unfold Builtin.Range.rangeFitsLong;simp;lia
section
theorem zu5{P a b c:Expr}(V:Gl X "range")(U:X.mg "range"=none)(Z:PAs X [a,b,c] m)(W:starEach [a,b,c] X.env=(false,eval a X.env)::starEach [b,c] X.env:=by rfl)(G:(backTo g (starEach [b,c] X.env)).any (·.1)=false:=by rfl):
  PId X P (.Call (.Name "range" p) [a,b,c] [] g) (w4 rng3 m):=by
 intro f s L H R I h;let⟨F0,H0,F,N,T,Q,e,q⟩:=h;let⟨ds,h1,l⟩:=g8 e;show Call_ (V6 I V U boot_range (bI (thn (Z g f s L H (λx u=>∃i:Int,x=[.int i,.int (-1),.int (-1)]/\ -1<=i/\i<2^61/\R (Itdn i (i+1).toNat) u) I ⟨F0,H0,F,N,ds,Q,h1,λx M u O D=>?_⟩) λus v ⟨x,u,I1,D,S⟩=>?_) W G))
 .delta rng3 at l;split at l
  .rename_i i j k;split at l
   .rename_i hk;let⟨w,E,rfl,rfl⟩:=hk;ext l;cases D with
    |cons r d=>
     cases d with
     |cons C d=>
      cases d with
      |cons B d=>ext d;ext r;ext C;ext B;show⟨i,rfl,w,E,q _ M u O ?_⟩;have:i=((i+1).toNat:Int)-1:=aw;have z:=ys9 (K:=X.K) (F:=M) (n:=(i+1).toNat);rw[<-this]at z;show z
   .cases l
  .cases l
 .let⟨i,e,w,E,q⟩:=S;subst e;cases D with
  |cons r d=>
   cases d with
   |cons C d=>
    cases d with
    |cons B d=>
     ext d;let⟨t,rfl⟩:=r;let⟨A,rfl⟩:=C;let⟨y,rfl⟩:=B;show call_range_3 ay ?_ (.inl (PyProof.noPylong_small aw));show wpAny_pyIter_range (IsRange.new ..) (yo8 i w E) ?_;have J:Inv X f L u { v with heap:=v.heap.push { cls:=.type "range",data:=.fields #[.int i t,.int (-1) A,.int (-1) y] },toks:=v.toks }:=I1.kept λb o e=>aC _ e;show⟨_,[(v.heap.push { cls:=.type "range",data:=.fields #[.int i t,.int (-1) A,.int (-1) y] }).objs.size],_,_,u,rfl,
      J.kept λb o e=>aC _ e,zk0 _ i (i+1).toNat,?_,λb Y=>?_,q⟩
     .have e1:i+((0:Nat):Int)*(-1)=i:=by simp
      have e2:(((i+1).toNat:Nat):Int)-((0:Nat):Int)=Builtin.Range.rangeSize i (-1) (-1):=by rw[zk7 i w];simp
      rw[e1,e2];show aQ _ rfl
     .have e:b=(v.heap.push { cls:=.type "range",data:=.fields #[.int i t,.int (-1) A,.int (-1) y] }).objs.size:=by simpa using Y
      subst e;show J.fpOk (aK _) (J.hok.fresh (aK _))
end
section
def rAny(K:W.Frag):List V->Hp->VK->Prop:=λvs H Q=>∃(p:Addr)(ns:List Int),vs=[.ref p]/\SqL K H p (ns.map V.int)/\Q (.bl (ns.any λi=>i != 0)) H
theorem vu7(xs:Array (Int×Tok)):(List.range (intItems xs).size).any (λi=>numAt xs i != 0)=(xs.toList.map (·.1)).any λi=>i != 0:=by
 rw[eF,any_eq_true,any_eq_true];constructor
 .rintro⟨i,hi,h⟩;have hi:i<xs.size:=by simpa[intItems]using hi
  show⟨numAt xs i,?_,h⟩;show bj.mpr ⟨xs[i],by simp,?_⟩;simp[numAt,hi]
 .rintro⟨v,hv,h⟩;let⟨p,c,rfl⟩:=bj.mp hv;let⟨i,hi,rfl⟩:=dg c;have b:i<xs.size:=by simpa using hi
  show⟨i,by simpa[intItems]using b,?_⟩;simpa[numAt,b]using h
theorem xh9(w:X.calm=true):CallR X (.builtin "any") (rAny X.K):=by
 intro f s C H D E Q I r h;let⟨p,ns,rfl,j,q⟩:=h;let⟨u,rfl,k⟩:=U1 r;ext k;let⟨m,g,l,J⟩:=I.list j;let⟨c,B,z⟩:=Z1 g;have hp:=l.isList;rw[B]at hp;show call_any_walk (iter_intList hp λd e st o b=>?_);subst e;show⟨_,_,_,_,_,_,λi=>numAt c.toArray i != 0,rfl,Walks.list (A:=X.A.in1) (I.ok.hd w) _ p b (intItems c.toArray),st,λi v G M N y x=>?_,λL F n=>?_⟩
 .let⟨t,rfl⟩:=intItems_at y;show truthy_int x
 .refine⟨.bl (ns.any λi=>i != 0),H,I.kept (old_kept n),?_,q⟩;rw[vu7];show Value.bool _=Value.bool _;rw[<-z]
@[irreducible] def many(m:ML):ME:=λa=>match m a with |some ds=>(match V0 ds with |some ns=>some (.bl (ns.any λi=>i != 0))|none=>none)|none=>none
theorem wc9(s:X.calm=true)(o:Gl X "any")(n:X.mg "any"=none)(t:PB X e m)(k:bootBuiltins "any"=some (.builtin "any"))(l:starEach (e::[]) X.env=(false,eval e X.env)::starEach [] X.env:=by rfl)(r:starEach [e] X.env=(false,eval e X.env)::starEach [] X.env:=by rfl)(b:(backTo a (starEach [] X.env)).any (·.1)=false:=by rfl):PD X (.Call (.Name "any" p) [e] [] a) (many m):=
 (j7 (xh9 s) o n k (j4 t pa_nil l) ay ay r b).imp λz H Q u=>by
  let⟨y,w,F,c,g,i,e,q⟩:=u;delta many at e;cases h1:m c with
  |none=>rw[h1]at e;ext e
  |some d=>
   rw[h1]at e;cases h2:V0 d with
   |none=>simp only[h2]at e;ext e
   |some ns=>simp only[h2]at e;ext e;show⟨y,w,F,c,d,i,h1,λp A x v f h j=>⟨p,ns,rfl,?_,q _ x v f (.bl _)⟩⟩;rw[<-Z3 j h2];show h
end
noncomputable def wf7(sc fsc:Scope):Scope:={ sc with names:=sc.names.map λ(n,k)=>if (k== .free&&fsc.kind== .function&&fsc.names.lookup n==some .cell)then (n,.cell)else (n,k) }
theorem wn3{X:Cx}{src:Qd}(b:Scope)(e:X.env.scope=b)(h:xv9 (wf7 a b) c d N src=true):Blk (d8 X a C c fp s H) d N src:=
 ze0 (wf7 a b) c (by rw[<-e];rfl) rfl h
section
variable {b:ME}
def wi9(te:TE)(g1 g2 g3:TG):TS:=λD a H=>te a H λx H1=>g1 x a H1 λσ2 H2=>g2 x σ2 H2 λσ3 H3=>g3 x σ3 H3 D.nx
theorem ww8(z:PE X e te)(E:PG X g p)(C:PG X f o)(B:PG X d n)(hw:swappedStores [g,f,d] e X.env=pure none:=by rfl)(A:(assignEach [g,f,d] X.env).map (·.2)=[assign g X.env,assign f X.env,assign d X.env]:=by rfl):PS X (.Assign [g,f,d] e a) (wi9 te p o n):=by intro c s m H D I h;show wpAny_Assign_three (thn (z c s m H _ I h) λv t i=>?_) A hw;let⟨x,M,J,l,y⟩:=i;show thn (E c t m M x v _ J l y) λ_ r zQ=>by let⟨k,L,G,w⟩:=zQ;show thn (C c r k L x v _ G l w) λ_ q zQ=>by let⟨j,K,F,u⟩:=zQ;show B c q j K x v _ F l u
@[irreducible] noncomputable def yn8(i j k:Nat)(x:ME):MS:=λa=>match x a with |some d=>some (.nx (((a.set i (some (.sh d))).set j (some (.sh d))).set k (some (.sh d))))|none=>none
theorem xo4{i j k:Nat}{st:Stmt}(h:PS X st (wi9 (TD X.K b) (R0 i) (R0 j) (R0 k))):PSd X st (yn8 i j k b):=h.imp λD r H l=>by
 let⟨q,n,F,g,o,rl,e,ok⟩:=l;delta yn8 at e;split at e
 .rename_i d h1;ext e;show⟨q,n,F,g,d,rl,h1,λv p m f c=>ok p m _ ((((rl.go f).set c).set c).set c) f.ff⟩
 .cases e
@[irreducible] noncomputable def xj1(i:Nat)(x:ME):MS:=λa=>match a[i]? with |some (some (.sh (.int k)))=>(match x a with |some (.int j)=>some (.nx (a.set i (some (.sh (.int (k-j))))))|_=>none)|_=>none
theorem xo7{i:Nat}(n:X.N.Nodup)(hi:X.N[i]? =some x)(h:Loc X.env.scope x)(m:PD X e b)(l:X.fn x=true\/X.env.scope.names.lookup x=some .local:=by first|show .inl rfl|show .inr rfl|assumption):
  PSd X (.AugAssign (.Name x c) .Sub e a) (xj1 i b):=(xd7 n hi h m vw4 l).imp λD z H p=>by
 let⟨w,t,F,f,o,rl,e,ok⟩:=p;delta xj1 at e;split at e
 .rename_i k h1;let⟨v,r,q⟩:=rl.sh i _ h1;ext q;split at e
  .rename_i j h2;ext e;show⟨_,r,w,t,F,f,.int j,rl,h2,λy u s d g=>?_⟩;ext g;show⟨_,_,rfl,rfl,ok u s _ ((rl.go d).set (.int _)) d.ff⟩
  .cases e
 .cases e
end
theorem slot_lri_next:Slot "list_reverseiterator" "__next__" "list_reverseiterator.__next__":=
 .of (owner:="list_reverseiterator") (n:="__next__") (by kernel_rfl) aA aA aA
  (by first|show .inl aA|show .inr aA) (by kernel_rfl)
theorem O3:Slot "list_reverseiterator" "__iter__" "list_reverseiterator.__iter__":=
 .of (owner:="list_reverseiterator") (n:="__iter__") (by kernel_rfl) aA aA aA
  (by first|show .inl aA|show .inr aA) (by kernel_rfl)
theorem R6:entryFor table "list_reverseiterator.__next__"=some Builtin.«list_reverseiterator.__next__»:=entryFor_of_fast (by kernel_rfl)
theorem zv2:entryFor table "list_reverseiterator.__iter__"=some Builtin.«dict_keyiterator.__iter__»:=
 entryFor_alias (id':="dict_keyiterator.__iter__") (by kernel_rfl) rfl aA (by kernel_rfl)
theorem L6(a:Value):argsOk "list_reverseiterator.__next__" ⟨[a],[]⟩:=by kernel_rfl
theorem zn9(a:Value):argsOk "list_reverseiterator.__iter__" ⟨[a],[]⟩:=by kernel_rfl
theorem F7:isSubtype (.type "list_reverseiterator") (.type "reversed")=pure false:=by kernel_rfl
def IsRev(h:Heap)(a l:Addr)(k:Int):Prop:=∃o,h.get? a=some o/\o.cls= .type "list_reverseiterator"/\o.data= .fields #[.ref l,rawInt k]
section
variable {s:Shared}
theorem IsRev.ty{k:Int}(h:IsRev s.heap a l k):s.TypeIs (.ref a) "list_reverseiterator":=by let⟨o,e,c,d⟩:=h;show⟨o,e,c⟩
theorem zq9{i:Nat}{items:Array Value}{Q:Option Value->Shared->Prop}(a:IsRev s.heap it l (i:Int))(g:s.heap.IsList l items)(f:items[i]? =some x)
  (j:∀h',IsRev h' it l ((i:Int)-1)->Heap.SameBut it s.heap h'->Q (some x) { s with heap:=h' }):wpAny (model prog w) A (pyNext (.ref it)) Q E s:=by
 let⟨o,c,h,b⟩:=id a;let⟨k,d,_,m,e⟩:=g;show aB (cW (ce a.ty slot_lri_next
  (bJ slot_lri_next a.ty R6 ?_ (L6 _))))
 show wpAny _ _ (field (.ref it) 1 >>= _) _ _ s;show aB (cK c b rfl ?_);show wpAny _ _ (if (i:Int)<0 then _ else _) _ _ s;show aB (cK c b rfl ?_);show aB (bS d e ?_);simp only[Int.toNat_natCast,f];show aB (dD c b az (aD ⟨x,rfl,aD (j _ ?_ (bH ..))⟩));show⟨_,bL _ c (dz (cf b _)),(Obj.cls_mapFields ..).trans h,by rw[cf b];simp⟩
theorem zi3{k:Int}{Q:Option Value->Shared->Prop}(d:A.handled=none)(a:IsRev s.heap it l k)(c:k<0)
  (f:∀h',Heap.ExtBut it s.heap h'->Q none { s with heap:=h' }):wpAny (model prog w) A (pyNext (.ref it)) Q E s:=by
 let⟨o,b,g,e⟩:=id a;show aB (cW (ce a.ty slot_lri_next
  (bJ slot_lri_next a.ty R6 ?_ (L6 _))))
 show wpAny _ _ (field (.ref it) 1 >>= _) _ _ s;show aB (cK b e rfl ?_);show wpAny _ _ (if k<0 then _ else _) _ _ s;rw[aH c];show aB (cn ?_);show aB ?_;show aB ?_;show aB (bU ?_ (by size_fits));show aB (bP (by first|rfl| (rfl)) ?_);show bU ?_ (by size_fits);show aB (wpAny_handled ?_);rw[show A.in1.handled=none from d];show aB (aD (wpAny_throw ?_));show aB (dY ⟨_,aQ _ rfl,rfl⟩ isSubtype_stop ?_);show aD (f _ (((Heap.ExtBut.refl it s.heap).push _).push _))
theorem ys7{k:Int}{Q:Qa}(a:IsRev s.heap it l k)(h:Q (.ref it) s):wpAny (model prog w) A (pyIter (.ref it)) Q E s:=by show wpAny_pyIter_slot a.ty O3 (bJ O3 a.ty zv2 ?_ (zn9 _));show aD ⟨_,rfl,"list_reverseiterator",_,a.ty,slot_lri_next.lookup,h⟩
noncomputable def zh6(l:Addr)(k:Int):Obj:={ cls:=.type "list_reverseiterator",data:=.fields #[.ref l,rawInt k] }
theorem M5{items:Array Value}{Q:Qa}(c:s.heap.IsList l items)
  (h:Q (.ref s.heap.objs.size) { s with heap:=s.heap.push (zh6 l (((items.size:Nat):Int)-1)) }):wpAny (model prog w) A (call (.builtin "list.__reversed__") [.ref l]) Q E s:=by
 let⟨e,a,d,f,b⟩:=c;show bJ F.slot_list_reversed ⟨_,a,d⟩ F.entry_list_reversed ?_ (F.args_list_reversed_1 _);show aB (bP rfl ?_);show aB (aB (bS a b (aD ?_)));show aB (bU (aD ⟨_,rfl,h⟩))
theorem M1{items:Array Value}{Q₁:Qa}(b:s.heap.IsList l items)
  (h:Q₁ (.ref s.heap.objs.size) { s with heap:=s.heap.push (zh6 l (((items.size:Nat):Int)-1)) }):
  codeAny (model prog w) A (.call (.builtin "reversed.__new__") ⟨[.type "reversed",.ref l],[]⟩) (wants Q₁ E) s:=by
 have e:s.TypeIs (.ref l) "list":=by let⟨f,a,d,g,c⟩:=b;show⟨_,a,d⟩
 show codeAny_of_tree ?_;show aB (bP (F.newCall_reversed_1 _) (aD ⟨bY F.plain_reversed_new _,bF F.entry_reversed_new ?_⟩));show aB (bP (newClass_reversed _) ?_)
 try dsimp only
 show aB (bP (by first|rfl|kernel_rfl) ?_);show aB (bP (by first|rfl|kernel_rfl) ?_)
 try dsimp only
 show aB (wpAny_specialOf e F.slot_list_reversed.lookup ?_)
 try dsimp only
 show aB (bP (F.slot_list_reversed.bind _) ?_)
 try dsimp only
 first
 |rw[aF (bd)]
 | (rw[aF (show ¬ ((Value.builtin "list.__reversed__"==Value.none)=true)from bd)])
 show aB (cn ?_);show aB (m:=runValue (.call (.builtin "list.__reversed__") ⟨[.ref l],[]⟩)) (show wpAny _ _ (call (.builtin "list.__reversed__") [.ref l]) _ _ _ from M5 b ?_)
 first
 |show aD h
 |show aB (aD (aD h))
theorem M4{items:Array Value}{Q:Qa}(b:s.heap.IsList l items)
  (h:Q (.ref s.heap.objs.size) { s with heap:=s.heap.push (zh6 l (((items.size:Nat):Int)-1)) }):wpAny (model prog w) A (call (.type "reversed") [.ref l]) Q E s:=by
 show callType_other (Q₁:=λobj a=>obj= .ref s.heap.objs.size/\a={ s with heap:=s.heap.push (zh6 l (((items.size:Nat):Int)-1)) }) aA F.create_reversed ⟨_,_,F.mro_reversed⟩ F.made_reversed F7 (F.typeCall_reversed_1 _) (M1 b ⟨rfl,rfl⟩) ?_;rintro obj a ⟨rfl,rfl⟩;show⟨⟨_,aQ _ rfl,rfl⟩,h⟩
end
noncomputable def ItlR(K:W.Frag)(a:Addr)(n:Nat):It:=
 ⟨λi H=>i<n/\∃xs x,SqL K H a xs/\xs[n-1-i]? =some x,λi H x H'=>H'=H/\∀xs,SqL K H a xs->xs[n-1-i]? =some x,λi H=>n<=i⟩
theorem yo4{P:Program}{w:World}{K:W.Frag}{M:Expr}(a it:Addr)(n:Nat):Turn P w K M (ItlR K a n) [it] it (λi h=>IsRev h it a ((n:Int)-1-(i:Nat))) where
 mem:=by simp
 obj:=λi h st b f=>by
  have e:b=it:=by simpa using f
  subst e;let⟨o,e,c,d⟩:=st;show⟨o,e,λv z=>by rw[d]at z;cases z⟩
 keep:=λi h J st k=>by let⟨o,e,c,d⟩:=st;show⟨o,k it az o e,c,d⟩
 item:=by
  intro X F hw G D i j s L H E I m st l;subst F hw G;let⟨hi,Y,x,C,B⟩:=l;let⟨Q,N,p,Z⟩:=I.list C;let⟨u,S,O⟩:=N.get B;let⟨A,y,T,t,r,q⟩:=m it az;have st:IsRev s.heap it a ((n-1-i:Nat):Int):=by rw[show ((n-1-i:Nat):Int)=(n:Int)-1-(i:Nat)by omega];show st
  show zq9 st p.isList (by simpa using S) λJ g sb=>?_;let⟨o,e,c,d⟩:=id g;show⟨u,rfl,xi7 e c d ay ⟨x,H,(I.turned (t':=s.toks) (λb o f e=>(sb.2 b f).trans e) A y t r q),O,⟨rfl,λV R=>by rw[I.list_inj R C];show B⟩,?_,λb f=>(m b f).1⟩⟩;rw[show (n:Int)-1-((i+1:Nat):Int)=((n-1-i:Nat):Int)-1 by omega];show g
 done:=by intro X F hw G D i j s L H E I m st l;have l:n<=i:=l;let⟨A,y,T,t,r,q⟩:=m it az;show zi3 (I.ok.hd D) st ax λJ U=>⟨rfl,I.turned (λb o f e=>U b o f e) A y t r q⟩
 self:=λ_ _ _ _ _ st h=>ys7 st h
theorem xy7{K:W.Frag}{F:Hp}{p:Addr}{xs:List V}{ds:List D}(s:SqL K F p xs)(r:Reps K F xs ds):ItD K F (ItlR K p ds.length) ds.reverse where
 go:=λi c f a b hi=>by rw[length_reverse]at hi;let⟨v,e,_⟩:=r.get (aG (show ds.length-1-i<ds.length by omega));show⟨hi,xs,v,b.seq (a.seq s),e⟩
 yld:=λi c f x j d a b e y=>by
  let⟨rfl,y⟩:=y;have hi:i<ds.length:=by
   have:=(bg.mp e).1
   rwa [length_reverse]at this
  rw[getElem?_reverse hi]at e;let⟨v,h,g⟩:=r.get e;have:=y xs (b.seq (a.seq s));rw[h]at this;ext this;show⟨c,.refl b,g.mono a⟩
 stop:=λc f a b=>by rw[length_reverse];show aK _
noncomputable def revL:List D->Option (List D)
 |[.lst ds]=>some ds.reverse
 |_=>none
section
theorem xn3(V:Gl X "reversed")(U:X.mg "reversed"=none)(Y:PAs X [a] m)(S:starEach (a::[]) X.env=(false,eval a X.env)::starEach [] X.env:=by rfl)(C:(backTo d (starEach [] X.env)).any (·.1)=false:=by rfl):
  PId X J (.Call (.Name "reversed" p) [a] [] d) (w4 revL m):=by
 intro i s E H R I h;let⟨F0,H0,F,G,B,O,e,q⟩:=h;let⟨ds,Z,w⟩:=g8 e;show Call_ (V6 I V U boot_reversed (bI (thn (Y d i s E H (λz D=>∃p y c f,z=[.ref p]/\B=c.reverse/\SqL X.K f p y/\Reps X.K f y c/\Ext F H f D) I ⟨F0,H0,F,G,ds,O,Z,λz f D n A=>by
  delta revL at w;split at w
  .rename_i c;ext w;cases A with
   |cons r N=>
    ext N;cases r with
    |lst t v=>show⟨_,_,c,f,rfl,rfl,t,v,n⟩
  .cases w⟩) λus g ⟨z,D,x,A,P⟩=>?_) S C))
 let⟨l,y,c,f,ev,ei,t,v,n⟩:=P;subst ev ei;let⟨u,rfl,M⟩:=U1 A;ext M;let⟨j,L,Q,hz⟩:=x.list (n.fh.seq t);have T:j.toArray.size=c.length:=by rw[bX,<-L.length,v.length]
 show M4 Q.isList ?_;rw[T];have k:IsRev (g.heap.push (zh6 l ((c.length:Int)-1))) g.heap.objs.size l ((c.length:Int)-1):=⟨_,aQ _ rfl,rfl,rfl⟩;show ys7 k ?_;show⟨g.heap.objs.size,[g.heap.objs.size],_,_,_,rfl,x.kept λb o e=>aC _ e,yo4 l _ c.length,?_,λb W=>?_,q _ f _ n (xy7 t v)⟩
 .rw[show (c.length:Int)-1-((0:Nat):Int)=(c.length:Int)-1 by lia];show k
 .have e:b=g.heap.objs.size:=by simpa using W
  subst e;show x.fpOk (aK _) (x.hok.fresh (aK _))
end
section
variable {c:MEm}{b:Pos}{d:MBm}
end
section
variable {a b:Expr}{c:Pos}
@[irreducible] noncomputable def mpar(i j:Nat)(m:ML):MS:=λa=>match m a with |some [d1,d2]=>some (.nx ((a.set i (some (.sh d1))).set j (some (.sh d2))))|_=>none
theorem ww2{i j:Nat}{l n d}(B:X.calm=true)(E:X.N.Nodup)(hi:X.N[i]? =some x)(A:X.N[j]? =some y)(p:i≠j)
  (w:X.env.scope.names.lookup x=some .local) (v:X.env.scope.names.lookup y=some .local) (C:PAs X [a,b] m)
  (hw:swappedStores [.Tuple [.Name x h,.Name y g] l k] (.Tuple [a,b] n d) X.env=pure (some [x,y]))
  (z:swapsWithSole [.Tuple [.Name x h,.Name y g] l k] (.Tuple [a,b] n d) c.line X.env=pure false:=by rfl):
  PSd X (.Assign [.Tuple [.Name x h,.Name y g] l k] (.Tuple [a,b] n d) c) (mpar i j m):=(we2 B E hi A p w v C hw z).imp λD M H G=>by
 let⟨L,J,F,s,o,rl,e,ok⟩:=G;delta mpar at e;split at e
 .rename_i d1 d2 h1;ext e;show⟨L,J,F,s,_,rl,h1,λO K I q u=>?_⟩;cases u with
  |cons r f=>
   cases f with
   |cons t f=>ext f;show⟨_,_,rfl,ok K I _ (((rl.go q).set r).set t) q.ff⟩
 .cases e
end
end L2
namespace L2
open List
open PySem
section
open PySem.Sem (wp)
end
end L2
namespace L2
open List
open PySem PySem.Spec PyProof.Rows
section
end
end L2
namespace L2
open List
open PySem PySem.Spec PyProof.Rows PySem.W PySem.Builtin PySem.Builtin.ObjectAttr PySem.Builtin.Getset_descriptor
structure XCls(K:W.Frag)(C:Addr):Prop where
 ga:findIn K (.ref C) "__getattribute__"=some (some (.builtin "BaseException.__getattribute__"))
 nog:findIn K (.ref C) "__getattr__"=some none
 cl:findIn K (.ref C) "__class__"=some (some (.builtin "object.__class__"))
 ob:mroIn K C (.type "object")=some true
 be:mroIn K C (.type "BaseException")=some true
section
variable {h:Heap}{g:Array GenState}{d:Drawn}
end
end L2
namespace L2
open List
open PySem PySem.Spec PyProof.Rows
structure Flown(P:Program)(w:World)(outer:List Env)(H:Hp)(s:Shared)(H':Hp)(B h':Heap):Prop where
 un:Un (frs outer) [] H H' s.heap h'
 ok:HOk P w H' h'
 st:B.StaysIn h'
 trk:∀b o,H' b=some o->∃ob,B.get? b=some ob
 old:∀b o,s.heap.get? b=some o->b∉frs outer->∃ob,B.get? b=some ob
section
variable {H c:Hp}{B b a base:Heap}
end
structure Top(X:Cx):Prop where
 stk:X.stack=X.env::X.outer
 frm:X.env.frame=some X.env.locals
 ex:X.ex=[]
section
variable {b:St}{H d:Hp}{B c:Heap}
end
def XC(K:W.Frag)(c:Str)(C:Addr):Prop:=W.nsIn K mainGlobals c=some (some (.ref C))/\wj3 K C=some c
section
variable {b:St}
end
section
variable {X:Cx}{b a:Qc}{c:St}
variable (nx:X.xe=noE)
include nx
end
section
variable {e c:Expr}
end
section
variable {X:Cx}(nx:X.xe=noE)
include nx
end
section
variable {e c:Expr}
end
section
variable {b:Qc}{c:St}
end
section
variable {b c a:Pos}
end
structure RoomN(k:Nat)(A:Around):Prop where
 dp:A.depth+3*k+5<recursionLimit
 un:A.units+16*k+200<cLine
structure FnOkN(P:Program)(w:World)(K:W.Frag)(mg:Qb)(base:Heap)(CX:CXT)(k:Nat)(f:Addr)(fd:FuncData)(ps:List Str)(sp:Sp):Prop where
 len:∀vs H Q E,sp vs H Q E->vs.length=ps.length
 run:∀(A:Around)(outer:List Env)(s:Shared)(H:Hp)(args:Args)(us:List Value)(vs:List V)(Q:VK)(E:XK),RoomN k A->Env0 P w K mg base A outer s H->BindsTo s fd args (ps.zip us)->Vals vs us->sp vs H Q E->
  codeAny (model P w) A (.call (.ref f) args) (CR CX outer P w H s Q E) s
section
variable {f:Addr}{d:FuncData}{c:List Str}{b:List V}
end
section
variable {c:ME}{b:Pos}
end
section
variable {d:ME}{c:Pos}
noncomputable def allB:List D->Option (List Bool)
 |[]=>some []
 | .bl b::r=>(allB r).map (b::·)
 |_::_=>none
open PySem.SeqAt in
end
section
end
section
variable {b:ME}
end
noncomputable def insI(a:Int):List Int->List Int
 |[]=>[a]
 |b::r=>if a<=b then a::b::r else b::insI a r
def zo5:List Int->List Int
 |[]=>[]
 |a::r=>insI a (zo5 r)
theorem zy5(a:Int):∀r,(insI a r).Perm (a::r)
 |[]=>.refl _
 |b::r=>by
  unfold insI;split
  .exact .refl _
  .exact((zy5 a r).cons b).trans (.swap a b r)
theorem S5:∀ns,(zo5 ns).Perm ns
 |[]=>.refl _
 |a::r=>(zy5 a _).trans ((S5 r).cons a)
theorem zy4(a:Int):∀r,r.Pairwise (·<=·)->(insI a r).Pairwise (·<=·)
 |[],_=>dn ..
 |b::r,h=>by
  have h':=bG.mp h;unfold insI;split
  .rename_i hab;show bG.mpr ⟨λx c=>?_,h⟩;rcases aT.mp c with e|c
   .rw[e];show hab
   .exact Int.le_trans hab (h'.1 x c)
  .rename_i hab;show bG.mpr ⟨λx c=>?_,zy4 a r h'.2⟩;rcases aT.mp ((zy5 a r).mem_iff.mp c)with e|c
   .rw[e];lia
   .exact h'.1 x c
theorem U7:∀ns,(zo5 ns).Pairwise (·<=·)
 |[]=>.nil
 |a::r=>zy4 a _ (U7 r)
theorem R9:∀{a b:List Int},a.Perm b->a.Pairwise (·<=·)->b.Pairwise (·<=·)->a=b
 |[],b,p,_,_=>(List.Perm.nil_eq p)
 |x::a,[],p,_,_=>aV p.length_eq az
 |x::a,y::b,p,i,h=>by
  have g:=bG.mp i;have f:=bG.mp h;have e:x=y:=by
   have d:x∈y::b:=p.mem_iff.mp bE;have c:y∈x::a:=p.mem_iff.mpr bE;rcases aT.mp d with e|d
   .exact e
   .rcases aT.mp c with e|c
    .exact e.symm
    .have:=f.1 x d;have:=g.1 y c;lia
  subst e;rw[R9 ((perm_cons x).mp p) g.2 f.2]
theorem zg0(ns:List Int):(zo5 ns).length=ns.length:=(S5 ns).length_eq
theorem zy0:∀{ns:List Int}{a:List Value},Vals (ns.map V.int) a->IntsAre a ns
 |[],_,.nil=>.nil
 |n::ns,_,.cons r t=>by let⟨k,rfl⟩:=r;show .cons n k (zy0 t)
theorem zv8:∀{ns:List Int}{a:List Value},IntsAre a ns->Vals (ns.map V.int) a
 |[],_,.nil=>.nil
 |n::ns,_,.cons _ k t=>.cons ⟨k,rfl⟩ (zv8 t)
section
end
section
variable {b:St}
end
inductive RPs (K:W.Frag)(F H:Hp):List Addr->List (List D)->Prop
 |nil:RPs K F H [] []
 |cons {q:Addr} {xs:List V} {ds:List D} {qs:List Addr} {dss:List (List D)}:H q=some (.lst xs)->Reps K F xs ds->RPs K F H qs dss->RPs K F H (q::qs) (ds::dss)
section
variable {K:W.Frag}{F H d c:Hp}
theorem RPs.mono(e:Same F d)(k:Same H c):∀{a:List Addr}{dss:List (List D)},RPs K F H a dss->RPs K d c a dss
 |_,_,.nil=>.nil
 |_,_,.cons h r t=>.cons (k _ _ h) (r.mono e) (RPs.mono e k t)
theorem RPs.keep(e:Same F d):∀{a:List Addr}{dss:List (List D)},(∀q∈a,∀o,H q=some o->c q=some o)->RPs K F H a dss->RPs K d c a dss:=by intro a s k r;induction r with|nil=>show .nil|cons h r t i=>show .cons (k _ bE _ h) (r.mono e) (i λq b=>k q (aX _ b))
theorem RPs.snoc{q:Addr}{xs:List V}{ds:List D}(h:H q=some (.lst xs))(r:Reps K F xs ds):∀{e:List Addr}{dss:List (List D)},RPs K F H e dss->RPs K F H (e++[q]) (dss++[ds])
 |_,_,.nil=>.cons h r .nil
 |_,_,.cons a b t=>.cons a b (RPs.snoc h r t)
theorem RPs.length:∀{a:List Addr}{dss:List (List D)},RPs K F H a dss->a.length=dss.length
 |_,_,.nil=>rfl
 |_,_,.cons _ _ t=>bf (·+1) (RPs.length t)
theorem RPs.some:∀{f:List Addr}{dss:List (List D)},RPs K F H f dss->∀q∈f,∃o,H q=some o
 |_,_,.cons a _ t,q,b=>by
  rcases aT.mp b with e|b
  .rw[e];show⟨_,a⟩
  .exact RPs.some t q b
end
abbrev MP:=Ro->Option (List (List D))
structure Pots(K:W.Frag)(H F' H':Hp)(p:Addr)(qs:List Addr)(dss:List (List D)):Prop where
 hp:H p=none
 fp:F' p=none
 at':H' p=some (.lst (qs.map V.ref))
 new:∀q∈qs,H q=none/\F' q=none
 nd:(p::qs).Nodup
 rep:RPs K F' H' qs dss
def TPt(K:W.Frag)(m:MP):TE:=λb H Q=>∃F0 H0 F a dss,Rl K F0 H0 F H b a/\m a=some dss/\∀p qs F' H',Ext F H F' H'->Pots K H F' H' p qs dss->Q (.ref p) H'
def PP(X:Cx)(e:Expr)(m:MP):Prop:=PE X e (TPt X.K m)
theorem Ext.stays{F H a d:Hp}(x:Ext F H a d)(c:F p=none)(b:H p=some o):a p=none:=by
 cases q:a p with
 |none=>rfl
 |some u=>have:=x.new p c (by rw[q];simp);rw[this]at b;ext b
section
variable {a b c e:Expr}{d:Pos}
def R1(g:Tg)(elt:ML):List D->Ro->List (List D)->Option (List (List D))
 |[],_,acc=>some acc
 |it::its,a,acc=>match tgD g it a with
  |some ρ1=>(match elt ρ1 with
   |some ds=>if acc.length<sizeLine then R1 g elt its ρ1 (acc++[ds])else none
   |none=>none)
  |none=>none
def Z0(src:Qd)(mi:ML)(g:Tg)(elt:ML):MP:=λa=>(mi a).bind λits=>R1 g elt its (P3 src a) []
theorem yx3{K:W.Frag}{src:Qd}{d:St}(h:TPt K (Z0 src mi g C) d H Q):zr0 src (TId K mi) (TGd K g) (TC K cyes) (TF K C) d H Q:=by
 let⟨F0,H0,F,c,a1,rl,e,q⟩:=h;delta Z0 at e;cases h1:mi c with
 |none=>rw[h1]at e;ext e
 |some f=>
  rw[h1]at e;show⟨F0,H0,F,c,f,rl,h1,λJ Y T x1 I=>?_⟩;intro p hp;let⟨rb,no⟩:=(rl.go x1).blk src;have a5:=x1.fh.free hp;show⟨λi m a0 L=>∃G n E qs,Rl K Y T G L a0 n/\NoOwn n/\L p=some (.lst (qs.map V.ref))/\G p=none/\RPs K G L qs E/\(∀w∈qs,T w=none/\G w=none)/\(p::qs).Nodup/\i<=f.length/\m=f.length-i/\R1 g C (f.drop i) n E=some a1,
   ⟨_,Y,P3 src c,[],[],rb.other no hp a5,no,z8,a5,.nil,(λw hw=>by ext hw),by simp,aW _,rfl,e⟩,?_⟩
  rintro i m a0 L ⟨G,n,E,qs,j,a6,B,S,ra,k,P,ab,rfl,u⟩;by_cases R:i<f.length
  .right;have hd:=aG R;show⟨I.go i G L j.ext.ff j.fh R,λZ U=>∃M v l t,Rl K Y T M U Z v/\NoOwn v/\U p=some (.lst (t.map V.ref))/\M p=none/\RPs K M U t l/\(∀w∈t,T w=none/\M w=none)/\(p::t).Nodup/\R1 g C (f.drop (i+1)) v l=some a1,?_,λx U y=>?_⟩
   .rintro Z U ⟨M,v,l,t,b1,b2,b3,b4,b5,b6,b7,b8⟩;show⟨f.length-(i+1),ax,M,v,l,t,b1,b2,b3,b4,b5,b6,b7,R,rfl,b8⟩
   .let⟨M,x2,r2⟩:=I.yld i G L x U _ j.ext.ff j.fh hd y;rw[N8 hd]at u;unfold R1 at u;cases h2:tgD g f[i] n with
    |none=>simp only[h2]at u;ext u
    |some A=>
     simp only[h2]at u;show⟨Y,T,M,n,_,A,j.go x2,r2,h2,λF3 H3 aa D x3=>?_⟩;have a2:=a6.tg h2;show⟨Y,T,F3,A,true,D,rfl,λF4 H4 x4=>iteT ?_⟩;have N:=(x2.trans x3).trans x4;cases h4:C A with
     |none=>simp only[h4]at u;ext u
     |some ds=>
      simp only[h4]at u;split at u
      .rename_i hz;show⟨Y,T,F4,A,ds,D.go x4,h4,λw xs F5 H5 x5 hw a9 a8 r5=>?_⟩;have s:=N.trans x5;have a3:w≠p:=λz=>by rw[z,N.hh _ _ B]at hw;ext hw
       have a7:w∉qs:=λz=>by let⟨o,ho⟩:=ra.some w z;rw[N.hh _ _ ho]at hw;ext hw
       show⟨qs.map V.ref,(s.hh _ _ B),by rw[aL,ra.length];show hz,F5,A,E++[ds],qs++[w],((D.go x4).go x5).other a2 hp (s.stays S B),a2,by rw[z8,bN];rfl,s.stays S B,?_,λz O=>?_,?_,u⟩
       .refine(((ra.mono s.ff s.hh).snoc a8 r5)).keep (Same.refl _) λz O o ho=>?_;have:z≠p:=by
         rcases bz.mp O with r|r
         .exact λzz=>(bu.mp P).1 (zz ▸ r)
         .rw[aZ.mp r];show a3
        rw[z9 this];show ho
       .rcases bz.mp O with r|r
        .let⟨o,ho⟩:=ra.some z r;show⟨(k z r).1,s.stays (k z r).2 ho⟩
        .rw[aZ.mp r];show⟨(D.go x4).ext.hh.free hw,a9⟩
       .have hn:=bu.mp P;show bu.mpr ⟨λz=>?_,cR.mpr ⟨hn.2,by simp,λa ha b hb=>?_⟩⟩
        .rcases bz.mp z with r|r
         .exact hn.1 r
         .exact a3 (aZ.mp r).symm
        .rw[aZ.mp hb];show λzz=>a7 (zz ▸ ha)
      .cases u
  .left;have a4:i=f.length:=ax;subst a4;rw[drop_length]at u;ext u;show⟨I.stop G L j.ext.ff j.fh,q p qs G L (x1.trans j.ext) ⟨x1.hh.free hp,S,B,λw hw=>⟨x1.hh.free (k w hw).1,(k w hw).2⟩,P,ra⟩⟩
theorem ye0{src:Qd}(B:Blk X j N src)(p:X.calm=true)
  (hi:PId X k f mi) (n:∀C fp s H,PGd (d8 X j C N fp s H) k g) (o:∀C fp s H,PF (d8 X j C N fp s H) i l)
  (m:∀x,foldedSetIterable f X.env x=pure x:=by intro _;rfl):
  PP X (.ListComp i [⟨k,f,[],0⟩] j d) (Z0 src mi g l):=(zb4 (g:=TGd X.K g) (tc:=TC X.K cyes) (te:=TF X.K l) B p hi (λC fp s H=>n C fp s H) (λC fp s H=>O5) (λC fp s H=>o C fp s H) m).imp λ_ _ _ h=>yx3 h
end
noncomputable abbrev MFP:=List D->Option (List (List D))
noncomputable def spP(K:W.Frag)(n:Nat)(m:MFP):Sp:=λvs H Q _=>vs.length=n/\∃F ds dss,Same F H/\Reps K F vs ds/\m ds=some dss/\∀p qs F' H',Ext F H F' H'->Pots K H F' H' p qs dss->Q (.ref p) H'
theorem Ext.less{d c a F H:Hp}(s:Same c a)(x:Ext d a F H):Ext d c F H:=⟨x.ff,s.trans x.hh,x.fh,λb e n=>s.free (x.new b e n),x.nf⟩
section
variable {K:W.Frag}{j g e F H:Hp}{f:St}{m:Ro}
theorem Rl.less(s:Same g e)(r:Rl K j e F H f m):Rl K j g F H f m where
 ext:=r.ext.less s
 len:=r.len
 sh:=r.sh
 own:=λi k h=>let ⟨p,l,a,b,c,d,z⟩:=r.own i k h;⟨p,l,a,b,c,d,s.free z⟩
 inj:=r.inj
 ob:=λi p k h=>let ⟨a,b,c,d⟩:=r.ob i p k h;⟨a,b,s.free c,d⟩
 obn:=r.obn
 ob1:=r.ob1
end
section
variable {a b c e:Expr}{g:Pos}
noncomputable def J5(f:MFP)(m:ML):MP:=λa=>(m a).bind f
theorem ww9{n:Nat}(h:∀t,PA X es t->PE X e (yo6 (spP X.K n j) [] E t))(w:es.length=n)(x:PAs X es m)(v:∀a ds,m a=some ds->ds.length=es.length):PP X e (J5 j m):=(h _ x).imp λI H Q f=>by
 let⟨G,B,F,a,d,s,e,q⟩:=f;delta J5 at e;rcases h1:m a,e with ds;show⟨G,B,F,a,ds,s,h1,λr D A i k=>?_⟩;show spP X.K n j (r++[]) A Q E;rw[append_nil];show⟨by rw[k.length,v a ds h1,w],D,ds,d,i.fh,k,e,λp u C y o pt=>?_⟩;show q p u C y (i.trans o) ⟨i.hh.free pt.hp,pt.fp,pt.at',λz l=>⟨i.hh.free (pt.new z l).1,(pt.new z l).2⟩,pt.nd,pt.rep⟩
end
section
variable {c b F H:Hp}{d:Ro}
end
section
variable {a b:Expr}{e d:ME}{c:Pos}
end
section
variable {a b:Expr}
open PySem.SeqAt in
end
section
variable {a b c e o:Expr}{h g f:ME}{d:Pos}
end
open Classical in
section
end
section
theorem xm1(f:X.calm=true)(d:Gl X "min")(c:X.mg "min"=none)(g:PAm X [x,y] m)(e:starEach [x,y] X.env=(false,eval x X.env)::starEach [y] X.env:=by rfl)(b:(backTo a (starEach [y] X.env)).any (·.1)=false:=by rfl):PDm X (.Call (.Name "min" p) [x,y] [] a) (V8 Q3 m):=
 (j7 (zf5 f) d c PyProof.Rows.boot_min g ay ay e b).imp λ_ _ _ h=>yx5 (zx5) h
end
inductive Fl where
 |v (d:D)|l (ds:List D)
inductive Cell where
 |ins (c:Str) (ns:List Str) (fs:List Fl)
 |row (fs:List Fl)
 |tb (P:Addr) (mw:Str) (pos:Pos) (q:Str)
def vr4(c:Addr)(q:Str):Heap->Prop:=λh=>h.CodeRec (.ref c) q
structure CodeT(K:W.Frag)(cdv:Value)(P:Addr):Prop where
 hd:∃c,cdv= .ref c/\∀h:Heap,K.In h->W.CodeHd h c P
 ne:mainGlobals≠P
def TabF(K:W.Frag)(mw:Str)(P:Addr):Prop:=∃f oc od fd sl,W.nsIn K mainGlobals mw=some (some (.ref f))/\K.lookup f=some ⟨oc,od,.func fd,sl⟩/\CodeT K fd.code P
noncomputable abbrev Bx:=List (Addr×Cell)
inductive FlR (K:W.Frag)(F B:Hp):List Addr->List V->List Fl->Prop
 |nil:FlR K F B [] [] []
 |v {fp:List Addr} {x:V} {d:D} {xs:List V} {fs:List Fl}:Rep K F x d->FlR K F B fp xs fs->FlR K F B fp (x::xs) (.v d::fs)
 |l {fp:List Addr} {q:Addr} {ys:List V} {ds:List D} {xs:List V} {fs:List Fl}:B q=some (.lst ys)->Reps K F ys ds->FlR K F B fp xs fs->FlR K F B (q::fp) (.ref q::xs) (.l ds::fs)
inductive CellR (K:W.Frag)(F B:Hp):List Addr->Addr->Cell->Prop
 |ins {fp:List Addr} {p dx C:Addr} {c:Str} {ns:List Str} {xs:List V} {fs:List Fl}:W.nsIn K mainGlobals c=some (some (.ref C))->ns.length=xs.length->B p=some (.ins C dx (ns.zip xs))->B dx=some (.own p)->FlR K F B fp xs fs->
   CellR K F B (p::dx::fp) p (.ins c ns fs)
 |row {fp:List Addr} {p:Addr} {xs:List V} {fs:List Fl}:B p=some (.lst xs)->FlR K F B fp xs fs->CellR K F B (p::fp) p (.row fs)
 |tb {P:Addr} {mw:Str} {pos:Pos} {q:Str} {ps:Array Value}:TabF K mw P->B P=some (.tbl ps)->TriplesOk ps.toList->(codeAmong pos ps.toList=none\/∃c,codeAmong pos ps.toList=some (.ref c)/\F c=some (.ext (vr4 c q)))->CellR K F B [P] P (.tb P mw pos q)
inductive BxR (K:W.Frag)(F B:Hp):List Addr->Bx->Prop
 |nil:BxR K F B [] []
 |cons {fp fq:List Addr} {p:Addr} {c:Cell} {β:Bx}:CellR K F B fp p c->BxR K F B fq β->BxR K F B (fp++fq) ((p,c)::β)
section
variable {K:W.Frag}{F f B g:Hp}
theorem FlR.mono(e:Same F f)(h:FlR K F B fp xs fs)(k:∀a∈fp,g a=B a):FlR K f g fp xs fs:=by
 induction h with
 |nil=>show .nil
 |v r _ c=>show .v (r.mono e) (c k)
 |l b r _ c=>show .l (by rw[k _ az];show b) (r.mono e) (c λa d=>k a (aX _ d))
theorem CellR.mono(e:Same F f)(h:CellR K F B fp p c)(k:∀a∈fp,g a=B a):CellR K f g fp p c:=by
 cases h with
 |ins a l b d r=>show .ins a l (by rw[k _ az];show b) (by rw[k _ az];show d) (r.mono e λa i=>k a (by simp[i]))
 |row b r=>show .row (by rw[k _ az];show b) (r.mono e λa i=>k a (by simp[i]))
 |tb a b t h=>show .tb a (by rw[k _ az];show b) t (h.imp id λzQ=>by let⟨c,m,j⟩:=zQ;show ⟨c,m,e _ _ j⟩)
theorem BxR.mono(e:Same F f)(h:BxR K F B fp i)(k:∀a∈fp,g a=B a):BxR K f g fp i:=by
 induction h with
 |nil=>show .nil
 |cons c _ d=>show .cons (c.mono e λa b=>k a (by simp[b])) (d λa b=>k a (by simp[b]))
theorem FlR.mem(h:FlR K F B fp xs e):∀a∈fp,B a≠none:=by
 induction h with
 |nil=>intro a c;ext c
 |v _ _ d=>show d
 |l b _ _ d=>
  intro a c;rcases aT.mp c with rfl|c
  .rw[b];simp
  .exact d a c
theorem CellR.mem(h:CellR K F B fp p c):∀a∈fp,B a≠none:=by
 intro a e;cases h with
 |ins _ _ b d r=>
  rcases aT.mp e with rfl|e
  .rw[b];simp
  .rcases aT.mp e with rfl|e
   .rw[d];simp
   .exact r.mem a e
 |row b r=>
  rcases aT.mp e with rfl|e
  .rw[b];simp
  .exact r.mem a e
 |tb _ b _ _=>rw[aZ.mp e,b];simp
theorem BxR.mem(h:BxR K F B fp e):∀a∈fp,B a≠none:=by
 induction h with
 |nil=>intro a b;ext b
 |cons c _ d=>
  intro a b;rcases bz.mp b with b|b
  .exact c.mem a b
  .exact d a b
end
noncomputable def jn(H0 B:Hp):Hp:=λa=>match B a with |some o=>some o|none=>H0 a
theorem j5(h:B a=some o):jn b B a=some o:=by delta jn;rw[h]
theorem c8(h:B a=none):jn b B a=b a:=by delta jn;rw[h]
theorem h8(h:jn c B a=none):B a=none/\c a=none:=by
 cases b:B a with
 |none=>rw[c8 b]at h;show⟨rfl,h⟩
 |some o=>rw[j5 b]at h;ext h
structure BxOk(K:W.Frag)(F0 H0 F B:Hp)(fp:List Addr)(β:Bx):Prop where
 out:∀a,B a≠none->H0 a=none/\F0 a=none
 bx:BxR K F B fp β
 nd:fp.Nodup
 plain:∀a o u,B a≠some (.frz o u)
theorem BxOk.mono{K:W.Frag}{b a F c B:Hp}(h:BxOk K b a F B fp d)(e:Same F c):BxOk K b a c B fp d:=⟨h.out,h.bx.mono e λ_ _=>rfl,h.nd,h.plain⟩
def RlW(K:W.Frag)(F0 H0 F H:Hp)(b:St)(a:Ro)(c:Bx):Prop:=∃B fp,Rl K F0 (jn H0 B) F H b a/\BxOk K F0 H0 F B fp c
abbrev MW:=Ro->Bx->Option (Out×Bx)
def okW(K:W.Frag)(F0 H0 Fb:Hp)(Dn:Ends):Out->Bx->Prop
 | .nx a,c=>∀F H b,RlW K F0 H0 F H b a c->Same Fb F->Dn.nx b H
 | .bk a,c=>∀F H b,RlW K F0 H0 F H b a c->Same Fb F->Dn.bk b H
 | .ct a,c=>∀F H b,RlW K F0 H0 F H b a c->Same Fb F->Dn.ct b H
 | .rt d,c=>∀v F H B fp,Ext F0 (jn H0 B) F H->BxOk K F0 H0 F B fp c->Rep K F v d->Dn.rt v H
 | .rf ds,c=>∀p xs F H B fp,Ext F0 (jn H0 B) F H->BxOk K F0 H0 F B fp c->jn H0 B p=none->F p=none->H p=some (.lst xs)->Reps K F xs ds->Dn.rt (.ref p) H
 | .rg d p r,c=>∀v F H xs B fp,Ext F0 (jn H0 B) F H->BxOk K F0 H0 F B fp c->Rep K F v d->jn H0 B p=none->F p=none->H p=some (.lst xs)->Reps K F xs r->Dn.rt v H
 | .rp _ _,_=>False
 | .rgf _ _ _,_=>False
theorem okW.mono{K:W.Frag}{f d e c:Hp}{Dn:Ends}(s:Same e c):∀{o:Out}{g:Bx},okW K f d e Dn o g->okW K f d c Dn o g
 | .nx _,_,h=>λF H a b q=>h F H a b (s.trans q)
 | .bk _,_,h=>λF H a b q=>h F H a b (s.trans q)
 | .ct _,_,h=>λF H a b q=>h F H a b (s.trans q)
 | .rt _,_,h=>h
 | .rf _,_,h=>h
 | .rp _ _,_,h=>h
 | .rg _ _ _,_,h=>h
 | .rgf _ _ _,_,h=>h
def TSw(K:W.Frag)(m:MW):TS:=λDn b H=>∃F0 H0 F a c o β',RlW K F0 H0 F H b a c/\m a c=some (o,β')/\okW K F0 H0 F Dn o β'
def TDw(K:W.Frag)(m:Ro->Bx->Option D):TE:=λb H Q=>∃F0 H0 F a c d,RlW K F0 H0 F H b a c/\m a c=some d/\∀v F' H',RlW K F0 H0 F' H' b a c->Same F F'->Same H H'->Rep K F' v d->Q v H'
def TCw(K:W.Frag)(m:Ro->Bx->Option Bool):TT:=λc H Q=>∃F0 H0 F a d b,RlW K F0 H0 F H c a d/\m a d=some b/\∀F' H',RlW K F0 H0 F' H' c a d->Same F F'->Q b H'
def PSw(X:Cx)(st:Stmt)(m:MW):Prop:=PS X st (TSw X.K m)
def PSsw(X:Cx)(st:List Stmt)(m:MW):Prop:=PSs X st (TSw X.K m)
def PDw(X:Cx)(e:Expr)(m:Ro->Bx->Option D):Prop:=PE X e (TDw X.K m)
def PCw'(X:Cx)(e:Expr)(m:Ro->Bx->Option Bool):Prop:=PT X e (TCw X.K m)
theorem RlW.go{K:W.Frag}{d b F H f c:Hp}(h:RlW K d b F H a i j)(e:Ext F H f c):RlW K d b f c a i j:=let ⟨B,g,rl,ok⟩:=h;⟨B,g,rl.go e,ok.mono e.ff⟩
theorem RlW.fh{K:W.Frag}{c b F H:Hp}(h:RlW K c b F H a d e):Same F H:=let ⟨_,_,rl,_⟩:=h;rl.fh
section
variable {X:Cx}{a b c e:Expr}{f:Pos}{st:Stmt}{rest:List Stmt}
noncomputable def wS(m:MS):MW:=λa b=>match m a with |some (.nx ρ')=>some (.nx ρ',b)|some (.bk ρ')=>some (.bk ρ',b)|some (.ct ρ')=>some (.ct ρ',b)|_=>none
noncomputable def wE{α:Type}(m:Ro->Option α):Ro->Bx->Option α:=λa _=>m a
theorem psw(h:PSd X st m):PSw X st (wS m):=PS.imp h λDn u H zQ=>by
 let⟨s,r,F,n,v,o,t,⟨B,q,p,ok⟩,e,k⟩:=zQ;delta wS at e;split at e
 .rename_i ρ' h1;ext e;show⟨s,jn r B,F,n,_,p,h1,λl j d g i=>k l j d ⟨B,q,g,ok.mono i⟩ i⟩
 .rename_i ρ' h1;ext e;show⟨s,jn r B,F,n,_,p,h1,λl j d g i=>k l j d ⟨B,q,g,ok.mono i⟩ i⟩
 .rename_i ρ' h1;ext e;show⟨s,jn r B,F,n,_,p,h1,λl j d g i=>k l j d ⟨B,q,g,ok.mono i⟩ i⟩
 .cases e
theorem pdw(h:PD X e m):PDw X e (wE m):=PE.imp h λo H Q zQ=>by let⟨l,j,F,g,p,d,⟨B,i,rl,ok⟩,e,q⟩:=zQ;show ⟨l,jn j B,F,g,d,rl,e,λv n k x r=>q v n k ⟨B,i,rl.go x,ok.mono x.ff⟩ x.ff x.hh r⟩
theorem pcw(h:PC' X e m):PCw' X e (wE m):=PT.imp h λo H Q zQ=>by let⟨l,j,F,g,p,d,⟨B,i,rl,ok⟩,e,q⟩:=zQ;show ⟨l,jn j B,F,g,d,rl,e,λn k x=>q n k ⟨B,i,rl.go x,ok.mono x.ff⟩ x.ff⟩
noncomputable def Q2(x y:MW):MW:=λa b=>match x a b with |some (.nx ρ',β')=>y ρ' β'|o=>o
theorem O6(h:PSw X st m):PSsw X [st] m:=zc9 h
theorem yu6:PSsw X [] (wS w8):=PSs.imp pss_nil λDn d H zQ=>by let⟨n,m,F,j,l,o,g,⟨B,i,h,ok⟩,e,k⟩:=zQ;ext e;show k F H d ⟨B,i,h,ok⟩ (Same.refl _)
theorem O7(B:PSw X st v)(A:PSsw X rest q):PSsw X (st::rest) (Q2 v q):=PSs.imp (S2 B A) λD E H s=>by
 let⟨l,k,F,i,j,o,t,g,e,ok⟩:=s;delta Q2 at e;cases h:v i j with
 |none=>rw[h]at e;ext e
 |some y=>
  let⟨z,n⟩:=y;rw[h]at e;cases z with
  |nx m=>show⟨l,k,F,i,j,_,n,g,h,λC I w u x=>⟨l,k,C,m,n,o,t,u,e,ok.mono x⟩⟩
  |bk m=>ext e;show⟨l,k,F,i,j,_,_,g,h,ok⟩
  |ct m=>ext e;show⟨l,k,F,i,j,_,_,g,h,ok⟩
  |rt d=>ext e;show⟨l,k,F,i,j,_,_,g,h,ok⟩
  |rf d=>ext e;show⟨l,k,F,i,j,_,_,g,h,ok⟩
  |rp d G=>ext e;show⟨l,k,F,i,j,_,_,g,h,ok⟩
  |rg d p r=>ext e;show⟨l,k,F,i,j,_,_,g,h,ok⟩
  |rgf d p r=>ext e;show⟨l,k,F,i,j,_,_,g,h,ok⟩
noncomputable def mifW(c:Ro->Bx->Option Bool)(x y:MW):MW:=λa b=>match c a b with |some true=>x a b|some false=>y a b|none=>none
theorem xd5{s:Ro->Bx->Option Bool}(v:PCw' X c s)(u:PSsw X x r)(t:PSsw X y q):PSw X (.If c x y f) (mifW s r q):=PS.imp (ww7 v u t) λD z H h=>by
 let⟨l,k,F,i,j,o,d,g,e,ok⟩:=h;delta mifW at e;split at e
 .rename_i h1;show⟨l,k,F,i,j,_,g,h1,λp w n m=>iteT ⟨l,k,p,i,j,o,d,n,e,ok.mono m⟩⟩
 .rename_i h1;show⟨l,k,F,i,j,_,g,h1,λp w n m=>iteF ⟨l,k,p,i,j,o,d,n,e,ok.mono m⟩⟩
 .cases e
noncomputable def yb6(i:Nat)(x:Ro->Bx->Option D):MW:=λa b=>(x a b).map λd=>(.nx (a.set i (some (.sh d))),b)
noncomputable def zi7(x:Ro->Bx->Option D):MW:=λa b=>(x a b).map λd=>(.rt d,b)
theorem yf0{j:Ro->Bx->Option D}(h:PS X st (tRet (TDw X.K j))):PSw X st (zi7 j):=PS.imp h λD w H g=>by
 let⟨u,s,F,l,m,o,n,i,e,ok⟩:=g;delta zi7 at e;rcases h1:j l m,e with d;ext e;show⟨u,s,F,l,m,d,i,h1,λv t r p x _ rp=>?_⟩;let⟨B,q,rl,k⟩:=p;show ok v t r B q rl.ext k rp
def forW(g:Tg)(body:MW):List D->MW
 |[],a,b=>some (.nx a,b)
 |d::ds,a,b=>match tgD g d a with
  |some ρ1=>match body ρ1 b with
   |some (.nx ρ2,β2)=>forW g body ds ρ2 β2
   |some (.ct ρ2,β2)=>forW g body ds ρ2 β2
   |some (.bk ρ2,β2)=>some (.nx ρ2,β2)
   |o=>o
  |none=>none
def ym0(mi:ML)(g:Tg)(body:MW):MW:=λa b=>(mi a).bind λits=>forW g body its a b
theorem zc6{D:List Stmt}{V:MW}(hp:PassesOwn (model X.prog X.w) X.A X.env X.xe)(hc:X.calm=true)(hi:PId X tg v mi)(hg:PGd X tg g)(hb:PSsw X D V)
  (hs:∀x,foldedSetIterable v X.env x=pure x:=by intro _;rfl):PSw X (.For tg v D [] f) (ym0 mi g V):=PS.imp (yf8 hp hc hi hg hb hs) λDn b H zQ=>by
 let⟨F0,Z,F,a,c,o,R,⟨B,fp,rl,ok⟩,e,k⟩:=zQ;delta ym0 at e;rcases h1:mi a,e with j;show⟨F0,jn Z B,F,a,j,rl,h1,λJ F1 H1 z I=>?_⟩;show⟨λi m G O=>∃N q s,RlW X.K F0 Z N O G q s/\Same F1 N/\i<=j.length/\m=j.length-i/\forW g V (j.drop i) q s=some (o,R),⟨_,F1,a,c,⟨B,fp,rl.go z,ok.mono z.ff⟩,Same.refl _,aW _,rfl,e⟩,?_⟩;rintro i m G O ⟨N,q,s,⟨B1,Y,u,U⟩,S,a2,rfl,l⟩;by_cases M:i<j.length
 .right;have hd:=aG M;show⟨I.go i N O S u.fh M,λQ H2=>∃P h n,RlW X.K F0 Z P H2 Q h n/\Same F1 P/\forW g V (j.drop (i+1)) h n=some (o,R),?_,λx H2 y=>?_⟩
  .rintro Q H2 ⟨P,h,n,rl2,sf2,e2⟩;show⟨j.length-(i+1),ax,P,h,n,rl2,sf2,M,rfl,e2⟩
  .let⟨P,x2,r2⟩:=I.yld i N O x H2 _ S u.fh hd y;rw[N8 hd]at l;unfold forW at l;rcases h2:tgD g j[i] q,l with L;show⟨F0,jn Z B1,P,q,_,L,u.go x2,r2,h2,λF3 H3 a1 a0 x3=>?_⟩;have C:=(S.trans x2.ff).trans x3.ff;cases h3:V L s with
   |none=>simp only[h3]at l;ext l
   |some ob=>
    let⟨o1,n⟩:=ob;simp only[h3]at l;show⟨F0,Z,F3,L,s,o1,n,⟨B1,Y,a0,U.mono (x2.ff.trans x3.ff)⟩,h3,?_⟩;cases o1 with
    |nx h=>show λF5 H5 E t T=>⟨F5,h,n,t,C.trans T,l⟩
    |ct h=>show λF5 H5 E t T=>⟨F5,h,n,t,C.trans T,l⟩
    |bk h=>ext l;show λF5 H5 E t T=>k F5 H5 E t ((z.ff.trans C).trans T)
    |rt d=>ext l;show k.mono (z.ff.trans C)
    |rf d=>ext l;show k.mono (z.ff.trans C)
    |rp d ds=>ext l;show k.mono (z.ff.trans C)
    |rg d p r=>ext l;show k.mono (z.ff.trans C)
    |rgf d p r=>ext l;show k.mono (z.ff.trans C)
 .left;have W:i=j.length:=ax;subst W;rw[drop_length]at l;ext l;show⟨I.stop N O S u.fh,k N O G ⟨B1,Y,u,U⟩ (z.ff.trans S)⟩
noncomputable def flD:Fl->D
 | .v d=>d
 | .l ds=>.lst ds
def xh6:Cell->D
 | .ins c ns fs=>.obj c ns (fs.map flD)
 | .row fs=>.lst (fs.map flD)
 | .tb P _ _ _=>.ptr P
def thawD(a:Bx):D->D
 | .ptr p=>match a.lookup p with |some c=>xh6 c|none=>.ptr p
 |d=>d
def zw3(a:Bx):Option S->Option S
 |some (.sh (.ptr p))=>match a.lookup p with |some c=>some (.sh (xh6 c))|none=>some (.sh (.ptr p))
 |some (.sh (.tup ds))=>some (.sh (.tup (ds.map (thawD a))))
 |x=>x
def thaw(a:Ro)(b:Bx):Ro:=a.map (zw3 b)
end
section
variable {K:W.Frag}{g f F H B:Hp}{k:St}{Y:Ro}{β:Bx}{fp:List Addr}
theorem FlR.rep(c:Same F G)(d:Same B G)(h:FlR K F B fp xs fs):Reps K G xs (fs.map flD):=by
 induction h with
 |nil=>show .nil
 |v r _ a=>show .cons (r.mono c) a
 |l b r _ a=>show .cons (.lst (SqL.of (d _ _ b)) (r.mono c)) a
theorem CellR.rep(i:Same F G)(e:Same B G)(h:CellR K F B fp p c):Rep K G (.ref p) (xh6 c):=by
 cases h with
 |ins a l b d r=>show .obj a l (e _ _ b) (e _ _ d) (r.rep i e)
 |row b r=>show .lst (SqL.of (e _ _ b)) (r.rep i e)
 |tb _ _ _ _=>show .ptr _
theorem BxR.at'{p:Addr}{c:Cell}:∀{fp:List Addr}{β:Bx},BxR K F B fp β->β.lookup p=some c->∃fq,CellR K F B fq p c
 |_,_,.nil,e=>by ext e
 |_,_,.cons h r,e=>by
  rw[cX]at e;split at e
  .rename_i z;have z:=beq_iff_eq.mp z;subst z;ext e;show⟨_,h⟩
  .exact r.at' e
theorem Rep.thawD(a:Same F G)(i:Same B G)(e:BxR K F B fp β)(h:Rep K F v d):Rep K G v (L2.thawD β d):=by
 cases d with
 |ptr p=>
  ext h;cases hc:β.lookup p with
  |none=>simp only[L2.thawD,hc];show .ptr p
  |some c=>let⟨j,b⟩:=e.at' hc;simp only[L2.thawD,hc];show b.rep a i
 |_=>show h.mono a
theorem Reps.thawD{G:Hp}(b:Same F G)(c:Same B G)(a:BxR K F B fp β):∀{xs:List V}{ds:List D},Reps K F xs ds->Reps K G xs (ds.map (L2.thawD β))
 |_,_,.nil=>.nil
 |_,_,.cons h r=>.cons (h.thawD b c a) (Reps.thawD b c a r)
theorem RlW.frozen(rl:Rl K g (jn f B) F H k Y)(ok:BxOk K g f F B fp β):Rl K (jn g B) (jn f B) (jn F B) H k (thaw Y β)/\Same F (jn F B):=by
 have U:∀a,B a≠none->F a=none:=λa h=>by
  cases q:F a with
  |none=>rfl
  |some o=>have:=rl.ext.new a (ok.out a h).2 (by rw[q];simp);show aV (h8 this).1 h
 have J:Same F (jn F B):=λa o e=>by
  cases q:B a with
  |none=>rw[c8 q];show e
  |some u=>rw[U a (by rw[q];simp)]at e;ext e
 have O:Same B (jn F B):=λa o e=>j5 e;have A:∀(i:Nat) x,(thaw Y β)[i]? =some x->∃y,Y[i]? =some y/\x=zw3 β y:=λi x e=>by
  delta thaw at e;rw[bn]at e;rcases q:Y[i]?,e with y;ext e;show⟨y,rfl,rfl⟩
 have P:∀{y:Option S}{l:List D},some (.own l)=zw3 β y->y=some (.own l):=λ{y l} e=>by
  delta zw3 at e;split at e
  .split at e <;> ext e
  .cases e
  .exact e.symm
 have Q:∀{y:Option S}{p:Addr}{l:List D},some (.ob p l)=zw3 β y->y=some (.ob p l):=λ{y p l} e=>by
  delta zw3 at e;split at e
  .split at e <;> ext e
  .cases e
  .exact e.symm
 have z:∀(i:Nat) l,(thaw Y β)[i]? =some (some (.own l))->Y[i]? =some (some (.own l)):=λi l e=>by let⟨y,t,m⟩:=A i _ e;rw[t,P m]
 have E:∀(i:Nat) p l,(thaw Y β)[i]? =some (some (.ob p l))->Y[i]? =some (some (.ob p l)):=λi p l e=>by let⟨y,t,m⟩:=A i _ e;rw[t,Q m]
 have N:∀p,F p=none->jn f B p=none->jn F B p=none:=λp h T=>by rw[c8 (h8 T).1];show h
 show⟨⟨⟨λa o e=>?_,rl.ext.hh,λa o e=>?_,λb e n=>?_,λb o u e=>?_⟩,by delta thaw;rw[aL];show rl.len,λi d e=>?_,λi l e=>?_,λi j p l I L t m M V=>rl.inj i j p l I L (z i l t) (z j I m) M V,λi p l e=>?_,λi j p l I t m M=>rl.obn i j p l I (E i p l t) (z j I m) M,λi j p q l I t m=>rl.ob1 i j p q l I (E i p l t) (E j q I m)⟩,J⟩
 .cases q:B a with
  |none=>rw[c8 q]at e;rw[c8 q];show rl.ext.ff a o e
  |some u=>rw[j5 q]at e;rw[j5 q];show e
 .cases q:B a with
  |none=>rw[c8 q]at e;show rl.ext.fh a o e
  |some u=>rw[j5 q]at e;ext e;show(λa o e=>rl.ext.hh a o (j5 e)) a _ q
 .let⟨t,m⟩:=h8 e;rw[c8 t]at n;show rl.ext.new b m n
 .cases q:B b with
  |none=>rw[c8 q]at e ⊢;show rl.ext.nf b o u e
  |some w=>rw[j5 q]at e ⊢;show e
 .let⟨y,t,m⟩:=A i _ e;delta zw3 at m;split at m
  .rename_i p;let⟨v,C,G⟩:=rl.sh i _ t;ext G;split at m
   .rename_i c hc;ext m;let⟨W,R⟩:=ok.bx.at' hc;show⟨_,C,R.rep J O⟩
   .cases m;show⟨_,C,.ptr p⟩
  .let⟨v,C,G⟩:=rl.sh i _ t;ext m;cases G with
   |tup s r=>show⟨_,C,.tup (J.seqT s) (r.thawD J O ok.bx)⟩
  .subst m;let⟨v,C,G⟩:=rl.sh i d t;show⟨v,C,G.mono J⟩
 .let⟨p,xs,C,G,a3,a4,a5⟩:=rl.own i l (z i l e);show⟨p,xs,C,N p G a5,a3,a4.mono J,a5⟩
 .let⟨C,G,a3,xs,a4,a5⟩:=rl.ob i p l (E i p l e);show⟨C,N p G a3,a3,xs,a4,a5.mono J⟩
theorem RlW.melt(rl:Rl K g (jn f B) F H k Y)(ok:BxOk K g f F B fp β)(x:Ext (jn F B) H c a)(d:Same F (jn F B)):RlW K g f F a k Y β:=
 ⟨B,fp,rl.go ⟨Same.refl _,x.hh,rl.fh.trans x.hh,λb e n=>aV e n,λ_ _ _ z=>z⟩,ok⟩
end
section
variable {a b c e:Expr}{d:Pos}
end
noncomputable def cut(H B:Hp):Hp:=λa=>match B a with |some _=>none|none=>H a
theorem xw5(h:B a=none):cut H B a=H a:=by delta cut;rw[h]
theorem vw0(h:Same B H):jn (cut H B) B=H:=by
 funext a;cases q:B a with
 |none=>rw[c8 q,xw5 q]
 |some o=>rw[j5 q,h a o q]
abbrev MFW:=List D->Bx->Option (Rt×Bx)
def okTW(K:W.Frag)(F H B:Hp)(Q:VK):Rt->Bx->Prop
 | .sh d,a=>∀v F' H' B' fp',Ext F (jn (cut H B) B') F' H'->BxOk K F (cut H B) F' B' fp' a->Rep K F' v d->Q v H'
 | .fr ds,a=>∀p xs F' H' B' fp',Ext F (jn (cut H B) B') F' H'->BxOk K F (cut H B) F' B' fp' a->jn (cut H B) B' p=none->F' p=none->H' p=some (.lst xs)->Reps K F' xs ds->Q (.ref p) H'
 | .pr _ _,_=>False
def spW(K:W.Frag)(n:Nat)(m:MFW):Sp:=λvs H Q _=>vs.length=n/\∃F B fp ds a r β',Same F H/\Same B H/\BxOk K F (cut H B) F B fp a/\Reps K F vs ds/\m ds a=some (r,β')/\okTW K F H B Q r β'
def runW(n:Nat)(m:MW):MFW:=λds a=>match m (u8 n ds) a with
 |some (.nx _,β')=>some (.sh .non,β'.drop (β'.length-a.length))
 |some (.rt d,β')=>some (.sh d,β'.drop (β'.length-a.length))
 |some (.rf es,β')=>some (.fr es,β'.drop (β'.length-a.length))
 |_=>none
theorem BxR.drop{K:W.Frag}{F B:Hp}:∀{fp:List Addr}{a:Bx}(k:Nat),BxR K F B fp a->∃fq,BxR K F B fq (a.drop k)/\fq.Sublist fp
 |_,_,0,h=>⟨_,h,List.Sublist.refl _⟩
 |_,_,k+1,.nil=>⟨_,.nil,List.Sublist.refl _⟩
 |_,_,k+1,.cons c r=>by let⟨fq,h,s⟩:=BxR.drop k r;show⟨fq,h,s.trans (sublist_append_right _ _)⟩
theorem BxOk.drop{K:W.Frag}{b a F B:Hp}(h:BxOk K b a F B fp c)(k:Nat):∃fq,BxOk K b a F B fq (c.drop k):=by let⟨fq,r,s⟩:=h.bx.drop k;show⟨fq,h.out,r,h.nd.sublist s,h.plain⟩
theorem Fun.okW{P:Program}{K:W.Frag}{C:Qb}{base:Heap}{st:Stmt}{D:FuncData}{k:Nat}(Fn:Fun K x b st f D)(Sc:FnScope N y (y4 st))
  (g:∀(c:Value)(A:Around)(a:List Env)(s:Shared)(H:Hp)(E:XK),Room k (A.deeper (envOfC b (y4 st) s.heap.objs.size f c))->PSsw (cxOf CX0 P w K C base N b (y4 st) f c A a s H E).nox (i6 st) m):
  FnOk P w K C base CX0 (k+1) f D y (spW K y.length (runW N.length m)):=by
 show Fn.ok Sc (λz H Q E h=>h.1) λc A a s H z Q E T h=>?_;let⟨hl,F,B,U,G,β,r,J,M,O,V,R,e,ok⟩:=h;delta runW at e;show⟨_,g c A a s H E T,F,cut H B,F,u8 N.length G,β,?_⟩;have X3:RlW K F (cut H B) F H (X3 N z) (u8 N.length G) β:=⟨B,U,by rw[vw0 O];show E8 M R,V⟩;split at e
 .rename_i ρ β1 h1;ext e;show⟨_,_,X3,h1,λq o I S _=>?_⟩;let⟨t,n,u,j⟩:=S;let⟨l,i⟩:=j.drop (β1.length-β.length);show ok .non q o t l u.ext i .non
 .rename_i d β1 h1;ext e;show⟨_,_,X3,h1,λv q o t n x j rp=>?_⟩;let⟨l,i⟩:=j.drop (β1.length-β.length);show ok v q o t l x i rp
 .rename_i es β1 h1;ext e;show⟨_,_,X3,h1,λp L q o t n x j a1 Z Y X=>?_⟩;let⟨l,i⟩:=j.drop (β1.length-β.length);show ok p L q o t l x i a1 Z Y X
 .cases e
section
variable {c b F H B:Hp}{d:Ro}
end
section
variable {a b c e o:Expr}{d:Pos}{f:MFW}
end
section
variable {a b c e o:Expr}{f d:Pos}{g:ME}
end
def updB(p:Addr)(c':Cell):Bx->Bx
 |[]=>[]
 | (q,c)::a=>if q=p then (q,c')::a else (q,c)::updB p c' a
section
variable {K:W.Frag}{g d F H B:Hp}{j:St}{U:Ro}{Y:Bx}{fp:List Addr}
theorem BxR.upd{p:Addr}{c:Cell}:∀{fp:List Addr}{Y:Bx},BxR K F B fp Y->fp.Nodup->Y.lookup p=some c->∃fq,CellR K F B fq p c/\fq.Nodup/\(∀a∈fq,a∈fp)/\
  ∀(v:Cell)(i:List Addr)(t s:Hp),Same F s->CellR K s t i p v->i.Nodup->(∀a∈fp,a∉fq->t a=B a)->(∀a∈i,a∈fq\/a∉fp)->∃k,BxR K s t k (updB p v Y)/\k.Nodup/\∀a∈k,a∈fp\/a∈i:=by
 intro fp Y i;induction i with
 |nil=>intro _ e;ext e
 |@cons N R q c0 β h r ih=>
  intro nd e
  let⟨L,J,P⟩:=cR.mp nd;have u:=λa l o=>P a l a o rfl;rw[cX]at e;cases z:p==q with
  |true=>
   rw[z]at e;have z:=beq_iff_eq.mp z;subst z;ext e;show⟨N,h,L,λa f=>dw _ f,λv i t s w I C x fr=>?_⟩;unfold updB;rw[aH rfl];show⟨i++R,.cons I (r.mono w λa f=>x a (bC _ f) λz=>u a z f),cR.mpr ⟨C,J,λa l b o n=>?_⟩,λa f=>?_⟩
   .subst n;rcases fr a l with z|z
    .exact u a z o
    .exact z (bC _ o)
   .rcases bz.mp f with z|z
    .exact .inr z
    .exact .inl (bC _ z)
  |false=>
   rw[z]at e;have G:¬ q=p:=λy=>by rw[y,bT]at z;ext z
   let⟨fq,l,A,m,E⟩:=ih J e;show⟨fq,l,A,λa f=>bC _ (m a f),λv i t s w I C x fr=>?_⟩;let⟨k,O,D,M⟩:=E v i t s w I C (λa f Q=>x a (bC _ f) Q) λa f=>(fr a f).imp id λz y=>z (bC _ y);unfold updB;rw[aF G];show⟨N++k,.cons (h.mono w λa f=>x a (dw _ f) λy=>u a f (m a y)) O,cR.mpr ⟨L,D,λa l b o n=>?_⟩,λa f=>?_⟩
   .subst n;rcases M a o with z|z
    .exact u a l z
    .rcases fr a z with y|y
     .exact u a l (m a y)
     .exact y (dw _ l)
   .rcases bz.mp f with z|z
    .exact .inl (dw _ z)
    .exact(M a z).imp (bC _) id
theorem Rl.putB(rl:Rl K g (jn d B) F H j U)(out:∀b,B b≠none->d b=none/\g b=none)(t:B a≠none\/H a=none):Rl K g (jn d (upd B a o)) F (upd H a o) j U/\F a=none/\d a=none/\g a=none:=by
 have m:F a=none/\d a=none/\g a=none:=by
  rcases t with h|h
  .refine⟨?_,out a h⟩;cases q:F a with
   |none=>rfl
   |some u=>show aV (h8 (rl.ext.new a (out a h).2 (by rw[q];simp))).1 h
  .have f:=rl.fh.free h;show⟨f,(h8 (rl.ext.hh.free h)).2,rl.ext.ff.free f⟩
 have l:∀b,b≠a->jn d (upd B a o) b=jn d B b:=λb k=>by delta jn;rw[z9 k]
 have s:∀p c,jn d B p=none->H p=some (.lst c)->p≠a:=λp c x v w=>by
  subst w;rcases t with h|h
  .exact h (h8 x).1
  .rw[h]at v;ext v
 show⟨⟨⟨rl.ext.ff,λb u e=>?_,rl.ext.fh.put m.1,λb e n=>?_,rl.ext.nf⟩,rl.len,rl.sh,λi r e=>?_,rl.inj,λi p r e=>?_,rl.obn,rl.ob1⟩,m⟩
 .by_cases k:b=a
  .subst k;rw[j5 z8]at e;rw[z8];show e
  .rw[l b k]at e;rw[z9 k];show rl.ext.hh b u e
 .have k:b≠a:=λz=>by subst z;show n m.1
  rw[l b k];show rl.ext.new b e n
 .let⟨p,c,a1,a2,a3,a4,a5⟩:=rl.own i r e;have hp:=s p c a5 a3;show⟨p,c,a1,a2,by rw[z9 hp];show a3,a4,by rw[l p hp];show a5⟩
 .let⟨a1,a2,a3,c,a4,a5⟩:=rl.ob i p r e;have hp:=s p c a3 a4;show⟨a1,a2,by rw[l p hp];show a3,c,by rw[z9 hp];show a4,a5⟩
end
section
variable {K:W.Frag}{d c F H B:Hp}{fp:List Addr}
theorem FlR.length(h:FlR K F B fp xs fs):xs.length=fs.length:=by
 induction h with
 |nil=>rfl
 |v _ _ a=>simp[a]
 |l _ _ _ a=>simp[a]
theorem zd9(out:∀b,B b≠none->c b=none/\d b=none)(h:c a=none/\d a=none):∀b,upd B a o b≠none->c b=none/\d b=none:=λb f=>by
 by_cases z:b=a
 .subst z;show h
 .rw[z9 z]at f;show out b f
theorem C9(g:∀b o u,B b≠some (.frz o u))(h:∀p u,o≠ .frz p u):∀b p u,upd B a o b≠some (.frz p u):=λb p u f=>by
 by_cases z:b=a
 .subst z;rw[z8]at f;show h p u (bm f)
 .rw[z9 z]at f;show g b p u f
end
section
variable {c b:Pos}{f:Str}
end
section
variable {g b d c:Pos}{f:Str}
def ym5(m:ML):Ro->Bx->Option (List D):=λa b=>(m (thaw a b)).bind λds=>if ds.all isSc=true then some ds else none
end
theorem Rl.forget{K:W.Frag}{o n F H:Hp}(r:Rl K o n F H l s)(i:Nat):Rl K o n F H l (s.set i none):=by
 have a:∀(j:Nat) x,(s.set i none)[j]? =some (some x)->s[j]? =some (some x):=λj x e=>by
  by_cases m:i=j
  .subst m;rcases bi i s.length with z|z
   .rw[aN z]at e;ext e
   .rw[aY (by simpa using z)]at e;ext e
  .rw[aR m]at e;show e
 show⟨r.ext,by simp[r.len],λj d e=>r.sh j d (a j _ e),λj b e=>r.own j b (a j _ e),λj k p b c h g f=>r.inj j k p b c h (a j _ g) (a k _ f),λj p b e=>r.ob j p b (a j _ e),λj k p b c g f=>r.obn j k p b c (a j _ g) (a k _ f),λj k p q b c g f=>r.ob1 j k p q b c (a j _ g) (a k _ f)⟩
open Classical in
noncomputable def anyN{α:Type}(a:Bx)(f:Addr->Option α):Option α:=if h:∃r,∀x,x∉a.map Prod.fst->f x=some r then some (Classical.choose h)else none
theorem ze6{a:Type}{f:Addr->Option a}{r:a}(h:anyN b f=some r):∀x,x∉b.map Prod.fst->f x=some r:=by
 delta anyN at h;split at h
 .rename_i hx;ext h;show c0 hx
 .cases h
theorem ym8(l:List Addr):∃x,x∉l:=by
 have f:∀l:List Addr,∃b,∀a∈l,a<b:=by
  intro l;induction l with
  |nil=>show⟨0,λa h=>by cases h⟩
  |cons a l g=>
   let⟨b,e⟩:=g;show⟨max b (a+1),λc d=>?_⟩;rcases aT.mp d with rfl|d
   .have:=Nat.le_max_right b (c+1);show bb (bZ c) this
   .exact bb (e c d) (Nat.le_max_left _ _)
 let⟨b,e⟩:=f l;show⟨b,λh=>bO _ (e b h)⟩
theorem xt3{a:Type}{f:Addr->Option a}{r:a}(h:∀x,x∉d.map Prod.fst->f x=some r):anyN d f=some r:=by delta anyN;have b:∃r,∀x,x∉d.map Prod.fst->f x=some r:=⟨r,h⟩;rw[dif_pos b];let⟨x,c⟩:=ym8 (d.map Prod.fst);have:=c0 b x c;rw[h x c]at this;show this.symm
def letGo(i:Nat)(k:Nat):Out×Bx->Out×Bx
 | (.nx a,b)=>(.nx (a.set i none),b.drop (b.length-k))
 | (.bk a,b)=>(.bk (a.set i none),b.drop (b.length-k))
 | (.ct a,b)=>(.ct (a.set i none),b.drop (b.length-k))
 | (o,b)=>(o,b.drop (b.length-k))
theorem okW.letGo{K:W.Frag}{q m n:Hp}{Dn:Ends}{i k:Nat}:∀{o:Out}{u:Bx},okW K q m n Dn (letGo i k (o,u)).1 (letGo i k (o,u)).2->okW K q m n Dn o u
 | .nx t,u,h=>λF H g ⟨B,fp,rl,ok⟩ s=>let ⟨fq,f⟩:=ok.drop (u.length-k);h F H g ⟨B,fq,rl.forget i,f⟩ s
 | .bk t,u,h=>λF H g ⟨B,fp,rl,ok⟩ s=>let ⟨fq,f⟩:=ok.drop (u.length-k);h F H g ⟨B,fq,rl.forget i,f⟩ s
 | .ct t,u,h=>λF H g ⟨B,fp,rl,ok⟩ s=>let ⟨fq,f⟩:=ok.drop (u.length-k);h F H g ⟨B,fq,rl.forget i,f⟩ s
 | .rt d,u,h=>λv F H B fp x ok r=>let ⟨fq,f⟩:=ok.drop (u.length-k);h v F H B fq x f r
 | .rf ds,u,h=>λp l F H B fp x ok a b c r=>let ⟨fq,f⟩:=ok.drop (u.length-k);h p l F H B fq x f a b c r
 | .rg d p r,u,h=>λv F H l B fp x ok a j b c e=>let ⟨fq,f⟩:=ok.drop (u.length-k);h v F H l B fq x f a j b c e
 | .rp _ _,_,h=>h
 | .rgf _ _ _,_,h=>h
section
theorem BxR.keys{K:W.Frag}{F B:Hp}:∀{fp:List Addr}{a:Bx},BxR K F B fp a->∀p∈a.map Prod.fst,B p≠none:=by
 intro fp a i;induction i with
 |nil=>intro p h;ext h
 |cons c r ih=>
  intro p h
  rcases aT.mp h with z|z
  .subst z;cases c with
   |ins _ _ b _ _=>rw[b];simp
   |row b _=>rw[b];simp
   |tb _ b _ _=>rw[b];simp
  .exact ih p z
end
noncomputable def plainW(mf:MFW):MF:=λds=>match mf ds []with |some (.sh d,_)=>some (.sh d)|some (.fr es,_)=>some (.fr es)|_=>none
theorem Ext.unjn{F H B c H':Hp}(d:∀a,B a≠none->H a=none)(x:Ext F (jn H B) c H'):Ext F H c H':=
 ⟨x.ff,λa o e=>x.hh a o (by
  cases q:B a with
  |none=>rw[c8 q];show e
  |some u=>rw[d a (by rw[q];simp)]at e;ext e),x.fh,λb e n=>(h8 (x.new b e n)).2,x.nf⟩
theorem FnOk.plainW{P:Program}{K:W.Frag}{s:Qb}{base:Heap}{k:Nat}{n:Nat}(G:FnOk P w K s base CX k f z q (spW K n t)):FnOk P w K s base CX k f z q (spR K n (plainW t)):=G.imp λO H Q E c=>by
 let⟨D,F,I,r,l,m,e,ok⟩:=c;have y:cut H (λ_=>none)=H:=funext λa=>xw5 rfl;have A:BxOk K F (cut H λ_=>none) F (λ_=>none) [] []:=⟨λa h=>aV rfl h,.nil,nodup_nil,λa o u h=>by cases h⟩;show⟨D,F,λ_=>none,[],I,[],?_⟩;delta L2.plainW at e;split at e
 .rename_i d U h1;ext e;show⟨_,_,l,λa o h=>(by ext h),A,m,h1,λv j i N g x b r=>?_⟩;rw[y]at x b;show ok v j i (x.unjn λa h=>(b.out a h).1) r
 .rename_i es U h1;ext e;show⟨_,_,l,λa o h=>(by ext h),A,m,h1,λp C j i N g x b B M L J=>?_⟩;rw[y]at x b B;show ok p C j i (x.unjn λa h=>(b.out a h).1) (h8 B).2 M L J
 .cases e
section
variable {a b c e o:Expr}{d:Pos}{f:MFW}
end
section
end
section
end
section
variable {c b F H B:Hp}{d:Ro}
end
abbrev MGW:=Addr->List D->List D->Bx->Option (D×List D×Bx)
section
variable {b:MGW}
end
noncomputable def D0(i:Nat)(m:MW):MW:=λa b=>match a[i]? with |some (some (.own ds))=>m (a.set i (some (.sh (.lst ds)))) b|_=>none
theorem zc7{X:Cx}(i:Nat)(h:PSsw X a m):PSsw X a (D0 i m):=PSs.imp h λD n H zQ=>by
 let⟨j,g,F,p,d,o,b,⟨B,f,rl,k⟩,e,ok⟩:=zQ;delta D0 at e;split at e
 .rename_i ds h1;let⟨l,c,s⟩:=rl.freeze h1;show⟨j,g,l,_,d,o,b,⟨B,f,c,k.mono s⟩,e,ok.mono s⟩
 .cases e
def qfnD(K:W.Frag)(nm ql:Str)(st:Stmt)(x:Addr):Prop:=∃(oc:Value)(o1:Option Addr)(kV dc pm:Value)(o2:Option Addr)(cd ct:Value)(sl:Array (Option Value)),K.lookup x=some ⟨oc,o1,.func (W.fnOf nm ql (V1 st) (i6 st) (y4 st) .none kV dc pm o2 cd ct),sl⟩/\W.codeIn K cd ql=true/\W.keepIn K (.ref x)=true
def QDn(K:W.Frag)(nm:Str)(st:Stmt):Prop:=∃x:Addr,W.nsIn K mainGlobals nm=some (some (.ref x))/\qfnD K nm nm st x
def QMn(K:W.Frag)(C:Addr)(nm ql:Str)(st:Stmt):Prop:=∃x:Addr,W.findIn K (.ref C) nm=some (some (.ref x))/\W.isFn K (.ref x)=true/\qfnD K nm ql st x
theorem QDn.of{K:W.Frag}{st:Stmt}(e:W.nsIn K mainGlobals nm=some (some (.ref x)))(l:K.lookup x=some ⟨f,h,.func (W.fnOf nm nm (V1 st) (i6 st) (y4 st) .none i j d g a ct),b⟩)(c:W.codeIn K a nm=true)(k:W.keepIn K (.ref x)=true):QDn K nm st:=⟨x,e,f,h,i,j,d,g,a,ct,b,l,c,k⟩
theorem QMn.of{K:W.Frag}{st:Stmt}(e:W.findIn K (.ref C) nm=some (some (.ref x)))(i:W.isFn K (.ref x)=true)(l:K.lookup x=some ⟨g,j,.func (W.fnOf nm a (V1 st) (i6 st) (y4 st) .none m n f h b ct),d⟩)(c:W.codeIn K b a=true)(k:W.keepIn K (.ref x)=true):QMn K C nm a st:=⟨x,e,i,g,j,m,n,f,h,b,ct,d,l,c,k⟩
abbrev QBdD(nm ql:Str)(st:Stmt)(ps:List Str)(us:List Value):Prop:=∀(kV doc pm:Value)(an:Option Addr)(cdv ct:Value),bindArgs (W.fnOf nm ql (V1 st) (i6 st) (y4 st) .none kV doc pm an cdv ct) ⟨us,[]⟩=pure (ps.zip us)
section
variable {P:Program}{w:World}{K:W.Frag}{mg:Qb}{base h:Heap}{nm i j:Str}{st:Stmt}{g:List Str}{sp:Sp}{n:Nat}
def QDf(K:W.Frag)(mg:Qb)(nm:Str)(st:Stmt)(g:List Str):Prop:=∃f fd,Fun K nm nm st f fd/\Binds K fd g []/\mg nm=some (.ref f)
def QHd(P:Program)(w:World)(K:W.Frag)(mg:Qb)(base:Heap)(n:Nat)(nm:Str)(g:List Str)(sp:Sp):Prop:=∃f fd,FnOk P w K mg base CX0 n f fd g sp/\Binds K fd g []/\W.keepIn K (.ref f)=true/\mg nm=some (.ref f)
theorem qfnD.mk(D:qfnD K nm i st x)(e:∀a:List Value,a.length=g.length->QBdD nm i st g a):∃b,Fun K nm i st x b/\Binds K b g []:=by let⟨o,q,r,s,m,p,t,ct,f,l,c,k⟩:=D;show⟨_,xx3 l c k,(xx3 l c k).binds λ_ _ _ _ _ _ a d=>e a d _ _ _ _ _ _⟩
theorem QDn.df(D:QDn K nm st)(X:K.In h)(G:h.Ns mainGlobals mg)(c:∀a:List Value,a.length=g.length->QBdD nm nm st g a):QDf K mg nm st g:=by let⟨x,e,D⟩:=D;let⟨d,F,b⟩:=D.mk c;show⟨x,d,F,b,W.mg_of X G e⟩
theorem QDf.mk(D:QDf K mg nm st g)(h:∀f c,Fun K nm nm st f c->FnOk P w K mg base CX0 n f c g sp):QHd P w K mg base n nm g sp:=by let⟨f,c,F,b,a⟩:=D;show⟨f,c,h f c F,b,F.kp,a⟩
theorem qbS{P:List Value->Prop}{n:Nat}(h:∀a b,b.length=n->P (a::b)):∀b:List Value,b.length=n+1->P b:=λb e=>by ext b;ext e;show h _ _ (Nat.succ.inj e)
theorem qbd1{P:List Value->Prop}(h:∀a,P [a]):∀b:List Value,b.length=1->P b:=qbS λa b e=>by ext b;show h a;ext e
theorem qbd2{P:List Value->Prop}(h:∀a b,P [a,b]):∀c:List Value,c.length=2->P c:=qbS λa=>qbd1 (h a)
theorem qbd3{P:List Value->Prop}(h:∀a b c,P [a,b,c]):∀d:List Value,d.length=3->P d:=qbS λa=>qbd2 (h a)
theorem qbd4{P:List Value->Prop}(h:∀a b c d,P [a,b,c,d]):∀e:List Value,e.length=4->P e:=qbS λa=>qbd3 (h a)
theorem qbd5{P:List Value->Prop}(h:∀a b c d e,P [a,b,c,d,e]):∀f:List Value,f.length=5->P f:=qbS λa=>qbd4 (h a)
end
section
variable {g:List Str}{h:TE}{p c d:Pos}
theorem qcl(H:QHd X.prog X.w X.K X.mg X.base n nm g sp)(r:Room k X.A)(x:PA X (e::es) t)(s:n<=k:=by decide)(u:Gl X nm:=by rfl)(m:(nm==("__debug__":Str))=false:=by decide)(v:starEach (e::es) X.env=(false,eval e X.env)::starEach es X.env:=by rfl)(l:(backTo c (starEach es X.env)).any (·.1)=false:=by rfl):
  PE X (.Call (.Name nm p) (e::es) [] c) (yo6 sp [] E0 t):=by
 let⟨f,y,F,b,q,a⟩:=H;show wu2 (F.mono s) r u a q b .nil vo3 x m v l
end
theorem qap{X:Cx}(j:PE X o h)(k:PA X (e::es) t)
  (f:attributeBase o "append" X.env (eval o X.env)=eval o X.env:=by rfl)
  (g:((backTo a (starEach (e::es) X.env)).all (λx=>!x.1)&&(backToKw a (keywordEach [] X.env)).all (λx=>x.1.isSome)
   &&decide ((e::es).length+([]:List Keyword).length+(if ([]:List Keyword).isEmpty then 0 else 1)<30))=true:=by rfl)
  (d:(c.endLine==a.line)=true:=by rfl) (i:starEach (e::es) X.env=(false,eval e X.env)::starEach es X.env:=by rfl) (b:(backTo a (starEach es X.env)).any (·.1)=false:=by rfl):
  PE X (.Call (.Attribute o "append" c) (e::es) [] a) (tBM X.K "list" A6 h t):=vo0 PySem.F.plainAttrs_list PySem.F.slot_list_append PySem.F.type_list_append zi5 j k f g d i b
section
variable {a b c d e f:ME}(g:Ro)(ds:List D)
theorem qal1:z6 a anil g=some ds->ds.length=0+1:=T7 xf3 g ds
theorem qal2:z6 a (z6 b anil) g=some ds->ds.length=0+1+1:=T7 qal1 g ds
theorem qal3:z6 a (z6 b (z6 c anil)) g=some ds->ds.length=0+1+1+1:=T7 qal2 g ds
theorem qal4:z6 a (z6 b (z6 c (z6 d anil))) g=some ds->ds.length=0+1+1+1+1:=T7 qal3 g ds
theorem qal5:z6 a (z6 b (z6 c (z6 d (z6 e anil)))) g=some ds->ds.length=0+1+1+1+1+1:=T7 qal4 g ds
end
theorem qsc{N P:List Str}(a:sc.kind= .function:=by rfl)(b:sc.isCoroutine=false:=by rfl)(c:sc.isGenerator=false:=by rfl)(d:N.Nodup:=by decide +kernel)(e:N.take P.length=P:=by rfl)(f:∀x∈P,sc.names.lookup x=some .local\/sc.names.lookup x=some .cell:=by decide +kernel)(g:∀y∈sc.names,y.2≠ .free:=by decide +kernel):FnScope N P sc:=⟨a,b,c,d,e,f,g⟩
section
variable {a b c e:Expr}{d:Pos}
@[irreducible] noncomputable def yx4(x y:MBm):MBm:=λa=>match x a with |some (true,ρ1)=>y ρ1|some (false,ρ1)=>some (false,ρ1)|none=>none
theorem xp5(h:PT X a (TCm X.K f)):PW X (.BoolOp .And [a] d) (TCm X.K f):=yg8 h
theorem wx7(x:PT X a (TCm X.K t))(w:PW X (.BoolOp .And (b::f) d) (TCm X.K s)):PW X (.BoolOp .And (a::b::f) d) (TCm X.K (yx4 t s)):=(xd2 x w).imp λA H Q i=>by
 let⟨o,m,F,p,g,j,r,e,q⟩:=i;delta yx4 at e;split at e
 .rename_i ρ1 h1;show⟨o,m,F,p,_,ρ1,r,h1,λn u h k=>iteT ⟨o,m,n,ρ1,g,j,h,e,λz y l v=>q z y l (k.trans v)⟩⟩
 .rename_i ρ1 h1;ext e;show⟨o,m,F,p,_,_,r,h1,λn u h k=>iteF (q n u h k)⟩
 .cases e
theorem vo2(h:PW X a (TCm X.K f)):PT X a (TCm X.K f):=h.pt
@[irreducible] noncomputable def cpu(x:MB):MBm:=λa=>match x a with |some b=>some (b,a)|none=>none
theorem xm4(h:PC' X a j):PT X a (TCm X.K (cpu j)):=PT.imp h λp H Q f=>by
 let⟨o,m,F,r,g,k,rl,e,q⟩:=f;delta cpu at e;split at e
 .rename_i b h1;ext e;show⟨o,m,F,_,_,rl,h1,λn l i=>q n l (rl.go i) i.ff⟩
 .cases e
end
theorem K9(h:∀a,B a≠none->b a=none):Same b (jn b B):=λa o e=>by
 cases q:B a with
 |none=>rw[c8 q];show e
 |some u=>rw[h a (by rw[q];simp)]at e;ext e
theorem ws8{K:W.Frag}{i f g:Hp}{Dn:Ends}:∀{o:Out}{j:Bx},okO K i f g Dn o->(∀d es,o≠ .rp d es)->(∀d p r,o≠ .rgf d p r)->okW K i f g Dn o j
 | .nx _,_,h,_,_=>λF H e ⟨B,fp,rl,ok⟩ s=>h F H e (rl.less (K9 λa z=>(ok.out a z).1)) s
 | .bk _,_,h,_,_=>λF H e ⟨B,fp,rl,ok⟩ s=>h F H e (rl.less (K9 λa z=>(ok.out a z).1)) s
 | .ct _,_,h,_,_=>λF H e ⟨B,fp,rl,ok⟩ s=>h F H e (rl.less (K9 λa z=>(ok.out a z).1)) s
 | .rt _,_,h,_,_=>λv F H B fp x ok r=>h v F H (x.less (K9 λa z=>(ok.out a z).1)) r
 | .rf _,_,h,_,_=>λp xs F H B fp x ok a b c d=>h p xs F H (x.less (K9 λa z=>(ok.out a z).1)) ((h8 a).2) b c d
 | .rg _ _ _,_,h,_,_=>λv F H xs B fp x ok r a b c d=>h v F H xs (x.less (K9 λa z=>(ok.out a z).1)) r b c d
 | .rp d es,_,_,n,_=>aV rfl (n d es)
 | .rgf d p r,_,_,_,n=>aV rfl (n d p r)
noncomputable def noRp:Out->Bool
 | .rp _ _=>false
 | .rgf _ _ _=>false
 |_=>true
def lowS(m:MW):MS:=λa=>match m a []with |some (o,_)=>if noRp o=true then some o else none|none=>none
section
variable {X:Cx}{st:Stmt}{b:List Stmt}
theorem xo1(h:PSsw X b m):PSsd X b (lowS m):=PSs.imp h λDn j H c=>by
 let⟨i,H0,F,f,o,g,e,ok⟩:=c;delta lowS at e;split at e
 .rename_i o' β' h1;split at e
  .rename_i hn;ext e;have k:jn H0 (λ_=>none)=H0:=funext λa=>c8 rfl;show⟨i,H0,F,f,[],o,β',⟨λ_=>none,[],by show g,λa z=>aV rfl z,.nil,nodup_nil,λa o u z=>by cases z⟩,h1,ws8 ok (λd l z=>?_) λd p r z=>?_⟩
   .rw[z]at hn;ext hn
   .rw[z]at hn;ext hn
  .cases e
 .cases e
@[irreducible] def zh2(is:List Nat)(x:MEm):MS:=λa=>match x a with
 |some (.lst ds,ρ1)=>(match R4 is ds ρ1 with |some ρ2=>some (.nx ρ2)|none=>none)
 |_=>none
theorem yf5{n:Nat}(h:PS X st (tAsg (TDm X.K k) (gLst X.K n (gAll d))))(u:d.length=n:=by rfl):PSd X st (zh2 d k):=h.imp λD l H c=>by
 let⟨z,x,F,m,o,s,e,ok⟩:=c;delta zh2 at e;split at e
 .rename_i ds ρ1 h1;split at e
  .rename_i ρ2 h2;ext e;show⟨z,x,F,m,.lst ds,ρ1,s,h1,λv y w a r t=>?_⟩;let⟨p,i,rfl,q,j⟩:=t.l';show⟨p,i,rfl,a.fh.seq q,by rw[j.length,L8 _ _ _ _ h2,u],yz8 d i ds l ρ1 ρ2 a j h2 λf g=>ok y w f g r⟩
  .cases e
 .cases e
end
section
variable {a b c e k:Expr}{h g:ME}{d f:Pos}
end
section
variable {c:Pos}{b:Expr}{d:Scope}
end
section
variable {b:St}
end
section
variable {b:St}
end
open Classical in
section
end
section
end
noncomputable def insB(B H:Hp)(L:List Addr):Hp:=λa=>if a∈L then H a else B a
theorem zy6{L:List Addr}(h:a∈L):insB B H L a=H a:=by delta insB;rw[aH h]
theorem N5{L:List Addr}(h:a∉L):insB B H L a=B a:=by delta insB;rw[aF h]
section
variable {K:W.Frag}{f c F H B:Hp}{d:St}{O:Ro}{Q:Bx}{fp:List Addr}
theorem Rl.takeBs{L:List Addr}(rl:Rl K f (jn c B) F H d O)(j:∀q∈L,H q≠none)(k:∀q∈L,F q=none)(l:∀q∈L,jn c B q=none)(h:∀q∈L,∀(i:Nat) ds,O[i]? =some (some (.own ds))->d[i]? ≠some (some (.ref q)))(g:∀q∈L,∀(i:Nat) p ds,O[i]? =some (some (.ob p ds))->p≠q):Rl K f (jn c (insB B H L)) F H d O:=by
 have a:∀b,b∉L->jn c (insB B H L) b=jn c B b:=λb g=>by unfold jn;rw[N5 g]
 show⟨⟨rl.ext.ff,λb u e=>?_,rl.ext.fh,λb e n=>?_,rl.ext.nf⟩,rl.len,rl.sh,λi ds e=>?_,rl.inj,λi p ds e=>?_,rl.obn,rl.ob1⟩
 .by_cases hq:b∈L
  .have:=j b hq;unfold jn at e;rw[zy6 hq]at e;cases z:H b with
   |none=>show aV z this
   |some o=>rw[z]at e;show e
  .rw[a b hq]at e;show rl.ext.hh b u e
 .rw[a b (λz=>n (k b z))];show rl.ext.new b e n
 .let⟨p,xs,a1,a2,a3,a4,a5⟩:=rl.own i ds e;show⟨p,xs,a1,a2,a3,a4,by rw[a p (λz=>h p z i ds e a1)];show a5⟩
 .let⟨a1,a2,a3,xs,a4,a5⟩:=rl.ob i p ds e;show⟨a1,a2,by rw[a p (λz=>g p z i p ds e rfl)];show a3,xs,a4,a5⟩
theorem yr3{b:Hp}:∀{a:List Addr}{dss:List (List D)},RPs K F H a dss->(∀q∈a,b q=H q)->FlR K F b a (a.map V.ref) (dss.map .l):=by
 intro a s r;induction r with
 |nil=>intro _;show .nil
 |cons h r t i=>intro k;show .l (by rw[k _ az];show h) r (i λq e=>k q (aX _ e))
theorem RlW.pots{dss:List (List D)}(rl:Rl K f (jn c B) F H d O)(ok:BxOk K f c F B fp Q)(x:Ext F H t n)(P:Pots K H t n p m dss):RlW K f c t n d O ((p,.row (dss.map .l))::Q)/\B p=none:=by
 have j:∀q∈p::m,H q=none/\t q=none/\n q≠none:=λq g=>by
  rcases aT.mp g with e|g
  .subst e;show⟨P.hp,P.fp,by rw[P.at'];simp⟩
  .let⟨o,ho⟩:=P.rep.some q g;show⟨(P.new q g).1,(P.new q g).2,by rw[ho];simp⟩
 have v:=λq g=>rl.ext.hh.free (j q g).1;have G:=λq g=>(h8 (v q g)).1;have k:=λa w z=>ok.bx.mem a w (G a z);show⟨⟨insB B n (p::m),(p::m)++fp,((rl.go x).takeBs (λq g=>(j q g).2.2) (λq g=>(j q g).2.1) v (λq g i A e z=>by
  let⟨E,s,L,_,J,_⟩:=rl.own i A e;rw[z]at L;ext L;rw[(j q g).1]at J;ext J) (λq g i E A e z=>by
  let⟨_,_,_,s,I,_⟩:=rl.ob i E A e;rw[z,(j q g).1]at I;ext I)),λa h=>?_,.cons (.row (by rw[zy6 az];show P.at') (yr3 P.rep λq g=>zy6 (aX _ g))) (ok.bx.mono x.ff λa w=>N5 (k a w)),cR.mpr ⟨P.nd,ok.nd,λa y b N z=>by subst z;show k a N y⟩,λa o u h=>?_⟩,G p az⟩
 .by_cases g:a∈p::m
  .exact⟨(h8 (v a g)).2,rl.ext.ff.free (rl.fh.free (j a g).1)⟩
  .rw[N5 g]at h;show ok.out a h
 .by_cases g:a∈p::m
  .rw[zy6 g]at h;rcases aT.mp g with e|g
   .subst e;rw[P.at']at h;ext h
   .let⟨i,hi,hiq⟩:=dg g;have:∃s,n a=some (.lst s):=by
     have C:∀{m:List Addr}{dss:List (List D)},RPs K t n m dss->a∈m->∃s,n a=some (.lst s):=by
      intro m dss r;induction r with
      |nil=>intro h;ext h
      |cons y _ _ M=>
       intro h;rcases aT.mp h with e|h
       .subst e;show⟨_,y⟩
       .exact M h
     show C P.rep g
    let⟨s,e⟩:=this;rw[e]at h;ext h
  .rw[N5 g]at h;show ok.plain a o u h
theorem FlR.at'{n:Nat}{ds:List D}:∀{n:Nat}{fp:List Addr}{xs:List V}{fs:List Fl},FlR K F B fp xs fs->fp.Nodup->fs[n]? =some (.l ds)->∃q m,xs[n]? =some (.ref q)/\q∈fp/\B q=some (.lst m)/\Reps K F m ds/\
  ∀(j i:Hp) g h,Same F i->j q=some (.lst g)->Reps K i g h->(∀a∈fp,a≠q->j a=B a)->FlR K i j fp xs (fs.set n (.l h))
 |_,_,_,_,.nil,_,e=>by simp at e
 |0,_,_,_,.v _ _,_,e=>by simp at e
 |n+1,_,_,_,.v r t,nd,e=>by let⟨q,m,E,x,C,A,y⟩:=FlR.at' (n:=n) t nd (by simpa using e);show⟨q,m,by simpa using E,x,C,A,λj i g h k s p o=>.v (r.mono k) (y j i g h k s p o)⟩
 |0,_,_,_,.l (fp:=fp) (q:=q) b r t,nd,e=>by simp at e;subst e;have u:=bu.mp nd;show⟨q,_,rfl,by simp,b,r,λj i g h k s p o=>.l s p (t.mono k λa w=>o a (by simp[w]) λz=>u.1 (z ▸ w))⟩
 |n+1,_,_,_,.l (fp:=fp) (q:=q0) b r t,nd,e=>by have u:=bu.mp nd;let⟨q,m,E,x,C,A,y⟩:=FlR.at' (n:=n) t u.2 (by simpa using e);show⟨q,m,by simpa using E,by simp[x],C,A,λj i g h k s p o=>.l (by rw[o q0 az λz=>u.1 (z ▸ x)];show b) (r.mono k) (y j i g h k s p λa w G=>o a (by simp[w]) G)⟩
end
def xk6(i:Nat)(mp:MP)(rest:MW):MW:=λa b=>(mp a).bind λdss=>anyN b λx=>(rest (a.set i (some (.sh (.ptr x)))) ((x,.row (dss.map .l))::b)).map (letGo i b.length)
section
variable {X:Cx}{a b c e:Expr}{f:Pos}{st:Stmt}{rest:List Stmt}{h:MFW}{m:ML}
theorem zj1{i:Nat}{src:Qd}(O:PS X st (tAsg (zr0 src (TId X.K mi) (TGd X.K g) (TC X.K cyes) (TF X.K d)) (R0 i)))(N:PSsw X rest n):PSsw X (st::rest) (xk6 i (Z0 src mi g d) n):=PSs.imp (S2 O N) λDn y H zQ=>by
 let⟨I,D,F,q,A,o,J,⟨B,T,C,ok⟩,e,k⟩:=zQ;delta xk6 at e;rcases h1:Z0 src mi g d q,e with j;rw[aI]at e;show zr0 src (TId X.K mi) (TGd X.K g) (TC X.K cyes) (TF X.K d) y H (λv G=>TSw X.K n Dn (y.set i (some v)) G);show yx3 ⟨I,jn D B,F,q,j,C,h1,λp S Q G x P=>?_⟩;let⟨⟨R,w,s,t⟩,u⟩:=RlW.pots C ok x P;have e:=ze6 e p λz=>ok.bx.keys p z u;cases h3:n (q.set i (some (.sh (.ptr p)))) ((p,.row (j.map .l))::A)with
 |none=>rw[h3]at e;ext e
 |some L=>let⟨M,r⟩:=L;rw[h3]at e;show⟨I,D,Q,_,_,M,r,⟨R,w,s.set (.ptr p),t⟩,h3,okW.letGo (i:=i) (k:=A.length) ?_⟩;rw[bm e];show k.mono x.ff
def setR(a b:Int)(d:D)(fs:List Fl):Option (List Fl):=match ixN fs.length a with
 |some n=>(match fs[n]? with
  |some (.l ds)=>(match ixN ds.length b with |some m=>some (fs.set n (.l (ds.set m d)))|none=>none)
  |_=>none)
 |none=>none
def yb7(i:Nat)(k1 k2:ME)(v:Ro->Bx->Option D):MW:=λc e=>match v c e,c[i]?,k1 c,k2 c with
 |some d,some (some (.sh (.ptr p))),some (.int a),some (.int b)=>(match e.lookup p with
  |some (.row fs)=>(setR a b d fs).map λfs'=>(.nx c,updB p (.row fs') e)
  |_=>none)
 |_,_,_,_=>none
theorem yu5{i:Nat}{V U:ME}{T:Ro->Bx->Option D}(hE:PS X st (tAsg (TDw X.K T) (gSub (tOp (rIxL X.K) (tVar i) (TD X.K V)) (TD X.K U) xp4))):PSw X st (yb7 i V U T):=PS.imp hE λDn c H r=>by
 let⟨Q,O,F,t,f,o,a0,x,e,k⟩:=r;delta yb7 at e;split at e
 .rename_i d p a b h1 hp hk1 hk2;split at e
  .rename_i fs hb;rcases h2:setR a b d fs,e with a8;ext e;delta setR at h2;split at h2
   .rename_i n L;split at h2
    .rename_i ds hfs;split at h2
     .rename_i m hm;ext h2;show⟨Q,O,F,t,f,d,x,h1,λv F1 H1 r1 s1 _ rp=>?_⟩;let⟨B,fp,rl,ok⟩:=r1;let⟨w,C,u⟩:=rl.sh i _ hp;ext u;let⟨fq,hc,S,a7,up⟩:=ok.bx.upd ok.nd hb;cases hc with
      |@row fq0 _ xs _ b0 fl=>
       have l:=bu.mp S;let⟨q,ys,a1,Z,Y,W,a5⟩:=FlR.at' (n:=n) fl l.2 hfs;show⟨_,C,Q,jn O B,F1,t,_,rl,hk1,λw2 F2 H2 s r2=>?_⟩;ext r2;have M:atI xs a=some (.ref q):=by delta atI;rw[fl.length,L];show a1
       show⟨p,xs,a,.ref q,rfl,rfl,SqL.of (s.hh _ _ (rl.ext.hh _ _ (j5 b0))),M,Q,jn O B,F2,t,_,rl.go s,hk2,λw3 P H3 R r3=>?_⟩;ext r3;have j:=(rl.go s).go R;show⟨q,ys,b,m,rfl,rfl,j.ext.hh _ _ (j5 Y),by rw[W.length];show hm,?_⟩;let⟨y,_,I,G⟩:=j.putB ok.out (.inl (by rw[Y];simp));have pq:p≠q:=λz=>l.1 (z ▸ Z);have g:=s.ff.trans R.ff;let⟨N,r',A,a6⟩:=up _ _ _ P g (.row (by rw[z9 pq];show b0) (a5 _ P _ _ g z8 ((W.mono g).set (rp.mono g) m) λa _ J=>z9 J)) S (λa _ L=>z9 λz=>L (by rw[z];simp[Z])) λa ha=>.inl ha;show k P _ c ⟨_,N,y,zd9 ok.out ⟨I,G⟩,r',A,C9 ok.plain λ_ _ z=>by cases z⟩ (s1.trans g)
     .cases h2
    .cases h2
   .cases h2
  .cases e
 .cases e
end
@[irreducible] noncomputable def ym1(i:Nat)(m:MB):MB:=λa=>match a[i]? with
 |some (some (.own ds))=>m (a.set i (some (.sh (.lst ds))))
 |_=>m a
theorem wt5{X:Cx}(i:Nat)(h:PC' X e m):PC' X e (ym1 i m):=h.imp λv H Q f=>by
 let⟨l,k,F,n,d,rl,e,q⟩:=f;delta ym1 at e;split at e
 .rename_i ds h1;let⟨p,x,r,j⟩:=rl.freezeP h1;show⟨l,k,_,_,d,j,e,λt s c=>?_⟩;show q (λb=>if b=p then none else t b) s ⟨λb o a=>?_,c.hh,λb o a=>?_,λb a g=>?_,λb o u z=>by
   split at z
   .cases z
   .rename_i hne;have:=c.nf b o u z
    rwa [z9 hne]at this⟩
  .have hne:b≠p:=λw=>by rw[w,r]at a;ext a
   rw[aF hne];show c.ff b o (by rw[z9 hne];show a)
  .have a:=a;split at a
   .cases a
   .exact c.fh b o a
  .have g:=g;split at g
   .exact aV rfl g
   .rename_i hne;show c.new b (by rw[z9 hne];show a) g
 .exact⟨l,k,F,n,d,rl,e,q⟩
section
variable {b:St}
end
section
end
section
variable {b:St}
end
section
end
section
variable {b:MF}
end
section
end
abbrev Up(xs:Array Nat):Prop:=xs.toList.Pairwise (·<·)
theorem Up.lt(h:Up xs){i j:Nat}(a:i<j)(b:j<xs.size):xs[i]'aw<xs[j]:=by have:=c6.mp h i j (by simpa using (by lia:i<xs.size)) (by simpa using b) a;simpa using this
def IsBelow(xs:Array Nat)(j b:Nat):Prop:=b<=xs.size/\(∀i (h:i<xs.size),i<b->xs[i]<j)/\∀i (h:i<xs.size),b<=i->j<=xs[i]
theorem zn4{xs:Array Nat}(a:Up xs)(j:Nat):∀(fuel lo hi:Nat),lo<=hi->hi<=xs.size->hi-lo<=fuel->(∀i (h:i<xs.size),i<lo->xs[i]<j)->(∀i (h:i<xs.size),hi<=i->j<=xs[i])->IsBelow xs j (SetTable.below.go xs j fuel lo hi)
 |0,lo,hi,l,d,k,c,b=>by have:lo=hi:=aw;subst this;show⟨d,c,b⟩
 |fuel+1,lo,hi,l,d,k,c,b=>by
  unfold SetTable.below.go;by_cases q:lo<hi
  .rw[aH q];dsimp only;have g:(lo+hi) / 2<xs.size:=ax;have e:xs.getD ((lo+hi) / 2) j=xs[(lo+hi) / 2]:=by simp[Array.getD,g]
   rw[e];by_cases z:xs[(lo+hi) / 2]<j
   .rw[aH z];show zn4 a j fuel _ hi ax d ax (λi h f=>?_) b;rcases bi i ((lo+hi) / 2)with y|y
    .exact de (a.lt y g) z
    .have:i=(lo+hi) / 2:=ax;subst this;show z
   .rw[aF z];show zn4 a j fuel lo _ ax aw ax c λi h f=>?_;rcases bi ((lo+hi) / 2) i with y|y
    .exact bD ax (dt (a.lt y h))
    .have:i=(lo+hi) / 2:=ax;subst this;omega
  .rw[aF q];have:lo=hi:=aw;subst this;show⟨d,c,b⟩
theorem zn3(a:Up xs)(j:Nat):IsBelow xs j (SetTable.below xs j):=zn4 a j xs.size 0 xs.size (aW _) (aK _) aw (λi h z=>by omega) λi h z=>by lia
theorem IsBelow.uniq{j b c:Nat}(h:IsBelow xs j b)(k:IsBelow xs j c):b=c:=by
 rcases Nat.lt_trichotomy b c with z|z|z
 .have h1:=h.2.2 b (by have:=k.1;lia) (aK _);have a:=k.2.1 b (by have:=k.1;lia) z;lia
 .exact z
 .have h1:=k.2.2 c (by have:=h.1;lia) (aK _);have a:=h.2.1 c (by have:=h.1;lia) z;lia
theorem yk9(a:Up xs):SetTable.below xs 0=0:=(zn3 a 0).uniq ⟨aW _,λi h z=>by lia,λi h z=>aW _⟩
theorem yj0(a:Up xs){i:Nat}(hi:i<xs.size):SetTable.below xs (xs[i]+1)=i+1:=(zn3 a _).uniq ⟨aw,λk h z=>by
 rcases bi k i with y|y
 .have:=a.lt y hi;lia
 .have:k=i:=aw;subst this;lia,λk h z=>by
 have:=a.lt (show i<k by lia) h;lia⟩
theorem xx1(a:Up xs){j:Nat}(h:xs[SetTable.below xs j]? ≠some j):Up (SetTable.insertAt xs (SetTable.below xs j) j):=by
 have m:=zn3 a j;generalize SetTable.below xs j=b at*;delta Up;rw[SetTable.toList_insertAt,pairwise_append];let⟨p,n,g⟩:=m;show⟨List.Pairwise.sublist (take_sublist _ _) a,bG.mpr ⟨λx f=>?_,List.Pairwise.sublist (drop_sublist _ _) a⟩,λx f y d=>?_⟩
 .let⟨i,hi,rfl⟩:=dg f;rw[dQ,cb]at hi;rw[getElem_drop,Array.getElem_toList];have:=g (b+i) aw aw;rcases bi j (xs[b+i]'aw)with z|z
  .exact z
  .exfalso;have e:xs[b+i]'aw=j:=aw;have c:b<xs.size:=aw;rcases Nat.eq_zero_or_pos i with rfl|l
   .exact h (by rw[aJ c];show bf some e)
   .have h4:=g b c (aK _);have o:=a.lt (show b<b+i by lia) aw;omega
 .let⟨i,hi,rfl⟩:=dg f;rw[cB,cb]at hi;rw[getElem_take,Array.getElem_toList];rcases aT.mp d with rfl|d
  .exact(n i aw aw)
  .let⟨k,hk,rfl⟩:=dg d;rw[dQ,cb]at hk;rw[getElem_drop,Array.getElem_toList];show a.lt aw aw
def GT(led:Bool)(t:SetTable):Prop:=t.led=led/\(t.plain=true->Up t.place)
theorem zk5{t:SetTable}{j:Nat}(h:t.slot j= .empty\/t.slot j= .dummy):t.place[SetTable.below t.place j]? ≠some j:=by unfold SetTable.slot at h;dsimp only at h;intro z;rw[z]at h;simp at h
theorem K2{t:SetTable}{f:Nat->Int}{h:Int}:∀(fuel:Nat)(p:SetTable.Probe),(∀d,p.dummy=some d->t.place[SetTable.below t.place d]? ≠some d)->∀j d,SetTable.probe.go t f h fuel p=some (.empty j d)->t.place[SetTable.below t.place (d.getD j)]? ≠some (d.getD j)
 |0,p,_,j,d,e=>by ext e
 |fuel+1,p,hd,j,d,e=>by
  unfold SetTable.probe.go at e;have b:∀q:SetTable.Probe,(t.advance q).dummy=q.dummy:=λq=>by unfold SetTable.advance;split <;> rfl
  split at e
  .rename_i hs;ext e;cases hq:p.dummy with
   |none=>show zk5 (.inl hs)
   |some d=>show hd d hq
  .rename_i hs;show K2 fuel _ (λc a=>?_) j d e;rw[b]at a;ext a;show zk5 (.inr hs)
  .split at e
   .cases e
   .exact K2 fuel _ (λc a=>hd c (by rw[b]at a;show a)) j d e
theorem yz5{a:Bool}(g:GT a t)(es:Array (Int×Value))(h:Int)(x:Value):GT a (layNew t es h x).2.1:=by
 have st:∀(t:SetTable) n,t.led=a->GT a (t.standIn n):=λt n b=>⟨b,λz=>by cases z⟩;unfold layNew;split
 .rename_i slot wd hf;dsimp only;unfold SetTable.orStandIn;have b:=g.1;split
  .refine⟨b,λe=>?_⟩;show xx1 (g.2 e) ?_;unfold SetTable.freeSlot at hf;split at hf
   .rename_i j d hpr;ext hf;show K2 _ _ (λf c=>by ext c) j d hpr
   .cases hf
  .exact st _ _ b
 .exact st _ _ g.1
theorem zq0{d:Bool}(g:GT d t)(es:Array (Int×Value))(c:Nat):GT d (relayAll t es c).2.1:=by
 have st:∀n,GT d (t.standIn n):=λn=>⟨g.1,λz=>by cases z⟩;unfold relayAll;split
 .rename_i t' order hr;dsimp only;split
  .unfold SetTable.relaid SetTable.laid at hr;cases hc:SetTable.layClean (SetTable.sizeAbove c-1) (es.map (·.1))with
   |none=>rw[hc]at hr;ext hr
   |some i=>
    rw[hc]at hr;ext hr;show⟨g.1,λ_=>?_⟩;have k:∀(n:Nat)(f:Nat->Option Nat),(((List.range n).filterMap λj=>(f j).map (j,·)).map (·.1)).Pairwise (·<·):=λn f=>by
     rw[map_filterMap];show List.Pairwise.filterMap _ (λa b l x h y e=>?_) pairwise_lt_range;cases hfa:f a with
     |none=>rw[hfa]at h;ext h
     |some u=>
      cases hfb:f b with
      |none=>rw[hfb]at e;ext e
      |some v=>rw[hfa]at h;rw[hfb]at e;ext h;ext e;show l
    show k _ _
  .exact st _
 .exact st _
theorem zt5{a:Type}(l:List a)(i:Nat)(h:i<l.length):(l[i]::l.eraseIdx i).Perm l:=by
 rw[eraseIdx_eq_take_drop_succ];have e:l=l.take i++l[i]::l.drop (i+1):=by rw[getElem_cons_drop,take_append_drop]
 show(List.perm_middle.symm).trans (by rw[<-e])
theorem ye7{α:Type}(next:Nat->Nat):∀(fuel k:Nat)(left:List α)(out:Array α),left.length=fuel->(pickOrder.go next fuel k left out).toList.Perm (out.toList++left)
 |0,k,left,out,h=>by rw[cS.mp h,append_nil];show .refl _
 |fuel+1,k,left,out,h=>by
  unfold pickOrder.go;have hl:next k % left.length<left.length:=Nat.mod_lt _ aw
  rw[aG hl];dsimp only;show(ye7 next fuel (k+1) _ _ (by rw[length_eraseIdx_of_lt hl];lia)).trans ?_;rw[cI,dq];show dX _ (zt5 left _ hl)
theorem ye6{a:Type}(next:Nat->Nat)(xs:Array a):(pickOrder next xs).toList.Perm xs.toList:=by show(ye7 next xs.size 0 xs.toList #[] az).trans az
section
variable {prog:Program}{w:World}{A:Around}{s:Shared}
noncomputable abbrev KI(prog:Program)(w:World):=intKind prog w
structure SG(prog:Program)(w:World)(h:Heap)(a:Addr)(S:Int->Bool)(n:Nat)(led:Bool)(o:Obj)(fs:Array (Int×Value))(ep:Nat)(u:SetTable):Prop where
 at_:h.get? a=some o
 ex:o.ExactSet
 dat:o.data= .set fs ep u
 el:ElemsOf (KI prog w) fs.toList
 mem:∀k,S k=true↔∃e∈fs.toList,(KI prog w).is k e.2=true
 small:fs.size<scanBound
 fit:u.fits fs.size=true
 many:fs.size=n
 good:GT led u
def SetG(prog:Program)(w:World)(h:Heap)(a:Addr)(S:Int->Bool)(n:Nat)(led:Bool):Prop:=∃o fs ep u,SG prog w h a S n led o fs ep u
theorem SetG.congr{S S':Int->Bool}{n b:Nat}{led:Bool}(g:SetG prog w h a S n led)(e:∀k,S k=S' k)(c:n=b):SetG prog w h a S' b led:=by have:S=S':=funext e;subst this;subst c;show g
theorem SetG.stay{S:Int->Bool}{n:Nat}{led:Bool}(g:SetG prog w h a S n led)(k:∀o,h.get? a=some o->h'.get? a=some o):SetG prog w h' a S n led:=by let⟨o,b,c,u,g⟩:=g;show⟨o,b,c,u,k o g.at_,g.ex,g.dat,g.el,g.mem,g.small,g.fit,g.many,g.good⟩
theorem xe8{h:Heap}{a:Addr}{o:Obj}{r c:Array (Int×Value)}{j:Nat}{u v:SetTable}{m:Int->Bool}{f:Bool}(n:h.get? a=some o)(g:o.ExactSet)(p:o.data= .set r j u)(l:ElemsOf (KI prog w) c.toList)(d:∀k,m k=true↔∃e∈c.toList,(KI prog w).is k e.2=true)(b:c.size<scanBound)(i:v.fits c.size=true)(q:GT f v):
  SG prog w (h.update a (Obj.putSet c v)) a m c.size f { o with data:=.set c (j+1) v } c (j+1) v:=
 ⟨(SetOf_store n g p l d b i).1,g,rfl,l,d,b,i,rfl,q⟩
theorem wi4{g:Bool->Sem Unit}(pass:∀(b:Bool)(s1:Shared)(R:Unit->Shared->Prop),R () s1->wpAny (model prog w) A (g b) R E s1)
    {fs gs:Array (Int×Value)} {ep:Nat}  {S':Int->Bool} {led:Bool} (ho:s.heap.get? a=some o) (hex:o.ExactSet) (hd:o.data= .set fs ep u) (el:ElemsOf (KI prog w) gs.toList) (mem:∀k,S' k=true↔∃e∈gs.toList,(KI prog w).is k e.2=true) (small:gs.size<scanBound) (fit:v.fits gs.size=true) (gt:GT led v)
  {wd:Bool} {R:Option Bool->Shared->Prop} (fin:∀h',Heap.SameBut a s.heap h'->SetG prog w h' a S' gs.size led->R (some true) { s with heap:=h' }):
  wpAny (model prog w) A (do
   storeSet a gs v
   if (!wd&&v.tooFull)=true then do
     g (relayAll v gs (SetTable.grown gs.size)).2.2
     storeSet a (relayAll v gs (SetTable.grown gs.size)).1 (relayAll v gs (SetTable.grown gs.size)).2.1
     pure (some true)
    else pure (some true)) R E s:=by
 have b1:=bH s.heap a (Obj.putSet gs v);have g1:=xe8 ho hex hd el mem small fit gt;show aB (wpAny_storeSet_of ho hd ?_ (fits_of_scanBound small));split
 .have pp:=relayAll_perm v gs (SetTable.grown gs.size);have pf:=relayAll_fits v gs (SetTable.grown gs.size);have pg:=zq0 gt gs (SetTable.grown gs.size);revert pp pf pg;generalize relayAll v gs (SetTable.grown gs.size)=rr;let⟨ks,x,gave⟩:=rr;intro pp pf pg;have zz:ks.size=gs.size:=by have:=pp.length_eq;simpa using this
  show aB (pass _ _ _ ?_);have sm:=zz ▸ small;show aB (wpAny_storeSet_of g1.at_ rfl ?_ (fits_of_scanBound sm));have g2:=xe8 g1.at_ g1.ex rfl (el.perm pp) (λk=>(mem k).trans ⟨λzQ=>by let⟨e,he,q⟩:=zQ;show ⟨e,pp.mem_iff.mpr he,q⟩,λzQ=>by let⟨e,he,q⟩:=zQ;show ⟨e,pp.mem_iff.mp he,q⟩⟩) sm pf pg;rw[zz]at g2;show aD (fin _ (b1.trans (bH _ a _)) ⟨_,_,_,_,g2⟩)
 .exact aD (fin _ b1 ⟨_,_,_,_,g1⟩)
theorem addG{S:Int->Bool}{n:Nat}{led:Bool}{k:Int}{Q:Bool->Shared->Prop}(hk:(KI prog w).is k x=true)(hx:x.scannable=true)(hS:SetG prog w s.heap a S n led)(room:n+1<scanBound)
  (fin:∀h',Heap.SameBut a s.heap h'->SetG prog w h' a (λj=>S j || decide (j=k)) (if S k then n else n+1) led->Q (!S k) { s with heap:=h' }):
  wpAny (model prog w) A (setAddHashed a x ((KI prog w).hash k)) Q E s:=by
 let⟨o,fs,ep,u,G⟩:=hS;have hn:=G.many;show cv (aB (dA G.at_ G.dat G.fit ?_));dsimp only;rw[byScan_of hx G.small G.el];show aB ?_;show aB (cn ?_);show aB (wpAny_setScan_of hk G.at_ G.dat G.fit G.el ?_);cases hr:List.findIdx? (λe=>(KI prog w).is k e.2) fs.toList with
 |some j=>
  let⟨hj,hp,_⟩:=List.findIdx?_eq_some_iff_getElem.mp hr;have hSk:=(G.mem k).mpr ⟨_,dj hj,hp⟩;have:=fin s.heap (Heap.SameBut.refl a s.heap) (SetG.congr ⟨o,fs,ep,u,G⟩ (λi=>by
   by_cases z:i=k
   .subst z;rw[hSk];simp
   .simp[z]) (by rw[aH hSk]))
  rw[hSk]at this;show aD (aD this)
 |none=>
  have hSk:S k=false:=by
   cases z:S k with
   |false=>rfl
   |true=>let⟨e,he,hp⟩:=(G.mem k).mp z;have:=List.findIdx?_eq_none_iff.mp hr e he;rw[hp]at this;ext this
  have pass:∀(b:Bool){s1:Shared}{R:Unit->Shared->Prop},R () s1->wpAny (model prog w) A (match b with |true=>rule "set.scan.the-table-gave-way"|false=>pure ()) R E s1:=λb s1 R hq=>by
   ext b
   .exact aD hq
   .exact cn hq
  have lp:=layNew_perm u fs ((KI prog w).hash k) x;have lf:=layNew_fits u fs ((KI prog w).hash k) x;have lg:=yz5 G.good fs ((KI prog w).hash k) x;revert lp lf lg;generalize layNew u fs ((KI prog w).hash k) x=ll;let⟨gs,v,wd,gave⟩:=ll;intro lp lf lg;rw[cI]at lp;have el:=(G.el.push hk hx).perm lp;have mm:=λj=>mem_push_iff hk G.mem lp j;have zz:gs.size=n+1:=by have:=lp.length_eq;simp at this;lia
  have sm:gs.size<scanBound:=aw;show aB (pass _ ?_);have last:∀h',Heap.SameBut a s.heap h'->SetG prog w h' a (λj=>S j || decide (j=k)) gs.size led->Q true { s with heap:=h' }:=λh' b g=>by have:=fin h' b;rw[hSk]at this;show this (g.congr (λ_=>rfl) zz)
  split
  .refine aB ?_;rw[hashByValue_scannable 8 hx];show aD ?_;show wi4 (λb s1 R hq=>by ext b;show aD hq;show cn hq) G.at_ G.ex G.dat el mm sm ?_ ?_ λh' b g=>aD (last h' b g)
   .split
    .exact lf
    .exact SetTable.fits_plain_off lf
   .split
    .exact lg
    .exact⟨lg.1,λz=>by cases z⟩
  .refine aB (aD ?_);show wi4 (λb s1 R hq=>by ext b;show aD hq;show cn hq) G.at_ G.ex G.dat el mm sm lf lg λh' b g=>aD (last h' b g)
noncomputable def inL(val:Nat->Int)(i:Nat):Int->Bool:=λj=>(firstMet val i).any (·==j)
section
variable {R:Result->Shared->Prop}{I:Addr}{fp wr:List Addr}{c:Array GenState->Array GenState->Prop}{n:Nat}{P:Nat->Value->Prop}{St:Nat->Shared->Prop}
theorem vm0(W:WalksS prog w A.in1 I fp wr c n P St)(a:Addr)(h:a∉fp)(d:Nat->Int)(H:∀i v,P i v->∃t,v= .int (d i) t)(m:n+1<scanBound)(led:Bool):
  ∀(r i:Nat)(s:Shared),n-i=r->i<=n->St i s->SetG prog w s.heap a (inL d i) (firstMet d i).length led->
   (∀s',Moved (a::wr) c s s'->SetG prog w s'.heap a (inL d n) (firstMet d n).length led->R (.ok (.ret .none)) s')->
   codeAny (model prog w) A (.builtin "set.update.loop" ⟨[.ref a,.ref I],[]⟩) R s:=by
 have f:=λz=>h (W.sub _ z);have x:∀b∈wr,b∈a::wr:=λb z=>aX _ z;intro r;induction r with
 |zero=>intro i s J hi st g fin;obtain rfl:i=n:=aw;show bF F.entry_set_update_loop ?_;rw[ez F.plain_set_update_loop _];show aB (W.done s _ _ st λp k=>?_);show aD (fin p (k.mono x) (g.stay λo e=>k.heap a o f e))
 |succ r G=>
  intro i s J hi st g fin;have B:i<n:=aw;show bF F.entry_set_update_loop ?_;rw[ez F.plain_set_update_loop _];show aB (W.item i s _ _ B st λv p D l k=>?_);let⟨t,rfl⟩:=H i v D;have O:=g.stay λo e=>k.heap a o f e;show aB (cv ?_);unfold setAdd;show cv ?_;show aB ((intKind prog w).pyHash (intKind_is _ _ _ _) ?_);show addG (intKind_is _ _ _ _) rfl O (by have:=firstMet_length_le d i;lia) λK y N=>?_;have M:SetG prog w K a (inL d (i+1)) (firstMet d (i+1)).length led:=N.congr (λj=>by delta inL;rw[firstMet_succ,step_any]) (by rw[firstMet_succ,step_length];rfl);show aD ⟨bY F.plain_set_update_loop _,G (i+1) _ aw B (W.frame _ p _ _ l (dR _) λb u o e=>?_) M λC q L=>?_⟩
  .rw[y.2 b (λz:b=a=>h (by rw[<-z];show u))];show e
  .refine fin C (Moved.trans W.gtrans ((k.mono x).then_heap (dR _) λb o u e=>?_) q) L;rw[y.2 b (λz:b=a=>u (by rw[z];show bE))];show e
end
noncomputable def zw9(w:World):Bool:=!(w.params.followText "set-order")
def d9(w:World):Obj:={ cls:=.type "set",dict:=none,data:=.set #[] 0 (.fresh 0 0 (zw9 w)) }
theorem xw9(a:Value){Q:Qa}(h:Q (.ref s.heap.objs.size) { s with heap:=s.heap.push (d9 w) }):
  codeAny (model prog w) A (.call (.builtin "set.__new__") ⟨[.type "set",a],[]⟩) (wants Q E) s:=by
 show codeAny_of_tree ?_;show aB (bP (PySem.F.newCall_set_1 a) (aD ⟨bY PySem.F.plain_set_new _,bF PySem.F.entry_set_new ?_⟩));rw[ez PySem.F.plain_set_new _];unfold Builtin.«set.__new__» Builtin.Frozenset.newClass;have b:=PySem.sub_set_self;let⟨f,g,d,c,e⟩:=s;dsimp only
 wp_walk
 show wpAny_askSetting (aD ?_);dsimp only;simp only[newObj];show aB (wpAny_alloc (aD ?_));show aD h
theorem yh8(b:h.get? a=some (d9 w)):SetG prog w h a (λ_=>false) 0 (zw9 w):=
 ⟨d9 w,#[],0,.fresh 0 0 (zw9 w),b,⟨rfl,rfl,rfl⟩,rfl,λe z=>by simp at z,λk=>by simp,by decide,by rfl,rfl,rfl,λ_=>List.Pairwise.nil⟩
set_option maxHeartbeats 3200000 in
theorem xg0{items:Array Value}{Q:Qa}(Z:A.handled=none)(Y:s.heap.IsList l items)(hi:IntsAre items.toList ns)(f:items.size+1<scanBound)
  (fin:∀(h':Heap)(tk:Nat),SetG prog w h' s.heap.objs.size (inL (λi=>ns.getD i 0) items.size) (firstMet (λi=>ns.getD i 0) items.size).length (zw9 w)->
   (∀b o,b<s.heap.objs.size->s.heap.get? b=some o->h'.get? b=some o)->Q (.ref s.heap.objs.size) { s with heap:=h',toks:=tk }):
  wpAny (model prog w) A (call (.type "set") [.ref l]) Q E s:=by
 let⟨c,tl,M⟩:=cL.mro;have y:=cL.made;have J:=cL.sub;show wpAny_call (codeAny_of_tree ?_);show wpAny _ _ (callAny (.type "set") _) _ _ _;show aD ⟨Code.quiet_builtin _ aA,bF PySem.F.entry_type_call ?_⟩;rw[Around.under_plain (weight_type_call_type "set" [.ref l] []) rfl];have h1:=cL.notType;have h2:=cL.canCreate;have a0:=PySem.F.typeCall_set_1 (.ref l)
 repeat (any_goals (first|assumption|wp_step))
 show codeAny_mono (xw9 (.ref l) (E:=E) (Q:=λobj H=>obj= .ref s.heap.objs.size/\H={ s with heap:=s.heap.push (d9 w) }) ⟨rfl,rfl⟩) λr H x=>?_;cases r with
 |error e=>show x
 |ok fl=>
  cases fl with
  |ret obj=>
   let⟨rfl,rfl⟩:=x;have O:(s.heap.push (d9 w)).get? s.heap.objs.size=some (d9 w):=aQ _ rfl;have hT:Shared.TypeIs { s with heap:=s.heap.push (d9 w) } (.ref s.heap.objs.size) "set":=⟨_,O,rfl⟩;have X:=cL.init.lookup;have a1:=cL.init.bind (.ref s.heap.objs.size)
   repeat (any_goals (first|assumption|wp_step))
   show codeAny_mono (codeAny_call_builtin (R:=wants (λr G=>r= .none/\∃h' tk,G={ s with heap:=h',toks:=tk }/\SetG prog w h' s.heap.objs.size (inL (λi=>ns.getD i 0) items.size) (firstMet (λi=>ns.getD i 0) items.size).length (zw9 w)/\
     (∀b o,b<s.heap.objs.size->s.heap.get? b=some o->h'.get? b=some o)) E) cL.init.plain PySem.F.entry_set_init (PySem.check_set_init_1 hT ?_)) λS G j=>?_
   .let⟨ol,hol,hcl,nl,hdl⟩:=Y;let⟨I,h,u,a⟩:=ol;simp only at hcl hdl;subst hcl;subst hdl;have k:(s.heap.push (d9 w)).get? l=some { cls:=.type "list",dict:=h,data:=.seq items nl,slots:=a }:=aC _ hol;have K:=PySem.F.sub_list_set;have L:=PySem.F.sub_list_frozenset;have W:(Value.type "list"==Value.type "dict")=false:=by decide
    have p:(s.heap.push (d9 w)).IsList l items:=⟨_,k,rfl,nl,rfl⟩;unfold Builtin.«set.__init__» noKeywords Builtin.Frozenset.updateFrom;generalize C:pyIter=PI
    wp_walk
    subst C;show dB p ?_;show aB (wpAny_runValue ?_);have n:l<s.heap.objs.size:=aS hol;have z:A.in1.in1.in1.handled=none:=by simp[Z]
    have d:(s.heap.push (d9 w)).objs.size=s.heap.objs.size+1:=by rw[cy]
    have m:l≠(s.heap.push (d9 w)).objs.size:=by rw[d];show bp (bK n)
    have B:s.heap.objs.size∉[(s.heap.push (d9 w)).objs.size,l]:=by simp only[mem_cons,not_mem_nil,or_false,not_or];show⟨by rw[d];show bp (bZ _),cO n⟩
    show vm0 ((Walks.list z _ l m items).toS) s.heap.objs.size B (λi=>ns.getD i 0) (λi v V=>IntsAre.int_at hi i v (by rw[cu];show V)) f (zw9 w) (items.size-0) 0 _ aw (aW _) ⟨⟨_,aQ _ rfl,rfl,rfl⟩,(p.push _)⟩ ?g0 ?gR
    case g0=>show(yh8 (aC _ O)).congr (λ_=>rfl) rfl
    case gR=>intro P q g;let⟨h',g',d',t,T⟩:=P;have eg:g'=s.gens:=q.gens;have ed:=q.drawn;have eo:=q.os;subst eg;subst ed;subst eo;show wpAny _ _ _ _ _ _;show aD ?_;show wpAny _ _ (ret Value.none) _ _ _;show aD ⟨rfl,h',t,rfl,g,λb o N e=>?_⟩;show q.heap b o (by simp only[mem_cons,not_mem_nil,or_false,not_or];show⟨bp N,by rw[cy];show bp (bK N)⟩) (aC _ (aC _ e))
   .cases S with
    |error e=>show j
    |ok D=>
     cases D with
     |ret r=>
      let⟨rfl,h',tk,rfl,g,U⟩:=j
      repeat (any_goals (first|assumption|wp_step))
      show fin _ _ g U
     |_=>show j.elim
  |_=>show x.elim
end
theorem slot_si_next:Slot "set_iterator" "__next__" "set_iterator.__next__":=
 .of (owner:="set_iterator") (n:="__next__") (by kernel_rfl) aA aA aA
  (by first|show .inl aA|show .inr aA) (by kernel_rfl)
theorem Z2:entryFor table "set_iterator.__next__"=some Builtin.«set_iterator.__next__»:=entryFor_of_tree (by kernel_rfl)
theorem Y5(a:Value):argsOk "set_iterator.__next__" ⟨[a],[]⟩:=by kernel_rfl
theorem zv1:entryFor table "set.__iter__"=some Builtin.«frozenset.__iter__»:=entryFor_alias (id':="frozenset.__iter__") (by kernel_rfl) rfl aA (by kernel_rfl)
section
variable {prog:Program}{w:World}{A:Around}{E:Qa}{s:Shared}
def IsSI(h:Heap)(it:Addr)(first:Value)(i:Nat)(a:Addr)(n b:Nat):Prop:=∃o,h.get? it=some o/\o.cls= .type "set_iterator"/\o.data= .fields #[first,.int i 0,.ref a,.int n 0,.int b 0]
theorem IsSI.typeIs{first:Value}{i:Nat}{n b:Nat}(x:IsSI s.heap it first i a n b):s.TypeIs (.ref it) "set_iterator":=let ⟨o,d,e,_⟩:=x;⟨o,d,e⟩
theorem yt7{d:Int}{k i n b nx:Nat}{S:Int->Bool}{c:Bool}{fs:Array (Int×Value)}{Q:Option Value->Shared->Prop}(e:IsSI s.heap it (.int d k) i a n b)(G:SG prog w s.heap a S n c o fs b u)
  (l:∀(A:Around)(Q:Option (Value×Nat)->Shared->Prop)(E:Qa),Q (some (x,nx)) s->wpAny (model prog w) A (setNext a d.toNat i b) Q E s)
  (p:∀h',IsSI h' it (.int nx 0) (i+1) a n b->Heap.SameBut it s.heap h'->Q (some x) { s with heap:=h' }):
  wpAny (model prog w) A (pyNext (.ref it)) Q E s:=by
 let⟨q,g,m,f⟩:=id e;show aB (cW (ce e.typeIs slot_si_next
  (bJ slot_si_next e.typeIs Z2 ?_ (Y5 _))))
 show wpAny _ _ (fieldsOf (.ref it) >>= _) _ _ s;show aB (wpAny_fieldsOf g f ?_);show aB (dJ G.at_ G.dat G.fit ?_);rw[aF (by rw[G.many];simp)];show aB ?_;show l _ _ _ ?_;show aB (dD g f az ?_);have j:=bL (Obj.mapFields (·.setIfInBounds 0 (rawInt nx))) g (dz (cf f _));have h:=cf f (·.setIfInBounds 0 (rawInt nx));show aB (dD j h az (aD ⟨x,rfl,aD (p _ ?_ ((bH ..).trans (bH ..)))⟩));show⟨_,bL _ j (dz (cf h _)),(Obj.cls_mapFields ..).trans ((Obj.cls_mapFields ..).trans m),?_⟩;rw[cf h];simp[rawInt]
theorem zi4{d:Int}{j i n b:Nat}{S:Int->Bool}{c:Bool}{fs:Array (Int×Value)}{Q:Option Value->Shared->Prop}(g:A.handled=none)(e:IsSI s.heap it (.int d j) i a n b)(G:SG prog w s.heap a S n c o fs b u)
  (k:∀(A:Around)(Q:Option (Value×Nat)->Shared->Prop)(E:Qa),Q none s->wpAny (model prog w) A (setNext a d.toNat i b) Q E s)
  (l:∀h',Heap.ExtBut it s.heap h'->Q none { s with heap:=h' }):
  wpAny (model prog w) A (pyNext (.ref it)) Q E s:=by
 let⟨m,f,p,h⟩:=id e;show aB (cW (ce e.typeIs slot_si_next
  (bJ slot_si_next e.typeIs Z2 ?_ (Y5 _))))
 show wpAny _ _ (fieldsOf (.ref it) >>= _) _ _ s;show aB (wpAny_fieldsOf f h ?_);show aB (dJ G.at_ G.dat G.fit ?_);rw[aF (by rw[G.many];simp)];show aB ?_;show k _ _ _ ?_;show aB (dD f h az ?_);show aB ?_;show aB (bU ?_ (by size_fits));show aB (bP (by first|rfl| (rfl)) ?_);show bU ?_ (by size_fits);show aB (wpAny_handled ?_)
 first|rw[show A.in1.handled=none from g]|rw[g]
 show aB (aD (wpAny_throw ?_));show aB (dY ⟨_,aQ _ rfl,rfl⟩ isSubtype_stop ?_);show aD (l _ (((bH ..).extBut.push _).push _))
theorem M6{Q:Bool->Shared->Prop}(h:Q (w.params.followText "set-order") s):wpAny (model prog w) A setsByText Q E s:=by show aB (wpAny_askSetting (aD h))
variable {a:Addr}{S:Int->Bool}{n b:Nat}{c:Bool}{o:Obj}{fs:Array (Int×Value)}{u:SetTable}
theorem J2(G:SG prog w s.heap a S n c o fs b u)(f:w.params.followText "set-order"=true)(d i:Nat){Q:Option (Value×Nat)->Shared->Prop}(h:Q (((pickOrder (w.params.setOrder a b) fs)[i]?).map λe=>(e.2,d)) s):wpAny (model prog w) A (setNext a d i b) Q E s:=by show aB (dA G.at_ G.dat G.fit ?_);show aB (M6 ?_);rw[f];simp;show aB ?_;show aB (dA G.at_ G.dat G.fit ?_);show aB (M6 ?_);rw[f];show aB (wpAny_askSetting (aD (aD h)))
theorem R3(G:SG prog w s.heap a S n c o fs b u)(e:w.params.followText "set-order"=false)(g:c=true)(f:(!u.plain&&decide (fs.size>1))=false)(d i:Nat){Q:Option (Value×Nat)->Shared->Prop}
  (h:Q (match fs[SetTable.below u.place d]?,u.place[SetTable.below u.place d]? with |some (_,x),some j=>some (x,j+1)|_,_=>none) s):wpAny (model prog w) A (setNext a d i b) Q E s:=by
 show aB (dA G.at_ G.dat G.fit ?_);show aB (M6 ?_);rw[e];show wpAny _ _ (if (!u.plain&&decide (fs.size>1))=true then _ else _) _ _ s;rw[f];show wpAny _ _ ((if (!u.led&& !fs.isEmpty)=true then unsupported "set:maker-not-led" else pure ()) >>= _) _ _ s;rw[G.good.1,g];show aB (aD (aD h))
end
section
variable {prog:Program}{w:World}{A:Around}{E:Qa}{s:Shared}
theorem yk6{src:Source}{n:Nat}(d:n≠0){Q:Nat->Shared->Prop}(h:∀v,v<n->Q v { s with drawn:=s.drawn.bump src }):wpAny (model prog w) A (choose src n) Q E s:=λf p e=>by show⟨d,h _ (Nat.mod_lt _ (Nat.pos_of_ne_zero d))⟩
theorem N9{g:Type}:∀(n:Nat)(xs:List g){s:Shared}{Q:List g->Shared->Prop},xs.length=n->(∀e d,e.Perm xs->Q e { s with drawn:=d })->wpAny (model prog w) A (drawOrder n xs) Q E s
 |0,xs,s,Q,h,q=>by rw[cS.mp h]at q ⊢;show aD (q [] s.drawn (.refl _))
 |n+1,[],s,Q,h,q=>by ext h
 |n+1,x::xs,s,Q,h,q=>by show wpAny _ _ (choose .order (x::xs).length >>= _) _ _ s;show aB (yk6 az λv f=>?_);rw[aG f];dsimp only;show aB (N9 n _ (by rw[length_eraseIdx_of_lt f];lia) λe d i=>?_);show aD (q _ d ((i.cons _).trans (zt5 (x::xs) v f)))
variable {a:Addr}{S:Int->Bool}{n b:Nat}{c:Bool}{o:Obj}{fs:Array (Int×Value)}{u:SetTable}
theorem xj9(G:SG prog w s.heap a S n c o fs b u){Q:Qa}
  (m:(w.params.followText "set-order"=true\/(!u.plain&&decide (fs.size>1))=false)->Q (.ref s.heap.objs.size) { s with heap:=s.heap.push { cls:=.type "set_iterator",data:=.fields #[.int 0 0,.int 0 0,.ref a,.int n 0,.int b 0] } })
  (l:∀(f:List Nat) d,f.Perm (List.range n)->Q (.ref (s.heap.objs.size+1)) { s with heap:=(s.heap.push (seqObj "tuple" (f.map λ(i:Nat)=>Value.int i 0).toArray 0)).push { cls:=.type "set_iterator",data:=.fields #[.ref s.heap.objs.size,.int 0 0,.ref a,.int n 0,.int b 0] },drawn:=d }):
  wpAny (model prog w) A (pyIter (.ref a)) Q E s:=by
 have h:s.TypeIs (.ref a) "set":=⟨o,G.at_,G.ex.1⟩;show wpAny_pyIter_slot h PySem.F.slot_set_iter (bJ PySem.F.slot_set_iter h zv1 ?_ (PySem.F.args_set_iter_1 _));show wpAny _ _ (Builtin.Frozenset.sizeOf a >>= _) _ _ s;show aB (aB (dJ G.at_ G.dat G.fit (aD ?_)));show aB (aB (dA G.at_ G.dat G.fit ?_));show aB (M6 (aD ?_));have last:∀(s1:Shared)(first:Value),s1.heap.get? a=some o->(Q (.ref s1.heap.objs.size) { s1 with heap:=s1.heap.push { cls:=.type "set_iterator",data:=.fields #[first,.int 0 0,.ref a,.int n 0,.int b 0] } })->
   wpAny (model prog w) A.in1 (do
    let e ← setEpoch a
    let r ← newFields "set_iterator" [first,rawInt 0,.ref a,rawInt fs.size,rawInt e]
    ret r) (λfin s'=>∃v,fin=Fin.done (Flow.ret v)/\∃j r,s'.TypeIs v j/\typeLookup (Value.type j) (Str.ofString "__next__")=pure (some r)/\Q v s') E s1:=λs1 first k q=>by
  show aB (wpAny_setEpoch_of k G.dat G.fit ?_);rw[G.many];show aB (bU (aD ⟨_,rfl,"set_iterator",_,⟨_,aQ _ rfl,rfl⟩,slot_si_next.lookup,q⟩))
 show wpAny _ _ (if (!w.params.followText "set-order"&&(!u.plain&&decide (fs.size>1)))=true then _ else _) _ _ s;cases hb:(!w.params.followText "set-order"&&(!u.plain&&decide (fs.size>1)))with
 |true=>
  show aB (N9 _ _ az λf d g=>?_);show aB (wpAny_newTuple ?_ (by have:=g.length_eq;have:=fits_of_scanBound G.small;simp at*;lia));show last _ _ (aC _ G.at_) ?_;have:=l f d (by rw[<-G.many];show g);have e:(s.heap.push (seqObj "tuple" (f.map λ(i:Nat)=>Value.int i 0).toArray 0)).objs.size=s.heap.objs.size+1:=by rw[cy]
  rw[<-e]at this;show this
 |false=>
  show last s (rawInt 0) G.at_ (m ?_);cases ht:w.params.followText "set-order" with
  |true=>show .inl rfl
  |false=>rw[ht]at hb;show .inr hb
end
section
variable {prog:Program}{w:World}{A:Around}{E:Qa}{s:Shared}
variable {b a pt:Addr}{i n d:Nat}{S:Int->Bool}{c:Bool}{o:Obj}{fs:Array (Int×Value)}{u:SetTable}{items:Array Value}
theorem yn7{y t:Nat}{e:Int×Value}{Q:Option Value->Shared->Prop}(f:IsSI s.heap b (.ref pt) i a n d)(G:SG prog w s.heap a S n c o fs d u)(m:s.heap.IsTuple pt items)(l:items[i]? =some (.int (y:Int) t))(p:fs[y]? =some e)
  (r:∀h',IsSI h' b (.ref pt) (i+1) a n d->Heap.SameBut b s.heap h'->Q (some e.2) { s with heap:=h' }):
  wpAny (model prog w) A (pyNext (.ref b)) Q E s:=by
 let⟨x,j,q,g⟩:=id f;let⟨v,h,_,nt,k⟩:=m;show aB (cW (ce f.typeIs slot_si_next
  (bJ slot_si_next f.typeIs Z2 ?_ (Y5 _))))
 show wpAny _ _ (fieldsOf (.ref b) >>= _) _ _ s;show aB (wpAny_fieldsOf j g ?_);show aB (dJ G.at_ G.dat G.fit ?_);rw[aF (by rw[G.many];simp)];show aB (bS h k ?_);simp only[Int.toNat_natCast,l];show aB ?_;show aB (dA G.at_ G.dat G.fit ?_);simp only[bne_self_eq_false,p];show aD ?_;show aB (dD j g az (aD ⟨e.2,rfl,aD (r _ ?_ (bH ..))⟩));show⟨_,bL _ j (dz (cf g _)),(Obj.cls_mapFields ..).trans q,by rw[cf g];simp[rawInt]⟩
theorem zb6{Q:Option Value->Shared->Prop}(k:A.handled=none)(e:IsSI s.heap b (.ref pt) i a n d)(G:SG prog w s.heap a S n c o fs d u)(m:s.heap.IsTuple pt items)(l:items[i]? =none)
  (p:∀h',Heap.ExtBut b s.heap h'->Q none { s with heap:=h' }):
  wpAny (model prog w) A (pyNext (.ref b)) Q E s:=by
 let⟨r,h,t,f⟩:=id e;let⟨q,g,_,nt,j⟩:=m;show aB (cW (ce e.typeIs slot_si_next
  (bJ slot_si_next e.typeIs Z2 ?_ (Y5 _))))
 show wpAny _ _ (fieldsOf (.ref b) >>= _) _ _ s;show aB (wpAny_fieldsOf h f ?_);show aB (dJ G.at_ G.dat G.fit ?_);rw[aF (by rw[G.many];simp)];show aB (bS g j ?_);simp only[Int.toNat_natCast,l];show aB (dD h f az ?_);show aB (dD (bL (Obj.mapFields (·.setIfInBounds 0 (rawInt 0))) h (dz (cf f _))) (cf f (·.setIfInBounds 0 (rawInt 0))) az ?_);show aB ?_;show aB (bU ?_ (by size_fits));show aB (bP (by first|rfl| (rfl)) ?_);show bU ?_ (by size_fits);show aB (wpAny_handled ?_)
 first|rw[show A.in1.handled=none from k]|rw[k]
 show aB (aD (wpAny_throw ?_));show aB (dY ⟨_,aQ _ rfl,rfl⟩ isSubtype_stop ?_);show aD (p _ ((((bH ..).trans (bH ..)).extBut.push _).push _))
end
section
def MD(w:World)(h:Heap)(a:Addr)(c:List Value)(i n ep:Nat)(led:Bool)(fs:Array (Int×Value))(u:SetTable)(first:Value):Prop:=
 (w.params.followText "set-order"=true/\(∃(k:Int),∃t:Nat,first= .int k t)/\c=(pickOrder (w.params.setOrder a ep) fs).toList.map (·.2))\/
 (w.params.followText "set-order"=false/\led=true/\(!u.plain&&decide (fs.size>1))=false/\Up u.place/\u.place.size=fs.size/\(∃k:Nat,∃t:Nat,first= .int (k:Int) t/\SetTable.below u.place k=i)/\c=fs.toList.map (·.2))\/
 (∃pt,∃ys:List Nat,first= .ref pt/\h.IsTuple pt (ys.map λ(y:Nat)=>Value.int y 0).toArray/\(∀y∈ys,y<fs.size)/\c=ys.map λy=>(fs.getD y default).2)
def StS(prog:Program)(w:World)(d a:Addr)(c:List Value)(i:Nat)(s:Shared):Prop:=∃S n led o fs ep u first,SG prog w s.heap a S n led o fs ep u/\IsSI s.heap d first i a n ep/\c.length=n/\MD w s.heap a c i n ep led fs u first
variable {d a:Addr}{c:List Value}
theorem SG.to{S:Int->Bool}{n f:Nat}{b:Bool}{e:Array (Int×Value)}(G:SG prog w h a S n b o e f u)(k:h'.get? a=some o):SG prog w h' a S n b o e f u:=⟨k,G.ex,G.dat,G.el,G.mem,G.small,G.fit,G.many,G.good⟩
theorem SG.ne{S:Int->Bool}{n f m j:Nat}{b:Bool}{k:Array (Int×Value)}{first:Value}(G:SG prog w h a S n b o k f u)(x:IsSI h d first j a m f):a≠d:=λz=>by let⟨l,g,e,_⟩:=x;have:=G.at_;rw[z,g]at this;ext this;rw[G.ex.1]at e;show aV e ay
theorem StS.frame{tk:Nat}(x:StS prog w d a c i s)(k:∀b o,s.heap.get? b=some o->o.cls≠ .type "list"->h'.get? b=some o):StS prog w d a c i { s with heap:=h',toks:=tk }:=by
 let⟨S,n,h,o,C,D,u,first,G,⟨v,y,m,B⟩,z,f⟩:=x;show⟨S,n,h,o,C,D,u,first,G.to (k _ _ G.at_ (by rw[G.ex.1];decide)),⟨v,k _ _ y (by rw[m];decide),m,B⟩,z,?_⟩;rcases f with f|f|⟨q,p,e,⟨t,j,g,nt,l⟩,r⟩
 .exact .inl f
 .exact .inr (.inl f)
 .exact .inr (.inr ⟨q,p,e,⟨t,k _ _ j (by rw[g];decide),g,nt,l⟩,r⟩)
theorem StS.item{Q:Option Value->Shared->Prop}(x:StS prog w d a c i s)(hi:i<c.length)(H:∀h',StS prog w d a c (i+1) { s with heap:=h' }->Heap.SameBut d s.heap h'->Q (some c[i]) { s with heap:=h' }):wpAny (model prog w) A (pyNext (.ref d)) Q E s:=by
 let⟨S,n,l,o,fs,v,u,first,G,f,L,U⟩:=x;have p:=G.ne f;rcases U with⟨C,⟨k,t,rfl⟩,b⟩|⟨C,j,R,P,J,⟨k,t,rfl,W⟩,b⟩|⟨I,F,rfl,m,B,b⟩
 .have hlen:i<(pickOrder (w.params.setOrder a v) fs).toList.length:=by rw[b,aL]at hi;show hi
  show yt7 (nx:=k.toNat) f G (λA Q E q=>J2 G C _ _ ?_) λh' y g=>H h' ⟨S,n,l,o,fs,v,u,_,G.to ((g.2 a p).trans G.at_),y,L,.inl ⟨C,⟨_,_,rfl⟩,b⟩⟩ g;have e:(pickOrder (w.params.setOrder a v) fs)[i]? =some ((pickOrder (w.params.setOrder a v) fs).toList[i]'hlen):=by rw[<-cu];show aG hlen
  rw[e];have:c[i]=((pickOrder (w.params.setOrder a v) fs).toList[i]'hlen).2:=by simp[b]
  rw[this]at q;show q
 .have hlen:i<fs.size:=by rw[b,aL,cb]at hi;show hi
  have D:i<u.place.size:=aw;show yt7 f G (λA Q E q=>R3 G C j R _ _ ?_) λh' y g=>H h' ⟨S,n,l,o,fs,v,u,_,G.to ((g.2 a p).trans G.at_),y,L,.inr (.inl ⟨C,j,R,P,J,⟨u.place[i]+1,_,rfl,yj0 P D⟩,b⟩)⟩ g;rw[bB,W,aJ hlen,aJ D];have:c[i]=fs[i].2:=by simp[b]
  rw[this]at q;show q
 .have hlen:i<F.length:=by rw[b,aL]at hi;show hi
  have O:=B F[i] (dj hlen);have K:I≠d:=λz=>by let⟨N,h,M,_⟩:=m;let⟨X,V,T,_⟩:=f;rw[z,V]at h;ext h;rw[M]at T;show aV T ay
  have hw:c[i]=fs[F[i]].2:=by simp[b,O]
  rw[hw]at H;show yn7 (t:=0) f G m (by simp[hlen]) (aJ O) λh' y g=>H h' ⟨S,n,l,o,fs,v,u,_,G.to ((g.2 a p).trans G.at_),y,L,.inr (.inr ⟨I,F,rfl,?_,B,b⟩)⟩ g;let⟨N,h,r⟩:=m;show⟨N,(g.2 I K).trans h,r⟩
theorem StS.done{Q:Option Value->Shared->Prop}(j:A.handled=none)(x:StS prog w d a c c.length s)(l:∀h',Heap.ExtBut d s.heap h'->Q none { s with heap:=h' }):wpAny (model prog w) A (pyNext (.ref d)) Q E s:=by
 let⟨S,n,p,o,H,I,u,first,G,e,F,m⟩:=x;rcases m with⟨h,⟨k,t,rfl⟩,b⟩|⟨h,f,y,D,v,⟨k,t,rfl,z⟩,b⟩|⟨C,B,rfl,g,r,b⟩
 .refine zi4 j e G (λA Q E q=>J2 G h _ _ ?_) l;rw[Array.getElem?_eq_none (by rw[b,aL,cb];show aK _)];show q
 .refine zi4 j e G (λA Q E q=>R3 G h f y _ _ ?_) l;rw[bB,z,Array.getElem?_eq_none (by rw[b,aL,cb];show aK _)];show q
 .exact zb6 j e G g (by simp[b]) l
end
section
variable {f a:Addr}{d:List Value}
noncomputable def lstO(acc:Array Value)(c:Nat):Obj:={ cls:=.type "list",dict:=none,data:=.seq acc c,slots:=#[] }
theorem extS{R:Result->Shared->Prop}(C:A.handled=none)(K:d.length<=sizeLine)(L:Addr)(res:Value):
  ∀(r i:Nat)(s:Shared)(acc:Array Value)(c:Nat),d.length-i=r->i<=d.length->StS prog w f a d i s->s.heap.get? L=some (lstO acc c)->acc.toList=d.take i->L≠f->
   (∀h' J,(∀b o,b≠L->b≠f->s.heap.get? b=some o->h'.get? b=some o)->h'.get? L=some (lstO d.toArray J)->R (.ok (.ret res)) { s with heap:=h' })->
   codeAny (model prog w) A (.builtin "list.extend.loop" ⟨[.ref L,.ref f,res],[]⟩) R s:=by
 intro r;induction r with
 |zero=>
  intro i s acc c B hi st p g h fin;obtain rfl:i=d.length:=aw;show bF PySem.F.entry_extend_loop ?_;rw[ez PySem.F.plain_extend_loop _];show aB (st.done (by simpa using C) λh' v=>?_);rw[take_length]at g;have e:acc=d.toArray:=by rw[<-g]
  subst e;show aD (fin h' c (λb o _ z q=>v b o z q) (v L _ h p))
 |succ r y=>
  intro i s acc c B hi st p g h fin;have m:i<d.length:=aw;have n:acc.size=i:=by rw[<-cb,g,cB];lia
  show bF PySem.F.entry_extend_loop ?_;show aB (st.item m λM l t=>?_);have j:=(t.2 L h).trans p;show aB ?_;show cJ j rfl (aD ⟨bY PySem.F.plain_extend_loop _,y (i+1) _ (acc.push d[i]) _ aw m (l.frame λb o e D=>?_) (bL _ j rfl) ?_ h λG I x H=>?_⟩) aw (by rw[Array.size_push,n];lia)
  .refine(cj _ _ (λz:L=b=>?_)).trans e;subst z;rw[j]at e;ext e;show D rfl
  .rw[cI,g,take_append_getElem m]
  .refine fin G I (λb o u k e=>x b o u k ?_) H;show(cj _ _ (dr u)).trans ((t.2 b k).trans e)
end
section
theorem xi5{Q:Bool->Shared->Prop}(f:s.TypeIs (.ref a) "set")(h:Q false s):wpAny (model prog w) A (Builtin.List.listLengthHint (.ref a)) Q E s:=by
 show aB (wpAny_specialOf f PySem.F.slot_set_len.lookup ?_);generalize e:("set.__len__":String)=id0
 wp_delta
 subst e;show aB (dY (b:=true) f (by kernel_rfl) ?_);show wpAny_ite_split (λz=>aV z ay) (λ_=>?_);show wpAny_ite_split (λ_=>?_) (λz=>aV aA z);show aB (wpAny_typeOf f ?_);show aD h
variable {n d:Nat}{c:Bool}{fs:Array (Int×Value)}
theorem xr6(h:xs.size<=1):Up xs:=by
 let⟨l⟩:=xs
 match l with
 |[]=>show List.Pairwise.nil
 |[x]=>show dn ..
 |x::y::r=>simp at h
theorem yi6{b:List Nat}(h:b.Perm (List.range fs.size)):(b.map λy=>(fs.getD y default).2).Perm (fs.toList.map (·.2)):=by
 show(h.map _).trans ?_;have:(List.range fs.size).map (λy=>(fs.getD y default).2)=fs.toList.map (·.2):=by
  apply ext_getElem
  .simp
  .intro i h1 h2;have:i<fs.size:=by simpa using h1
   simp[this]
 rw[this]
theorem G5{it L:Addr}{R:Result->Shared->Prop}(x:A.handled=none)(v:l.length<=sizeLine)(B:s2.TypeIs (.ref a) "set")(st:StS prog w it a l 0 s2)(q:s2.heap.get? L=some (lstO #[] 0))(m:L≠it)
  {P:PySem.Fin->Shared->Prop} {D:Qa} (C:∀f r,(f.quiet=true/\codeAny (model prog w) A f R r)->P (.again f) r)
  (fin:∀h' f,(∀b o,b≠L->b≠it->s2.heap.get? b=some o->h'.get? b=some o)->h'.get? L=some (lstO l.toArray f)->R (.ok (.ret (.ref L))) { s2 with heap:=h' }):
  wpAny (model prog w) A.in1 (do
   let h ← holding [.ref it] (Builtin.List.listLengthHint (.ref a))
   if (h || ["set","frozenset","dict","dict_keys","dict_values","dict_items"].any (Value.type "set"== .type ·))=true then do
    rule "list.extend.makes-room"
    Builtin.List.listTouch (.ref L)
    again (.builtin "list.extend.loop" ⟨[.ref L,.ref it,.ref L],[]⟩)
   else again (.builtin "list.extend.loop" ⟨[.ref L,.ref it,.ref L],[]⟩)) P D s2:=by
 show aB (cv (xi5 B ?_));show aB (cn ?_);show aB ?_;show aB (cJ q rfl ?_);have t:=bL (Obj.mapSeq (·.push Value.none)) q rfl;show cJ t rfl ?_;have i:∀b o,b≠L->s2.heap.get? b=some o->((s2.heap.update L (Obj.mapSeq (·.push Value.none))).update L (Obj.mapSeq (·.pop))).get? b=some o:=λb o j e=>(cj _ _ (dr j)).trans ((cj _ _ (dr j)).trans e);show aD (C _ _ ⟨bY PySem.F.plain_extend_loop _,extS x v L _ l.length 0 _ _ _ rfl (aW _) (st.frame λb o e y=>i b o (λz=>?_) e) (bL (Obj.mapSeq (·.pop)) t rfl) rfl m λh' f k g=>fin h' f (λb o j p e=>k b o j p (i b o j e)) g⟩);subst z;rw[q]at e;ext e;show y rfl
end
section
variable {prog:Program}{w:World}{A:Around}{E:Qa}{s:Shared}{a:Addr}
variable {S:Int->Bool}{n f:Nat}{c:Bool}{o:Obj}{fs:Array (Int×Value)}{u:SetTable}
theorem yk5(R:A.handled=none)(G:SG prog w s.heap a S n c o fs f u)(D:c=zw9 w){Q:List Value->Shared->Prop}
  (fin:∀m h' d,m.Perm (fs.toList.map (·.2))->(∀b o,b<s.heap.objs.size->s.heap.get? b=some o->h'.get? b=some o)->s.heap.objs.size<h'.objs.size->Q m { s with heap:=h',drawn:=d }):
  wpAny (model prog w) A (collect (.ref a)) Q E s:=by
 have H:=fits_of_scanBound G.small;show aB (wpAny_runValue (bF PySem.F.entry_proto_collect ?_));show aB (bU ?_);show aD ⟨bY PySem.F.plain_list_iadd _,bF PySem.F.entry_list_iadd ?_⟩;have x:SG prog w (s.heap.push (lstO #[] 0)) a S n c o fs f u:=G.to (aC _ G.at_);have T:(s.heap.push (lstO #[] 0)).get? s.heap.objs.size=some (lstO #[] 0):=aQ _ rfl;have l:(s.heap.push (lstO #[] 0)).objs.size=s.heap.objs.size+1:=by rw[cy]
 show wpAny _ A.in1 (Builtin.List.listExtendWith (.ref s.heap.objs.size) (.ref a) (.ref s.heap.objs.size)) _ _ { s with heap:=s.heap.push (lstO #[] 0) };show aB (wpAny_typeOf ⟨o,x.at_,G.ex.1⟩ ?_);have W:Builtin.List.listSameRef (.ref s.heap.objs.size) (.ref a)=false:=by simp[Builtin.List.listSameRef,Nat.ne_of_gt (Heap.lt_size G.at_)]
 rw[aF (by rw[W];decide)];show aB (xj9 x (λv=>?_) λp d t=>?_)
 .obtain⟨m,t,md⟩:∃m:List Value,m.Perm (fs.toList.map (·.2))/\MD w ((s.heap.push (lstO #[] 0)).push { cls:=.type "set_iterator",data:=.fields #[.int 0 0,.int 0 0,.ref a,.int n 0,.int f 0] }) a m 0 n f c fs u (.int 0 0):=by
   cases ht:w.params.followText "set-order" with
   |true=>show⟨_,(ye6 _ _).map _,.inl ⟨ht,⟨_,_,rfl⟩,rfl⟩⟩
   |false=>
    have t:(!u.plain&&decide (fs.size>1))=false:=by
     rcases v with v|v
     .rw[ht]at v;ext v
     .exact v
    have J:u.place.size=fs.size:=by have:=G.fit;simp only[SetTable.fits,Bool.and_eq_true,beq_iff_eq]at this;show this.1
    have P:Up u.place:=by
     cases hpl:u.plain with
     |true=>show G.good.2 hpl
     |false=>show xr6 aw
    show⟨_,.refl _,.inr (.inl ⟨ht,by rw[D];delta zw9;rw[ht];rfl,t,P,J,⟨0,0,rfl,yk9 P⟩,rfl⟩)⟩
  have j:m.length=n:=by rw[t.length_eq,aL,cb,G.many]
  have q:s.heap.objs.size≠(s.heap.push (lstO #[] 0)).objs.size:=by rw[l];show bp (bZ _)
  have N:((s.heap.push (lstO #[] 0)).push { cls:=.type "set_iterator",data:=.fields #[.int 0 0,.int 0 0,.ref a,.int n 0,.int f 0] }).get? (s.heap.push (lstO #[] 0)).objs.size=some { cls:=.type "set_iterator",data:=.fields #[.int 0 0,.int 0 0,.ref a,.int n 0,.int f 0] }:=aQ _ rfl;have ga:=aC { cls:=.type "set_iterator",data:=.fields #[.int 0 0,.int 0 0,.ref a,.int n 0,.int f 0] } x.at_;show G5 R (by rw[j,<-G.many];show H) ⟨o,ga,G.ex.1⟩ ⟨S,n,c,o,fs,f,u,.int 0 0,x.to ga,⟨_,N,rfl,rfl⟩,j,md⟩ (aC { cls:=.type "set_iterator",data:=.fields #[.int 0 0,.int 0 0,.ref a,.int n 0,.int f 0] } T) q (λO U h=>h) λh' O k g=>?_;show aB (wpAny_load g ?_);show aD (fin m h' s.drawn t (λb o I e=>k b o (bp I) (by rw[l];show bp (bK I)) (aC _ (aC _ e))) (aS g))
 .have hpf:p.Perm (List.range fs.size):=by rw[G.many];show t
  have z:=yi6 hpf;have j:(p.map λy=>(fs.getD y default).2).length=n:=by rw[z.length_eq,aL,cb,G.many]
  have q:s.heap.objs.size≠(s.heap.push (lstO #[] 0)).objs.size+1:=by rw[l];show bp (bK (bZ _))
  have M:((s.heap.push (lstO #[] 0)).push (seqObj "tuple" (p.map λ(i:Nat)=>Value.int i 0).toArray 0)).objs.size=(s.heap.push (lstO #[] 0)).objs.size+1:=by rw[cy]
  generalize C:seqObj "tuple" (p.map λ(i:Nat)=>Value.int i 0).toArray 0=tp at*;generalize r:({ cls:=.type "set_iterator",data:=.fields #[.ref (s.heap.push (lstO #[] 0)).objs.size,.int 0 0,.ref a,.int n 0,.int f 0] }:Obj)=io;have L:io.cls= .type "set_iterator":=by rw[<-r]
  have K:io.data= .fields #[.ref (s.heap.push (lstO #[] 0)).objs.size,.int 0 0,.ref a,.int n 0,.int f 0]:=by rw[<-r]
  have B:tp.cls= .type "tuple"/\tp.data= .seq (p.map λ(i:Nat)=>Value.int i 0).toArray 0:=by rw[<-C];show⟨rfl,rfl⟩
  have N:(((s.heap.push (lstO #[] 0)).push tp).push io).get? ((s.heap.push (lstO #[] 0)).objs.size+1)=some io:=by rw[<-M];show aQ _ (by rw[<-r];rfl)
  have ga:(((s.heap.push (lstO #[] 0)).push tp).push io).get? a=some o:=aC _ (aC _ x.at_);have st:StS prog w ((s.heap.push (lstO #[] 0)).objs.size+1) a (p.map λy=>(fs.getD y default).2) 0 { s with heap:=((s.heap.push (lstO #[] 0)).push tp).push io,drawn:=d }:=
   ⟨S,n,c,o,fs,f,u,.ref (s.heap.push (lstO #[] 0)).objs.size,x.to ga,⟨io,N,L,K⟩,j,.inr (.inr ⟨_,p,rfl,⟨tp,aC _ (aQ _ (by rw[<-C];rfl)),B.1,0,B.2⟩,λy V=>bq.mp (hpf.mem_iff.mp V),rfl⟩)⟩
  show G5 R (by rw[j,<-G.many];show H) ⟨o,ga,G.ex.1⟩ st (aC _ (aC _ T)) q (λO U h=>h) λh' O k g=>?_;show aB (wpAny_load g ?_);show aD (fin _ h' d z (λb o I e=>k b o (bp I) (by rw[l];show bp (bK (bK I))) (aC _ (aC _ (aC _ e)))) (aS g))
end
theorem A9:∀{l m:List Int},l.Nodup->(∀x∈l,x∈m)->l.length=m.length->l.Perm m
 |[],m,_,_,h=>by rw[cS.mp h.symm]
 |x::l,m,hd,c,e=>by
  have b:=c x az;have d:=bu.mp hd;show(List.Perm.cons x (A9 d.2 (λy a=>?_) ?_)).trans (perm_cons_erase b).symm
  .exact(mem_erase_of_ne (λz:y=x=>d.1 (by rw[<-z];show a))).mpr (c y (by simp[a]))
  .rw[length_erase_of_mem b];simp only[length_cons]at e;omega
theorem X0(c:Nat->Int):∀i,(firstMet c i).Nodup
 |0=>by rw[firstMet_zero];show nodup_nil
 |i+1=>by
  rw[firstMet_succ];unfold step_dedup;split
  .exact X0 c i
  .rename_i h;show cR.mpr ⟨X0 c i,by simp,λa e b d=>?_⟩;rw[dy]at d;intro z;subst d;show h (List.any_eq_true.mpr ⟨a,e,by simp[z]⟩)
section
variable {g:Bool}
theorem xx0:∀{l:List (Int×Value)},ElemsOf (KI prog w) l->∃c:List Int,IntsAre (l.map (·.2)) c/\∀k,k∈c↔∃e∈l,(KI prog w).is k e.2=true
 |[],_=>⟨[],.nil,λk=>by simp⟩
 |e::l,h=>by
  let⟨c,r,p⟩:=xx0 h.tail;let⟨⟨k,d,_⟩,_⟩:=h.head;let⟨t,m⟩:=Value.isInt_shape d;show⟨k::c,?_,λj=>?_⟩
  .rw[br,m];show .cons k t r
  .rw[mem_cons,p];constructor
   .rintro(rfl|⟨f,b,q⟩)
    .exact⟨e,by simp,d⟩
    .exact⟨f,by simp[b],q⟩
   .rintro⟨f,b,q⟩;rcases aT.mp b with rfl|b
    .exact .inl ((KI prog w).inj _ _ _ q d)
    .exact .inr ⟨f,b,q⟩
theorem xy9:∀{j f:List Value},f.Perm j->∀{ns:List Int},IntsAre j ns->∃e,IntsAre f e/\e.Perm ns:=by
 intro j f p;induction p with
 |nil=>show λh=>⟨_,h,.refl _⟩
 |cons x _ v=>
  intro ns h;cases h with
  |cons n t h=>let⟨e,a,b⟩:=v h;show⟨n::e,.cons n t a,b.cons n⟩
 |swap x y l=>
  intro ns h;cases h with
  |cons n t h=>
   cases h with
   |cons m z h=>show⟨_,.cons _ _ (.cons _ _ h),.swap _ _ _⟩
 |trans _ _ q k=>intro ns h;let⟨e,a,b⟩:=k h;let⟨r,c,d⟩:=q a;show⟨r,c,d.trans b⟩
end
noncomputable def ddI(ns:List Int):List Int:=firstMet (λi=>ns.getD i 0) ns.length
def SetH(P:Program)(w:World)(a:Addr)(ns:List Int):HO:=.ext λh=>SetG P w h a (inL (λi=>ns.getD i 0) ns.length) (ddI ns).length (zw9 w)
section
end
namespace TS
noncomputable abbrev SM:=StateT SortSt Sem
noncomputable def ky(a:PyProof.Rows.KeyKind)(x:Keyed):a.α:=(a.keyOf x.1).getD a.dflt
def CL(M:Model)(A:Around)(E:Qa)(s:Shared)(a₀:Array Keyed)(a:PyProof.Rows.KeyKind)(kd:SortKind):Prop:=
 ∀x y:Keyed,x∈a₀.toList->y∈a₀.toList->∀(st:SortSt)(Q:Option Bool->SortSt->Prop),kindOf st=kd->Q (some (a.blt (ky a x) (ky a y))) st->wpS M A E s (lt' x y) Q st
section
variable {M:Model}{A:Around}{E:Qa}{s:Shared}{d:Array Keyed}{C:PyProof.Rows.KeyKind}{e:SortKind}{st:SortSt}
theorem b9{i:Nat}(h:xs[i]? =some x):KK C xs i=ky C x:=by unfold KK ky;rw[h]
theorem t4{arr:Array Keyed}{i:Nat}(h:i<arr.size){Q:Keyed->SortSt->Prop}(q:Q arr[i] st):wpS M A E s (elem' arr i) Q st:=by rw[elem'_eq,aJ h];show aU q
theorem wj6(c:CL M A E s d C e)(a:∀x,x∈(arrOf st).toList->x∈d.toList)(f:kindOf st=e){i j:Nat}(hi:i<(arrOf st).size)(b:j<(arrOf st).size){Q:Option Bool->SortSt->Prop}(q:Q (some (C.blt (KK C (arrOf st) i) (KK C (arrOf st) j))) st):wpS M A E s (ltAt' i j) Q st:=by show aM (dS ?_);show aM (t4 hi ?_);show aM (t4 b ?_);show c _ _ (a _ az) (a _ az) _ _ f ?_;rw[<-b9 (aJ hi),<-b9 (aJ b)];show q
theorem m7{g d:Type}{st:g}(a n:Nat)(b:d)(f:Nat->d->StateT g Sem (ForInStep d))(I:Nat->d->g->Prop)(Q:d->g->Prop)
  (o:I (n-a) b st)
  (k:∀(x r:Nat)(b:d)(st:g),a<=x->x<n->x+r+1=n->I (r+1) b st->wpS M A E s (f x b) (λq c=>match q with | .done i=>Q i c| .yield i=>I r i c) st)
  (m:∀b st,I 0 b st->Q b st):wpS M A E s (forIn [a:n] b f) Q st:=by
 rw[Std.Legacy.Range.forIn_eq_forIn_range'];have j:([a:n]:Std.Legacy.Range).size=n-a:=by simp
 rw[j];show wpS_forIn_list _ (λl b st=>∃x r,l=List.range' x r/\a<=x/\(r=0\/x+r=n)/\I r b st) _ ?_ ?_ _ _ _ ⟨a,n-a,rfl,aK _,aw,o⟩
 .rintro x rest b st ⟨x',r,hl,ha,hr,hI⟩;cases r with
  |zero=>ext hl
  |succ r=>
   injection hl with t p
   subst t p;show wpS_mono (k x r b st ha aw aw hI) λq c h=>?_;cases q with
   |done i=>show h
   |yield i=>show⟨x+1,r,rfl,aw,aw,h⟩
 .rintro b st ⟨x,r,hl,_,_,hI⟩;cases r with
  |zero=>show m b st hI
  |succ r=>rw[List.range'_succ]at hl;ext hl
structure SB(d:Array Keyed)(e:SortKind)(st:SortSt):Prop where
 perm:(arrOf st).Perm d
 kind:kindOf st=e
 failed:failedOf st=none
theorem SB.size(h:SB d e st):(arrOf st).size=d.size:=h.perm.size_eq
theorem SB.mem(h:SB d e st):∀x,x∈(arrOf st).toList->x∈d.toList:=λx a=>(dG.mp h.perm).mem_iff.mp a
theorem SB.set(h:SB d e st)(p:xs.Perm (arrOf st)):SB d e (setArr st xs):=⟨p.trans h.perm,h.kind,h.failed⟩
theorem SB.lt(h:SB d e st)(c:CL M A E s d C e){i j:Nat}(hi:i<d.size)(a:j<d.size){Q:Option Bool->SortSt->Prop}(q:Q (some (C.blt (KK C (arrOf st) i) (KK C (arrOf st) j))) st):wpS M A E s (ltAt' i j) Q st:=
 wj6 c h.mem h.kind (h.size ▸ hi) (h.size ▸ a) q
def Spl(B:Nat->Bool)(n k:Nat):Prop:=k<=n/\(∀i,i<k->B i=true)/\∀i,k<=i->i<n->B i=false
noncomputable def bisM(bey:Nat->SM (Option Bool))(n lo hi:Nat):SM (Option Nat):=do
 let s ← forIn [:n] ((none,lo,hi):Option (Option Nat)×Nat×Nat) λ_ s=>
  if s.2.1 ≥ s.2.2 then pure (.done (none,s.2.1,s.2.2))
  else do
   let r ← bey (s.2.1+(s.2.2-s.2.1) / 2)
   match r with
   |some more=>if more=true then pure (.yield (none,s.2.1+(s.2.2-s.2.1) / 2+1,s.2.2))else pure (.yield (none,s.2.1,s.2.1+(s.2.2-s.2.1) / 2))
   |_=>pure (.done (some none,s.2.1,s.2.2))
 match s.1 with
 |some r=>pure r
 |none=>pure (some s.2.2)
def galM(bey:Nat->SM (Option Bool))(n hint:Nat):SM (Option Nat):=do
 let r ← bey hint
 match r with
 |some right=>
  if right=true then do
   let s ← forIn [:n] ((none,0,1):Option (Option Nat)×Nat×Nat) λ_ s=>
    if s.2.2 ≥ n-hint then pure (.done (none,s.2.1,s.2.2))
    else do
     let r ← bey (hint+s.2.2)
     match r with
     |some more=>if (!more)=true then pure (.done (none,s.2.1,s.2.2))else pure (.yield (none,s.2.2,2*s.2.2+1))
     |_=>pure (.done (some none,s.2.1,s.2.2))
   match s.1 with
   |some r=>pure r
   |none=>bisM bey n (hint+s.2.1+1) (hint+min s.2.2 (n-hint))
  else do
   let s ← forIn [:n] ((none,0,1):Option (Option Nat)×Nat×Nat) λ_ s=>
    if s.2.2 ≥ hint+1 then pure (.done (none,s.2.1,s.2.2))
    else do
     let r ← bey (hint-s.2.2)
     match r with
     |some found=>if found=true then pure (.done (none,s.2.1,s.2.2))else pure (.yield (none,s.2.2,2*s.2.2+1))
     |_=>pure (.done (some none,s.2.1,s.2.2))
   match s.1 with
   |some r=>pure r
   |none=>bisM bey n (hint+1-min s.2.2 (hint+1)) (hint-s.2.1)
 |_=>pure none
variable {B:Nat->Bool}{n:Nat}{bey:Nat->SM (Option Bool)}
theorem xe4(p:∀i,i<n->∀Q:Option Bool->SortSt->Prop,Q (some (B i)) st->wpS M A E s (bey i) Q st)(a:∀i j,i<=j->j<n->B j=true->B i=true){lo hi:Nat}(m:lo<=hi)(l:hi<=n)(f:∀i,i<lo->B i=true)(g:∀i,hi<=i->i<n->B i=false){Q:Option Nat->SortSt->Prop}(q:∀k,Spl B n k->Q (some k) st):wpS M A E s (bisM bey n lo hi) Q st:=by
 show aM (m7 0 n _ _ (λr b c=>c=st/\b.1=none/\b.2.1<=b.2.2/\b.2.2<=n/\b.2.2-b.2.1<=r/\(∀i,i<b.2.1->B i=true)/\∀i,b.2.2<=i->i<n->B i=false) _ ⟨rfl,rfl,m,l,aw,f,g⟩ ?_ ?_)
 .rintro x r ⟨b0,lo,hi⟩ c _ _ _ ⟨rfl,hb,m,l,h3,f,g⟩;split
  .exact aU (aU (q hi ⟨l,λi hi=>f i aw,g⟩))
  .rename_i hlt;show aM (p _ aw _ ?_);cases hv:B (lo+(hi-lo) / 2)with
   |true=>show aU ⟨rfl,rfl,aw,l,aw,λi hi=>a i _ aw aw hv,g⟩
   |false=>show aU ⟨rfl,rfl,aw,aw,aw,f,λi hi o=>by
     cases h:B i with
     |false=>rfl
     |true=>rw[a _ i hi o h]at hv;cases hv⟩
 .rintro⟨b0,lo,hi⟩ c ⟨rfl,hb,m,l,h3,f,g⟩;subst hb;show aU (q hi ⟨l,λi hi=>f i aw,g⟩)
theorem xe3(v:∀i,i<n->∀Q:Option Bool->SortSt->Prop,Q (some (B i)) st->wpS M A E s (bey i) Q st)(f:∀i j,i<=j->j<n->B j=true->B i=true){hint:Nat}(u:hint<n){Q:Option Nat->SortSt->Prop}(q:∀k,Spl B n k->Q (some k) st):wpS M A E s (galM bey n hint) Q st:=by
 have w:∀i j,i<=j->j<n->B i=false->B j=false:=λi j y z h=>by
  cases h':B j with
  |false=>rfl
  |true=>rw[f i j y z h']at h;ext h
 show aM (v _ u _ ?_);cases hv:B hint with
 |true=>
  have fin:∀a c,a<c->B (hint+a)=true->hint+a<n->(c ≥ n-hint\/B (hint+c)=false)->wpS M A E s (bisM bey n (hint+a+1) (hint+min c (n-hint))) Q st:=λlo l t p o m=>
   xe4 v f aw aw (λi hi=>f i _ aw o p) (λi hi u=>by
    rcases m with m|m
    .lia
    .exact w (hint+l) i aw u m) q
  show aM (m7 0 n _ _ (λr b g=>g=st/\b.1=none/\b.2.1<b.2.2/\B (hint+b.2.1)=true/\hint+b.2.1<n/\n<b.2.2+r+1) _ ⟨rfl,rfl,aw⟩ ?_ ?_)
  .rintro x r ⟨b0,lo,l⟩ g _ _ _ ⟨rfl,hb,t,p,o,m⟩;split
   .rename_i hge;show aU (fin lo l t p o (.inl hge))
   .rename_i hge;show aM (v _ aw _ ?_);cases hw:B (hint+l)with
    |false=>show aU (fin lo l t p o (.inr hw))
    |true=>show aU ⟨rfl,rfl,aw,hw,aw,aw⟩
  .rintro⟨b0,lo,l⟩ g ⟨rfl,hb,t,p,o,m⟩;subst hb;show fin lo l t p o (.inl aw)
 |false=>
  have fin:∀a c,a<c->a<=hint->B (hint-a)=false->(c ≥ hint+1\/B (hint-c)=true)->wpS M A E s (bisM bey n (hint+1-min c (hint+1)) (hint-a)) Q st:=λlo l t p o m=>
   xe4 v f ax aw (λi hi=>by
    rcases m with m|m
    .lia
    .exact f i (hint-l) aw aw m) (λi hi u=>w _ i hi u o) q
  show aM (m7 0 n _ _ (λr b g=>g=st/\b.1=none/\b.2.1<b.2.2/\b.2.1<=hint/\B (hint-b.2.1)=false/\n<b.2.2+r+1) _ ⟨rfl,rfl,aw⟩ ?_ ?_)
  .rintro x r ⟨b0,lo,l⟩ g _ _ _ ⟨rfl,hb,t,p,o,m⟩;split
   .rename_i hge;show aU (fin lo l t p o (.inl hge))
   .rename_i hge;show aM (v _ aw _ ?_);cases hw:B (hint-l)with
    |true=>show aU (fin lo l t p o (.inr hw))
    |false=>show aU ⟨rfl,rfl,aw,aw,hw,aw⟩
  .rintro⟨b0,lo,l⟩ g ⟨rfl,hb,t,p,o,m⟩;subst hb;show fin lo l t p o (.inl aw)
end
end TS
namespace TS
section
variable {prog:Program}{w:World}{A:Around}{E:Qa}{s:Shared}{f:Array Keyed}{M:PyProof.Rows.KeyKind}{l:SortKind}{st:SortSt}
def Seg(M:PyProof.Rows.KeyKind)(xs:Array Keyed)(lo hi:Nat):Prop:=∀i j,lo<=i->i<=j->j<hi->M.kle (KK M xs i) (KK M xs j)
def NInc(M:PyProof.Rows.KeyKind)(xs:Array Keyed)(lo hi:Nat):Prop:=∀i j,lo<=i->i<=j->j<hi->M.kle (KK M xs j) (KK M xs i)
structure Ch(f:Array Keyed)(M:PyProof.Rows.KeyKind)(l:SortKind)(lo:Nat)(st st':SortSt):Prop where
 sb:SB f l st'
 pend:pendingOf st'=pendingOf st
 pre:∀k,k<lo->KK M (arrOf st') k=KK M (arrOf st) k
theorem Ch.refl{lo:Nat}(h:SB f l st):Ch f M l lo st st:=⟨h,rfl,λ_ _=>rfl⟩
theorem Ch.trans{lo:Nat}{a st'':SortSt}(h:Ch f M l lo st a)(g:Ch f M l lo a st''):Ch f M l lo st st'':=⟨g.sb,g.pend.trans h.pend,λk b=>(g.pre k b).trans (h.pre k b)⟩
theorem Seg.congr{lo hi:Nat}(h:Seg M xs lo hi)(e:∀k,lo<=k->k<hi->KK M a k=KK M xs k):Seg M a lo hi:=λi j c d b=>by rw[e i c aw,e j aw b];show h i j c d b
theorem Seg.snoc{lo hi:Nat}(h:Seg M xs lo hi)(d:lo<hi)(e:M.kle (KK M xs (hi-1)) (KK M xs hi)):Seg M xs lo (hi+1):=λi j b c g=>by
 rcases bi j hi with a|a
 .exact h i j b c a
 .have:j=hi:=aw;subst this;rcases bi i j with hi|hi
  .exact bv (h i (j-1) b aw aw) e
  .have:i=j:=aw;subst this;show da _
theorem NInc.snoc{lo hi:Nat}(h:NInc M xs lo hi)(d:lo<hi)(e:M.kle (KK M xs hi) (KK M xs (hi-1))):NInc M xs lo (hi+1):=λi j b c g=>by
 rcases bi j hi with a|a
 .exact h i j b c a
 .have:j=hi:=aw;subst this;rcases bi i j with hi|hi
  .exact bv e (h i (j-1) b aw aw)
  .have:i=j:=aw;subst this;show da _
theorem yv3{i j:Nat}{Q:Unit->SortSt->Prop}(q:Q () (setArr st (mirror (arrOf st) i j ((j-i) / 2)))):wpS (model prog w) A E s (reverseSlice' i j) Q st:=by show cY q
theorem Ch.revEq{lo i j:Nat}(h:SB f l st)(a:j<=f.size)(e:∀k,i<=k->k<j->KK M (arrOf st) k=KK M (arrOf st) (j-1)):Ch f M l lo st (setArr st (mirror (arrOf st) i j ((j-i) / 2))):=
 ⟨h.set (mirror_perm ..),rfl,λk b=>KK_mirror_equal (h.size ▸ a) e k⟩
noncomputable def ascM(lo a nrem:Nat):SM (Option (Option Nat)×Nat):=
 forIn [a:nrem] ((none,a):Option (Option Nat)×Nat) λ_ s=>do
  let r ← ltAt' (lo+s.2) (lo+s.2-1)
  match r with
  |some smaller=>if smaller=true then pure (.done (none,s.2))else pure (.yield (none,s.2+1))
  |_=>pure (.done (some none,s.2))
def yh5(lo n nrem:Nat):SM (Option Nat):=do
 reverseSlice' lo (lo+n)
 let s ← ascM lo n nrem
 match s.1 with
 |some r=>pure r
 |none=>pure (some s.2)
noncomputable def vk5(lo n nrem:Nat):SM (Option (Option Nat)×Nat×Nat):=
 forIn [n:nrem] ((none,n,0):Option (Option Nat)×Nat×Nat) λ_ s=>do
  let r ← ltAt' (lo+s.2.1) (lo+s.2.1-1)
  match r with
  |some smaller=>
   if smaller=true then
    if s.2.2>0 then do
     reverseSlice' (lo+s.2.1-(s.2.2+1)) (lo+s.2.1)
     pure (.yield (none,s.2.1+1,0))
    else pure (.yield (none,s.2.1+1,0))
   else do
    let r ← ltAt' (lo+s.2.1-1) (lo+s.2.1)
    match r with
    |some larger=>if larger=true then pure (.done (none,s.2.1,s.2.2))else pure (.yield (none,s.2.1+1,s.2.2+1))
    |_=>pure (.done (some none,s.2.1,s.2.2))
  |_=>pure (.done (some none,s.2.1,s.2.2))
def xw2(lo n nrem:Nat):SM (Option Nat):=do
 liftM (rule "list.sort.descending-run")
 let s ← vk5 lo (n+1) nrem
 match s.1 with
 |some r=>pure r
 |none=>
  if s.2.2>0 then do
   reverseSlice' (lo+s.2.1-(s.2.2+1)) (lo+s.2.1)
   yh5 lo s.2.1 nrem
  else yh5 lo s.2.1 nrem
theorem yx2(lo a:Nat):countRun' lo a=(do
  let s ← ascM lo 1 a
  match s.1 with
  |some r=>pure r
  |none=>
   if (s.2==a)=true then pure (some s.2)
   else
    if s.2>1 then do
     let r ← ltAt' lo (lo+s.2-1)
     match r with
     |some c=>if c=true then pure (some s.2)else do
       reverseSlice' lo (lo+s.2)
       xw2 lo s.2 a
     |_=>pure none
    else xw2 lo s.2 a):=by
 show congr (bf Bind.bind ?_) (funext λs=>?_)
 .rfl
 .let⟨s1,s2⟩:=s;cases s1 with
  |some r=>rfl
  |none=>
   show bf (ite _ _) ?_;show ite _ _ _=ite _ _ _;show congr (bf (ite _) ?_) ?_
   .refine congr (bf Bind.bind ?_) (funext λs=>?_)
    .rfl
    .cases s with
     |none=>rfl
     |some b=>
      show bf (ite _ _) ?_;show congr (bf Bind.bind ?_) (funext λs=>?_)
      .rfl
      .delta xw2;show congr (bf Bind.bind ?_) (funext λs=>?_)
       .rfl
       .refine congr (bf Bind.bind ?_) (funext λs=>?_)
        .rfl
        .let⟨s1,s2,s3⟩:=s;cases s1 with
         |some r=>rfl
         |none=>
          show ite _ _ _=ite _ _ _;show congr (bf (ite _) ?_) ?_
          .refine congr (bf Bind.bind ?_) (funext λs=>?_)
           .rfl
           .refine congr (bf Bind.bind ?_) (funext λs=>?_)
            .rfl
            .refine congr (bf Bind.bind ?_) (funext λs=>?_)
             .rfl
             .let⟨s1,s2⟩:=s;ext s1 <;> rfl
          .refine congr (bf Bind.bind ?_) (funext λs=>?_)
           .rfl
           .refine congr (bf Bind.bind ?_) (funext λs=>?_)
            .rfl
            .let⟨s1,s2⟩:=s;ext s1 <;> rfl
   .delta xw2;show congr (bf Bind.bind ?_) (funext λs=>?_)
    .rfl
    .refine congr (bf Bind.bind ?_) (funext λs=>?_)
     .rfl
     .let⟨s1,s2,s3⟩:=s;cases s1 with
      |some r=>rfl
      |none=>
       show ite _ _ _=ite _ _ _;show congr (bf (ite _) ?_) ?_
       .refine congr (bf Bind.bind ?_) (funext λs=>?_)
        .rfl
        .refine congr (bf Bind.bind ?_) (funext λs=>?_)
         .rfl
         .refine congr (bf Bind.bind ?_) (funext λs=>?_)
          .rfl
          .let⟨s1,s2⟩:=s;ext s1 <;> rfl
       .refine congr (bf Bind.bind ?_) (funext λs=>?_)
        .rfl
        .refine congr (bf Bind.bind ?_) (funext λs=>?_)
         .rfl
         .let⟨s1,s2⟩:=s;ext s1 <;> rfl
theorem xe5{lo a d:Nat}(c:CL (model prog w) A E s f M l)(h:SB f l st)(k:1<=a)(j:a<=d)(i:lo+d<=f.size)(g:Seg M (arrOf st) lo (lo+a)){Q:Option (Option Nat)×Nat->SortSt->Prop}
  (q:∀n,a<=n->n<=d->Seg M (arrOf st) lo (lo+n)->(n=d\/M.klt (KK M (arrOf st) (lo+n)) (KK M (arrOf st) (lo+n-1)))->Q (none,n) st):wpS (model prog w) A E s (ascM lo a d) Q st:=by
 show m7 a d _ _ (λr b e=>e=st/\b.1=none/\a<=b.2/\b.2+r=d/\Seg M (arrOf st) lo (lo+b.2)) _ ⟨rfl,rfl,aK _,aw,g⟩ ?_ ?_
 .rintro x r ⟨b0,n⟩ e _ _ _ ⟨rfl,hb,e1,e2,g⟩;show aM (h.lt c aw aw ?_);cases hv:M.blt (KK M (arrOf e) (lo+n)) (KK M (arrOf e) (lo+n-1))with
  |true=>show aU (q n e1 aw g (.inr hv))
  |false=>show aU ⟨rfl,rfl,aw,aw,g.snoc aw hv⟩
 .rintro⟨b0,n⟩ e ⟨rfl,hb,e1,e2,g⟩;subst hb;show q n e1 aw g (.inl ax)
theorem NInc.rev{lo n:Nat}(h:NInc M xs lo (lo+n))(a:lo+n<=xs.size):Seg M (mirror xs lo (lo+n) ((lo+n-lo) / 2)) lo (lo+n):=λi j c d b=>by rw[KK_mirror a,KK_mirror a,aH ⟨c,aw⟩,aH ⟨aw,b⟩];show h _ _ ax ax ax
theorem yv2{lo n a:Nat}(c:CL (model prog w) A E s f M l)(h:SB f l st)(r:1<=n)(p:n<=a)(o:lo+a<=f.size)(i:NInc M (arrOf st) lo (lo+n)){Q:Option Nat->SortSt->Prop}
  (q:∀m b,Ch f M l lo st b->1<=m->m<=a->Seg M (arrOf b) lo (lo+m)->Q (some m) b):wpS (model prog w) A E s (yh5 lo n a) Q st:=by
 show aM (yv3 ?_);have d:lo+n<=(arrOf st).size:=by rw[h.size];lia
 have e:=h.set (mirror_perm (arrOf st) lo (lo+n) ((lo+n-lo) / 2));show aM (xe5 c e r p o (i.rev d) λm t j g _=>?_);show aU (q m _ ⟨e,rfl,λk u=>by rw[KK_mirror d,aF aw]⟩ aw j g)
theorem NInc.congr{lo hi:Nat}(h:NInc M xs lo hi)(e:∀k,k<hi->KK M a k=KK M xs k):NInc M a lo hi:=λi j d c b=>by rw[e i aw,e j b];show h i j d c b
theorem yv5{lo n a:Nat}(c:CL (model prog w) A E s f M l)(h:SB f l st)(J:n+1<=a)(H:lo+a<=f.size)(i:NInc M (arrOf st) lo (lo+(n+1))){Q:Option Nat->SortSt->Prop}
  (q:∀m st',Ch f M l lo st st'->1<=m->m<=a->Seg M (arrOf st') lo (lo+m)->Q (some m) st'):wpS (model prog w) A E s (xw2 lo n a) Q st:=by
 show aM (wpS_lift (cn ⟨rfl,?_⟩));have o:∀m e st',Ch f M l lo st st'->m<=a->e+1<=m->NInc M (arrOf st') lo (lo+m)->(∀k,lo+m-(e+1)<=k->k<lo+m->KK M (arrOf st') k=KK M (arrOf st') (lo+m-1))->wpS (model prog w) A E s (if e>0 then do { reverseSlice' (lo+m-(e+1)) (lo+m);yh5 lo m a }else yh5 lo m a) Q st':=by
  intro m e st' d G I i p;split
  .refine aM (yv3 ?_);have j:=Ch.revEq (lo:=lo+a) d.sb aw p;show yv2 c j.sb aw G H (i.congr λk t=>j.pre k aw) λy g C F D v=>q y g (d.trans (Ch.trans ⟨j.sb,j.pend,λk t=>j.pre k aw⟩ C)) F D v
  .exact yv2 c d.sb aw G H i λy g C F D v=>q y g (d.trans C) F D v
 show aM (m7 (n+1) a _ _ (λr b st'=>b.1=none/\Ch f M l lo st st'/\b.2.1+r=a/\b.2.2+1<=b.2.1/\NInc M (arrOf st') lo (lo+b.2.1)/\(∀k,lo+b.2.1-(b.2.2+1)<=k->k<lo+b.2.1->KK M (arrOf st') k=KK M (arrOf st') (lo+b.2.1-1))) _ ⟨rfl,.refl h,by dsimp only;omega,aw,i,λk B z=>by rw[show k=lo+(n+1)-1 by lia]⟩ ?_ ?_)
 .rintro x r ⟨b0,m,e⟩ st' _ _ _ ⟨hb,d,e1,e2,i,p⟩;show aM (d.sb.lt c aw aw ?_);cases hv:M.blt (KK M (arrOf st') (lo+m)) (KK M (arrOf st') (lo+m-1))with
  |true=>
   simp only[if_true];have u:=i.snoc aw (bM hv);split
   .refine aM (yv3 (aU ?_));have j:=Ch.revEq (lo:=lo+a) d.sb aw p;show⟨rfl,d.trans ⟨j.sb,j.pend,λk t=>j.pre k aw⟩,aw,aw,u.congr λk t=>j.pre k aw,λk B z=>by rw[show k=lo+(m+1)-1 by lia]⟩
   .exact aU ⟨rfl,d,aw,aw,u,λk B z=>by rw[show k=lo+(m+1)-1 by lia]⟩
  |false=>
   show aM (d.sb.lt c aw aw ?_);cases hw:M.blt (KK M (arrOf st') (lo+m-1)) (KK M (arrOf st') (lo+m))with
   |true=>show aU (o m e st' d aw e2 i p)
   |false=>
    show aU ⟨rfl,d,aw,aw,i.snoc aw hw,λk B z=>?_⟩;rw[show lo+(m+1)-1=lo+m by lia];rcases bi k (lo+m)with t|t
    .rw[p k aw t,(KeyOrd.kle_antisymm hw hv)]
    .rw[show k=lo+m by lia]
 .rintro⟨b0,m,e⟩ st' ⟨hb,d,e1,e2,i,p⟩;subst hb;show o m e st' d aw e2 i p
theorem zd6{lo nrem:Nat}(c:CL (model prog w) A E s f M l)(h:SB f l st)(D:1<=nrem)(t:lo+nrem<=f.size){Q:Option Nat->SortSt->Prop}
  (q:∀m e,Ch f M l lo st e->1<=m->m<=nrem->Seg M (arrOf e) lo (lo+m)->Q (some m) e):wpS (model prog w) A E s (countRun' lo nrem) Q st:=by
 rw[yx2];have z:Seg M (arrOf st) lo (lo+1):=λi j a b d=>by rw[show i=j by lia];show da _
 show aM (xe5 c h (aK _) D t z λn x v o hd=>?_);simp only;split
 .exact aU (q n st (.refl h) x v o)
 .rename_i g;have g:n≠nrem:=by simpa using g
  have hd:=hd.resolve_left g;split
  .rename_i hgt;show aM (h.lt c aw aw ?_);cases hv:M.blt (KK M (arrOf st) lo) (KK M (arrOf st) (lo+n-1))with
   |true=>show aU (q n st (.refl h) x v o)
   |false=>
    have u:=λk y B=>KeyOrd.kle_antisymm (o k _ y aw aw) (bv hv (o lo k (aK _) y B));show aM (yv3 ?_);have p:=Ch.revEq (lo:=lo+nrem) h aw u;have r:NInc M (arrOf st) lo (lo+n):=λi j a b d=>by rw[u i a aw,u j aw d];show da _
    show yv5 c p.sb aw t ((r.snoc aw (bM hd)).congr λk C=>p.pre k aw) λm e F H G o=>q m e (Ch.trans ⟨p.sb,p.pend,λk C=>p.pre k aw⟩ F) H G o
  .have:n=1:=aw;subst this;have r:NInc M (arrOf st) lo (lo+1):=λi j a b d=>by rw[show i=j by lia];show da _
   show yv5 c h aw t (r.snoc aw (bM hd)) q
end
end TS
namespace TS
section
variable {prog:Program}{w:World}{A:Around}{E:Qa}{s:Shared}{e:Array Keyed}{κ:PyProof.Rows.KeyKind}{f:SortKind}{st:SortSt}
theorem wj7{lo n ok:Nat}(c:CL (model prog w) A E s e κ f)(h:SB e f st)(I:1<=ok)(H:ok<=n)(K:lo+n<=e.size)(m:Seg κ (arrOf st) lo (lo+ok)){Q:Bool->SortSt->Prop}
  (q:∀st',Ch e κ f lo st st'->Seg κ (arrOf st') lo (lo+n)->Q true st'):wpS (model prog w) A E s (binarySort' lo n ok) Q st:=by
 show aM (m7 (max ok 1) n _ _ (λr b st'=>b.1=none/\Ch e κ f lo st st'/\Seg κ (arrOf st') lo (lo+(n-r))) _ ⟨rfl,.refl h,by rw[Nat.max_eq_left I,Nat.sub_sub_self H];show m⟩ ?_ ?_)
 .rintro k r ⟨b0,b1⟩ st' k1 k2 k3 ⟨hb,ch,m⟩;rw[show n-(r+1)=k by lia]at m;have y:∀l,l<=k->(∀i,i<l->κ.kle (KK κ (arrOf st') (lo+i)) (KK κ (arrOf st') (lo+k)))->(∀i,l<=i->i<k->κ.kle (KK κ (arrOf st') (lo+k)) (KK κ (arrOf st') (lo+i)))->wpS (model prog w) A E s (do { moveDown' (lo+k) (lo+l);pure (ForInStep.yield ((none,()):Option Bool×Unit)) }) (λq st'=>match q with | .done b'=>wpS (model prog w) A E s (match b'.1 with |some r=>pure r|none=>pure true) Q st'| .yield b'=>b'.1=none/\Ch e κ f lo st st'/\Seg κ (arrOf st') lo (lo+(n-r))) st':=by
   intro l G p o;rw[moveDown'_eq];show aM (cY (aU ?_));have F:lo+k<(arrOf st').size:=by rw[ch.sb.size];lia
   have B:=KK_bubble (κ:=κ) (d:=lo+k-(lo+l)) F (Nat.sub_le _ _);rw[Nat.sub_sub_self (Nat.add_le_add_left G lo)]at B;show⟨rfl,ch.trans ⟨ch.sb.set (bubble_perm ..),rfl,λi hi=>?_⟩,?_⟩
   .rw[B,aF (bp (bb hi (ci lo l))),aF λz=>Nat.not_lt_of_le (ci lo l) (de z.1 hi)]
   .rw[show n-r=k+1 by lia];intro i j C t J;rw[B i,B j];by_cases hi:i=lo+l
    .subst hi;rw[aH rfl];by_cases u:j=lo+l
     .rw[aH u];show da _
     .rw[aF u,aH ⟨aw,aw⟩];have:=o (j-1-lo) aw aw
      rwa [show lo+(j-1-lo)=j-1 by lia]at this
    .rw[aF hi];by_cases v:lo+l<i/\i<=lo+k
     .rw[aH v,aF aw,aH ⟨aw,aw⟩];show m _ _ aw aw aw
     .rw[aF v];by_cases u:j=lo+l
      .rw[aH u];have:=p (i-lo) aw
       rwa [show lo+(i-lo)=i by lia]at this
      .rw[aF u];split
       .exact m _ _ aw aw aw
       .exact m _ _ aw aw aw
  show aM (m7 0 k _ _ (λD b g=>g=st'/\b.1=none/\b.2.1<=b.2.2/\b.2.2<=k/\b.2.2-b.2.1<=D/\(∀i,i<b.2.1->κ.kle (KK κ (arrOf st') (lo+i)) (KK κ (arrOf st') (lo+k)))/\(∀i,b.2.2<=i->i<k->κ.kle (KK κ (arrOf st') (lo+k)) (KK κ (arrOf st') (lo+i)))) _ ⟨rfl,rfl,aw,aw,aw,λi hi=>aV hi (Nat.not_lt_zero _),λi a b=>aV b aw⟩ ?_ ?_)
  .rintro x D ⟨b0,lo',hi'⟩ g _ _ _ ⟨rfl,hb,e1,e2,e3,p,o⟩;simp only at hb e1 e2 e3 p o ⊢;split
   .exact aU (y lo' aw p λi C t=>o i aw t)
   .refine aM (ch.sb.lt c aw aw ?_);cases hv:κ.blt (KK κ (arrOf g) (lo+k)) (KK κ (arrOf g) (lo+(lo'+hi') / 2))with
    |true=>show aU ⟨rfl,rfl,aw,aw,aw,p,λi C t=>bv (bM hv) (m _ _ aw aw aw)⟩
    |false=>show aU ⟨rfl,rfl,aw,ax,aw,λi C=>bv (m _ _ aw aw aw) hv,o⟩
  .rintro⟨b0,lo',hi'⟩ g ⟨rfl,hb,e1,e2,e3,p,o⟩;subst hb;show y lo' aw p λi C t=>o i aw t
 .rintro⟨b0,b1⟩ st' ⟨hb,ch,m⟩;subst hb;show aU (q st' ch m)
end
end TS
namespace TS
section
variable {prog:Program}{w:World}{A:Around}{E:Qa}{s:Shared}{b:Array Keyed}{κ:PyProof.Rows.KeyKind}{f:SortKind}{st:SortSt}
noncomputable def bey(left:Bool)(key:Keyed)(arr:Array Keyed)(base i:Nat):SM (Option Bool):=do
 let x ← elem' arr (base+i)
 if left=true then lt' x key else do
  let r ← lt' key x
  pure (Option.map (λx=>!x) r)
abbrev GalT:=Bool->Keyed->Array Keyed->Nat->Nat->Nat->SM (Option Nat)
def yw6(g:GalT):Prop:=∀left key arr base n hint,g left key arr base n hint=galM (bey left key arr base) n hint
theorem zd5(D:yw6 g)(c:CL (model prog w) A E s b κ f)(y:kindOf st=f){arr:Array Keyed}{base n hint:Nat}(mk:a∈b.toList)(m:∀x,x∈arr.toList->x∈b.toList)(G:base+n<=arr.size)(l:Seg κ arr base (base+n))(C:hint<n){Q:Option Nat->SortSt->Prop}
  (q:∀k,k<=n->(∀i,i<k->κ.kle (KK κ arr (base+i)) (ky κ a))->(∀i,k<=i->i<n->κ.klt (ky κ a) (KK κ arr (base+i)))->Q (some k) st):wpS (model prog w) A E s (g false a arr base n hint) Q st:=by
 rw[D];show xe3 (B:=λi=>!κ.blt (ky κ a) (KK κ arr (base+i))) (λi hi Q q=>?_) (λi j z F h=>?_) C λk zQ=>by let⟨r,p,o⟩:=zQ;show q k r (λi hi=>by have:=p i hi;simpa[KeyOrd.kle]using this) λi v t=>by have:=o i v t;simpa[KeyOrd.klt]using this
 .delta bey;have e:base+i<arr.size:=aw;show aM (t4 e ?_);show aM (c _ _ mk (m _ az) _ _ y ?_);rw[<-b9 (aJ e)];show aU q
 .simp at h ⊢;show bv (l _ _ aw aw aw) h
theorem zd4(C:yw6 g)(c:CL (model prog w) A E s b κ f)(y:kindOf st=f){arr:Array Keyed}{base n hint:Nat}(mk:a∈b.toList)(m:∀x,x∈arr.toList->x∈b.toList)(F:base+n<=arr.size)(l:Seg κ arr base (base+n))(B:hint<n){Q:Option Nat->SortSt->Prop}
  (q:∀k,k<=n->(∀i,i<k->κ.klt (KK κ arr (base+i)) (ky κ a))->(∀i,k<=i->i<n->κ.kle (ky κ a) (KK κ arr (base+i)))->Q (some k) st):wpS (model prog w) A E s (g true a arr base n hint) Q st:=by
 rw[C];show xe3 (λi hi Q q=>?_) (λi j z D h=>?_) B λk zQ=>by let⟨r,p,o⟩:=zQ;show q k r (λi hi=>p i hi) λi v t=>o i v t
 .delta bey;have e:base+i<arr.size:=aw;show aM (t4 e ?_);show c _ _ (m _ az) mk _ _ y ?_;rw[<-b9 (aJ e)];show q
 .exact KeyOrd.klt_of_kle_of_klt (l _ _ aw aw aw) h
structure MS(R:Keyed->Keyed->Prop)(tot out la d:List Keyed):Prop where
 perm:(out++la++d).Perm tot
 so:out.Pairwise R
 oa:∀x,x∈out->∀y,y∈la->R x y
 ob:∀x,x∈out->∀y,y∈d->R x y
variable {tot out la d u:List Keyed}
theorem MS.chA(h:MS R tot out (u++la) d)(sa:(u++la).Pairwise R)(c:∀x,x∈u->∀y,y∈d->R x y):MS R tot (out++u) la d:=by
 have g:=cE.mp sa;show⟨?_,?_,?_,?_⟩
 .have:=h.perm;simpa using this
 .exact cE.mpr ⟨h.so,g.1,λx c y e=>h.oa x c y (List.mem_append_left _ e)⟩
 .intro x c y e;rcases bz.mp c with c|c
  .exact h.oa x c y (List.mem_append_right _ e)
  .exact g.2.2 x c y e
 .intro x a y e;rcases bz.mp a with a|a
  .exact h.ob x a y e
  .exact c x a y e
theorem MS.chB(h:MS R tot out la (u++d))(i:(u++d).Pairwise R)(c:∀x,x∈u->∀y,y∈la->R x y):MS R tot (out++u) la d:=by
 have g:=cE.mp i;show⟨?_,?_,?_,?_⟩
 .refine List.Perm.trans ?_ h.perm;rw[cH,cH,cH];show dX _ ?_;rw[<-cH,<-cH];show List.Perm.append_right _ List.perm_append_comm
 .exact cE.mpr ⟨h.so,g.1,λx c y e=>h.ob x c y (List.mem_append_left _ e)⟩
 .intro x a y e;rcases bz.mp a with a|a
  .exact h.oa x a y e
  .exact c x a y e
 .intro x c y e;rcases bz.mp c with c|c
  .exact h.ob x c y (List.mem_append_right _ e)
  .exact g.2.2 x c y e
def P9(R:Keyed->Keyed->Prop)(tot m:List Keyed):Prop:=m.Perm tot/\m.Pairwise R
theorem MS.finA(h:MS R tot out la [])(sa:la.Pairwise R):P9 R tot (out++la):=⟨by simpa using h.perm,cE.mpr ⟨h.so,sa,h.oa⟩⟩
theorem MS.finB(h:MS R tot out [] d)(a:d.Pairwise R):P9 R tot (out++d):=⟨by simpa using h.perm,cE.mpr ⟨h.so,a,h.ob⟩⟩
theorem MS.finBA(h:MS R tot out la d)(sa:la.Pairwise R)(g:d.Pairwise R)(i:∀y,y∈d->∀x,x∈la->R y x):P9 R tot (out++d++la):=
 ⟨List.Perm.trans (by rw[cH,cH];show dX _ List.perm_append_comm) h.perm,cE.mpr ⟨cE.mpr ⟨h.so,g,h.ob⟩,sa,λx a y e=>by
  rcases bz.mp a with c|c
  .exact h.oa x c y e
  .exact i x c y e⟩⟩
def Rk(κ:PyProof.Rows.KeyKind)(x y:Keyed):Prop:=κ.kle (ky κ x) (ky κ y)
theorem seg_pair(h:Seg κ a 0 a.size):a.toList.Pairwise (Rk κ):=by
 rw[c6];intro i j hi c e;have:=h i j (aW _) aw (by simpa using c)
 rwa [b9 (aJ (by simpa using hi)),b9 (aJ (by simpa using c))]at this
theorem xm7(h:a.toList.Pairwise (Rk κ)):Seg κ a 0 a.size:=by
 rw[c6]at h;intro i j _ g c;rcases bi i j with e|e
 .have:=h i j (by simp;lia) (by simpa using c) e;rw[b9 (aJ aw),b9 (aJ c)];show this
 .rw[show i=j by lia];show da _
theorem zo7{a:Array Keyed}{i:Nat}(h:i<a.size):a.toList.drop i=[a[i]]++a.toList.drop (i+1):=by rw[List.drop_eq_getElem_cons (by simpa using h)];simp
theorem drop_take{l:List Keyed}(i k:Nat):l.drop i=(l.drop i).take k++l.drop (i+k):=by rw[<-List.drop_drop,List.take_append_drop]
theorem zt4{a:Array Keyed}(i:Nat):(a.extract i).toList=a.toList.drop i:=by simp[List.take_of_length_le]
theorem xx7{a:Array Keyed}(i k:Nat):(a.extract i (i+k)).toList=(a.toList.drop i).take k:=by simp
theorem N1{i k:Nat}(h:x∈(a.toList.drop i).take k):∃j,j<k/\i+j<a.size/\KK κ a (i+j)=ky κ x:=by let⟨j,c,e⟩:=List.getElem_of_mem h;simp at c;show⟨j,ax,ax,?_⟩;rw[b9 (aJ ax),<-e];simp
theorem W0{i:Nat}(h:x∈a.toList.drop i):∃j,i<=j/\j<a.size/\KK κ a j=ky κ x:=by let⟨j,c,e⟩:=List.getElem_of_mem h;simp at c;show⟨i+j,aw,aw,?_⟩;rw[b9 (aJ aw),<-e];simp
end
end TS
namespace TS
section
noncomputable def wr(arr:Array Keyed)(sa:Nat)(m:Array Keyed):Array Keyed:=List.foldl (λa x=>match x with | (p,j)=>a.setIfInBounds (sa+j) p) arr m.toList.zipIdx
def zo1(sa:Nat)(m:Array Keyed):SM Bool:=do
 modify λs=>setArr s (wr (arrOf s) sa m)
 let s ← get
 pure (failedOf s).isNone
abbrev MrgT:=Array Keyed->Array Keyed->SM (Array Keyed)
def ys3(g:GalT)(mlo mhi:MrgT)(i:Nat):SM Bool:=do
 let s ← get
 match (pendingOf s)[i]?,(pendingOf s)[i+1]? with
 |some (sa,na,power),some (sb,nb,_)=>do
  set (setPending s (((pendingOf s).setIfInBounds i (sa,na+nb,power)).eraseIdxIfInBounds (i+1)))
  let x ← elem' (arrOf s) sb
  let r ← g false x (arrOf s) sa na 0
  match r with
  |some k=>
   if (na-k==0)=true then pure true
   else do
    let y ← elem' (arrOf s) (sa+k+(na-k)-1)
    let r ← g true y (arrOf s) sb nb (nb-1)
    match r with
    |some nb=>
     if (nb==0)=true then pure true
     else
      if na-k<=nb then do
       let m ← mlo ((arrOf s).extract (sa+k) sb) ((arrOf s).extract sb (sb+nb))
       zo1 (sa+k) m
      else do
       let m ← mhi ((arrOf s).extract (sa+k) sb) ((arrOf s).extract sb (sb+nb))
       zo1 (sa+k) m
    |_=>pure false
  |_=>pure false
 |_,_=>liftM (unsupported "internal:list.sort.pending")
structure St(st st':SortSt):Prop where
 arr:arrOf st'=arrOf st
 kind:kindOf st'=kindOf st
 pend:pendingOf st'=pendingOf st
 failed:failedOf st'=failedOf st
theorem St.refl(st:SortSt):St st st:=⟨rfl,rfl,rfl,rfl⟩
def xs6(mlo:MrgT):Prop:=∀(prog:Program)(w:World)(A:Around)(E:Qa)(s:Shared)(u:Array Keyed)(κ:PyProof.Rows.KeyKind)(B:SortKind)(c:CL (model prog w) A E s u κ B)(st:SortSt)(hk:kindOf st=B)(a b:Array Keyed),(∀x,x∈a.toList->x∈u.toList)->(∀x,x∈b.toList->x∈u.toList)->Seg κ a 0 a.size->Seg κ b 0 b.size->0<a.size->0<b.size->κ.klt (KK κ b 0) (KK κ a 0)->κ.klt (KK κ b (b.size-1)) (KK κ a (a.size-1))->
 ∀Q:Array Keyed->SortSt->Prop,(∀m st',St st st'->P9 (Rk κ) (a.toList++b.toList) m.toList->Q m st')->wpS (model prog w) A E s (mlo a b) Q st
theorem ms0{R:Keyed->Keyed->Prop}:MS R (la++lb) [] la lb:=⟨.refl _,.nil,λx h=>aV h az,λx h=>aV h az⟩
theorem u5{a b:Type}{p:Prop}[Decidable p]{x y:StateT a Sem b}{Q:b->a->Prop}{st:a}(d:p->wpS M A E s x Q st)(c:¬p->wpS M A E s y Q st):wpS M A E s (if p then x else y) Q st:=by
 split
 .exact d ‹_›
 .exact c ‹_›
def Rr(κ:PyProof.Rows.KeyKind)(x y:Keyed):Prop:=Rk κ y x
theorem yz7(h:P9 (Rr κ) a m.reverse):P9 (Rk κ) a m:=⟨(List.reverse_perm m).symm.trans h.1,List.pairwise_reverse.mp h.2⟩
theorem MS.finAB{R:Keyed->Keyed->Prop}{a out la b:List Keyed}(h:MS R a out la b)(sa:la.Pairwise R)(c:b.Pairwise R)(d:∀x,x∈la->∀y,y∈b->R x y):P9 R a (out++la++b):=by have e:=MS.chA (la:=[]) (by simpa using h) (by simpa using sa) d;show e.finB c
theorem zs9{a:Array Keyed}{i:Nat}(h:i<a.size):(a.toList.take (i+1)).reverse=[a[i]]++(a.toList.take i).reverse:=by rw[List.take_succ_eq_append_getElem (by simpa using h)];simp
theorem zs8{l:List Keyed}{i k:Nat}(h:i<=k):(l.take k).reverse=((l.drop i).take (k-i)).reverse++(l.take i).reverse:=by rw[<-List.reverse_append];congr 1;rw[<-List.take_add];congr 1;lia
theorem xb8{a:Array Keyed}(i k:Nat):((a.extract i k).reverse).toList=((a.toList.drop i).take (k-i)).reverse:=by simp
theorem X9{i:Nat}(h:x∈(a.toList.take i).reverse):∃j,j<i/\j<a.size/\KK κ a j=ky κ x:=by let⟨j,b,e⟩:=List.getElem_of_mem (List.mem_reverse.mp h);simp at b;show⟨j,aw,aw,?_⟩;rw[b9 (aJ aw),<-e];simp
theorem and3{P Q R:Prop}(p:P)(q:P->Q)(r:P->R):P/\Q/\R:=⟨p,q p,r p⟩
theorem yi2{a b:Type}{p:Prop}[Decidable p]{f:Nat->StateT a Sem b}{x y:Nat}{Q:b->a->Prop}{st:a}(h:∀n,wpS M A E s (f n) Q st):wpS M A E s (if p then f x else f y) Q st:=u5 (λ_=>h _) λ_=>h _
theorem yv4{a b X Y:Type}{z:StateT a Sem b}{Q:b->a->Prop}{st:a}(f:X->Y->StateT a Sem b)(I:X->Y->Prop)(h:∀x y,I x y->wpS M A E s (f x y) Q st)(k:(∀x y,I x y->wpS M A E s (f x y) Q st)->wpS M A E s z Q st):wpS M A E s z Q st:=k h
theorem pr5{T0 j i g f:Type}{P:T0×j×i×g×f->Prop}(h:∀e d c b a,P (e,d,c,b,a)):∀t,P t:=λ_=>h _ _ _ _ _
theorem pr6{T0 l k j i g:Type}{P:T0×l×k×j×i×g->Prop}(h:∀f e d c b a,P (f,e,d,c,b,a)):∀t,P t:=λ_=>h _ _ _ _ _ _
theorem pr7{T0 n m l k j i:Type}{P:T0×n×m×l×k×j×i->Prop}(h:∀g f e d c b a,P (g,f,e,d,c,b,a)):∀t,P t:=λ_=>h _ _ _ _ _ _ _
abbrev MLo(κ:PyProof.Rows.KeyKind)(a b out:Array Keyed)(k m:Nat):Prop:=MS (Rk κ) (a.toList++b.toList) out.toList (a.toList.drop k) (b.toList.drop m)
abbrev MHi(κ:PyProof.Rows.KeyKind)(a b out:Array Keyed)(k m:Nat):Prop:=MS (Rr κ) (a.toList++b.toList) out.toList (a.toList.take k).reverse (b.toList.take m).reverse
abbrev MGd(κ:PyProof.Rows.KeyKind)(a b m:Array Keyed):Prop:=P9 (Rk κ) (a.toList++b.toList) m.toList
theorem ar2{x a b:Nat}(h:x<=a+b):x+1<=a+1+b:=aw
theorem ar3{x a b r:Nat}(h:x<=a+b+(r+1)):x<=a+(b+1)+r:=aw
theorem ar4{x a b r:Nat}(h:x<=a+b+(r+1)):x<=a+1+b+r:=aw
theorem aq1{i z:Nat}(h:i<z):i+(z-i)<=z:=aw
theorem aq2{i z j:Nat}(h:i<z)(g:j<i+(z-i)):j<z:=aw
theorem aq4{c i k z:Nat}{P:Nat->Prop}(f:∀m,k<=m->m<z-c->P (c+m))(h:c+k<=i)(g:i<z):P i:=by
 have:=f (i-c) aw aw
 rwa [show c+(i-c)=i by lia]at this
theorem aq5{c k i:Nat}(h:¬ k>0)(g:c<=i):c+k<=i:=aw
theorem aq6{c k z:Nat}(h:k<=z-c)(p:k>0)(e:c+k≠z):c+k<z:=aw
theorem aq7{n k i:Nat}(h:¬ n-k>0)(g:i<n):i<k:=aw
set_option maxHeartbeats 4000000 in
theorem vo4:∃(g:GalT)(al mhi:MrgT),(∀i,mergeAt' i=ys3 g al mhi i)/\yw6 g/\xs6 al/\xs6 mhi:=by
 show⟨?g,?lo,?hi,λi=>?d,and3 ?a ?b ?c⟩
 case d=>
  delta ys3;show congr (bf Bind.bind ?_) (funext λs=>?_)
  .rfl
  .generalize hp1:(pendingOf s)[i]? =p1;generalize as:(pendingOf s)[i+1]? =p2;rcases p1 with _|⟨sa,D,pw⟩
   .rcases p2 with _|⟨sb,C,_⟩ <;> rfl
   .rcases p2 with _|⟨sb,C,_⟩
    .rfl
    .refine congr (bf Bind.bind ?_) (funext λ_=>?_)
     .rfl
     .refine congr (bf Bind.bind ?_) (funext λx=>?_)
      .rfl
      .refine congr (bf Bind.bind ?_) (funext λr=>?_)
       .exact rfl
       .cases r with
        |none=>rfl
        |some k=>
         show bf (ite _ _) ?_;show congr (bf Bind.bind ?_) (funext λy=>?_)
         .rfl
         .refine congr (bf Bind.bind ?_) (funext λr=>?_)
          .exact rfl
          .cases r with
           |none=>rfl
           |some m=>
            show ite _ _ _=ite _ _ _;show bf (ite _ _) ?_;show ite _ _ _=ite _ _ _;show congr (bf (ite _) ?_) ?_
            .refine congr (bf Bind.bind ?_) (funext λy=>?_)
             .exact rfl
             .rfl
            .refine congr (bf Bind.bind ?_) (funext λy=>?_)
             .exact rfl
             .rfl
 case a=>
  intro left ap au base n hint;delta galM;show congr (bf Bind.bind ?_) (funext λr=>?_)
  .rfl
  .cases r with
   |none=>rfl
   |some right=>
    show ite _ _ _=ite _ _ _;show congr (bf (ite _) ?_) ?_
    .refine congr (bf Bind.bind ?_) (funext λr=>?_)
     .rfl
     .let⟨r1,r2,r3⟩:=r;cases r1 with
      |some r=>rfl
      |none=>
       delta bisM;show congr (bf Bind.bind ?_) (funext λr=>?_)
       .rfl
       .let⟨r1,r2,r3⟩:=r;ext r1 <;> rfl
    .refine congr (bf Bind.bind ?_) (funext λr=>?_)
     .rfl
     .let⟨r1,r2,r3⟩:=r;cases r1 with
      |some r=>rfl
      |none=>
       delta bisM;show congr (bf Bind.bind ?_) (funext λr=>?_)
       .rfl
       .let⟨r1,r2,r3⟩:=r;ext r1 <;> rfl
 case b=>
  intro hg prog w A E s u κ B c st hk a b ha hb sa sb a1 b1 h0 h9 Q q;have pa:=seg_pair sa;have pb:=seg_pair sb;have W:∀i,(a.toList.drop i).Pairwise (Rk κ):=λi=>pa.sublist (List.drop_sublist i _);have V:∀i,(b.toList.drop i).Pairwise (Rk κ):=λi=>pb.sublist (List.drop_sublist i _);have a3:∀p F G,MS (Rk κ) (a.toList++b.toList) p.toList (a.toList.drop F) (b.toList.drop G)->G=b.size->P9 (Rk κ) (a.toList++b.toList) (p++a.extract F++b.extract G).toList:=λp F G j e=>by rw[e,show b.toList.drop b.size=[]by simp]at j;rw[bR,bR,zt4,zt4,e,show b.toList.drop b.size=[]by simp,List.append_nil];show j.finA (W _)
  have a4:∀p F G,MS (Rk κ) (a.toList++b.toList) p.toList (a.toList.drop F) (b.toList.drop G)->F=a.size->P9 (Rk κ) (a.toList++b.toList) (p++a.extract F++b.extract G).toList:=λp F G j e=>by rw[e,show a.toList.drop a.size=[]by simp]at j;rw[bR,bR,zt4,zt4,e,show a.toList.drop a.size=[]by simp,List.append_nil];show j.finB (V _)
  have lst:∀p F G,MS (Rk κ) (a.toList++b.toList) p.toList (a.toList.drop F) (b.toList.drop G)->F+1=a.size->P9 (Rk κ) (a.toList++b.toList) (p++b.extract G++a.extract F).toList:=λp F G j e=>by rw[bR,bR,zt4,zt4];show j.finBA (W _) (V _) λy X x Y=>?_;let⟨i,M,N,R⟩:=W0 (κ:=κ) X;let⟨k,k1,k2,O⟩:=W0 (κ:=κ) Y;show κ.kle _ _;rw[<-R,<-O,show k=a.size-1 by lia];show bv (sb _ _ (aW _) aw aw) (bM h9)
  have T:∀(p:Array Keyed) F G (h:G<b.size),MS (Rk κ) (a.toList++b.toList) p.toList (a.toList.drop F) (b.toList.drop G)->(∀i,F<=i->i<a.size->κ.klt (ky κ b[G]) (KK κ a i))->MS (Rk κ) (a.toList++b.toList) (p.push b[G]).toList (a.toList.drop F) (b.toList.drop (G+1)):=λp F G h j f=>by rw[zo7 h]at j;rw[cI];show j.chB (by rw[<-zo7 h];show V _) λx Y y X=>?_;rw[aZ.mp Y];let⟨k,k1,k2,O⟩:=W0 (κ:=κ) X;show κ.kle _ _;rw[<-O];show bM (f k k1 k2)
  have U:∀(p:Array Keyed) F G (h:F<a.size),MS (Rk κ) (a.toList++b.toList) p.toList (a.toList.drop F) (b.toList.drop G)->(∀i,G<=i->i<b.size->κ.kle (ky κ a[F]) (KK κ b i))->MS (Rk κ) (a.toList++b.toList) (p.push a[F]).toList (a.toList.drop (F+1)) (b.toList.drop G):=λp F G h j f=>by rw[zo7 h]at j;rw[cI];show j.chA (by rw[<-zo7 h];show W _) λx Y y X=>?_;rw[aZ.mp Y];let⟨k,k1,k2,O⟩:=W0 (κ:=κ) X;show κ.kle _ _;rw[<-O];show f k k1 k2
  have ai:∀(p:Array Keyed) F G k (h:G<b.size),MS (Rk κ) (a.toList++b.toList) p.toList (a.toList.drop F) (b.toList.drop G)->(∀i,i<k->κ.kle (KK κ a (F+i)) (ky κ b[G]))->MS (Rk κ) (a.toList++b.toList) (p++a.extract F (F+k)).toList (a.toList.drop (F+k)) (b.toList.drop G):=λp F G k h j f=>by rw[drop_take (l:=a.toList) F k]at j;rw[bR,xx7];show j.chA (by rw[<-drop_take];show W _) λx Y y X=>?_;let⟨i,M,N,R⟩:=N1 (κ:=κ) Y;let⟨m,m1,m2,O⟩:=W0 (κ:=κ) X;show κ.kle _ _;rw[<-R,<-O];show bv (f i M) ?_;rw[<-b9 (aJ h)];show sb _ _ (aW _) m1 m2
  have ah:∀(p:Array Keyed) F G k (h:F<a.size),MS (Rk κ) (a.toList++b.toList) p.toList (a.toList.drop F) (b.toList.drop G)->(∀i,i<k->κ.klt (KK κ b (G+i)) (ky κ a[F]))->MS (Rk κ) (a.toList++b.toList) (p++b.extract G (G+k)).toList (a.toList.drop F) (b.toList.drop (G+k)):=λp F G k h j f=>by rw[drop_take (l:=b.toList) G k]at j;rw[bR,xx7];show j.chB (by rw[<-drop_take];show V _) λx Y y X=>?_;let⟨i,M,N,R⟩:=N1 (κ:=κ) Y;let⟨m,m1,m2,O⟩:=W0 (κ:=κ) X;show κ.kle _ _;rw[<-R,<-O];show bv (bM (f i M)) ?_;rw[<-b9 (aJ h)];show sa _ _ (aW _) m1 m2
  have j0:MS (Rk κ) (a.toList++b.toList) (#[b[0]]:Array Keyed).toList (a.toList.drop 0) (b.toList.drop 1):=by
   have:=T #[] 0 0 b1 (by simpa using ms0) λi _ h=>by rw[<-b9 (aJ b1)];show KeyOrd.klt_of_klt_of_kle h0 (sa _ _ (aW _) (aW _) h)
   simpa using this
  show aM (wpS_lift (cn ⟨rfl,?_⟩));show aM (t4 b1 ?_);show u5 (λe=>aU (q _ _ (.refl _) (a3 _ _ _ j0 (by simpa using e)))) λR=>?_;show u5 (λe=>aU (q _ _ (.refl _) (lst _ _ _ j0 (by simpa using e)))) λO=>?_;have R:1≠b.size:=by simpa using R
  have O:0+1≠a.size:=by simpa using O
  show aM (dS ?_);show aM (m7 0 (a.size+b.size) _ _ (λr t J=>t.1=none/\St st J/\MLo κ a b t.2.1 t.2.2.1 t.2.2.2.1/\t.2.2.1+1<a.size/\t.2.2.2.1<b.size/\a.size+b.size<=t.2.2.1+t.2.2.2.1+r) _ ⟨rfl,.refl _,j0,by dsimp only;lia,by dsimp only;lia,by dsimp only;lia⟩ ?_ ?_)
  .refine λ_ r=>pr5 λo ak ab aa mg=>?_;rintro am _ _ _ ⟨H,af,j1,L,I,l3⟩;simp only at H j1 L I l3;subst H;show aM (wpS_mono (Q:=λt J=>St st J/\((∃m,t.1=some m/\MGd κ a b m)\/(t.1=none/\MLo κ a b t.2.1 t.2.2.1 t.2.2.2.1/\t.2.2.1+1<a.size/\t.2.2.2.1<b.size/\ab+aa+1<=t.2.2.1+t.2.2.2.1))) (m7 0 (a.size+b.size) _ _ (λr t J=>t.1=none/\St st J/\MLo κ a b t.2.1 t.2.2.1 t.2.2.2.1/\t.2.2.1+1<a.size/\t.2.2.2.1<b.size/\ab+aa+(a.size+b.size)<=t.2.2.1+t.2.2.2.1+r/\ab+aa<=t.2.2.1+t.2.2.2.1) _ ⟨rfl,af,j1,L,I,by dsimp only;lia,by dsimp only;lia⟩ ?_ ?_) ?_)
   .refine λ_ r=>pr6 λo p F G ac bc=>?_;rintro a6 _ _ _ ⟨H,z,j,L,I,l3,Z⟩;simp only at H j L I l3 Z;subst H;have ae:F<a.size:=aw;show aM (t4 I ?_);show aM (t4 ae ?_);show aM (c _ _ (hb _ az) (ha _ az) _ _ (z.kind.trans hk) ?_);cases hv:κ.blt (ky κ b[G]) (ky κ a[F])with
    |true=>
     show aM (t4 I ?_);have j':=T p F G I j λi M N=>KeyOrd.klt_of_klt_of_kle hv (by rw[<-b9 (aJ ae)];show sa _ _ (aW _) M N)
     show u5 (λe=>aU ⟨z,.inl ⟨_,rfl,a3 _ _ _ j' (by simpa using e)⟩⟩) λe=>?_;have e:G+1≠b.size:=by simpa using e
     show u5 (λ_=>aU ⟨z,.inr ⟨rfl,j',L,cM I e,Nat.succ_le_succ Z⟩⟩) λ_=>aU ⟨rfl,z,j',L,cM I e,ar3 l3,Nat.le_succ_of_le Z⟩
    |false=>
     show aM (t4 ae ?_);have j':=U p F G ae j λi M N=>bv hv (by rw[<-b9 (aJ I)];show sb _ _ (aW _) M N)
     show u5 (λe=>aU ⟨z,.inl ⟨_,rfl,lst _ _ _ j' (by simpa using e)⟩⟩) λe=>?_;have e:F+1+1≠a.size:=by simpa using e
     show u5 (λ_=>aU ⟨z,.inr ⟨rfl,j',cM L e,I,ar2 Z⟩⟩) λ_=>aU ⟨rfl,z,j',cM L e,I,ar4 l3,dt (ar2 Z)⟩
   .refine pr6 λo p F G ac bc=>?_;rintro a6 ⟨H,z,j,L,I,l3,Z⟩;show⟨z,.inr ⟨H,j,L,I,by dsimp only at l3 ⊢;lia⟩⟩
   .refine pr6 λo aj ar aq ac bc=>?_;rintro a6 ⟨a7,hh⟩;rcases hh with⟨m,H,gm⟩|⟨H,j2,l5,l6,l7⟩
    .simp only at H;subst H;show aU (aU (q _ _ a7 gm))
    .simp only at H j2 l5 l6 l7;subst H;show aM (wpS_lift (cn ⟨rfl,?_⟩));show aM (wpS_mono (Q:=λt J=>St st J/\((∃m,t.1=some m/\MGd κ a b m)\/(t.1=none/\MLo κ a b t.2.1 t.2.2.1 t.2.2.2.1/\t.2.2.1+1<a.size/\t.2.2.2.1<b.size/\ab+aa+1<=t.2.2.1+t.2.2.2.1))) (m7 0 (a.size+b.size) _ _ (λr t J=>t.1=none/\St st J/\MLo κ a b t.2.1 t.2.2.1 t.2.2.2.1/\t.2.2.1+1<a.size/\t.2.2.2.1<b.size/\ab+aa+1<=t.2.2.1+t.2.2.2.1) _ ⟨rfl,a7,j2,l5,l6,l7⟩ ?_ ?_) ?_)
     .refine λ_ r=>pr7 λo p F G mg ac bc=>?_;rintro a5 _ _ _ ⟨H,z,j,L,I,Z⟩;simp only at H j L I Z;subst H
      extract_lets _ _ _ _ _ _ _ _ _ _ _ _ jp
      show yi2 (f:=jp ()) λmg=>?_;dsimp -zeta +zetaDelta only;show aM (cY ?_);show aM (t4 I ?_);show aM (zd5 (base:=F) hg c (by show z.kind.trans hk) (hb _ (cz I)) ha (aq1 (Nat.lt_of_succ_lt L)) (λi j M N i3=>sa i j (aW _) N (aq2 (Nat.lt_of_succ_lt L) i3)) (Nat.sub_pos_of_lt (Nat.lt_of_succ_lt L)) λk k1 k2 k3=>?_);have jA:=ai _ _ _ k I j k2;dsimp -zeta only
      extract_lets _ jp
      show yv4 (jp ()) (λp k=>F<=k/\k+1<a.size/\MLo κ a b p k G/\∀i,k<=i->i<a.size->κ.klt (ky κ b[G]) (KK κ a i)) (λp k h=>?_) λK=>u5 (λhp=>u5 (λe=>aU ⟨⟨z.1,z.2,z.3,z.4⟩,.inl ⟨_,rfl,lst _ _ _ jA (by simpa using e)⟩⟩) λR=>u5 (λe=>aU ⟨⟨z.1,z.2,z.3,z.4⟩,.inl ⟨_,rfl,a4 _ _ _ jA (by simpa using e)⟩⟩) λO=>K _ _ ⟨aw,?_,jA,λi M N=>?_⟩) λhn=>K _ _ ⟨aw,aw,j,λi M N=>?_⟩
      rotate_left
      .have R:F+k+1≠a.size:=by simpa using R
       have O:F+k≠a.size:=by simpa using O
       show cM (aq6 k1 hp O) R
      .exact aq4 (P:=λj=>κ.klt _ (KK κ a j)) k3 M N
      .exact aq4 (P:=λj=>κ.klt _ (KK κ a j)) k3 (aq5 hn M) N
      let⟨x1,x2,jx,fx⟩:=h;have a2:k<a.size:=aw;show aM (t4 I ?_);have jy:=T _ _ _ I jx fx;show u5 (λe=>aU ⟨⟨z.1,z.2,z.3,z.4⟩,.inl ⟨_,rfl,a3 _ _ _ jy (by simpa using e)⟩⟩) λe=>?_;have e:G+1≠b.size:=by simpa using e
      show aM (t4 a2 ?_);show aM (zd4 hg c (by show z.kind.trans hk) (ha _ (cz a2)) hb (aq1 (cM I e)) (λi j M N i3=>sb i j (aW _) N (aq2 (cM I e) i3)) (Nat.sub_pos_of_lt (cM I e)) λk' m1 m2 m3=>?_);have jB:=ah _ _ _ k' a2 jy m2;dsimp -zeta only
      extract_lets _ _ jp
      show yv4 (jp ()) (λp m=>G+1<=m/\m<b.size/\MLo κ a b p k m/\∀i,m<=i->i<b.size->κ.kle (ky κ a[k]) (KK κ b i)) (λp m h=>?_) λK=>u5 (λhp=>u5 (λe=>aU ⟨⟨z.1,z.2,z.3,z.4⟩,.inl ⟨_,rfl,a3 _ _ _ jB (by simpa using e)⟩⟩) λR=>K _ _ ⟨aw,?_,jB,λi M N=>?_⟩) λhn=>K _ _ ⟨aw,aw,jy,λi M N=>?_⟩
      rotate_left
      .have R:G+1+k'≠b.size:=by simpa using R
       show aq6 m1 hp R
      .exact aq4 (P:=λj=>κ.kle _ (KK κ b j)) m3 M N
      .exact aq4 (P:=λj=>κ.kle _ (KK κ b j)) m3 (aq5 hn M) N
      let⟨y1,y2,jz,fz⟩:=h;show aM (t4 a2 ?_);have jw:=U _ _ _ a2 jz fz;show u5 (λe=>aU ⟨⟨z.1,z.2,z.3,z.4⟩,.inl ⟨_,rfl,lst _ _ _ jw (by simpa using e)⟩⟩) λe=>?_;have e:k+1+1≠a.size:=by simpa using e
      show u5 (λ_=>aU ⟨⟨z.1,z.2,z.3,z.4⟩,.inr ⟨rfl,jw,?_,y2,?_⟩⟩) λ_=>aU ⟨rfl,⟨z.1,z.2,z.3,z.4⟩,jw,?_,y2,?_⟩
      all_goals dsimp only;lia
     .refine pr7 λo p F G mg ac bc=>?_;rintro a5 ⟨H,z,j,L,I,Z⟩;show⟨z,.inr ⟨H,j,L,I,Z⟩⟩
     .refine pr7 λo p F G mg ac bc=>?_;rintro a5 ⟨z,hh⟩;rcases hh with⟨m,H,gm⟩|⟨H,j,l8,l9,ag⟩
      .simp only at H;subst H;show aU (aU (q _ _ z gm))
      .simp only at H j l8 l9 ag;subst H;show aM (cY (aU ⟨rfl,⟨z.1,z.2,z.3,z.4⟩,j,l8,l9,by dsimp only;lia⟩))
  .refine pr5 λo p F G mg=>?_;rintro J ⟨H,z,j,L,I,l3⟩;simp only at L I l3;lia
 case c=>
  intro hg prog w A E s u κ B c st hk a b ha hb sa sb a1 b1 h0 h9 Q q;have pa:=seg_pair sa;have pb:=seg_pair sb;have W:∀i,((a.toList.take i).reverse).Pairwise (Rr κ):=λi=>List.pairwise_reverse.mpr (pa.sublist (List.take_sublist i _));have V:∀i,((b.toList.take i).reverse).Pairwise (Rr κ):=λi=>List.pairwise_reverse.mpr (pb.sublist (List.take_sublist i _));have a4:∀(p:Array Keyed) D C,MS (Rr κ) (a.toList++b.toList) p.toList (a.toList.take D).reverse (b.toList.take C).reverse->D=0->P9 (Rk κ) (a.toList++b.toList) (a.extract 0 D++b.extract 0 C++p.reverse).toList:=λp D C j e=>yz7 (by subst e;have:=j.finB (by simpa using V C);simpa using this)
  have a3:∀(p:Array Keyed) D C,MS (Rr κ) (a.toList++b.toList) p.toList (a.toList.take D).reverse (b.toList.take C).reverse->C=0->P9 (Rk κ) (a.toList++b.toList) (a.extract 0 D++b.extract 0 C++p.reverse).toList:=λp D C j e=>yz7 (by subst e;have:=MS.finA (by simpa using j) (W D);simpa using this)
  have lst:∀(p:Array Keyed) D C,MS (Rr κ) (a.toList++b.toList) p.toList (a.toList.take D).reverse (b.toList.take C).reverse->C=1->P9 (Rk κ) (a.toList++b.toList) (b.extract 0 C++a.extract 0 D++p.reverse).toList:=λp D C j e=>yz7 (by
   subst e;have:=j.finAB (W D) (V 1) λx Y y X=>by let⟨i,M,N,R⟩:=X9 (κ:=κ) Y;let⟨m,m1,m2,O⟩:=X9 (κ:=κ) X;show κ.kle _ _;rw[<-R,<-O,show m=0 by lia];show bv (bM h0) (sa _ _ (aW _) (aW _) N)
   simpa using this)
  have U:∀(p:Array Keyed) D C (h:D<a.size),MS (Rr κ) (a.toList++b.toList) p.toList (a.toList.take (D+1)).reverse (b.toList.take C).reverse->(∀i,i<C->i<b.size->κ.kle (KK κ b i) (ky κ a[D]))->MS (Rr κ) (a.toList++b.toList) (p.push a[D]).toList (a.toList.take D).reverse (b.toList.take C).reverse:=λp D C h j f=>by rw[zs9 h]at j;rw[cI];show j.chA (by rw[<-zs9 h];show W _) λx Y y X=>?_;rw[aZ.mp Y];let⟨k,k1,k2,O⟩:=X9 (κ:=κ) X;show κ.kle _ _;rw[<-O];show f k k1 k2
  have T:∀(p:Array Keyed) D C (h:C<b.size),MS (Rr κ) (a.toList++b.toList) p.toList (a.toList.take D).reverse (b.toList.take (C+1)).reverse->(∀i,i<D->i<a.size->κ.kle (KK κ a i) (ky κ b[C]))->MS (Rr κ) (a.toList++b.toList) (p.push b[C]).toList (a.toList.take D).reverse (b.toList.take C).reverse:=λp D C h j f=>by rw[zs9 h]at j;rw[cI];show j.chB (by rw[<-zs9 h];show V _) λx Y y X=>?_;rw[aZ.mp Y];let⟨k,k1,k2,O⟩:=X9 (κ:=κ) X;show κ.kle _ _;rw[<-O];show f k k1 k2
  have ai:∀(p:Array Keyed) D C k (hk:k<=D) (h:C-1<b.size) (h':D<=a.size),MS (Rr κ) (a.toList++b.toList) p.toList (a.toList.take D).reverse (b.toList.take C).reverse->(∀i,k<=i->i<D->κ.klt (ky κ b[C-1]) (KK κ a i))->MS (Rr κ) (a.toList++b.toList) (p++(a.extract k D).reverse).toList (a.toList.take k).reverse (b.toList.take C).reverse:=λp D C k hk h h' j f=>by rw[zs8 (l:=a.toList) hk]at j;rw[bR,xb8];show j.chA (by rw[<-zs8 hk];show W _) λx Y y X=>?_;let⟨i,M,N,R⟩:=N1 (κ:=κ) (List.mem_reverse.mp Y);let⟨m,m1,m2,O⟩:=X9 (κ:=κ) X;show κ.kle _ _;rw[<-R,<-O];show bv ?_ (bM (f (k+i) aw aw));rw[<-b9 (aJ h)];show sb _ _ (aW _) aw h
  have ah:∀(p:Array Keyed) D C k (hk:k<=C) (h:D-1<a.size) (h':C<=b.size),MS (Rr κ) (a.toList++b.toList) p.toList (a.toList.take D).reverse (b.toList.take C).reverse->(∀i,k<=i->i<C->κ.kle (ky κ a[D-1]) (KK κ b i))->MS (Rr κ) (a.toList++b.toList) (p++(b.extract k C).reverse).toList (a.toList.take D).reverse (b.toList.take k).reverse:=λp D C k hk h h' j f=>by rw[zs8 (l:=b.toList) hk]at j;rw[bR,xb8];show j.chB (by rw[<-zs8 hk];show V _) λx Y y X=>?_;let⟨i,M,N,R⟩:=N1 (κ:=κ) (List.mem_reverse.mp Y);let⟨m,m1,m2,O⟩:=X9 (κ:=κ) X;show κ.kle _ _;rw[<-R,<-O];show bv ?_ (f (k+i) aw aw);rw[<-b9 (aJ h)];show sa _ _ (aW _) aw h
  have hl:a.size-1<a.size:=aw;have j0:MS (Rr κ) (a.toList++b.toList) (#[a[a.size-1]]:Array Keyed).toList (a.toList.take (a.size-1)).reverse (b.toList.take b.size).reverse:=by
   have:=U #[] (a.size-1) b.size hl (by
    rw[show a.size-1+1=a.size by lia];have:MS (Rr κ) (a.toList++b.toList) [] a.toList.reverse b.toList.reverse:=⟨((List.reverse_perm _).append (List.reverse_perm _)),.nil,λx h=>aV h az,λx h=>aV h az⟩;rw[List.take_of_length_le (l:=a.toList) az,List.take_of_length_le (l:=b.toList) az];show this) λi _ h=>by
    rw[<-b9 (aJ hl)];show bv (sb _ _ (aW _) aw aw) (bM h9)
   simpa using this
  show aM (wpS_lift (cn ⟨rfl,?_⟩));show aM (t4 hl ?_);show u5 (λe=>aU (q _ _ (.refl _) (a4 _ _ _ j0 (by simpa using e)))) λR=>?_;show u5 (λe=>aU (q _ _ (.refl _) (lst _ _ _ j0 (by simpa using e)))) λO=>?_;have R:a.size-1≠0:=by simpa using R
  have O:b.size≠1:=by simpa using O
  show aM (dS ?_);show aM (m7 0 (a.size+b.size) _ _ (λr t J=>t.1=none/\St st J/\MHi κ a b t.2.2.2.1 t.2.1 t.2.2.1/\(0<t.2.1/\t.2.1<=a.size)/\(1<t.2.2.1/\t.2.2.1<=b.size)/\t.2.1+t.2.2.1<=r) _ ⟨rfl,.refl _,j0,by dsimp only;lia,by dsimp only;lia,by dsimp only;lia⟩ ?_ ?_)
  .refine λ_ r=>pr5 λo a9 a8 ak mg=>?_;rintro am _ _ _ ⟨H,af,j1,L,I,l3⟩;simp only at H j1 L I l3;subst H;show aM (wpS_mono (Q:=λt J=>St st J/\((∃m,t.1=some m/\MGd κ a b m)\/(t.1=none/\MHi κ a b t.2.2.2.1 t.2.1 t.2.2.1/\(0<t.2.1/\t.2.1<=a.size)/\(1<t.2.2.1/\t.2.2.1<=b.size)/\t.2.1+t.2.2.1+1<=a9+a8))) (m7 0 (a.size+b.size) _ _ (λr t J=>t.1=none/\St st J/\MHi κ a b t.2.2.2.1 t.2.1 t.2.2.1/\(0<t.2.1/\t.2.1<=a.size)/\(1<t.2.2.1/\t.2.2.1<=b.size)/\t.2.1+t.2.2.1+(a.size+b.size)<=a9+a8+r/\t.2.1+t.2.2.1<=a9+a8) _ ⟨rfl,af,j1,L,I,by dsimp only;lia,by dsimp only;lia⟩ ?_ ?_) ?_)
   .refine λ_ r=>pr6 λo D C p ac bc=>?_;rintro a6 _ _ _ ⟨H,z,j,L,I,l3,Z⟩;simp only at H j L I l3 Z;subst H;obtain⟨D,rfl⟩:∃n,D=n+1:=⟨D-1,aw⟩;obtain⟨C,rfl⟩:∃n,C=n+1:=⟨C-1,aw⟩;have a0:D<a.size:=aw;have S:C<b.size:=aw;show aM (t4 S ?_);show aM (t4 a0 ?_);show aM (c _ _ (hb _ az) (ha _ az) _ _ (z.kind.trans hk) ?_);cases hv:κ.blt (ky κ b[C]) (ky κ a[D])with
    |true=>
     show aM (t4 a0 ?_);have j':=U p D (C+1) a0 j λi M N=>bv (by rw[<-b9 (aJ S)];show sb i C (aW _) aw S) (bM hv)
     show u5 (λe=>aU ⟨z,.inl ⟨_,rfl,a4 _ _ _ j' (by simpa using e)⟩⟩) λe=>?_;have e:¬ (_:Nat)=0:=λh=>e (beq_iff_eq.mpr h)
     try dsimp only at e
     show u5 (λ_=>aU ⟨z,.inr ⟨rfl,j',by dsimp only;lia,I,by dsimp only;lia⟩⟩) λ_=>aU ⟨rfl,z,j',by dsimp only;lia,I,by dsimp only;lia,by dsimp only;lia⟩
    |false=>
     show aM (t4 S ?_);have j':=T p (D+1) C S j λi M N=>bv (by rw[<-b9 (aJ a0)];show sa i D (aW _) aw a0) hv
     show u5 (λe=>aU ⟨z,.inl ⟨_,rfl,lst _ _ _ j' (by simpa using e)⟩⟩) λe=>?_;have e:¬ (_:Nat)=1:=λh=>e (beq_iff_eq.mpr h)
     try dsimp only at e
     show u5 (λ_=>aU ⟨z,.inr ⟨rfl,j',L,by dsimp only;lia,by dsimp only;lia⟩⟩) λ_=>aU ⟨rfl,z,j',L,by dsimp only;lia,by dsimp only;lia,by dsimp only;lia⟩
   .refine pr6 λo D C p ac bc=>?_;rintro a6 ⟨H,z,j,L,I,l3,Z⟩;show⟨z,.inr ⟨H,j,L,I,by dsimp only at l3 ⊢;lia⟩⟩
   .refine pr6 λo ao an aj ac bc=>?_;rintro a6 ⟨a7,hh⟩;rcases hh with⟨m,H,gm⟩|⟨H,j2,l5,l6,l7⟩
    .simp only at H;subst H;show aU (aU (q _ _ a7 gm))
    .simp only at H j2 l5 l6 l7;subst H;show aM (wpS_lift (cn ⟨rfl,?_⟩));show aM (wpS_mono (Q:=λt J=>St st J/\((∃m,t.1=some m/\MGd κ a b m)\/(t.1=none/\MHi κ a b t.2.2.2.1 t.2.1 t.2.2.1/\(0<t.2.1/\t.2.1<=a.size)/\(1<t.2.2.1/\t.2.2.1<=b.size)/\t.2.1+t.2.2.1+1<=a9+a8))) (m7 0 (a.size+b.size) _ _ (λr t J=>t.1=none/\St st J/\MHi κ a b t.2.2.2.1 t.2.1 t.2.2.1/\(0<t.2.1/\t.2.1<=a.size)/\(1<t.2.2.1/\t.2.2.1<=b.size)/\t.2.1+t.2.2.1+1<=a9+a8) _ ⟨rfl,a7,j2,l5,l6,l7⟩ ?_ ?_) ?_)
     .refine λ_ r=>pr7 λo D C p mg ac bc=>?_;rintro a5 _ _ _ ⟨H,z,j,L,I,Z⟩;simp only at H j L I Z;subst H;have S:C-1<b.size:=aw
      extract_lets _ _ _ _ _ _ _ _ _ _ _ _ jp
      show yi2 (f:=jp ()) λmg=>?_;dsimp -zeta +zetaDelta only;show aM (cY ?_);show aM (t4 S ?_);show aM (zd5 (base:=0) (n:=D) (hint:=D-1) hg c (by show z.kind.trans hk) (hb _ (cz S)) ha aw (λi j M N i3=>sa i j (aW _) N aw) (Nat.sub_one_lt_of_lt L.1) λk k1 k2 k3=>?_);simp only[Nat.zero_add]at k2 k3;have jA:=ai _ _ _ k k1 S aw j k3;dsimp -zeta only
      extract_lets _ _ jp
      show yv4 (jp ()) (λm p=>m<=D/\0<m/\MHi κ a b p m C/\∀i,i<m->i<a.size->κ.kle (KK κ a i) (ky κ b[C-1])) (λm p h=>?_) λK=>u5 (λhp=>u5 (λe=>aU ⟨⟨z.1,z.2,z.3,z.4⟩,.inl ⟨_,rfl,a4 _ _ _ jA (by simpa using e)⟩⟩) λR=>K _ _ ⟨aw,?_,jA,λi M N=>k2 i M⟩) λhn=>K _ _ ⟨aw,aw,j,λi M N=>k2 i ?_⟩
      rotate_left
      .have R:k≠0:=by simpa using R
       lia
      .exact aq7 hn M
      let⟨x1,x2,jx,fx⟩:=h;obtain⟨C,rfl⟩:∃n,C=n+1:=⟨C-1,(Nat.sub_add_cancel (dt I.1)).symm⟩;have S:C<b.size:=aw;show aM (t4 S ?_);have jy:=T _ _ _ S jx fx;show u5 (λe=>aU ⟨⟨z.1,z.2,z.3,z.4⟩,.inl ⟨_,rfl,lst _ _ _ jy (by simpa using e)⟩⟩) λe=>?_;have e:¬ (_:Nat)=1:=λh=>e (beq_iff_eq.mpr h)
      try dsimp only at e
      have ad:m-1<a.size:=bb (Nat.sub_one_lt_of_lt x2) (bD x1 L.2);show aM (t4 ad ?_);show aM (zd4 (base:=0) (n:=C) (hint:=C-1) hg c (by show z.kind.trans hk) (ha _ (cz ad)) hb aw (λi j M N i3=>sb i j (aW _) N aw) (Nat.sub_one_lt_of_lt (Nat.lt_of_succ_lt_succ I.1)) λk' m1 m2 m3=>?_);simp only[Nat.zero_add]at m2 m3;have jB:=ah _ _ _ k' m1 ad aw jy m3;dsimp -zeta only
      extract_lets _ _ _ jp
      show yv4 (jp ()) (λv p=>v<=C/\1<v/\MHi κ a b p m v/\∀i,i<v->i<b.size->κ.kle (KK κ b i) (ky κ a[m-1])) (λv p h=>?_) λK=>u5 (λhp=>u5 (λe=>aU ⟨⟨z.1,z.2,z.3,z.4⟩,.inl ⟨_,rfl,lst _ _ _ jB (by simpa using e)⟩⟩) λe3=>u5 (λe=>aU ⟨⟨z.1,z.2,z.3,z.4⟩,.inl ⟨_,rfl,a3 _ _ _ jB (by simpa using e)⟩⟩) λe4=>K _ _ ⟨aw,?_,jB,λi M N=>bM (m2 i M)⟩) λhn=>K _ _ ⟨aw,aw,jy,λi M N=>bM (m2 i ?_)⟩
      rotate_left
      .have e3:k'≠1:=by simpa using e3
       have e4:k'≠0:=by simpa using e4
       lia
      .exact aq7 hn M
      let⟨y1,y2,jz,fz⟩:=h;obtain⟨m,rfl⟩:∃n,m=n+1:=⟨m-1,(Nat.sub_add_cancel x2).symm⟩;have a0:m<a.size:=aw;show aM (t4 a0 ?_);have jw:=U _ _ _ a0 jz fz;show u5 (λe=>aU ⟨⟨z.1,z.2,z.3,z.4⟩,.inl ⟨_,rfl,a4 _ _ _ jw (by simpa using e)⟩⟩) λe=>?_;have e:¬ (_:Nat)=0:=λh=>e (beq_iff_eq.mpr h)
      try dsimp only at e
      show u5 (λ_=>aU ⟨⟨z.1,z.2,z.3,z.4⟩,.inr ⟨rfl,jw,?_,?_,?_⟩⟩) λ_=>aU ⟨rfl,⟨z.1,z.2,z.3,z.4⟩,jw,?_,?_,?_⟩
      all_goals dsimp only;lia
     .refine pr7 λo D C p mg ac bc=>?_;rintro a5 ⟨H,z,j,L,I,Z⟩;show⟨z,.inr ⟨H,j,L,I,Z⟩⟩
     .refine pr7 λo D C p mg ac bc=>?_;rintro a5 ⟨z,hh⟩;rcases hh with⟨m,H,gm⟩|⟨H,j,l8,l9,ag⟩
      .simp only at H;subst H;show aU (aU (q _ _ z gm))
      .simp only at H j l8 l9 ag;subst H;show aM (cY (aU ⟨rfl,⟨z.1,z.2,z.3,z.4⟩,j,l8,l9,by dsimp only;lia⟩))
  .refine pr5 λo D C p mg=>?_;rintro J ⟨H,z,j,L,I,l3⟩;simp only at L I l3;lia
end
end TS
namespace TS
section
variable {prog:Program}{w:World}{A:Around}{E:Qa}{s:Shared}{b:Array Keyed}{κ:PyProof.Rows.KeyKind}{d:SortKind}{st:SortSt}
theorem yi0(sa:Nat):∀(l:List Keyed)(n:Nat)(arr:Array Keyed),sa+n+l.length<=arr.size->∀k,(List.foldl (λ(a:Array Keyed)(x:Keyed×Nat)=>match x with | (p,j)=>a.setIfInBounds (sa+j) p) arr (l.zipIdx n))[k]? =if sa+n<=k/\k<sa+n+l.length then l[k-(sa+n)]? else arr[k]?
 |[],n,arr,h,k=>by rw[List.zipIdx_nil,List.foldl_nil,aF az]
 |x::l,n,arr,h,k=>by
  simp only[List.length_cons]at h;rw[List.zipIdx_cons,List.foldl_cons,yi0 sa l (n+1) _ (by simp;lia)];simp only[List.length_cons];by_cases e:k=sa+n
  .subst e;rw[aF aw,aH aw,Array.getElem?_setIfInBounds_self_of_lt aw];simp
  .by_cases c:sa+(n+1)<=k/\k<sa+(n+1)+l.length
   .rw[aH c,aH aw,show k-(sa+n)=(k-(sa+(n+1)))+1 by lia,List.getElem?_cons_succ]
   .rw[aF c,aF aw,Array.getElem?_setIfInBounds_ne aw]
theorem yj9{arr m:Array Keyed}{sa:Nat}(h:sa+m.size<=arr.size):(wr arr sa m).toList=arr.toList.take sa++m.toList++arr.toList.drop (sa+m.size):=by
 show List.ext_getElem? λk=>?_;have:=yi0 sa m.toList 0 arr (by simpa using h) k;rw[cu];delta wr;rw[this];simp only[Array.length_toList,Nat.add_zero];have a:(arr.toList.take sa).length=sa:=by simp;lia
 by_cases c:k<sa
 .rw[aF aw,cH,List.getElem?_append_left aw,List.getElem?_take_of_lt c,cu]
 .by_cases h2:k<sa+m.size
  .rw[aH aw,cH,List.getElem?_append_right aw,List.getElem?_append_left (by simp;lia),a,cu]
  .rw[aF aw,List.getElem?_append_right (by simp;lia),List.getElem?_drop,cu];congr 1;simp;lia
theorem vq2{arr m:Array Keyed}{sa:Nat}(h:sa+m.size<=arr.size)(k:Nat):KK κ (wr arr sa m) k=if sa<=k/\k<sa+m.size then KK κ m (k-sa)else KK κ arr k:=by
 have:=yi0 sa m.toList 0 arr (by simpa using h) k;simp at this;split
 .rename_i h1;rw[aH h1]at this;show KK_congr this
 .rename_i h1;rw[aF h1]at this;show KK_congr this
theorem wz2{arr m:Array Keyed}{sa a:Nat}(h:a<=arr.size)(f:sa<=a)(p:m.toList.Perm (arr.extract sa a).toList):(wr arr sa m).Perm arr:=by
 have c:m.size=a-sa:=by have:=p.length_eq;simp at this;lia
 rw[dG,yj9 aw];have e:arr.toList=arr.toList.take sa++(arr.extract sa a).toList++arr.toList.drop (sa+m.size):=by
  rw[c,Array.toList_extract,List.extract,show sa+(a-sa)=a by lia]
  conv=>lhs;rw[<-List.take_append_drop a arr.toList]
  congr 1
  conv=>lhs;rw[show a=sa+(a-sa)by lia,List.take_add]
 conv=>rhs;rw[e]
 show(p.append_left _).append_right _
theorem zr7{arr a:Array Keyed}{lo p q hi:Nat}(c:∀k,k<p\/q<=k->KK κ a k=KK κ arr k)(y:Seg κ a p q)(t:∀k,p<=k->k<q->∃r,p<=r/\r<q/\KK κ a k=KK κ arr r)(x:Seg κ arr lo p)(v:Seg κ arr q hi)
  (n:∀i r,lo<=i->i<p->p<=r->r<q->κ.kle (KK κ arr i) (KK κ arr r)) (l:∀r j,p<=r->r<q->q<=j->j<hi->κ.kle (KK κ arr r) (KK κ arr j)) (m:∀i j,lo<=i->i<p->q<=j->j<hi->κ.kle (KK κ arr i) (KK κ arr j)):Seg κ a lo hi:=by
 intro i j h g f;by_cases o:i<p
 .rw[c i (.inl o)];by_cases u:j<p
  .rw[c j (.inl u)];show x i j h g u
  .by_cases b2:j<q
   .let⟨r,r1,r2,e⟩:=t j aw b2;rw[e];show n i r h o r1 r2
   .rw[c j (.inr aw)];show m i j h o aw f
 .by_cases a2:i<q
  .by_cases b2:j<q
   .exact y i j aw g b2
   .let⟨r,r1,r2,e⟩:=t i aw a2;rw[e,c j (.inr aw)];show l r j r1 r2 aw f
  .rw[c i (.inr aw),c j (.inr aw)];show v i j aw g f
theorem zm1{arr:Array Keyed}{i j m:Nat}(a:j<=arr.size)(h:m<j-i):KK κ (arr.extract i j) m=KK κ arr (i+m):=by show KK_congr ?_;rw[Array.getElem?_extract,aH aw]
theorem wj5{c:Type}{st a:c}{Q:PUnit->c->Prop}(q:Q ⟨⟩ a):wpS M A E s (set a) Q st:=aD ⟨rfl,q⟩
theorem yo2{i sa a pw t l pw2:Nat}(c:CL (model prog w) A E s b κ d)(h:SB b d st)(h1:(pendingOf st)[i]? =some (sa,a,pw))(h2:(pendingOf st)[i+1]? =some (t,l,pw2))(hs:t=sa+a)(n1:1<=a)(n2:1<=l)(hz:t+l<=b.size)(v:Seg κ (arrOf st) sa t)(o:Seg κ (arrOf st) t (t+l)){Q:Bool->SortSt->Prop}
  (q:∀st',SB b d st'->pendingOf st'=((pendingOf st).setIfInBounds i (sa,a+l,pw)).eraseIdxIfInBounds (i+1)->Seg κ (arrOf st') sa (t+l)->(∀k,k<sa\/t+l<=k->KK κ (arrOf st') k=KK κ (arrOf st) k)->Q true st'):wpS (model prog w) A E s (mergeAt' i) Q st:=by
 let⟨g,a0,a1,eq,hg,S,T⟩:=vo4;rw[eq];show aM (dS ?_);rw[h1,h2];subst hs;have sz:=h.size;have C:(sa+a)<(arrOf st).size:=aw;show aM (wj5 ?_);show aM (t4 C ?_);show aM (zd5 hg c (by show h.kind) (h.mem _ (cz C)) h.mem aw v aw λk k1 L k3=>?_);rw[<-b9 (aJ C)]at L k3;have N:SB b d (setPending st (((pendingOf st).setIfInBounds i (sa,a+l,pw)).eraseIdxIfInBounds (i+1))):=⟨h.perm,h.kind,h.failed⟩;show u5 (λe=>aU (q _ N rfl ?_ λ_ _=>rfl)) λe1=>?_
 .have e:a-k=0:=by simpa using e
  show zr7 (λ_ _=>rfl) (λ_ _ _ _ _=>by lia) (λ_ _ _=>by lia) v o (λ_ _ _ _ _ _=>by lia) (λ_ _ _ _ _ _=>by lia) λi j n f I z=>?_;have:=L (i-sa) aw;rw[show sa+(i-sa)=i by lia]at this;show bv this (o _ _ (aK _) I z)
 have P:sa+k+(a-k)-1<(arrOf st).size:=aw;show aM (t4 P ?_);show aM (zd4 hg c (by show h.kind) (h.mem _ (cz P)) h.mem aw o aw λm m1 m2 O=>?_);rw[<-b9 (aJ P),show sa+k+(a-k)-1=(sa+a)-1 by lia]at m2 O;show u5 (λe=>aU (q _ N rfl ?_ λ_ _=>rfl)) λe2=>?_
 .have e:m=0:=by simpa using e
  show zr7 (λ_ _=>rfl) (λ_ _ _ _ _=>by lia) (λ_ _ _=>by lia) v o (λ_ _ _ _ _ _=>by lia) (λ_ _ _ _ _ _=>by lia) λi j n f I z=>?_;have:=O (j-(sa+a)) aw aw;rw[show (sa+a)+(j-(sa+a))=j by lia]at this;show bv (v i ((sa+a)-1) n aw aw) this
 have W:((arrOf st).extract (sa+k) (sa+a)).size=a-k:=by simp;lia
 have V:((arrOf st).extract (sa+a) ((sa+a)+m)).size=m:=by simp;lia
 have fin:∀(y:Array Keyed)(st':SortSt),St (setPending st (((pendingOf st).setIfInBounds i (sa,a+l,pw)).eraseIdxIfInBounds (i+1))) st'->P9 (Rk κ) (((arrOf st).extract (sa+k) (sa+a)).toList++((arrOf st).extract (sa+a) ((sa+a)+m)).toList) y.toList->wpS (model prog w) A E s (zo1 (sa+k) y) Q st':=by
  intro y st' K ⟨gp,gs⟩;show aM (cY ?_);show aM (dS ?_);have hf:=K.failed.trans h.failed;rw[hf];have U:=K.arr;have D:y.toList.Perm ((arrOf st).extract (sa+k) ((sa+a)+m)).toList:=by show gp.trans ?_;rw[<-bR,Array.extract_append_extract,show min (sa+k) (sa+a)=sa+k by lia,show max (sa+a) ((sa+a)+m)=(sa+a)+m by lia]
  have zm:y.size=((sa+a)+m)-(sa+k):=by have:=D.length_eq;simp at this;lia
  have H:=vq2 (κ:=κ) (arr:=arrOf st) (m:=y) (sa:=sa+k) aw;show aU (q _ ⟨?_,K.kind.trans h.kind,hf⟩ K.pend ?_ ?_)
  .rw[U];show(wz2 aw aw D).trans h.perm
  .rw[U];have sg:=xm7 gs;show zr7 (p:=sa+k) (q:=(sa+a)+m) (λj M=>?_) (λi j n f B=>?_) (λj I z=>?_) (λi j n f B=>v i j n f aw) (λi j n f B=>o i j aw f B) (λi r n f r1 r2=>?_) (λr j r1 r2 I z=>?_) λi j n f I z=>?_
   .rw[H,aF aw]
   .rw[H,H,aH aw,aH aw];show sg _ _ (aW _) aw aw
   .rw[H,aH aw];have M:j-(sa+k)<y.size:=aw;rw[b9 (aJ M)];have hm:=D.mem_iff.mp (cz M);let⟨r,u,er⟩:=List.getElem_of_mem hm;have R:r<(sa+a)+m-(sa+k):=by simp at u;omega
    show⟨sa+k+r,aw,aw,?_⟩;rw[<-er,<-zm1 aw R,b9 (aJ (by simp;lia))];simp
   .rcases bi r (sa+a)with u|u
    .exact v i r n aw u
    .have:=L (i-sa) aw;rw[show sa+(i-sa)=i by lia]at this;show bv this (o _ _ (aK _) u aw)
   .rcases bi r (sa+a)with u|u
    .have:=O (j-(sa+a)) aw aw;rw[show (sa+a)+(j-(sa+a))=j by lia]at this;show bv (v r ((sa+a)-1) aw aw aw) this
    .exact o r j u aw z
   .have:=L (i-sa) aw;rw[show sa+(i-sa)=i by lia]at this;show bv this (o _ _ (aK _) aw z)
  .intro j M;rw[U,H,aF aw]
 have ma:∀x,x∈((arrOf st).extract (sa+k) (sa+a)).toList->x∈b.toList:=λx J=>h.mem x (by rw[Array.toList_extract,List.extract]at J;show List.mem_of_mem_drop (List.mem_of_mem_take J))
 have Z:∀x,x∈((arrOf st).extract (sa+a) ((sa+a)+m)).toList->x∈b.toList:=λx J=>h.mem x (by rw[Array.toList_extract,List.extract]at J;show List.mem_of_mem_drop (List.mem_of_mem_take J))
 have G:Seg κ ((arrOf st).extract (sa+k) (sa+a)) 0 ((arrOf st).extract (sa+k) (sa+a)).size:=λi j _ f B=>by rw[W]at B;rw[zm1 aw aw,zm1 aw aw];show v _ _ aw aw aw
 have F:Seg κ ((arrOf st).extract (sa+a) ((sa+a)+m)) 0 ((arrOf st).extract (sa+a) ((sa+a)+m)).size:=λi j _ f B=>by rw[V]at B;rw[zm1 aw aw,zm1 aw aw];show o _ _ aw aw aw
 have Y:κ.klt (KK κ ((arrOf st).extract (sa+a) ((sa+a)+m)) 0) (KK κ ((arrOf st).extract (sa+k) (sa+a)) 0):=by rw[zm1 aw aw,zm1 aw aw];show k3 k (aK _) aw
 have X:κ.klt (KK κ ((arrOf st).extract (sa+a) ((sa+a)+m)) (((arrOf st).extract (sa+a) ((sa+a)+m)).size-1)) (KK κ ((arrOf st).extract (sa+k) (sa+a)) (((arrOf st).extract (sa+k) (sa+a)).size-1)):=by rw[W,V,zm1 aw aw,zm1 aw aw,show sa+k+(a-k-1)=(sa+a)-1 by lia];show m2 (m-1) aw
 show u5 (λ_=>?_) (λ_=>?_)
 .exact aM (S _ _ _ _ _ _ _ _ c _ N.kind _ _ ma Z G F aw aw Y X _ fin)
 .exact aM (T _ _ _ _ _ _ _ _ c _ N.kind _ _ ma Z G F aw aw Y X _ fin)
end
end TS
namespace TS
section
variable {prog:Program}{w:World}{A:Around}{E:Qa}{s:Shared}{g:Array Keyed}{κ:PyProof.Rows.KeyKind}{u:SortKind}{st:SortSt}
noncomputable def Runs(κ:PyProof.Rows.KeyKind)(arr:Array Keyed):List (Nat×Nat×Nat)->Nat->Nat->Prop
 |[],lo,hi=>lo=hi
 | (s,n,_)::ps,lo,hi=>s=lo/\1<=n/\Seg κ arr s (s+n)/\Runs κ arr ps (s+n) hi
theorem Runs.app:∀{j i:List (Nat×Nat×Nat)}{lo hi:Nat},Runs κ arr (j++i) lo hi↔∃m,Runs κ arr j lo m/\Runs κ arr i m hi
 |[],i,lo,hi=>⟨λh=>⟨lo,rfl,h⟩,λf=>by let⟨m,e,h⟩:=f;ext e;show h⟩
 | (s,n,p)::j,i,lo,hi=>⟨λf=>by let⟨a,b,c,d⟩:=f;let⟨m,l,k⟩:=Runs.app.mp d;show⟨m,⟨a,b,c,l⟩,k⟩,λzQ=>by let⟨m,⟨a,b,c,d⟩,h⟩:=zQ;show ⟨a,b,c,Runs.app.mpr ⟨m,d,h⟩⟩⟩
theorem Runs.len:∀{l:List (Nat×Nat×Nat)}{lo hi:Nat},Runs κ arr l lo hi->lo+l.length<=hi
 |[],lo,hi,h=>by ext h;simp
 | (s,n,p)::l,lo,hi,⟨a,b,_,d⟩=>by have:=d.len;simp;lia
theorem Runs.congr:∀{l:List (Nat×Nat×Nat)}{lo hi:Nat},Runs κ arr l lo hi->(∀k,lo<=k->k<hi->KK κ v k=KK κ arr k)->Runs κ v l lo hi
 |[],lo,hi,h,_=>h
 | (s,n,p)::l,lo,hi,⟨a,b,c,d⟩,e=>⟨a,b,c.congr λk i f=>e k aw (by have:=d.len;lia),d.congr λk i f=>e k aw f⟩
theorem xx8{b:Type}{a l2:List b}{x y z:b}:(((a++x::y::l2).set a.length z).eraseIdx (a.length+1))=a++z::l2:=by rw[List.set_append_right _ _ (aK _),Nat.sub_self,List.set_cons_zero,List.eraseIdx_append_of_length_le aw];simp
theorem yi1{i hi:Nat}(c:CL (model prog w) A E s g κ u)(h:SB g u st)(t:Runs κ (arrOf st) (pendingOf st).toList 0 hi)(o:i+1<(pendingOf st).size)(T:hi<=g.size){Q:Bool->SortSt->Prop}
  (q:∀d,SB g u d->Runs κ (arrOf d) (pendingOf d).toList 0 hi->(pendingOf d).size+1=(pendingOf st).size->(∀k,hi<=k->KK κ (arrOf d) k=KK κ (arrOf st) k)->Q true d):wpS (model prog w) A E s (mergeAt' i) Q st:=by
 have N:i+1<(pendingOf st).toList.length:=by simpa using o
 obtain⟨l,x,y,l2,e,p⟩:∃l x y l2,(pendingOf st).toList=l++x::y::l2/\l.length=i:=by show⟨(pendingOf st).toList.take i,(pendingOf st).toList[i],(pendingOf st).toList[i+1],(pendingOf st).toList.drop (i+2),?_,by simp;lia⟩;rw[<-List.drop_eq_getElem_cons N,<-List.drop_eq_getElem_cons ax,List.take_append_drop]
 let⟨C,L,pw⟩:=x;let⟨R,K,pw2⟩:=y;rw[e]at t;let⟨m,J,I,H,G,j,F,D,r⟩:=Runs.app.mp t;have z:=r.len;show yo2 c h (pw:=pw) (pw2:=pw2) (by rw[<-cu,e,<-p];simp) (by rw[<-cu,e,<-p];simp) j H F aw (j ▸ G) D λd O P B n=>?_;have f:(pendingOf d).toList=l++(C,L+K,pw)::l2:=by rw[P,Array.toList_eraseIdxIfInBounds,Array.toList_setIfInBounds,e,<-p,xx8]
 show q d O ?_ ?_ λk U=>n k (.inr aw)
 .rw[f];show Runs.app.mpr ⟨m,J.congr λk _ M=>n k (.inl aw),I,aw,by rw[<-dL,<-j];show B,?_⟩;rw[<-dL,<-j];show r.congr λk S M=>n k (.inr ax)
 .have a:=bf List.length f;have b:=bf List.length e;simp at a b;lia
theorem yu1{l:List (Nat×Nat×Nat)}{n:Nat}(h:Runs κ arr l 0 n)(e:l.length<=1):Seg κ arr 0 n:=by
 match l,h with
 |[],h=>ext h;show λi j _ _ h=>aV h (Nat.not_lt_zero _)
 |[(s,m,p)],⟨a,b,c,d⟩=>subst a;subst d;show c
 |_::_::_,_=>simp at e
theorem Runs.mod{f:Nat×Nat×Nat->Nat×Nat×Nat}(e:∀x,(f x).1=x.1/\(f x).2.1=x.2.1):∀{l:List (Nat×Nat×Nat)}{lo hi:Nat}(i:Nat),Runs κ arr l lo hi->Runs κ arr (l.modify i f) lo hi
 |[],lo,hi,i,h=>by simpa using h
 | (s,n,p)::l,lo,hi,0,h=>by rw[List.modify_zero_cons];have:=e (s,n,p);revert this;generalize f (s,n,p)=x;let⟨a,b,c⟩:=x;rintro⟨k,j⟩;simp only at k j;subst k j;show h
 | (s,n,p)::l,lo,hi,i+1,⟨a,b,c,d⟩=>by rw[List.modify_succ_cons];show⟨a,b,c,Runs.mod e i d⟩
theorem zz4{b:Array (Nat×Nat×Nat)}{lo hi pw:Nat}(h:Runs κ arr b.toList lo hi):Runs κ arr (b.modify (b.size-1) λx=>match x with | (st,a,_)=>(st,a,pw)).toList lo hi:=by rw[Array.toList_modify];show Runs.mod (f:=λx=>match x with | (st,a,_)=>(st,a,pw)) (λx=>⟨rfl,rfl⟩) _ h
theorem wz3(c:CL (model prog w) A E s g κ u)(h:SB g u st)(hp:pendingOf st=#[]){Q:Unit->SortSt->Prop}
  (q:∀f,(arrOf f).Perm g->failedOf f=none->SortedToK κ (arrOf f) g.size->Q () f):wpS (model prog w) A E s sortRuns' Q st:=by
 rw[sortRuns'_eq];show aM (dS ?_);have sz:=h.size;show aM (wpS_mono (Q:=λt f=>t.1=none/\SB g u f/\Runs κ (arrOf f) (pendingOf f).toList 0 g.size) (m7 0 (arrOf st).size _ _ (λr t f=>t.1=none/\SB g u f/\Runs κ (arrOf f) (pendingOf f).toList 0 t.2/\t.2<=g.size/\g.size<=t.2+r) _ ⟨rfl,h,by rw[hp];rfl,aw,aw⟩ ?_ ?_) ?_)
 .rintro _ r ⟨o,lo⟩ st1 _ _ _ ⟨ho,K,r1,l1,l2⟩;show u5 (λe=>aU ⟨rfl,K,?_⟩) λe=>?_
  .have e:=e;rw[show lo=g.size by lia]at r1;show r1
  show aM (zd6 c K aw aw λm y V m1 m2 U=>?_);have L:Runs κ (arrOf y) (pendingOf y).toList 0 lo:=by rw[V.pend];show r1.congr λk _ I=>V.pre k I
  show u5 (λe2=>?_) (λe2=>?_)
  .refine aM (wpS_lift (cn ⟨rfl,?_⟩));show aM (wj7 c V.sb m1 aw aw U λC R X=>?_);have H:=R.sb;have T:Runs κ (arrOf C) (pendingOf C).toList 0 lo:=by rw[R.pend];show L.congr λk _ I=>R.pre k I
   have hG:=X;have hN:1<=min ((arrOf st).size-lo) (minRun' (arrOf st).size (arrOf st).size 0):=aw;have P:lo+min ((arrOf st).size-lo) (minRun' (arrOf st).size (arrOf st).size 0)<=g.size:=aw;show u5 (λe=>aV e az) λ_=>?_;revert hG hN P;generalize min ((arrOf st).size-lo) (minRun' (arrOf st).size (arrOf st).size 0)=N;intro hG hN P;show aM (dS ?_);have D:∀d:SortSt,SB g u d->Runs κ (arrOf d) (pendingOf d).toList 0 lo->(∀k,lo<=k->KK κ (arrOf d) k=KK κ (arrOf C) k)->Runs κ (arrOf d) ((pendingOf d).push (lo,N,0)).toList 0 (lo+N):=λd l z B=>by rw[cI];show Runs.app.mpr ⟨lo,z,rfl,hN,hG.congr λk k1 _=>B k k1,rfl⟩
   have F:∀(d:SortSt)(M:Nat),SB g u d->Runs κ (arrOf d) (pendingOf d).toList 0 lo->(∀k,lo<=k->KK κ (arrOf d) k=KK κ (arrOf C) k)->Runs κ (arrOf d) (((pendingOf d).modify ((pendingOf d).size-1) λx=>match x with | (a,b,_)=>(a,b,M)).push (lo,N,0)).toList 0 (lo+N):=λd M l z B=>D (setPending d ((pendingOf d).modify ((pendingOf d).size-1) λx=>match x with | (a,b,_)=>(a,b,M))) ⟨l.perm,l.kind,l.failed⟩ (zz4 z) B;rcases hb:(pendingOf C).back? with _|⟨s1,n1,Z⟩
   .exact aM (cY (aU ⟨rfl,⟨H.perm,H.kind,H.failed⟩,D C H T λ_ _=>rfl,P,aw⟩))
   .refine aM (wpS_mono (Q:=λt f=>t.1=none/\SB g u f/\Runs κ (arrOf f) (pendingOf f).toList 0 lo/\∀k,lo<=k->KK κ (arrOf f) k=KK κ (arrOf C) k) (m7 0 _ _ _ (λ_ t f=>t.1=none/\SB g u f/\Runs κ (arrOf f) (pendingOf f).toList 0 lo/\∀k,lo<=k->KK κ (arrOf f) k=KK κ (arrOf C) k) _ ⟨rfl,H,T,λ_ _=>rfl⟩ ?_ ?_) ?_)
    .rintro _ r ⟨o,_⟩ d _ _ _ ⟨ho,l,z,B⟩;show aM (dS ?_);dsimp only;by_cases G:(pendingOf d).size>1
     .rcases he:(pendingOf d)[(pendingOf d).size-2]? with _|⟨x1,x2,O⟩
      .rw[aH G];show aU ⟨rfl,l,z,B⟩
      .rw[aH G];show u5 (λ_=>aU ⟨rfl,l,z,B⟩) λ_=>?_;show aM (yi1 c l z aw aw λW h4 Y _ k4=>aU ⟨rfl,h4,Y,λk I=>(k4 k I).trans (B k I)⟩)
     .rw[aF G];show aU ⟨rfl,l,z,B⟩
    .rintro⟨o,_⟩ d h;show h
    .rintro⟨o,_⟩ d ⟨ho,l,z,B⟩;subst ho;show aM (cY ?_);show aM (cY (aU ⟨rfl,⟨l.perm,l.kind,l.failed⟩,F d _ l z B,P,aw⟩))
  .have H:=V.sb;have T:=L;have P:lo+m<=g.size:=aw;show aM (dS ?_);have D:∀d:SortSt,SB g u d->Runs κ (arrOf d) (pendingOf d).toList 0 lo->(∀k,lo<=k->KK κ (arrOf d) k=KK κ (arrOf y) k)->Runs κ (arrOf d) ((pendingOf d).push (lo,m,0)).toList 0 (lo+m):=λd l z B=>by rw[cI];show Runs.app.mpr ⟨lo,z,rfl,m1,U.congr λk k1 _=>B k k1,rfl⟩
   have F:∀(d:SortSt)(M:Nat),SB g u d->Runs κ (arrOf d) (pendingOf d).toList 0 lo->(∀k,lo<=k->KK κ (arrOf d) k=KK κ (arrOf y) k)->Runs κ (arrOf d) (((pendingOf d).modify ((pendingOf d).size-1) λx=>match x with | (a,b,_)=>(a,b,M)).push (lo,m,0)).toList 0 (lo+m):=λd M l z B=>D (setPending d ((pendingOf d).modify ((pendingOf d).size-1) λx=>match x with | (a,b,_)=>(a,b,M))) ⟨l.perm,l.kind,l.failed⟩ (zz4 z) B;rcases hb:(pendingOf y).back? with _|⟨s1,n1,Z⟩
   .exact aM (cY (aU ⟨rfl,⟨H.perm,H.kind,H.failed⟩,D y H T λ_ _=>rfl,P,aw⟩))
   .refine aM (wpS_mono (Q:=λt f=>t.1=none/\SB g u f/\Runs κ (arrOf f) (pendingOf f).toList 0 lo/\∀k,lo<=k->KK κ (arrOf f) k=KK κ (arrOf y) k) (m7 0 _ _ _ (λ_ t f=>t.1=none/\SB g u f/\Runs κ (arrOf f) (pendingOf f).toList 0 lo/\∀k,lo<=k->KK κ (arrOf f) k=KK κ (arrOf y) k) _ ⟨rfl,H,T,λ_ _=>rfl⟩ ?_ ?_) ?_)
    .rintro _ r ⟨o,_⟩ d _ _ _ ⟨ho,l,z,B⟩;show aM (dS ?_);dsimp only;by_cases G:(pendingOf d).size>1
     .rcases he:(pendingOf d)[(pendingOf d).size-2]? with _|⟨x1,x2,O⟩
      .rw[aH G];show aU ⟨rfl,l,z,B⟩
      .rw[aH G];show u5 (λ_=>aU ⟨rfl,l,z,B⟩) λ_=>?_;show aM (yi1 c l z aw aw λW h4 Y _ k4=>aU ⟨rfl,h4,Y,λk I=>(k4 k I).trans (B k I)⟩)
     .rw[aF G];show aU ⟨rfl,l,z,B⟩
    .rintro⟨o,_⟩ d h;show h
    .rintro⟨o,_⟩ d ⟨ho,l,z,B⟩;subst ho;show aM (cY ?_);show aM (cY (aU ⟨rfl,⟨l.perm,l.kind,l.failed⟩,F d _ l z B,P,aw⟩))
 .rintro⟨o,lo⟩ st1 ⟨ho,K,r1,l1,l2⟩;rw[show lo=g.size by lia]at r1;show⟨ho,K,r1⟩
 .rintro⟨o,lo⟩ st1 ⟨ho,K,r1⟩;subst ho;show aM (wpS_mono (Q:=λt f=>t.1=none/\SB g u f/\Seg κ (arrOf f) 0 g.size) (m7 0 _ _ _ (λr t f=>t.1=none/\SB g u f/\Runs κ (arrOf f) (pendingOf f).toList 0 g.size/\(pendingOf f).size<=r+1) _ ⟨rfl,K,r1,by have:=r1.len;simp at this;lia⟩ ?_ ?_) ?_)
  .rintro _ r ⟨o,_⟩ y _ _ _ ⟨ho,J,L,l2⟩;show aM (dS ?_);show u5 (λe=>aU ⟨rfl,J,yu1 L (by simpa using e)⟩) λe=>?_;show aM (yi1 c J L ?_ (aK _) λC l z l3 _=>aU ⟨rfl,l,z,aw⟩);have S:∀(p:Prop)[Decidable p](n:Nat),2<=n->(if p then n-2-1 else n-2)+1<n:=λp _ n h=>by split <;> lia
   show S _ _ aw
  .rintro⟨o,_⟩ y ⟨ho,J,L,l2⟩;show⟨ho,J,yu1 L (by simpa using l2)⟩
  .rintro⟨o,_⟩ y ⟨ho,J,U⟩;subst ho;show aU (q y J.perm J.failed λi j K J=>U i j (aW _) K J)
end
end TS
namespace TS
section
variable {d:SortKind}
theorem zs5{n:Nat}{Q:Nat->Shared->Prop}(h:s.heap.get? a=some o)(b:o.data= .seq xs n)(q:Q n s):wpAny M A (seqEpoch a) Q E s:=by
 wp_walk
 rw[b];show aD q
noncomputable def sHp(h:Heap)(a:Addr)(vs:List Value):Heap:=((h.update a (Obj.mapSeq λ_=>#[])).push (seqObj "tuple" vs.toArray 0)).push (seqObj "list" #[] 0)
theorem list_sort_G{n:Nat}{P:PySem.Fin->Shared->Prop}(p:s.heap.get? a=some (seqObj "list" e.toArray n))(t:e.length<=sizeLine)
  (x:2<=e.length->∀Q:SortKind->Shared->Prop,Q d { s with heap:=sHp s.heap a e }->wpAny (model prog w) A (keyKind' e.toArray) Q E { s with heap:=sHp s.heap a e })
  (y:CL (model prog w) A E { s with heap:=sHp s.heap a e } (pairsOf e) G d)
  (fin:∀xs:Array Keyed,xs.Perm (pairsOf e)->SortedToK G xs (pairsOf e).size->P (.done (.ret .none)) { s with heap:=sortedHeap s.heap a e (xs.map (·.2)) }):wpAny (model prog w) A (Builtin.«list.sort» ⟨[.ref a],[]⟩) P E s:=by
 rw[list_sort_plain];have o:e.toArray.size<=sizeLine:=by simpa using t
 show aB (wpAny_listItems p rfl ?_);show aB (cJ p rfl ?_ o (aW _));have l:(s.heap.update a (Obj.mapSeq λ_=>#[])).get? a=some (Obj.mapSeq (λ_=>#[]) (seqObj "list" e.toArray n)):=bL _ p rfl;show aB (zs5 l rfl ?_);show aB (wpAny_newTuple ?_ (by simpa using t));show aB (wpAny_newList ?_ (aW _));show cv ?_;have g:(sHp s.heap a e).get? a=some (Obj.mapSeq (λ_=>#[]) (seqObj "list" e.toArray n)):=aC _ (aC _ l);by_cases k:e.toArray.size<2
 .rw[aH k];show aB (aD ?_);rw[aH k];have m:((e.toArray.zip e.toArray).map (·.2)).size<=sizeLine+1:=by simp;lia
  show aB (aD ?_);show aB (zs5 g rfl ?_);show aB (cJ g rfl ?_ (aW _) m);rw[aF az];show aD (fin (e.toArray.zip e.toArray) (.refl _) (λi j C B=>by
   have:(pairsOf e).size<2:=by rw[pairsOf_size];simpa using k
   rw[show i=j by lia];show da _))
 .rw[aF k];have q:2<=e.length:=by simpa using k
  show aB ?_;show x q _ ?_;rw[aF k];show aB (dE (wz3 y ⟨.refl _,rfl,rfl⟩ rfl (Q:=λ_ f=>(arrOf f).Perm (pairsOf e)/\failedOf f=none/\SortedToK G (arrOf f) (pairsOf e).size) λf a b c=>⟨a,b,c⟩) ?_ λ_ _ h=>h);rintro⟨_,f⟩ z ⟨rfl,r,v,u⟩;have m:((arrOf f).map (·.2)).size<=sizeLine+1:=by have:=r.size_eq;rw[pairsOf_size]at this;rw[Array.size_map,this];lia
  show aB (zs5 g rfl ?_);show aB (cJ g rfl ?_ (aW _) m);rw[v];rw[aF az];show aD (fin (arrOf f) r u)
noncomputable def intKind:PyProof.Rows.KeyKind where
 α:=Int
 blt:=λa b=>decide (a<b)
 irrefl:=λa=>by simp
 trans:=λa b c h1 h2=>by simp at h1 h2 ⊢;lia
 negTrans:=λa b c h=>by simp at h ⊢;lia
 total:=λa b h1 h2=>by simp at h1 h2;lia
 keyOf:=λv=>match v with | .int n _=>some n|_=>none
 dflt:=0
theorem yr0:∀{a:List Value}{ns:List Int},IntsAre a ns->∀v,v∈a->∃n t,v= .int n t
 |_,_,.nil,v,h=>by ext h
 |_,_,.cons n t r,v,h=>by
  rcases aT.mp h with e|h
  .exact⟨n,t,e⟩
  .exact yr0 r v h
theorem wk6{s:Shared}(h:IntsAre b ns):CL (model prog w) A E s (pairsOf b) intKind oneType':=by
 have c:∀x:Keyed,x∈(pairsOf b).toList->∃n t,x.1= .int n t:=λx a=>by rw[pairsOf_toList]at a;show yr0 h _ (List.of_mem_zip a).1
 intro x y a j st Q k q;let⟨n,t,f⟩:=c x a;let⟨m,u,e⟩:=c y j;rw[lt'_eq];show aM (dS ?_);rw[k,keyLt'_oneType,f,e];show aM (wpS_lift (cW (oneLt_int ⟨rfl,aU ?_⟩)));have i:ky intKind x=n:=by delta ky;rw[f];rfl
 have g:ky intKind y=m:=by delta ky;rw[e];rfl
 rw[i,g]at q;show q
theorem xa7{i:Nat}:KK intKind xs i=K xs i:=by
 unfold KK K;rcases xs[i]? with _|⟨v,q⟩
 .rfl
 .cases v <;> rfl
theorem list_sort_any{n:Nat}{P:PySem.Fin->Shared->Prop}(l:s.heap.get? a=some (seqObj "list" c.toArray n))(k:c.length<=sizeLine)(e:IntsAre c ns)
  (fin:∀(out:Array Value)(b:List Int),IntsAre out.toList b->b.Perm ns->b.Pairwise (·<=·)->P (.done (.ret .none)) { s with heap:=sortedHeap s.heap a c out }):wpAny (model prog w) A (Builtin.«list.sort» ⟨[.ref a],[]⟩) P E s:=by
 show list_sort_G l k (λf Q q=>?_) (wk6 e) λt h g=>?_
 .match c,e,f with
  |v₁::v₂::rest,e,_=>rw[keyKind_ints e];show aD q
 .have st:=λi j m f=>by have:=g i j m f;rw[xa7,xa7]at this;simpa[KeyOrd.kle,intKind]using this
  let⟨b,r,p,o⟩:=sorted_out e h st;show fin _ b r p o
end
end TS
section
end
section
variable {prog:Program}{w:World}{A:Around}{E:Qa}{s:Shared}{a:Addr}
variable {S:Int->Bool}{n g:Nat}{f:Bool}{o:Obj}{fs:Array (Int×Value)}{u:SetTable}
theorem yo7(L:A.handled=none)(G:SG prog w s.heap a S n f o fs g u)(l:f=zw9 w)(D:List Int)(O:∀k,S k=D.any (·==k))(K:n=D.length)(M:D.Nodup)(B:n<4096){Q:Qa}
  (fin:∀(q:Addr) h' d out e,IntsAre out.toList (zo5 D)->h'.get? q=some (seqObj "list" out e)->s.heap.objs.size<=q->(∀b o,b<s.heap.objs.size->s.heap.get? b=some o->h'.get? b=some o)->Q (.ref q) { s with heap:=h',drawn:=d }):
  wpAny (model prog w) A (call (.builtin "sorted") [.ref a]) Q E s:=by
 let⟨H,m,y⟩:=xx0 G.el;have v:H.length=D.length:=by rw[<-K,<-G.many,<-IntsAre.length m];simp
 show Calls.call_function_entry kind_sorted plain_sorted entry_sorted (args_sorted1 _) ?_;show aB (aD ?_);show aB (yk5 (by simpa using L) G l λp h' d C j h=>?_);let⟨U,t,r⟩:=xy9 C m;have J:p.length<4096:=by rw[C.length_eq,aL,cb,G.many];show B
 show aB (wpAny_newList ?_ (by rw[sizeLine_eq];lia));have i:(h'.push (seqObj "list" p.toArray 0)).get? h'.objs.size=some (seqObj "list" p.toArray 0):=aQ _ rfl;show aB (cv (bJ slot_list_sort ⟨_,i,rfl⟩ entry_list_sort (TS.list_sort_any i (by rw[sizeLine_eq];lia) t λout F T R P=>⟨_,rfl,?_⟩) (args_list_sort _)));have e:=R9 ((R.trans (r.trans (A9 M (λx I=>(y x).mpr ((G.mem x).mp (by rw[O];show List.any_eq_true.mpr ⟨x,I,by simp⟩))) v.symm).symm)).trans (S5 D).symm) P (U7 D);subst e;let⟨c,N⟩:=sortedHeap_at i;show aD ⟨_,rfl,fin _ _ d out c T N (dt h) λb o z e=>?_⟩;rw[sortedHeap_old (bp (de z h)) (by rw[size_push'];show bK (de z h))];show aC _ (j b o z e)
end
section
end
def vp3(P:Program)(w:World)(K:W.Frag):List V->Hp->VK->Prop:=λvs H Q=>∃(p:Addr)(ns:List Int),vs=[.ref p]/\SqL K H p (ns.map V.int)/\ns.length<4000/\∀a,H a=none->Q (.ref a) (upd H a (SetH P w a ns))
def wx6(P:Program)(w:World):List V->Hp->VK->Prop:=λvs H Q=>∃(a:Addr)(ns:List Int),vs=[.ref a]/\H a=some (SetH P w a ns)/\ns.length<4000/\∀q,H q=none->Q (.ref q) (upd H q (.lst ((zo5 (ddI ns)).map V.int)))
section
variable {c:Pos}
theorem yk8(x:X.calm=true):CallR X (.type "set") (vp3 X.prog X.w X.K):=by
 intro j s A H B C Q I r h;let⟨p,ns,rfl,l,y,q⟩:=h;let⟨v,rfl,m⟩:=U1 r;ext m;let⟨d,i,n,E⟩:=I.list l;have t:d.length=ns.length:=by rw[<-i.length,aL]
 have f:d.toArray.size=ns.length:=by simp[t]
 show xg0 (I.ok.hd x) n.isList (by simpa using zy0 i) (by unfold scanBound;lia) λL D g a=>?_;rw[f]at g;show⟨.ref s.heap.objs.size,_,I.laid (o:=SetH X.prog X.w s.heap.objs.size ns) (λb u e=>a b u (aS e) e) (aK _) ⟨g,?_,λJ F z k=>SetG.stay z k⟩,rfl,q _ (I.hok.fresh (aK _))⟩;let⟨o,_,_,_,G⟩:=g;show⟨o,G.at_⟩
theorem yx6(t:X.calm=true):CallR X (.builtin "sorted") (wx6 X.prog X.w):=by intro f s m H A B Q I r h;let⟨a,ns,rfl,x,y,q⟩:=h;let⟨v,rfl,n⟩:=U1 r;ext n;let⟨g,_,_⟩:=(I.hok a _ x);let⟨o,D,E,u,G⟩:=g;have p:(ddI ns).length<=ns.length:=firstMet_length_le _ _;show yo7 (I.ok.hd t) G rfl (ddI ns) (λk=>rfl) rfl (X0 _ _) aw λw C d l e hi hw j i=>?_;have z:Inv X f m H { s with drawn:=d }:=⟨I.ok,I.os,I.bare,I.base,I.loc,I.cell,I.free,I.freeC,I.pin,I.hok,I.len⟩;show⟨.ref w,_,z.laid (o:=.lst ((zo5 (ddI ns)).map V.int)) (λb u e=>i b u (aS e) e) j ⟨?_,l.toList,e,zv8 hi,by simpa using hw⟩,rfl,q _ (I.hok.fresh j)⟩;rw[aL,zg0,sizeLine_eq];lia
@[irreducible] def U6(m:ML):ML:=λa=>match m a with |some ds=>(match V0 ds with |some ns=>if ns.length<4000 then some ((zo5 (ddI ns)).map .int)else none|none=>none)|none=>none
theorem zb1(x:X.calm=true)(I:Gl X "sorted")(G:X.mg "sorted"=none)(s:Gl X "set")(r:X.mg "set"=none)(K:PB X e m)(D:bootBuiltins "sorted"=some (.builtin "sorted"))(k:bootBuiltins "set"=some (.type "set"))
  (E:starEach (e::[]) X.env=(false,eval e X.env)::starEach [] X.env:=by rfl) (J:starEach [e] X.env=(false,eval e X.env)::starEach [] X.env:=by rfl)
  (l:starEach ((.Call (.Name "set" d) [e] [] b)::[]) X.env=(false,eval (.Call (.Name "set" d) [e] [] b) X.env)::starEach [] X.env:=by rfl) (t:starEach [(.Call (.Name "set" d) [e] [] b)] X.env=(false,eval (.Call (.Name "set" d) [e] [] b) X.env)::starEach [] X.env:=by rfl)
  (h:(backTo b (starEach [] X.env)).any (·.1)=false:=by rfl) (n:(backTo c (starEach [] X.env)).any (·.1)=false:=by rfl):PF X (.Call (.Name "sorted" p) [.Call (.Name "set" d) [e] [] b] [] c) (U6 m):=
 (j7 (yx6 x) I G D (j4 (U4 (yk8 x) s r k (j4 K pa_nil E) ay ay J h) pa_nil l) ay ay t n).imp λN H Q i=>by
  let⟨M,L,F,v,g,B,e,q⟩:=i;delta U6 at e;cases h1:m v with
  |none=>simp only[h1]at e;ext e
  |some y=>
   simp only[h1]at e;cases h2:V0 y with
   |none=>simp only[h2]at e;ext e
   |some ns=>
    simp only[h2]at e;split at e
    .rename_i h64;ext e;show⟨M,L,F,v,y,B,h1,λp O u z j A C=>⟨p,ns,rfl,?_,h64,λa o=>⟨a,ns,rfl,z8,h64,λw hw=>?_⟩⟩⟩
     .rw[<-Z3 C h2];show A
     .have x2:Ext u z u (upd z a (SetH X.prog X.w a ns)):=Ext.own j.fh o;have f:=x2.hh.free hw;show q w _ u _ (j.trans (x2.trans (Ext.own x2.fh hw))) (j.hh.free f) (j.fh.free f) z8 (B9 _)
    .cases e
end
noncomputable def lxI:List Int->List Int->Bool
 |[],[]=>false
 |[],_::_=>true
 |_::_,[]=>false
 |a::l,b::m=>decide (a<b) || (decide (a=b)&&lxI l m)
theorem yz1:∀l,lxI l l=false
 |[]=>rfl
 |a::l=>by simp[lxI,yz1 l]
theorem xz4:∀a b c,lxI a b=true->lxI b c=true->lxI a c=true
 |[],b,[],e,d=>by ext b <;> simp[lxI]at e d
 |[],b,_::_,e,d=>rfl
 |x::a,[],c,e,d=>by simp[lxI]at e
 |x::a,y::b,[],e,d=>by simp[lxI]at d
 |x::a,y::b,z::c,e,d=>by
  simp only[lxI,Bool.or_eq_true,Bool.and_eq_true,decide_eq_true_eq]at e d ⊢;rcases e with e|⟨g,e⟩
  .rcases d with d|⟨f,d⟩ <;> (left;lia)
  .rcases d with d|⟨f,d⟩
   .left;lia
   .exact .inr ⟨aw,xz4 a b c e d⟩
theorem yz0:∀a b c,lxI a c=true->lxI a b=true\/lxI b c=true
 |[],[],c,h=>.inr h
 |[],_::_,c,h=>.inl rfl
 |x::a,[],[],h=>by simp[lxI]at h
 |x::a,[],_::_,h=>.inr rfl
 |x::a,y::b,[],h=>by simp[lxI]at h
 |x::a,y::b,z::c,h=>by
  simp only[lxI,Bool.or_eq_true,Bool.and_eq_true,decide_eq_true_eq]at h ⊢;rcases h with h|⟨e,h⟩
  .rcases Int.lt_trichotomy x y with d|d|d
   .exact .inl (.inl d)
   .exact .inr (.inl aw)
   .exact .inr (.inl aw)
  .rcases Int.lt_trichotomy x y with d|d|d
   .exact .inl (.inl d)
   .rcases yz0 a b c h with f|f
    .exact .inl (.inr ⟨d,f⟩)
    .exact .inr (.inr ⟨aw,f⟩)
   .exact .inr (.inl aw)
theorem za9:∀a b,lxI a b=false->lxI b a=false->a=b
 |[],[],_,_=>rfl
 |[],_::_,h,_=>by ext h
 |_::_,[],_,h=>by ext h
 |x::a,y::b,d,c=>by simp only[lxI,Bool.or_eq_false_iff,Bool.and_eq_false_iff,decide_eq_false_iff_not]at d c;have e:x=y:=ax;subst e;rw[za9 a b (d.2.resolve_left az) (c.2.resolve_left az)]
def insL(a:List Int):List (List Int)->List (List Int)
 |[]=>[a]
 |b::r=>if lxI b a=false then a::b::r else b::insL a r
def V7:List (List Int)->List (List Int)
 |[]=>[]
 |a::r=>insL a (V7 r)
def leL(a b:List Int):Prop:=lxI b a=false
theorem vx1(f:leL a b)(e:leL b c):leL a c:=by
 delta leL at*;cases h:lxI c a with
 |false=>rfl
 |true=>
  rcases yz0 c b a h with d|d
  .rw[d]at e;ext e
  .rw[d]at f;ext f
theorem zy3(a:List Int):∀r,(insL a r).Perm (a::r)
 |[]=>.refl _
 |b::r=>by
  unfold insL;split
  .exact .refl _
  .exact((zy3 a r).cons b).trans (.swap a b r)
theorem Q5:∀ns,(V7 ns).Perm ns
 |[]=>.refl _
 |a::r=>(zy3 a _).trans ((Q5 r).cons a)
theorem zy2(a:List Int):∀r,r.Pairwise leL->(insL a r).Pairwise leL
 |[],_=>dn ..
 |b::r,h=>by
  have h':=bG.mp h;unfold insL;split
  .rename_i c;show bG.mpr ⟨λx d=>?_,h⟩;rcases aT.mp d with e|d
   .rw[e];show c
   .exact vx1 c (h'.1 x d)
  .rename_i c;have c:lxI b a=true:=by simpa using c
   show bG.mpr ⟨λx d=>?_,zy2 a r h'.2⟩;rcases aT.mp ((zy3 a r).mem_iff.mp d)with e|d
   .rw[e];show lxI a b=false;cases hq:lxI a b with
    |false=>rfl
    |true=>have:=xz4 a b a hq c;rw[yz1]at this;ext this
   .exact h'.1 x d
theorem W9:∀ns,(V7 ns).Pairwise leL
 |[]=>.nil
 |a::r=>zy2 a _ (W9 r)
theorem J1:∀{a b:List (List Int)},a.Perm b->a.Pairwise leL->b.Pairwise leL->a=b
 |[],b,p,_,_=>(List.Perm.nil_eq p)
 |x::a,[],p,_,_=>aV p.length_eq az
 |x::a,y::b,p,i,h=>by
  have g:=bG.mp i;have f:=bG.mp h;have e:x=y:=by
   have d:x∈y::b:=p.mem_iff.mp bE;have c:y∈x::a:=p.mem_iff.mpr bE;rcases aT.mp d with e|d
   .exact e
   .rcases aT.mp c with e|c
    .exact e.symm
    .exact za9 x y (f.1 x d) (g.1 y c)
  subst e;rw[J1 ((perm_cons x).mp p) g.2 f.2]
noncomputable abbrev lsD(l:List Int):D:=.lst (l.map .int)
noncomputable def xi4:List Value->Option (List Int)
 |[]=>some []
 | .int n _::r=>(xi4 r).map (n::·)
 |_::_=>none
theorem yr1:∀{a:List Value}{ns:List Int},IntsAre a ns->xi4 a=some ns
 |_,_,.nil=>rfl
 |_,_,.cons n t r=>by simp[xi4,yr1 r]
def zz8(h:Heap):Value->Option (List Int)
 | .ref a=>match h.get? a with
  |some o=>(match o.data with | .seq items _=>xi4 items.toList|_=>none)
  |none=>none
 |_=>none
def zo3(h:Heap):PyProof.Rows.KeyKind where
 α:=List Int
 blt:=lxI
 irrefl:=yz1
 trans:=xz4
 negTrans:=yz0
 total:=za9
 keyOf:=zz8 h
 dflt:=[]
theorem xz9(k:Nat):∀(l m:List Int),lexF (eqF (k+1)) (ltF (k+1)) (l.map .int) (m.map .int)=some (lxI l m)
 |[],[]=>rfl
 |[],_::_=>rfl
 |_::_,[]=>rfl
 |a::l,b::m=>by
  rw[br,br,lexF,show eqF (k+1) (D.int a) (D.int b)=some (a==b)from rfl];unfold lxI;by_cases h:a=b
  .subst h;simp only[beq_self_eq_true,Int.lt_irrefl,decide_false,decide_true,Bool.true_and,Bool.false_or];show xz9 k l m
  .have e:(a==b)=false:=by simpa using h
   rw[e];simp only[h,decide_false,Bool.false_and,Bool.or_false];rfl
section
variable {X:Cx}{f:Qc}
theorem Q0(I:Inv X f t H s)(r:Rep X.K H x (lsD ns))(q:RelV x v):∃a,v= .ref a/\∃b,PlainL s.heap a b/\zz8 s.heap v=some ns:=by
 let⟨a,k,rfl,g,h⟩:=r.l';ext q;let⟨b,d,c,_⟩:=I.list g;have hi:IntsAre b ns:=by have e:=Z3 h (Z7 ns);subst e;show zy0 d
 show⟨a,rfl,b.toArray,c,?_⟩;let⟨o,n,j,_,_,i⟩:=c;simp only[zz8,j,i];show yr1 hi
theorem yb0(I:Inv X f t H s){E:Qa}(hu:A.units+8<cLine)(T:Rep X.K H x (lsD ns))(r2:Rep X.K H y (lsD g))(W:RelV x v)(U:RelV y u){Q:Bool->Shared->Prop}(q:Q (lxI ns g) s){prog:Program}:wpAny (model prog w) A (oneLt' true v u) Q E s:=by
 let⟨a1,N,rfl,P,S⟩:=T.l';let⟨a2,M,rfl,j,l⟩:=r2.l';ext W;ext U;let⟨n,O,⟨⟨a0,dd,J,R⟩,m,p,hc,Z,hd⟩,_⟩:=I.list P;let⟨h,i,⟨⟨L,C,D,k⟩,Y,o,z,G,r⟩,_⟩:=I.list j;subst hc hd z r;show aB (wpAny_cRoomFor aw ?_);show aB (wpAny_callSpecialIfBound?_slot ⟨_,p,rfl⟩ PySem.F.slot_list_lt (call_meets PySem.F.slot_list_lt ⟨_,p,rfl⟩ PySem.F.entry_list_lt (PySem.F.args_list_lt_2 _ _) (xb4 _ _ n.toArray h.toArray m Y dd C R k (lxI ns g)) ⟨p,o,by simpa using (xz7 I 1 (A:=A.in1) aw (λa b c d e=>wq6 I 1 aw a b c d e) S l O i (xz9 0 ns g)),?_⟩));show wpAny _ _ (truthOfDropped (.bool (lxI ns g))) _ _ _
 wp_walk
 show q
theorem X2:∀{xs:List V}{b:List Value}{a:List (List Int)},Vals xs b->Reps X.K H xs (a.map lsD)->∀v,v∈b->∃x ns,x∈xs/\RelV x v/\Rep X.K H x (lsD ns)
 |_,_,_,.nil,_,v,h=>by ext h
 |x::xs,_,[],.cons q p,r,v,h=>by ext r
 |x::xs,_,l::a,.cons q p,r,v,h=>by
  cases r with
  |cons c r2=>
   rcases aT.mp h with e|h
   .subst e;show⟨x,l,bE,q,c⟩
   .let⟨y,ns,i,g,d⟩:=X2 p r2 v h;show⟨y,ns,aX _ i,g,d⟩
theorem wk5(I:Inv X f t H s){A:Around}{E:Qa}{prog:Program}{w:World}(r:A.units+8<cLine){xs:List V}{d:List Value}{c:List (List Int)}(g:Vals xs d)(h:Reps X.K H xs (c.map lsD)):TS.CL (model prog w) A E s (pairsOf d) (zo3 s.heap) oneType':=by
 intro x y n m st Q u q;rw[pairsOf_toList]at n m;let⟨D,ns,_,l,j⟩:=X2 g h x.1 (of_mem_zip n).1;let⟨C,ms,_,k,i⟩:=X2 g h y.1 (of_mem_zip m).1;let⟨a,_,_,_,p⟩:=Q0 I j l;let⟨b,_,_,_,o⟩:=Q0 I i k;rw[lt'_eq];show aM (dS ?_);rw[u,keyLt'_oneType];show aM (wpS_lift (cW (yb0 I r j i l k ⟨rfl,aU ?_⟩)));have z:TS.ky (zo3 s.heap) x=ns:=by delta TS.ky;show (zz8 s.heap x.1).getD []=_;rw[p];rfl
 have v:TS.ky (zo3 s.heap) y=ms:=by delta TS.ky;show (zz8 s.heap y.1).getD []=_;rw[o];rfl
 rw[z,v]at q;show q
def G0(h:Heap)(vs:List Value):List (List Int):=vs.map λv=>(zz8 h v).getD []
theorem xy5(I:Inv X f t H s){lss:List (List Int)}(p:Vals xs a)(r:Reps X.K H xs (lss.map lsD)):G0 s.heap a=lss:=by
 induction p generalizing lss with
 |nil=>
  cases lss with
  |nil=>rfl
  |cons l lss=>rw[br]at r;ext r
 |cons q p d=>
  cases lss with
  |nil=>rw[map_nil]at r;ext r
  |cons l lss=>
   cases r with
   |cons c b=>let⟨_,_,_,_,k⟩:=Q0 I c q;have:=d b;unfold G0 at this ⊢;rw[br,this,k];rfl
theorem yt1{K:W.Frag}{F:Hp}{h:Heap}:∀{out:List Value},(∀v,v∈out->∃x ns,RelV x v/\Rep K F x (lsD ns)/\zz8 h v=some ns)->∃xs,Vals xs out/\Reps K F xs ((G0 h out).map lsD)
 |[],_=>⟨[],.nil,.nil⟩
 |v::out,a=>by let⟨xs,d,b⟩:=yt1 (out:=out) λu c=>a u (aX _ c);let⟨x,ns,q,r,k⟩:=a v bE;show⟨x::xs,.cons q d,?_⟩;delta G0 at b ⊢;rw[br,br,k];show .cons r b
def xp3(K:W.Frag):List V->Hp->VK->Prop:=λvs H Q=>∃(p:Addr)(xs:List V)(lss:List (List Int))(F:Hp),vs=[.ref p]/\SqL K H p xs/\Same F H/\Reps K F xs (lss.map lsD)/\∀q ys,H q=none->Reps K F ys ((V7 lss).map lsD)->Q (.ref q) (upd H q (.lst ys))
theorem zf4(hu:X.A.units+64<cLine):CallR X (.builtin "sorted") (xp3 X.K):=by
 intro f s t H xs us Q I r h;let⟨p,xs,lss,F,rfl,sq,sm,rs,q⟩:=h;let⟨u,rfl,rx⟩:=U1 r;ext rx;let⟨its,y,pl,hz⟩:=I.list sq;have G:its.length<=sizeLine:=by rw(occs:=.all)[<-y.length];show hz
 have d:=rs.mono sm;have N:((s.heap.push (seqObj "list" #[] 0)).update s.heap.objs.size (Obj.mapSeq λx=>x++its.toArray)).objs.size=s.heap.objs.size+1:=by simp
 have D:(((s.heap.push (seqObj "list" #[] 0)).update s.heap.objs.size (Obj.mapSeq λx=>x++its.toArray)).push (seqObj "list" its.toArray 0)).get? (s.heap.objs.size+1)=some (seqObj "list" its.toArray 0):=by
  have:=aQ (((s.heap.push (seqObj "list" #[] 0)).update s.heap.objs.size (Obj.mapSeq λx=>x++its.toArray))) (o:=seqObj "list" its.toArray 0) rfl
  rwa [N]at this
 have w:∀b o,s.heap.get? b=some o->(((s.heap.push (seqObj "list" #[] 0)).update s.heap.objs.size (Obj.mapSeq λx=>x++its.toArray)).push (seqObj "list" its.toArray 0)).get? b=some o:=λb o e=>by have E:=aS e;show aC _ ?_;rw(occs:=.all)[cj _ _ (cO E)];show aC _ e
 have m:∀b o,s.heap.get? b=some o->(TS.sHp (((s.heap.push (seqObj "list" #[] 0)).update s.heap.objs.size (Obj.mapSeq λx=>x++its.toArray)).push (seqObj "list" its.toArray 0)) (s.heap.objs.size+1) its).get? b=some o:=λb o e=>by have E:=aS e;show aC _ (aC _ ?_);rw(occs:=.all)[cj _ _ (cO (bK E))];show w b o e
 show Calls.call_function_entry kind_sorted plain_sorted entry_sorted (args_sorted1 _) ?_;show aB (aD ?_);show aB (collect_list pl.isList ?_ G);show aB (wpAny_newList ?_ G);simp;have Y:Inv X f t H { s with heap:=TS.sHp (((s.heap.push (seqObj "list" #[] 0)).update s.heap.objs.size (Obj.mapSeq λx=>x++its.toArray)).push (seqObj "list" its.toArray 0)) (s.heap.objs.size+1) its }:=I.turnedL (fp:=[]) (λb o _ e=>m b o e) (λb E=>by ext E);show aB (cv (bJ slot_list_sort ⟨_,D,rfl⟩ entry_list_sort (TS.list_sort_G D G (λV Q q=>W.kas_kind (T:=.type "list") V (λv M=>?_) ay ay q) (wk5 Y ?_ y d) λg J p2=>⟨_,rfl,?_⟩) (args_list_sort _)))
 .let⟨x,ns,_,l,k⟩:=X2 y d v M;let⟨a,rfl,a0,⟨o,n,g1,g2,_,_⟩,_⟩:=Q0 Y k l;intro A' Q' E' s' U q';show wpAny_typeOf ⟨o,U a o g1,g2⟩ q'
 .lia
 .refine aD ⟨_,rfl,?_⟩;have R:(g.map (·.2)).toList.Perm its:=by rw(occs:=.all)[Array.toList_map];have:=(dG.mp J).map (·.2);rw(occs:=.all)[pairsOf_toList]at this;show this.trans ?_;rw(occs:=.all)[map_snd_zip az]
  let⟨Z,z1,z2⟩:=yt1 λv M=>by let⟨x,ns,_,l,k⟩:=X2 y rs v (R.mem_iff.mp M);let⟨_,_,_,_,L⟩:=Q0 I (k.mono sm) l;show⟨x,ns,l,k,L⟩
  have U:G0 s.heap (g.map (·.2)).toList=g.toList.map (TS.ky (zo3 (TS.sHp (((s.heap.push (seqObj "list" #[] 0)).update s.heap.objs.size (Obj.mapSeq λx=>x++its.toArray)).push (seqObj "list" its.toArray 0)) (s.heap.objs.size+1) its))):=by
   delta G0;rw(occs:=.all)[Array.toList_map,bw];show ba λpr O=>?_;have S:=(dG.mp J).mem_iff.mp O;rw(occs:=.all)[pairsOf_toList]at S;have he:pr.1=pr.2:=by let⟨i,hi,e⟩:=dg S;rw(occs:=.all)[<-e];simp
   let⟨x,ns,_,l,k⟩:=X2 y d pr.1 (of_mem_zip S).1;let⟨_,_,_,_,L⟩:=Q0 I k l;let⟨_,_,_,_,k2⟩:=Q0 Y k l;show (zz8 s.heap pr.2).getD []=(zz8 _ pr.1).getD [];rw(occs:=.all)[<-he,L];rw(occs:=.all)[k2]
  have C:(G0 s.heap (g.map (·.2)).toList).Pairwise leL:=by rw(occs:=.all)[U];show List.pairwise_map.mpr (TS.seg_pair λi j _ h1 V=>p2 i j h1 (J.size_eq ▸ V))
  have P:(G0 s.heap (g.map (·.2)).toList).Perm lss:=by have:=R.map λv=>(zz8 s.heap v).getD [];show this.trans (by rw(occs:=.all)[show its.map (λv=>(zz8 s.heap v).getD [])=lss from xy5 I y d])
  rw(occs:=.all)[J1 (P.trans (Q5 lss).symm) C (W9 lss)]at z2;let⟨c,hc⟩:=sortedAll_at s.heap its (g.map (·.2));show⟨.ref (s.heap.objs.size+1),_,I.laid (o:=.lst Z) (λb o z=>sortedAll_old z) (dR _) ⟨?_,(g.map (·.2)).toList,c,z1,by show hc⟩,rfl,q _ Z (I.hok.fresh (dR _)) z2⟩;rw(occs:=.all)[z1.length,R.length_eq];show G
theorem zg1:∀{ds:List D}{ns:List Int},V0 ds=some ns->ds=ns.map D.int
 |[],ns,h=>by ext h;rfl
 | .int i::r,ns,h=>by
  unfold V0 at h;rcases a:V0 r,h with b;ext h;rw[br,<-zg1 a]
 | .lst _::_,_,h=>by ext h
 | .non::_,_,h=>by ext h
 | .bl _::_,_,h=>by ext h
 | .str _::_,_,h=>by ext h
 | .tup _::_,_,h=>by ext h
 | .exc _::_,_,h=>by ext h
 | .ptr _::_,_,h=>by ext h
 | .obj _ _ _::_,_,h=>by ext h
def J9:List D->Option (List (List Int))
 |[]=>some []
 | .lst ds::r=>(match V0 ds,J9 r with |some ns,some ls=>some (ns::ls)|_,_=>none)
 |_::_=>none
theorem zu8:∀a:List (List Int),J9 (a.map lsD)=some a
 |[]=>rfl
 |l::a=>by rw[br,J9,Z7,zu8 a]
theorem zu9:∀{ds:List D}{a:List (List Int)},J9 ds=some a->ds=a.map lsD
 |[],a,h=>by ext h;rfl
 | .lst es::r,a,h=>by
  unfold J9 at h;cases b:V0 es with
  |none=>rw[b]at h;ext h
  |some ns=>
   cases c:J9 r with
   |none=>rw[b,c]at h;ext h
   |some ls=>rw[b,c]at h;ext h;rw[br,<-zu9 c,zg1 b]
 | .int _::_,_,h=>by ext h
 | .non::_,_,h=>by ext h
 | .bl _::_,_,h=>by ext h
 | .str _::_,_,h=>by ext h
 | .tup _::_,_,h=>by ext h
 | .exc _::_,_,h=>by ext h
 | .ptr _::_,_,h=>by ext h
 | .obj _ _ _::_,_,h=>by ext h
@[irreducible] def O9(m:ML):ML:=λa=>match m a with |some ds=>(match J9 ds with |some lss=>some ((V7 lss).map lsD)|none=>none)|none=>none
theorem yn5(u:X.A.units+64<cLine)(z:Gl X "sorted")(y:X.mg "sorted"=none)(D:PB X e m)(r:bootBuiltins "sorted"=some (.builtin "sorted"))(v:starEach (e::[]) X.env=(false,eval e X.env)::starEach [] X.env:=by rfl)(C:starEach [e] X.env=(false,eval e X.env)::starEach [] X.env:=by rfl)(d:(backTo B (starEach [] X.env)).any (·.1)=false:=by rfl):PF X (.Call (.Name "sorted" p) [e] [] B) (O9 m):=
 (j7 (zf4 u) z y r (j4 D pa_nil v) ay ay C d).imp λt H Q b=>by
  let⟨G,E,F,h,g,n,e,q⟩:=b;delta O9 at e;cases h1:m h with
  |none=>simp only[h1]at e;ext e
  |some i=>
   simp only[h1]at e;cases h2:J9 i with
   |none=>simp only[h2]at e;ext e
   |some c=>simp only[h2]at e;ext e;show⟨G,E,F,h,i,n,h1,λp k j J a l o=>⟨p,k,c,j,rfl,l,a.fh,zu9 h2 ▸ o,λw I hw x=>?_⟩⟩;show q w _ j _ (a.trans (Ext.own a.fh hw)) (a.hh.free hw) (a.fh.free hw) z8 x
end
structure BlkC(X:Cx)(sc:Scope)(N:List Str)(src:Qd):Prop where
 kind:sc.kind= .function
 cells:∀y∈sc.names,y.2= .cell->sc.names.lookup y.1=some .cell
 names:∀y∈sc.names,y.2= .local->sc.names.lookup y.1=some .local
 free:∀y∈sc.names,y.2= .free->X.env.kindOf y.1=some .cell\/X.env.kindOf y.1=some .free
 fv:∀(j i:Nat),src[j]? =some (some i)->∃x,N[j]? =some x/\X.N[i]? =some x/\sc.names.lookup x=some .free
 len:src.length=N.length
section
variable {b:St}
end
section
end
section
end
def delB(p:Addr):Bx->Bx
 |[]=>[]
 | (q,c)::a=>match p==q with |true=>a|false=>(q,c)::delB p a
noncomputable def flS:Fl->D
 | .v d=>d
 | .l ds=>.lst ds
section
variable {K:W.Frag}{m g F H B:Hp}{f:St}{J:Ro}{β:Bx}{fp:List Addr}
theorem BxR.take{p:Addr}{c:Cell}:∀{fp:List Addr}{β:Bx},BxR K F B fp β->β.lookup p=some c->∃fq fr,CellR K F B fq p c/\BxR K F B fr (delB p β)/\(fq++fr).Perm fp
 |_,_,.nil,e=>by ext e
 |_,_,.cons (fp:=b) (fq:=d) (p:=q) (c:=l) (β:=β) h t,e=>by
  rw[cX]at e;unfold delB;cases a:p==q with
  |true=>
   rw[a]at e;ext e;have:p=q:=by simpa using a
   subst this;show⟨b,d,h,t,List.Perm.refl _⟩
  |false=>rw[a]at e;let⟨fq,fr,k,j,i⟩:=BxR.take t e;show⟨fq,b++fr,k,.cons h j,?_⟩;rw[<-dq];show(List.Perm.append_right fr perm_append_comm).trans ?_;rw[dq];show dX b i
theorem FlR.shared(h:FlR K F B fq xs fs)(s:Same F d)(k:∀a∈fq,d a=B a):Reps K d xs (fs.map flS):=by
 induction h with
 |nil=>show .nil
 |v r _ c=>show .cons (r.mono s) (c k)
 |l b r _ c=>show .cons (.lst (SqL.of (by rw[k _ az];show b)) (r.mono s)) (c λa e=>k a (aX _ e))
theorem FlR.memL(h:FlR K F B fq xs i):∀a∈fq,∃e,B a=some (.lst e):=by
 induction h with
 |nil=>intro a c;ext c
 |v _ _ d=>show d
 |l b _ _ d=>
  intro a c;rcases aT.mp c with rfl|c
  .exact⟨_,b⟩
  .exact d a c
theorem xq6{f:St}{i:Nat}(h:f[i]? =some x):f.set i x=f:=by
 apply db;intro j;by_cases a:i=j
 .subst a;rw[aN (bg.mp h).1,h]
 .rw[aR a]
theorem RlW.openB(r:RlW K m g F H f J β)(y:β.lookup p=some (.row fs)):∃D,Same F D/\RlW K m g D H f J (delB p β)/\Rep K D (.ref p) (.lst (fs.map flS)):=by
 let⟨B,fp,rl,ok⟩:=r;let⟨I,fr,G,i,l⟩:=ok.bx.take y;cases G with
 |@row fq0 _ xs _ b0 fl=>
  have C:∀a∈p::fq0,∃k,B a=some (.lst k):=λa c=>by
   rcases aT.mp c with rfl|c
   .exact⟨_,b0⟩
   .exact fl.memL a c
  have s:∀a∈p::fq0,B a≠none:=λa c=>by let⟨k,e⟩:=C a c;rw[e];simp
  have t:∀a∈p::fq0,F a=none:=λa c=>by
   cases hF:F a with
   |none=>rfl
   |some o=>show aV (h8 (rl.ext.new a (ok.out a (s a c)).2 (by rw[hF];simp))).1 (s a c)
  have nd:=(l.nodup_iff).mpr ok.nd;show⟨λa=>if a∈p::fq0 then B a else F a,λa o e=>?_,⟨λa=>if a∈p::fq0 then none else B a,fr,?_,?_⟩,?_⟩
  .have:a∉p::fq0:=λz=>by rw[t a z]at e;ext e
   show (if a∈p::fq0 then B a else F a)=some o;rw[aF this];show e
  .have sF:Same F (λa=>if a∈p::fq0 then B a else F a):=λa o e=>by
    have:a∉p::fq0:=λz=>by rw[t a z]at e;ext e
    show (if a∈p::fq0 then B a else F a)=some o;rw[aF this];show e
   have w:∀a,a∉p::fq0->jn g (λa=>if a∈p::fq0 then none else B a) a=jn g B a:=λa c=>by delta jn;simp only[if_neg c]
   have E:∀a,a∈p::fq0->jn g (λa=>if a∈p::fq0 then none else B a) a=none:=λa c=>by delta jn;simp only[if_pos c];show(ok.out a (s a c)).1
   have own:∀a,jn g B a=none->a∉p::fq0:=λa h z=>s a z (h8 h).1;have x:Rl K m (jn g (λa=>if a∈p::fq0 then none else B a)) (λa=>if a∈p::fq0 then B a else F a) H f J:=by
    show⟨⟨rl.ext.ff.trans sF,λb u e=>?_,λb u e=>?_,λb e n=>?_,λb o u e=>?_⟩,rl.len,λj d e=>?_,λj A e=>?_,rl.inj,λj q A e=>?_,rl.obn,rl.ob1⟩
    .by_cases z:b∈p::fq0
     .rw[E b z]at e;ext e
     .rw[w b z]at e;show rl.ext.hh b u e
    .by_cases z:b∈p::fq0
     .have e:B b=some u:=by rw[aH z]at e;show e
      show rl.ext.hh b u (j5 e)
     .have e:F b=some u:=by rw[aF z]at e;show e
      show rl.fh b u e
    .by_cases z:b∈p::fq0
     .exact E b z
     .rw[w b z];rw[aF z]at n;show rl.ext.new b e n
    .by_cases z:b∈p::fq0
     .have e:=e;rw[aH z]at e;show aV e (ok.plain b o u)
     .have e:=e;rw[aF z]at e;show rl.ext.nf b o u e
    .let⟨v,a1,a2⟩:=rl.sh j d e;show⟨v,a1,a2.mono sF⟩
    .let⟨q,k,a1,a2,a3,a4,a5⟩:=rl.own j A e;have z:=own q a5;show⟨q,k,a1,by rw[aF z];show a2,a3,a4.mono sF,by rw[w q z];show a5⟩
    .let⟨a1,a2,a3,k,a4,a5⟩:=rl.ob j q A e;have z:=own q a3;show⟨a1,by rw[aF z];show a2,by rw[w q z];show a3,k,a4,a5.mono sF⟩
   show x
  .have sF:Same F (λa=>if a∈p::fq0 then B a else F a):=λa o e=>by
    have:a∉p::fq0:=λz=>by rw[t a z]at e;ext e
    show (if a∈p::fq0 then B a else F a)=some o;rw[aF this];show e
   show⟨λa h=>?_,i.mono sF λa c=>?_,(cR.mp nd).2.1,λa o u e=>?_⟩
   .have h:=h;by_cases z:a∈p::fq0
    .rw[aH z]at h;show aV rfl h
    .rw[aF z]at h;show ok.out a h
   .rw[aF ((λa c y=>(cR.mp nd).2.2 a y a c rfl) a c)]
   .have e:=e;by_cases z:a∈p::fq0
    .rw[aH z]at e;ext e
    .rw[aF z]at e;show ok.plain a o u e
  .have sF:Same F (λa=>if a∈p::fq0 then B a else F a):=λa o e=>by
    have:a∉p::fq0:=λz=>by rw[t a z]at e;ext e
    show (if a∈p::fq0 then B a else F a)=some o;rw[aF this];show e
   show .lst (SqL.of (by rw[aH az];show b0)) (fl.shared sF λa c=>by rw[aH (aX _ c)])
theorem RlW.freezeR{i:Nat}(r:RlW K m g F H f J β)(hi:J[i]? =some (some (.sh (.ptr p))))(e:β.lookup p=some (.row fs)):∃a,Same F a/\RlW K m g a H f (J.set i (some (.sh (.lst (fs.map flS))))) (delB p β):=by let⟨a,b,⟨B,fp,rl,ok⟩,rp⟩:=r.openB e;let⟨v,d,c⟩:=rl.sh i _ hi;ext c;have:=rl.set (i:=i) rp;rw[xq6 d]at this;show⟨a,b,B,fp,this,ok⟩
end
def D1(i:Nat)(m:MW):MW:=λa b=>match a[i]? with
 |some (some (.sh (.ptr p)))=>(match b.lookup p with |some (.row fs)=>m (a.set i (some (.sh (.lst (fs.map flS))))) (delB p b)|_=>none)
 |_=>none
theorem J3{X:Cx}(i:Nat)(h:PSsw X a m):PSsw X a (D1 i m):=PSs.imp h λD k H b=>by
 let⟨g,f,F,l,n,o,c,r,e,ok⟩:=b;delta D1 at e;split at e
 .rename_i p h1;split at e
  .rename_i fs h2;let⟨j,s,d⟩:=r.freezeR h1 h2;show⟨g,f,j,_,_,o,c,d,e,ok.mono s⟩
  .cases e
 .cases e
section
variable {K:W.Frag}{c J F H:Hp}{a:St}{m:Ro}
theorem Rl.share(rl:Rl K c J F H a m)(k:H q=some (.lst f))(l:F q=none)(j:J q=none)(g:∀(i:Nat) ds,m[i]? =some (some (.own ds))->a[i]? ≠some (some (.ref q)))(h:∀(i:Nat) p ds,m[i]? =some (some (.ob p ds))->p≠q):Rl K c J (upd F q (.lst f)) H a m:=by
 have s:Same F (upd F q (.lst f)):=(Same.refl F).put l;show⟨⟨rl.ext.ff.trans s,rl.ext.hh,λb u e=>?_,λb e n=>?_,λb o u e=>?_⟩,rl.len,λi d e=>?_,λi ds e=>?_,rl.inj,λi p ds e=>?_,rl.obn,rl.ob1⟩
 .by_cases z:b=q
  .subst z;rw[z8]at e;ext e;show k
  .rw[z9 z]at e;show rl.fh b u e
 .by_cases z:b=q
  .subst z;show j
  .rw[z9 z]at n;show rl.ext.new b e n
 .by_cases z:b=q
  .subst z;rw[z8]at e;ext e
  .rw[z9 z]at e;show rl.ext.nf b o u e
 .let⟨v,a1,a2⟩:=rl.sh i d e;show⟨v,a1,a2.mono s⟩
 .let⟨p,xs,a1,a2,a3,a4,a5⟩:=rl.own i ds e;show⟨p,xs,a1,by rw[z9 (λw=>g i ds e (by rw[<-w];show a1))];show a2,a3,a4.mono s,a5⟩
 .let⟨a1,a2,a3,xs,a4,a5⟩:=rl.ob i p ds e;show⟨a1,by rw[z9 (h i p ds e)];show a2,a3,xs,a4,a5.mono s⟩
end
noncomputable def lsW(m:Ro->Bx->Option (List D)):Ro->Bx->Option D:=λa b=>(m a b).map D.lst
section
variable {a b c e l k:Expr}{f j g:Pos}
theorem zj7(h:PF X e m):PDw X e (lsW (ym5 m)):=PE.imp h λL H Q zQ=>by
 let⟨R,P,F,D,E,d,⟨B,J,rl,ok⟩,e,q⟩:=zQ;delta lsW ym5 at e;cases h1:m (thaw D E)with
 |none=>rw[h1]at e;ext e
 |some O=>
  rw[h1,aI]at e;split at e
  .rename_i hs;ext e;let⟨G,N⟩:=RlW.frozen rl ok;show⟨_,_,_,_,_,G,h1,λp t S K x u M I r=>?_⟩;have o:=rl.fh.free u;have s:Same F (upd F p (.lst t)):=(Same.refl F).put o;show q (.ref p) (upd F p (.lst t)) K ⟨B,J,((rl.go ⟨Same.refl F,x.hh,rl.fh.trans x.hh,λb e n=>aV e n,λ_ _ _ z=>z⟩).share I o (rl.ext.hh.free u) (λi v e z=>by
    let⟨w,t,C,_,A,_⟩:=rl.own i v e;rw[z]at C;ext C;rw[u]at A;ext A) (λi w v e z=>by
    let⟨_,_,_,t,y,_⟩:=rl.ob i w v e;rw[z,u]at y;ext y)),ok.mono s⟩ s x.hh (.lst (SqL.of z8) (yh9 hs r))
  .cases e
end
section
variable {a b e:Expr}{c:Pos}{d tb:TE}{g f:Ro->Bx->Option D}
end
section
end
section
variable {e o c:Expr}{b a:Pos}{d:ME}
end
section
variable {b c a:Pos}
end
section
end
section
variable {b:MF}
end
section
end
section
variable {b J F H:Hp}{c:Ro}
end
section
end
section
variable {b:MF}
end
section
end
end L2
namespace L2
open List
open PySem PySem.Spec PyProof.Rows PySem.W
section
end
section
variable {B h h':Heap}{cls b a:Value}
end
section
end
section
end
section
end
section
variable {b:St}
end
section
variable {e c:Expr}
end
open Classical in
section
end
end L2
namespace L2
open List
open PySem PySem.Spec PyProof.Rows
section
variable {b c a:Pos}
end
section
variable {a b:Expr}{g f:ME}{e d:MEm}{c:Pos}
end
section
variable {a b:Expr}{e d:Ro->Bx->Option (Bool×Bx)}{c:Pos}
end
section
end
section
variable {c b:ME}
end
section
variable {c b:ME}
end
section
variable {f d:ME}{c:Pos}
variable {a b:Expr}
end
section
theorem se_n:starEach (.Name x p::es) env=(false,eval (.Name x p) env)::starEach es env:=rfl
end
section
end
section
variable {b:Pos}
end
section
variable {c b F H B:Hp}{d:Ro}
end
section
variable {a b c e:Expr}{d:Pos}
end
section
variable {c b F H B:Hp}{d:Ro}
end
section
variable {X:Cx}{a b c e:Expr}{d:Pos}
theorem xk3{i k:Nat}{Dn:Ends}{j h F l H':Hp}{a:Ro}{b:Bx}(e:(g a b).map (letGo i k)=some (o,β'))(ok:okW X.K j h F Dn o β')(s:Same F l)(r:RlW X.K j h l H' m a b):TSw X.K g Dn m H':=by
 cases h3:g a b with
 |none=>rw[h3]at e;ext e
 |some n=>let⟨p,f⟩:=n;rw[h3]at e;show⟨j,h,l,_,_,p,f,r,h3,okW.letGo (i:=i) (k:=k) ?_⟩;rw[bm e];show ok.mono s
end
open Classical in
section
variable {b:MG}
end
section
end
section
variable {K:W.Frag}{F B:Hp}
theorem FlR.putRow{q:Addr}{o:List V}{ds:List D}(i:B q=some (.lst o))(g:Reps K F o ds):∀{n:Nat}{fp:List Addr}{xs:List V}{fs:List Fl},FlR K F B fp xs fs->fp.Nodup->q∉fp->n<fs.length->∃c,FlR K F B c (xs.set n (.ref q)) (fs.set n (.l ds))/\c.Nodup/\∀a∈c,a=q\/a∈fp
 |_,_,_,_,.nil,_,_,h=>by ext h
 |0,_,_,_,.v (fp:=fp) _ t,nd,f,_=>⟨q::fp,.l i g t,bu.mpr ⟨f,nd⟩,λa d=>by simpa using d⟩
 |0,_,_,_,.l (fp:=fp) _ _ t,nd,f,_=>⟨q::fp,.l i g t,bu.mpr ⟨λz=>f (aX _ z),(bu.mp nd).2⟩,λa d=>by
   rcases aT.mp d with e|d
   .exact .inl e
   .exact .inr (aX _ d)⟩
 |n+1,_,_,_,.v r t,nd,f,h=>by let⟨c,m,k,j⟩:=FlR.putRow i g (n:=n) t nd f (by simpa using h);show⟨c,.v r m,k,j⟩
 |n+1,_,_,_,.l (fp:=fp) (q:=q0) b r t,nd,f,h=>by
  have p:=bu.mp nd;let⟨c,m,k,j⟩:=FlR.putRow i g (n:=n) t p.2 (λz=>f (aX _ z)) (by simpa using h);show⟨q0::c,.l b r m,bu.mpr ⟨λz=>?_,k⟩,λa d=>?_⟩
  .rcases j q0 z with e|e
   .exact f (by rw[e];simp)
   .exact p.1 e
  .rcases aT.mp d with e|d
   .exact .inr (by rw[e];simp)
   .rcases j a d with e|e
    .exact .inl e
    .exact .inr (aX _ e)
end
def zp5(i:Nat)(k1:ME)(m:ML):MW:=λb c=>match m b,b[i]?,k1 b with
 |some ds,some (some (.sh (.ptr p))),some (.int a)=>(match c.lookup p with
  |some (.row fs)=>(match ixN fs.length a with |some n=>some (.nx b,updB p (.row (fs.set n (.l ds))) c)|none=>none)
  |_=>none)
 |_,_,_=>none
section
variable {X:Cx}{st:Stmt}
theorem zu3{i:Nat}(hE:PS X st (tAsg (TF X.K m) (gSub (tVar i) (TD X.K Y) xp4))):PSw X st (zp5 i Y m):=PS.imp hE λDn σ H zQ=>by
 let⟨U,T,F,V,β,o,a0,⟨B,fp,rl,ok⟩,e,k⟩:=zQ;delta zp5 at e;split at e
 .rename_i ds p a h1 hp hk1;split at e
  .rename_i fs c;split at e
   .rename_i n D;ext e;show⟨U,jn T B,F,V,ds,rl,h1,λq ys F1 E I g x h rq=>?_⟩;have P:=rl.ext.hh.free g;have d:=λz=>ok.bx.mem q z ((h8 P).1);have t:=(rl.go I).takeBs (λb c=>by rw[aZ.mp c,h];simp) (λb c=>by rw[aZ.mp c];show x) (λb c=>by rw[aZ.mp c];show P) (λb c j R Q z=>by
     rw[aZ.mp c]at z;let⟨W,G,a1,_,a3,_⟩:=rl.own j R Q;rw[z]at a1;ext a1;rw[g]at a3;ext a3) (λb c j W R Q z=>by
     rw[aZ.mp c]at z;let⟨_,_,_,G,a4,_⟩:=rl.ob j W R Q;rw[z,g]at a4;ext a4)
    have l:insB B E [q] q=some (.lst ys):=by rw[zy6 az];show h
    have r:∀b,b≠q->insB B E [q] b=B b:=λb c=>N5 (by simpa using c);have M:BxOk X.K U T F1 (insB B E [q]) fp β:=⟨λb c=>by
     by_cases z:b=q
     .subst z;show⟨(h8 P).2,rl.ext.ff.free (rl.fh.free g)⟩
     .rw[r b z]at c;show ok.out b c,ok.bx.mono I.ff λb c=>r b λz=>d (z ▸ c),ok.nd,λb u w c=>by
     by_cases z:b=q
     .subst z;rw[l]at c;ext c
     .rw[r b z]at c;show ok.plain b u w c⟩
    let⟨w,O,J⟩:=rl.sh i _ hp;ext J;show⟨_,O,U,jn T (insB B E [q]),F1,V,_,t,hk1,λw3 F3 H3 C r3=>?_⟩;ext r3;have s:=t.go C;have f:=M.mono C.ff;let⟨fq,hc,nq,A,up⟩:=f.bx.upd f.nd c;cases hc with
    |@row fq0 _ G _ b0 fl=>
     have v:=bu.mp nq;have pq:p≠q:=λz=>d (z ▸ A p az);show⟨p,G,a,n,rfl,rfl,s.ext.hh _ _ (j5 b0),by rw[fl.length];show D,?_⟩;let⟨L,_,h4,h5⟩:=s.putB f.out (.inl (by rw[b0];simp));let⟨fp',c1,c2,Z⟩:=FlR.putRow l (rq.mono C.ff) fl v.2 (λz=>d (A q (by simp[z]))) ((yz6 D).2.1);have y:p∉fp':=λz=>by
      rcases Z p z with e|e
      .exact pq e
      .exact v.1 e
     let⟨S,r',N,a2⟩:=up _ _ _ F3 (Same.refl _) (.row z8 (c1.mono (Same.refl _) λb c=>z9 λz=>y (z ▸ c))) (bu.mpr ⟨y,c2⟩) (λb _ D=>z9 λz=>D (by rw[z];simp)) λb c=>by
      rcases aT.mp c with e|c
      .exact .inl (by rw[e];simp)
      .rcases Z b c with e|e
       .exact .inr (by rw[e];show d)
       .exact .inl (aX _ e)
     show k F3 _ σ ⟨_,S,L,zd9 f.out ⟨h4,h5⟩,r',N,C9 f.plain λ_ _ z=>by cases z⟩ (I.ff.trans C.ff)
   .cases e
  .cases e
 .cases e
end
def vr5(_ j:Int):Prop:=0<j/\j.natAbs.log2<9000
theorem xk0{X:Cx}:OpR X (binaryOp .FloorDiv) (rI vr5 λi j=>.int (i / j)):=opI λi j _ _ _ _ _ a q=>by have b:=a.1;show floordiv_int ax (by rw[Int.fdiv_eq_ediv_of_nonneg i ax];show q) (.inl (PyProof.noPylong_of_log2 a.2))
noncomputable def yr5(_ j:Int):Bool:=decide (0<j)&&decide (j.natAbs.log2<9000)
def yr6:D->D->Option D:=int2 λi j=>if yr5 i j=true then some (.int (i / j))else none
theorem yc8{K:W.Frag}:OpD K (rI vr5 λi j=>.int (i / j)) yr6:=zi0 (λi j h=>by delta yr5 at h;simp at h;show h) λF i j=>.int _
theorem xm3{X:Cx}(g:PD X a e)(f:PD X b d):PD X (.BinOp a .FloorDiv b c) (m2 yr6 e d):=zb5 xk0 yc8 g f
theorem xx6{i j:Int}(h:0<j)(a:j.natAbs<2^400):yr5 i j=true:=by have b:=(Nat.log2_lt ax).mpr a;delta yr5;rw[aO h,aO ax];rfl
def xr8(a:Bx):Option S->Option S
 |some (.sh (.lst ds))=>some (.sh (.lst (ds.map (thawD a))))
 |x=>x
def Y6(a:Ro)(b:Bx):Ro:=(thaw a b).map (xr8 b)
def J8(m:MB):Ro->Bx->Option Bool:=λa b=>m (Y6 a b)
section
variable {K:W.Frag}{b f J F H B:Hp}{c:St}{M:Ro}{N:Bx}{fp:List Addr}
theorem Rl.view(g:Option S->Option S)(rl:Rl K b J F H c M)(A:∀d,∃d',g (some (.sh d))=some (.sh d')/\∀v,Rep K F v d->Rep K F v d')(C:∀x,(∀d,x≠some (.sh d))->g x=x):Rl K b J F H c (M.map g):=by
 have o:∀(i:Nat) x,(M.map g)[i]? =some x->∃y,M[i]? =some y/\x=g y:=λi x e=>by
  rw[bn]at e;rcases q:M[i]?,e with y;ext e;show⟨y,rfl,rfl⟩
 have t:∀{y z:Option S},(∀d,z≠some (.sh d))->z=g y->y=z:=λ{y z} D e=>by
  by_cases h:∃d,y=some (.sh d)
  .let⟨d,rfl⟩:=h;let⟨d',n,_⟩:=A d;show aV (e.trans n) (D d')
  .rw[e,C y λd z=>h ⟨d,z⟩]
 have l:∀(i:Nat) a,(M.map g)[i]? =some (some (.own a))->M[i]? =some (some (.own a)):=λi a e=>by let⟨y,n,m⟩:=o i _ e;rw[n,t (λd z=>by ext z) m]
 have r:∀(i:Nat) p a,(M.map g)[i]? =some (some (.ob p a))->M[i]? =some (some (.ob p a)):=λi p a e=>by let⟨y,n,m⟩:=o i _ e;rw[n,t (λd z=>by ext z) m]
 show⟨rl.ext,by rw[aL];show rl.len,λi d e=>?_,λi a e=>rl.own i a (l i a e),λi j p a s w n m u E=>rl.inj i j p a s w (l i a n) (l j s m) u E,λi p a e=>rl.ob i p a (r i p a e),λi j p a s n m u=>rl.obn i j p a s (r i p a n) (l j s m) u,λi j p q a s n m=>rl.ob1 i j p q a s (r i p a n) (r j q s m)⟩;let⟨y,n,m⟩:=o i _ e;by_cases h:∃d,y=some (.sh d)
 .let⟨d0,rfl⟩:=h;let⟨d',u,k⟩:=A d0;rw[u]at m;ext m;let⟨v,I,G⟩:=rl.sh i d0 n;show⟨v,I,k v G⟩
 .rw[C y λd z=>h ⟨d,z⟩]at m;show aV m.symm λz=>h ⟨d,z⟩
theorem RlW.frozen2(j:Rl K b (jn f B) F H c M)(ok:BxOk K b f F B fp N):Rl K (jn b B) (jn f B) (jn F B) H c (Y6 M N)/\Same F (jn F B):=by
 let⟨k,g⟩:=RlW.frozen j ok;show⟨k.view (xr8 N) (λd=>?_) (λx h=>?_),g⟩
 .cases d with
  |lst i=>show⟨_,rfl,λv r=>by cases r with |lst s r=>show .lst s (r.thawD (Same.refl _) (λa o e=>j5 e) (ok.bx.mono g λ_ _=>rfl))⟩
  |_=>show⟨_,rfl,λv r=>r⟩
 .delta xr8;split
  .rename_i i;show aV rfl (h (.lst i))
  .rfl
end
section
variable {a b c e:Expr}{f:Pos}
theorem yc0(h:PC' X e m):PCw' X e (J8 m):=PT.imp h λl H Q zQ=>by let⟨s,r,F,n,o,d,⟨B,p,g,ok⟩,e,q⟩:=zQ;let⟨i,j⟩:=RlW.frozen2 g ok;show⟨_,_,_,_,_,i,e,λt k x=>q F k (RlW.melt g ok x j) (Same.refl _)⟩
end
section
variable {K:W.Frag}{e J F H b d:Hp}{c:St}{M:Ro}
theorem zu4:∀{f:List Addr}{dss:List (List D)}{b:Hp},RPs K b d f dss->Ext F H b d->(∀q∈f,H q=none/\b q=none)->f.Nodup->∃g,Ext F H g d/\Same b g/\Reps K g (f.map V.ref) (dss.map D.lst)/\∀a,a∉f->g a=b a
 |[],[],b,.nil,x,_,_=>⟨b,x,Same.refl _,.nil,λ_ _=>rfl⟩
 |q::f,ds::dss,b,.cons (xs:=xs) s r t,x,n,nd=>by
  have nd:=bu.mp nd;have j:=n q bE;have i:Same b (upd b q (.lst xs)):=(Same.refl b).put j.2;let⟨g,m,h,o,p⟩:=zu4 (t.mono i (Same.refl _)) (x.freeze j.2 j.1 s) (λz k=>⟨(n z (aX _ k)).1,by rw[z9 (show z≠q from λw=>by subst w;show nd.1 k)];show(n z (aX _ k)).2⟩) nd.2
  show⟨g,m,i.trans h,.cons (.lst (SqL.of (h _ _ z8)) (r.mono (i.trans h))) o,λa l=>?_⟩;rw[p a λz=>l (aX _ z),z9 λz=>l (by rw[z];show bE)]
theorem Rl.shares{L:Hp}:∀{f:List Addr}{dss:List (List D)}{F:Hp},RPs K L H f dss->(dss.all λds=>ds.all isSc)=true->Rl K e J F H c M->(∀q∈f,F q=none/\J q=none/\(∀(i:Nat) ds,M[i]? =some (some (.own ds))->c[i]? ≠some (some (.ref q)))/\∀(i:Nat) p ds,M[i]? =some (some (.ob p ds))->p≠q)->f.Nodup->∃g,Same F g/\Rl K e J g H c M/\Reps K g (f.map V.ref) (dss.map D.lst)/\∀a,a∉f->g a=F a:=by
 intro f dss F i;induction i generalizing F with
 |nil=>intro _ rl _ _;show⟨F,Same.refl _,rl,.nil,λ_ _=>rfl⟩
 |@cons q xs ds f dss I r t ih=>
  intro j rl n nd
  have nd:=bu.mp nd;let⟨l,A,y,x⟩:=n q bE;rw[all_cons,ej]at j;have s:Same F (upd F q (.lst xs)):=(Same.refl F).put l;let⟨g,k,h,u,v⟩:=ih j.2 (rl.share I l A y x) (λz m=>by let⟨G,E,C,B⟩:=n z (aX _ m);show⟨by rw[z9 (show z≠q from λw=>by subst w;show nd.1 m)];show G,E,C,B⟩) nd.2
  show⟨g,s.trans k,h,.cons (.lst (SqL.of (k _ _ z8)) (yh9 j.1 r)) u,λa o=>?_⟩;rw[v a λz=>o (aX _ z),z9 λz=>o (by rw[z];show bE)]
end
noncomputable def yn3(m:MP):ML:=λa=>(m a).map λdss=>dss.map D.lst
def zz7(m:MP):Ro->Bx->Option D:=λa b=>(m (Y6 a b)).bind λdss=>if (dss.all λds=>ds.all isSc)=true then some (.lst (dss.map D.lst))else none
section
variable {a b c e:Expr}{d:Pos}
theorem wv8(h:PP X e m):PF X e (yn3 m):=PE.imp h λu H Q f=>by
 let⟨t,o,F,i,y,k,e,q⟩:=f;delta yn3 at e;rcases h1:m i,e with g;ext e;show⟨t,o,F,i,g,k,h1,λp w z r x P=>?_⟩;have nd:=bu.mp P.nd;let⟨s,j,v,l,n⟩:=zu4 P.rep x P.new nd.2;show q p _ s r j P.hp (by rw[n p nd.1];show P.fp) P.at' l
end
def zh3(i:Nat)(m:MP)(mr:MW):MW:=λa b=>match a[i]? with
 |some (some (.own ds))=>(m a).bind λdss=>if ds.length<sizeLine then anyN b (λp=>(mr (a.set i (some (.own (ds++[.ptr p])))) ((p,.row (dss.map .l))::b)).map (letGo i b.length))else none
 |_=>none
section
variable {X:Cx}{a:Pos}{rest:List Stmt}
theorem yn1{i:Nat}(E:PP X e m)
  (G:∀t,PA X [e] t->PE X (.Call (.Attribute (.Name x f) "append" c) [e] [] b) (tBM X.K "list" A6 (tVar i) t)) (D:PSsw X rest r) (h:starEach (e::[]) X.env=(false,eval e X.env)::starEach [] X.env:=by rfl) (C:swapsWith (.Call (.Attribute (.Name x f) "append" c) [e] [] b) none a.line X.env=pure false:=by rfl):
  PSsw X (.Expr (.Call (.Attribute (.Name x f) "append" c) [e] [] b) a::rest) (zh3 i m r):=PSs.imp (S2 (zq2 (G _ (j4 E pa_nil h)) C) D) λDn M H zQ=>by
 let⟨J,I,F,n,N,o,w,⟨B,Q,rl,ok⟩,e,k⟩:=zQ;delta zh3 at e;split at e
 .rename_i ds h1;let⟨p,y,v,S,u,s,R⟩:=rl.own i _ h1;rcases h2:m n,e with l;rw[aI]at e;split at e
  .rename_i hz;show⟨_,v,.inl ⟨rfl,_,SqL.of u⟩,J,jn I B,F,n,l,rl,h2,λq O U T x P=>?_⟩;let⟨⟨L,j,d,g⟩,A⟩:=RlW.pots rl ok x P;show⟨p,y,_,rfl,rfl,(x.hh _ _ u),by rw[s.length];show hz,?_⟩;show xk3 (ze6 e q λz=>ok.bx.keys _ z A) k x.ff ⟨L,j,d.write h1 v ((s.mono x.ff).append (.cons (.ptr q) .nil)),g⟩
  .cases e
 .cases e
end
theorem B0{p:Addr}{c e:Cell}:∀{f:Bx},f.lookup p=some c->(updB p e f).lookup p=some e
 |[],h=>by ext h
 | (q,d)::f,h=>by
  unfold updB;by_cases a:q=p
  .subst a;rw[aH rfl,cX,bT]
  .have b:(p==q)=false:=by rw[cU];show λz=>a z.symm
   rw[cX,b]at h;rw[aF a,cX,b];show B0 h
section
variable {K:W.Frag}{e c F H:Hp}{b:St}{U:Ro}{Y:Bx}
theorem RlW.setSh{i:Nat}(r:RlW K e c F H b U Y)(h:Rep K F v d):RlW K e c F H (b.set i (some v)) (U.set i (some (.sh d))) Y:=let ⟨B,a,rl,ok⟩:=r;⟨B,a,rl.set h,ok⟩
theorem RlW.setNo{i:Nat}(r:RlW K e c F H b U Y):RlW K e c F H (b.set i (some (.ref q))) (U.set i none) Y:=by let⟨B,a,rl,ok⟩:=r;have h:=(rl.set (i:=i) (.ptr q)).forget i;rw[set_set]at h;show⟨B,a,h,ok⟩
theorem RlW.part(r:RlW K e c F H b U Y)(L:Y.lookup p=some (.row fs)):∃xs,H p=some (.lst xs)/\xs.length=fs.length/\∀n ds,fs[n]? =some (.l ds)->∃q h,q≠p/\F q=none/\xs[n]? =some (.ref q)/\H q=some (.lst h)/\Reps K F h ds/\∀j es,Reps K F j es->RlW K e c F (upd H q (.lst j)) b U (updB p (.row (fs.set n (.l es))) Y):=by
 let⟨B,R,rl,f⟩:=r;let⟨Q,J,x,I,A⟩:=f.bx.upd f.nd L;cases J with
 |@row fq0 _ xs _ b0 fl=>
  have g:=bu.mp x;show⟨xs,rl.ext.hh _ _ (j5 b0),fl.length,λn ds t=>?_⟩;let⟨q,h,P,y,i,O,N⟩:=FlR.at' (n:=n) fl g.2 t;have w:p≠q:=λz=>g.1 (z ▸ y);have d:F q=none:=by
   cases z:F q with
   |none=>rfl
   |some u=>have:=rl.ext.new q (f.out q (by rw[i];simp)).2 (by rw[z];simp);rw[j5 i]at this;ext this
  show⟨q,h,λz=>w z.symm,d,P,rl.ext.hh _ _ (j5 i),O,λj es C=>?_⟩;let⟨k,_,o,d⟩:=rl.putB f.out (.inl (by rw[i];simp));let⟨v,D,m,G⟩:=A _ _ _ F (Same.refl _) (.row (by rw[z9 w];show b0) (N _ F _ _ (Same.refl _) z8 C λa _ s=>z9 s)) x (λa _ E=>z9 λz=>E (by rw[z];simp[y])) λa M=>.inl M;show⟨_,v,k,zd9 f.out ⟨o,d⟩,D,m,C9 f.plain λ_ _ z=>by cases z⟩
end
def J7(k j:Nat)(p:Addr):Nat->Nat->MW
 |0,_,a,b=>some (.nx a,b)
 |m+1,n,a,b=>match b.lookup p with
  |some (.row fs)=>(match fs[n]? with
   |some (.l ds)=>if ds.length<sizeLine then J7 k j p m (n+1) ((a.set k (some (.sh (.int n)))).set j none) (updB p (.row (fs.set n (.l (ds++[.int n])))) b)else none
   |_=>none)
  |_=>none
def zz5(me:ME)(k j:Nat):MW:=λa b=>match me a with
 |some (.ptr p)=>(match b.lookup p with
  |some (.row fs)=>if k≠j/\k<a.length/\j<a.length then J7 k j p fs.length 0 a b else none
  |_=>none)
 |_=>none
section
variable {b:Pos}
theorem yn0{k j:Nat}{tk:Nat}(hp:PassesOwn (model X.prog X.w) X.A X.env X.xe)(hc:X.calm=true)(am:Gl X "enumerate")(aj:X.mg "enumerate"=none)(hi:PD X a me)(hg:PG X (.Tuple es tk tp) (gTup X.K 2 (xi8 (R0 k) (xi8 (R0 j) gNil))))
  (hE:∀t,PA X [e] t->PE X (.Call (.Attribute (.Name x px) "append" s) [e] [] n) (tBM X.K "list" A6 (tVar j) t)) (hA:PAs X [e] (z6 (mvar k) anil)) (af:swapsWith (.Call (.Attribute (.Name x px) "append" s) [e] [] n) none E.line X.env=pure false:=by rfl)
  (Z:starEach [a] X.env=[(false,eval a X.env)]:=by rfl) (hs:∀v,foldedSetIterable (.Call (.Name "enumerate" p0) [a] [] J) X.env v=pure v:=by intro _;rfl):
  PSw X (.For (.Tuple es tk tp) (.Call (.Name "enumerate" p0) [a] [] J) [.Expr (.Call (.Attribute (.Name x px) "append" s) [e] [] n) E] [] b) (zz5 me k j):=(yf8 hp hc (yd1 am aj (j4 hi pa_nil (by rw[Z];rfl)) Z) hg (S2 (zq2 (hE _ hA) af) pss_nil) hs).imp λDn σ H a8=>by
 let⟨U,T,F,ρ,β,o,W,r,e,ok⟩:=a8;delta zz5 at e;split at e
 .rename_i p h1;split at e
  .rename_i fs hb;split at e
   .rename_i R;let⟨R,hk,hj⟩:=R;let⟨B,fp,rl,bo⟩:=r;show⟨U,jn T B,F,ρ,.ptr p,rl,h1,λv F1 H1 x1 r1=>?_⟩;ext r1;have r0:RlW X.K U T F1 H1 σ ρ β:=⟨B,fp,rl.go x1,bo.mono x1.ff⟩;let⟨ar,ai,_,_⟩:=r0.part hb;show⟨p,_,rfl,SqL.of ai,?_⟩;show⟨λi m L H'=>∃F' c β1 S,RlW X.K U T F' H' L c β1/\Same F F'/\β1.lookup p=some (.row S)/\S.length=fs.length/\i<=fs.length/\m=fs.length-i/\k<c.length/\j<c.length/\J7 k j p (fs.length-i) i c β1=some (o,W),⟨_,F1,ρ,β,fs,r0,x1.ff,hb,rfl,aW _,rfl,hk,hj,e⟩,?_⟩;rintro i m L H' ⟨F',c,β1,S,r',sf,C,aa,av,rfl,ab,al,l⟩;let⟨xs,g,ae,Q⟩:=r'.part C;by_cases ak:i<fs.length
    .right;obtain⟨m,hm⟩:∃m,fs.length-i=m+1:=⟨fs.length-i-1,aw⟩;rw[hm]at l;unfold J7 at l;rw[C]at l;simp only at l;split at l
     .rename_i ds hds;split at l
      .rename_i hz;let⟨q,ys,qp,qF,O,P,as,_⟩:=Q i ds hds;show⟨⟨_,_,SqL.of g,O⟩,λV H2=>∃F2 f h D,RlW X.K U T F2 H2 V f h/\Same F F2/\h.lookup p=some (.row D)/\D.length=fs.length/\k<f.length/\j<f.length/\J7 k j p (fs.length-(i+1)) (i+1) f h=some (o,W),?_,λx H2 y=>?_⟩
       .rintro V H2 ⟨F2,f,h,D,a1,a2,a3,a4,a5,a6,a7⟩;show⟨fs.length-(i+1),aw,F2,f,h,D,a1,a2,a3,a4,ak,rfl,a5,a6,a7⟩
       .let⟨t,u,rfl,ht,rfl,y⟩:=y;have yx:=y _ (SqL.of g);rw[O]at yx;ext yx;show⟨t,_,rfl,SqT.of z8,rfl,_,_,rfl,_,_,rfl,rfl,?_⟩;let⟨B3,ao,M,ap⟩:=(((r'.go (Ext.own (o:=.tup [.int i,.ref q]) r'.fh ht)).setSh (i:=k) (d:=.int i) (.int _)).setNo (i:=j) (q:=q));have ag:(upd H' t (.tup [.int i,.ref q])) q=some (.lst ys):=by rw[z9 λz=>by rw[z,ht]at P;cases P];show P
        have an:z6 (mvar k) anil ((c.set k (some (.sh (.int i)))).set j none)=some [.int i]:=by
         have h5:((c.set k (some (.sh (.int i)))).set j none)[k]? =some (some (.sh (.int i))):=by rw[aR (λz=>R z.symm),aN ab]
         delta z6 anil mvar;rw[h5];rfl
        show⟨_,(aN (by have:=M.len;simp at this;simp;lia)),.inl ⟨rfl,_,SqL.of ag⟩,U,jn T B3,F',_,[.int i],M,an,λvs F4 H4 x4 r4=>?_⟩;cases r4 with
        |cons rr rn=>ext rn;ext rr;have r5:RlW X.K U T F4 H4 _ _ β1:=⟨B3,ao,M.go x4,ap.mono x4.ff⟩;let⟨aq,ah,au,N⟩:=r5.part C;let⟨q5,ad,_,_,G,a0,I,Y⟩:=N i ds hds;have a9:H4 p=some (.lst xs):=x4.hh _ _ (by rw[z9 λz=>by rw[z,ht]at g;cases g];show g);rw[ah]at a9;ext a9;rw[O]at G;ext G;show⟨q,ad,_,rfl,rfl,a0,by rw[I.length];show hz,?_⟩;show⟨F4,_,_,_,Y _ _ (I.append (.cons (.int _) .nil)),sf.trans x4.ff,B0 C,by rw[length_set];show aa,by simpa using ab,by simpa using al,?_⟩;rw[show fs.length-(i+1)=m by lia];show l
      .cases l
     .cases l
    .left;have ac:i=fs.length:=aw;subst ac;rw[Nat.sub_self]at l;ext l;show⟨⟨_,SqL.of g,by rw[ae,aa];show aK _⟩,?_⟩;show ok F' H' L r' sf
   .cases e
  .cases e
 .cases e
end
def TSp(K:W.Frag)(m:MP):TS:=λDn b H=>∃F0 H0 F a dss,Rl K F0 H0 F H b a/\m a=some dss/\∀p qs F' H',Ext F0 H0 F' H'->Pots K H0 F' H' p qs dss->Dn.rt (.ref p) H'
def PSsp(X:Cx)(sts:List Stmt)(m:MP):Prop:=PSs X sts (TSp X.K m)
noncomputable def zi6(x:MS)(y:MP):MP:=λa=>match x a with |some (.nx ρ')=>y ρ'|_=>none
def wf3(n:Nat)(m:MP):MFP:=λds=>m (u8 n ds)
section
variable {X:Cx}{e:Expr}{st:Stmt}{rest:List Stmt}
theorem yu7(h:PP X e m):PSsp X [.Return (some e) a] m:=(zc9 (J4 h)).imp λDn k H zQ=>by let⟨i,f,F,c,b,rl,e,ok⟩:=zQ;show ⟨i,f,F,c,b,rl,e,λp d j g x P=>ok p d j g (rl.ext.trans x) ⟨rl.ext.hh.free P.hp,P.fp,P.at',λq h=>⟨rl.ext.hh.free (P.new q h).1,(P.new q h).2⟩,P.nd,P.rep⟩⟩
theorem U3(o:PSd X st g)(n:PSsp X rest f):PSsp X (st::rest) (zi6 g f):=(S2 o n).imp λDn q H b=>by
 let⟨j,i,F,l,d,m,e,ok⟩:=b;delta zi6 at e;split at e
 .rename_i ρ' h;show⟨j,i,F,l,_,m,h,λp s k c r=>⟨j,i,p,ρ',d,c,e,ok⟩⟩
 .cases e
end
section
variable {X:Cx}{st:Stmt}
theorem yo5{K:W.Frag}(h:TDw K (zz7 m) k H Q):TPt K m k H Q:=by
 let⟨O,L,F,l,u,d,⟨B,I,rl,ok⟩,e,q⟩:=h;delta zz7 at e;cases h1:m (Y6 l u)with
 |none=>rw[h1]at e;ext e
 |some J=>
  rw[h1,aI]at e;split at e
  .rename_i hs;ext e;let⟨y,N⟩:=RlW.frozen2 rl ok;show⟨_,_,_,_,_,y,h1,λp A R M x P=>?_⟩;have nd:=bu.mp P.nd;have a:∀z,H z=none->F z=none/\jn L B z=none/\(∀(i:Nat) c,l[i]? =some (some (.own c))->k[i]? ≠some (some (.ref z)))/\∀(i:Nat) p c,l[i]? =some (some (.ob p c))->p≠z:=λz f=>by
    show⟨rl.fh.free f,rl.ext.hh.free f,λi c e w=>?_,λi t c e w=>?_⟩
    .let⟨t,xs,a1,_,a3,_⟩:=rl.own i c e;rw[w]at a1;ext a1;rw[f]at a3;ext a3
    .let⟨_,_,_,xs,a4,_⟩:=rl.ob i t c e;rw[w,f]at a4;ext a4
   let⟨j,r,o,v,C⟩:=Rl.shares P.rep hs (rl.go ⟨Same.refl F,x.hh,rl.fh.trans x.hh,λb e n=>aV e n,λ_ _ _ z=>z⟩) (λz f=>a z (P.new z f).1) nd.2;let⟨g,G,E,D⟩:=a p P.hp;have g:j p=none:=by rw[C p nd.1];show g
   have s:Same j (upd j p (.lst (A.map V.ref))):=(Same.refl j).put g;show q (.ref p) _ M ⟨B,I,(o.share P.at' g G E D),ok.mono (r.trans s)⟩ (r.trans s) x.hh (.lst (SqL.of z8) (v.mono s))
  .cases e
theorem xo0{i:Nat}{src:Qd}(n:PS X st (tAsg (zr0 src (TId X.K mi) (TGd X.K g) (TC X.K cyes) (TF X.K a)) (R0 i))):PSw X st (yb6 i (zz7 (Z0 src mi g a))):=PS.imp n λD u H b=>by
 let⟨t,r,F,f,h,o,j,c,e,ok⟩:=b;delta yb6 at e;rcases h1:zz7 (Z0 src mi g a) f h,e with d;ext e;show yx3 (yo5 ⟨t,r,F,f,h,d,c,h1,λv s q m l _ rp=>?_⟩);let⟨B,p,rl,k⟩:=m;show ok s q _ ⟨B,p,rl.set rp,k⟩ l
end
theorem Fun.okPB{P:Program}{K:W.Frag}{i:Qb}{base:Heap}{st:Stmt}{k:Nat}(z:Fun K x b st f j)(v:FnScope N d (y4 st))
  (t:∀(c:Value)(A:Around)(a:List Env)(s:Shared)(H:Hp)(E:XK),Room k (A.deeper (envOfC b (y4 st) s.heap.objs.size f c))->PSsp (cxOf CX0 P w K i base N b (y4 st) f c A a s H E).nox (i6 st) m):
  FnOk P w K i base CX0 (k+1) f j d (spP K d.length (wf3 N.length m)):=by
 show z.ok v (λl H Q E h=>h.1) λc A a s H l Q E r h=>?_;let⟨C,F,u,g,n,o,e,ok⟩:=h;show⟨_,t c A a s H E r,F,H,F,u8 N.length u,g,E8 n o,e,λp q B y x P=>ok p q B y x P⟩
def GeAt(A:Around)(s:Shared)(v u:Value)(k:Bool):Prop:=∀(prog:Program)(w:World)(E:Qa)(Q:Qa),Q (.bool k) s->wpAny (model prog w) A (richCompare .GtE v u) Q E s
noncomputable def xe1(A:Around)(s:Shared):List Value->List Value->Bool->Prop
 |[],[],k=>k=true
 |[],_::_,k=>k=false
 |_::_,[],k=>k=true
 |y::ys,x::xs,k=>∃e,SeqAt.EqAt A s y x e/\((e=true/\xe1 A s ys xs k)\/(e=false/\GeAt A s y x k))
section
open PySem.SeqAt
open PySem.AutoSeq1 (wpAny_loadPart')
open PySem.MeetsSeq PySem.MeetsSeq2 PySem.MeetsSeq3
set_option maxHeartbeats 4000000 in
theorem yz3(l b:Addr)(items a:Array Value)(n F:Nat)(M B:Option Addr)(D u:Array (Option Value))(r:Bool)(k:Nat):
  ∀i:Nat,items.size-i=k->i<=items.size->i<=a.size->Meets (Builtin.«list.__eq__.loop» ⟨[.ref l,.ref b,rawInt i,rawInt 5],[]⟩)
   (λA R s=>s.heap.get? l=some { cls:=.type "list",dict:=M,data:=.seq items n,slots:=D }/\s.heap.get? b=some { cls:=.type "list",dict:=B,data:=.seq a F,slots:=u }/\
    xe1 A.in1 s (items.toList.drop i) (a.toList.drop i) r/\R (.ok (.ret (.bool r))) s):=by
 induction k with
 |zero=>
  intro i I L K j w A R s h;let⟨H,g,d,C,E⟩:=s;let⟨p,q,f,h⟩:=h
  wp_walk using wpAny_loadPart' p,wpAny_loadPart' q
  have m:items[((i:Nat):Int).toNat]? =none:=by simp;lia
  have y:items.toList.drop i=[]:=cQ (by simp;lia);rw[y]at f;have v:r=decide (a.size<=items.size):=by
   cases o:a.toList.drop i with
   |nil=>
    rw[o]at f;have:a.size<=i:=by simpa using o
    rw[show r=true from f];show(aO aw).symm
   |cons c N=>
    rw[o]at f;have:i<a.size:=by
     rcases bi i a.size with z|z
     .exact z
     .rw[cQ (by simpa using z)]at o;ext o
    rw[show r=false from f];show(aP aw).symm
  rw[m]
  wp_walk using wpAny_loadPart' p,wpAny_loadPart' q
  rw[v]at h;show h
 |succ k G=>
  intro i I L K j w A R s h;let⟨H,g,d,C,E⟩:=s;let⟨p,q,f,h⟩:=h;have x:i<items.size:=aw;have m:items[((i:Nat):Int).toNat]? =some items[i]:=by simp
  have y:items.toList.drop i=items[i]::items.toList.drop (i+1):=by rw[cP (by simpa using x)];simp
  have O:((i:Int)+1)=((i+1:Nat):Int):=by push_cast;rfl
  rw[y]at f;by_cases t:i<a.size
  .have hi2:a[((i:Nat):Int).toNat]? =some a[i]:=by simp
   have o:a.toList.drop i=a[i]::a.toList.drop (i+1):=by rw[cP (by simpa using t)];simp
   rw[o]at f;let⟨e,J,f⟩:=f
   wp_walk using wpAny_loadPart' p,wpAny_loadPart' q
   rw[m,hi2];show aB (J j w _ _ ?_);rcases f with⟨rfl,f⟩|⟨rfl,f⟩
   .wp_walk
    show⟨bY plain_eq_loop _,bF entry_eq_loop (by show G (i+1) aw aw aw j w A R _ ⟨p,q,f,h⟩)⟩
   .have hri:=f j w
    wp_walk using wpAny_loadPart' p,wpAny_loadPart' q
    rw[m,hi2]
    wp_walk using hri
    show h
  .have hi2:a[((i:Nat):Int).toNat]? =none:=by simp;lia
   have o:a.toList.drop i=[]:=cQ (by simp;lia);rw[o]at f;have v:r=decide (a.size<=items.size):=by rw[show r=true from f];show(aO aw).symm
   wp_walk using wpAny_loadPart' p,wpAny_loadPart' q
   rw[m,hi2]
   wp_walk using wpAny_loadPart' p,wpAny_loadPart' q
   rw[v]at h;show h
set_option maxHeartbeats 4000000 in
theorem vx0(l b:Addr)(items a:Array Value)(n j:Nat)(o f:Option Addr)(i c:Array (Option Value))(r:Bool):
  Meets (Builtin.«list.__ge__» ⟨[.ref l,.ref b],[]⟩)
   (λA R s=>s.heap.get? l=some { cls:=.type "list",dict:=o,data:=.seq items n,slots:=i }/\s.heap.get? b=some { cls:=.type "list",dict:=f,data:=.seq a j,slots:=c }/\
    xe1 A.in1 s items.toList a.toList r/\R (.ok (.ret (.bool r))) s):=by
 intro e w A R s h;let⟨u,g,d,q,t⟩:=s;let⟨k,m,p,h⟩:=h;have v:=AutoSeq1.sub_list_list
 wp_walk using wpAny_loadPart' k,wpAny_loadPart' m
 show⟨bY plain_eq_loop _,bF entry_eq_loop (by show yz3 l b items a n j o f i c r _ 0 rfl (aW _) (aW _) e w A R _ ⟨k,m,by simpa using p,h⟩)⟩
end
def lexG:List D->List D->Option Bool
 |[],[]=>some true
 |[],_::_=>some false
 |_::_,[]=>some true
 |d::ds,e::es=>match eqF 7 d e with
  |some true=>lexG ds es
  |some false=>(match d,e with | .int i,.int j=>some (decide (j<=i))|_,_=>none)
  |none=>none
section
variable {c:St}
theorem wq8(I:Inv X a c H s)(x:A.units+7<cLine){k:Bool}(f:Reps X.K H xs ds)(r2:Reps X.K H m es)(u:Vals xs p)(l:Vals m n)(h:lexG ds es=some k):xe1 A s p n k:=by
 induction u generalizing ds m n es with
 |nil=>
  ext f;cases l with
  |nil=>ext r2;ext h;show rfl
  |cons _ _=>ext r2;ext h;show rfl
 |cons r u o=>
  cases l with
  |nil=>ext r2;ext f;ext h;show rfl
  |cons q l=>
   cases f with
   |@cons _ d _ _ f t1=>
    cases r2 with
    |@cons _ e _ _ r2 t2=>
     unfold lexG at h;rcases hq:eqF 7 d e,h with b;show⟨b,(yk2 I 7 x f r2 r q hq).1,?_⟩;cases b with
     |true=>show .inl ⟨rfl,o t1 t2 l h⟩
     |false=>
      show .inr ⟨rfl,?_⟩;cases d with
      |int i=>
       cases e with
       |int j=>obtain rfl:=f.i';obtain rfl:=r2.i';let⟨t,rfl⟩:=r;let⟨v,rfl⟩:=q;ext h;show λg w E Q y=>(ge_int y:wpAny (model g w) A (compareOp .GtE (.int i t) (.int j v)) Q E s)
       |_=>ext h
      |_=>ext h
def geLD:D->D->Option D
 | .lst ds,.lst es=>(lexG ds es).map .bl
 |_,_=>none
def rGeL(K:W.Frag):R2:=λx y H Q=>∃ds es k,Rep K H x (.lst ds)/\Rep K H y (.lst es)/\lexG ds es=some k/\Q (.bl k) H
theorem xc9(Y:X.A.units+64<cLine):OpR X (compareOp .GtE) (rGeL X.K):=by
 intro a s c H x y v u Q I M J h;let⟨ds,Z,k,P,O,h,q⟩:=h;let⟨a1,C,rfl,E,N⟩:=P.l';let⟨a2,B,rfl,f,i⟩:=O.l';ext M;ext J;let⟨j,D,⟨⟨W,V,w,G⟩,m,r,U,S,T⟩,_⟩:=I.list E;let⟨b,e,⟨⟨z,o,p,g⟩,R,d,n,t,l⟩,_⟩:=I.list f;subst U T n l;have L:=wq8 I (A:=X.A.in1) (show X.A.units+1+7<cLine by lia) N i D e h;show richCompare_meets_room (op:=.GtE) ⟨_,r,rfl⟩ ⟨_,d,rfl⟩ PySem.F.slot_list_ge PySem.F.entry_list_ge (PySem.F.args_list_ge_2 _ _) (vx0 _ _ j.toArray b.toArray m R V o G g k)
  ⟨r,d,by simpa using L,show Value.bool k≠Value.notImplemented/\_ from⟨(λx=>nomatch x),⟨.bl k,H,I,rfl,q⟩⟩⟩ aw
theorem yc6{K:W.Frag}:OpD K (rGeL K) geLD:=by
 intro F H x y d e w Q s f b h q;delta geLD at h;split at h
 .rename_i ds es;rcases hk:lexG ds es,h with k;ext h;show⟨ds,es,k,f.mono s,b.mono s,hk,q _ F H (.refl s) (.bl _)⟩
 .cases h
end
def BlkH(fsc:Scope)(fN:List Str):Prop:=∀(X:Cx)(sc:Scope)(N:List Str)(src:Qd),X.env.scope=fsc->X.N=fN->xv9 fsc fN sc N src=true->Blk X sc N src
theorem bh:BlkH a fN:=λ_ _ _ _ c b h=>ze0 a fN c b h
noncomputable def locN:List (Str×NameKind)->List Str
 | (x,.local)::r=>x::locN r
 |_::r=>locN r
 |[]=>[]
noncomputable def nOf(fN:List Str):List Str->Qd->List Str
 |ls,some j::r=>match fN[j]? with
  |some x=>x::nOf fN ls r
  |none=>[]
 |x::ls,none::r=>x::nOf fN ls r
 |_,_=>[]
theorem vu2{X:Cx}{src:Qd}(h:BlkH a c)(f:X.env.scope=a)(e:X.N=c)(d:xv9 a c b (nOf c (locN b.names).tail src) src=true):Blk X b (nOf c (locN b.names).tail src) src:=h X b _ src f e d
theorem pe_D{X:Cx}(h:PD X e m):PE X e (TD X.K m):=h
theorem pe_F{X:Cx}(h:PF X e m):PE X e (TF X.K m):=h
theorem pe_B{X:Cx}(h:PB X e m):PE X e (TB X.K m):=h
theorem pe_M{X:Cx}(h:PDm X e m):PE X e (TDm X.K m):=h
def ws7{X:Cx}:=OpR.or (X:=X) xb0 zq8
theorem wb3{X:Cx}(f:X.A.units+64<cLine)(i:PD X a e)(h:PD X b d)(g:behindInMarks .GtE b=false):PC' X (.Compare a [.GtE] [b] c) (y0 (m2 geLD e d)):=zj9 (xc9 f) yc6 i h g
theorem pi_D{X:Cx}(h:PId X t e m):PI X t e (TId X.K m):=h
theorem we0{X:Cx}(h:PTsd X es m):PTs X es (TC X.K m):=h
theorem pe_W{X:Cx}{m:Ro->Bx->Option D}(h:PDw X e m):PE X e (TDw X.K m):=h
theorem pg_D{X:Cx}(h:PGd X e g):PG X e (TGd X.K g):=h
theorem ps_D{X:Cx}(h:PSd X e m):PS X e (TSd X.K m):=h
theorem QDn.d1{K:W.Frag}{b:Qb}{st:Stmt}(D:QDn K nm st)(X:K.In h)(G:h.Ns mainGlobals b)(c:∀a,QBdD nm nm st [p] [a]:=by show λ_ _ _ _ _ _ _=>rfl):QDf K b nm st [p]:=D.df X G (qbd1 c)
theorem QDn.d2{K:W.Frag}{c:Qb}{st:Stmt}(D:QDn K nm st)(X:K.In h)(G:h.Ns mainGlobals c)(d:∀a b,QBdD nm nm st [p,q] [a,b]:=by show λ_ _ _ _ _ _ _ _=>rfl):QDf K c nm st [p,q]:=D.df X G (qbd2 d)
theorem QDn.d3{K:W.Frag}{d:Qb}{st:Stmt}(D:QDn K nm st)(X:K.In h)(G:h.Ns mainGlobals d)(e:∀a b c,QBdD nm nm st [p,q,r] [a,b,c]:=by show λ_ _ _ _ _ _ _ _ _=>rfl):QDf K d nm st [p,q,r]:=D.df X G (qbd3 e)
theorem QDn.d4{K:W.Frag}{e:Qb}{st:Stmt}(D:QDn K nm st)(X:K.In h)(G:h.Ns mainGlobals e)(f:∀a b c d,QBdD nm nm st [p,q,r,s] [a,b,c,d]:=by show λ_ _ _ _ _ _ _ _ _ _=>rfl):QDf K e nm st [p,q,r,s]:=D.df X G (qbd4 f)
theorem QDn.d5{K:W.Frag}{f:Qb}{st:Stmt}(D:QDn K nm st)(X:K.In h)(G:h.Ns mainGlobals f)(g:∀a b c d e,QBdD nm nm st [p,q,r,s,t] [a,b,c,d,e]:=by show λ_ _ _ _ _ _ _ _ _ _ _=>rfl):QDf K f nm st [p,q,r,s,t]:=D.df X G (qbd5 g)
section
variable {P:Program}{w:World}{K:W.Frag}{mg:Qb}{base:Heap}{nm:Str}{st:Stmt}{N a:List Str}{k:Nat}{m:MS}
theorem QDf.okD(D:QDf K mg nm st a)(d:FnScope N a (y4 st))
  (g:∀(f:Addr)(c:Value)(A:Around)(b:List Env)(s:Shared)(H:Hp)(E:XK),BlkH (y4 st) N->N.Nodup->Room k (A.deeper (envOfC nm (y4 st) s.heap.objs.size f c))->PSsd (cxOf CX0 P w K mg base N nm (y4 st) f c A b s H E).nox (i6 st) m):
  QHd P w K mg base (k+1) nm a (spR K a.length (runB N.length m)):=
 D.mk λf _ h=>h.okD d λc A b s H E e=>g f c A b s H E bh d.nd e
theorem QDf.okG(D:QDf K mg nm st a)(d:FnScope N a (y4 st))
  (h:∀(f:Addr)(c:Value)(A:Around)(b:List Env)(s:Shared)(H:Hp)(E:XK),BlkH (y4 st) N->N.Nodup->Room k (A.deeper (envOfC nm (y4 st) s.heap.objs.size f c))->PSsd (cxOf CX0 P w K mg base N nm (y4 st) f c A b s H E).nox (i6 st) m) (g:0<N.length:=by decide):
  QHd P w K mg base (k+1) nm a (spG K a.length (runG N.length m)):=
 D.mk λf _ i=>i.okGl d g λc A b s H E e=>h f c A b s H E bh d.nd e
end
end L2
set_option maxHeartbeats 4000000
namespace Lw
open List
open PySem L2
noncomputable abbrev k0a(r:List Int):Option S:=some (.sh (.lst (r.map .int)))
noncomputable abbrev k0b(k:Nat):Option S:=some (.sh (.int (k:Int)))
noncomputable abbrev k0c(k:Int):Option S:=some (.sh (.int k))
noncomputable section
def b_Z8:MS:=(mif (y0 (m2 ltD (mvar 0) (mc (.int 1)))) zi9 w8)
def m_Z8:MF:=runB 1 b_Z8
def xu3:MS:=(mseq (mapp 2 (mlst (t9 [none,some 1,some 5,some 0] (w4 rng2 (z6 (m2 addD (mvar 4) (mc (.int 1))) (z6 (mlen (bvar 0)) anil))) (.nm 0) (y0 (m2 geD (m2 subD (mix (bvar 3) (mvar 0)) (mvar 2)) (mvar 1))) (mvar 0)))) (mapp 3 (mlst (t9 [none,some 1,some 5,some 0] (w4 rng2 (z6 (m2 addD (mvar 4) (mc (.int 1))) (z6 (mlen (bvar 0)) anil))) (.nm 0) (y0 (m2 geD (m2 subD (mvar 2) (mix (bvar 3) (mvar 0))) (mvar 1))) (mvar 0)))))
def xu2:MS:=(Y9 3 (Y9 2 (mret (mtup (z6 (mvar 2) (z6 (mvar 3) anil))))))
def b_Z9:MS:=(mseq (Z4 2 (y8 anil)) (mseq (Z4 3 (y8 anil)) (mseq (mfor (w4 Q8 (z6 (mvar 0) anil)) (.tp [4,5]) xu3) xu2)))
def m_Z9:MF:=runB 6 b_Z9
def L3:MS:=(mseq (mif (cor (y0 (m2 ltD (mvar 3) (mvar 2))) (y0 (m2 geD (mvar 3) (mlen (bvar 0))))) (mret (mc (.bl false))) w8) (mset 2 (m2 addD (mvar 3) (mc (.int 1)))))
def wm4:MS:=(mseq (mset 2 (mc (.int 0))) (mseq (mfor (u4 (mvar 1)) (.nm 3) L3) (mret (mc (.bl true)))))
def wq3:MF:=runB 4 wm4
def zn7:MS:=(mif (cor (y0 (m2 ltD (w5 K7 (z6 (mvar 2) (z6 (mvar 4) anil))) (mvar 3))) (y0 (m2 ltD (mvar 3) (w5 Q3 (z6 (mvar 2) (z6 (mvar 4) anil)))))) (maug 1 (mc (.int 1))) w8)
def wm2:MS:=(mseq (mset 1 (mc (.int 0))) (mseq (mfor (w4 zip3 (z6 (mvar 0) (z6 (mlst (mcut (bvar 0) (k9 (mc (.int 1))) W6)) (z6 (mlst (mcut (bvar 0) (k9 (mc (.int 2))) W6)) anil)))) (.tp [2,3,4]) zn7) (K5 1)))
def wq1:MF:=runB 5 wm2
def C5:MS:=(mif (y0 (m2 ltD (w5 absF (z6 (m2 subD (mvar 3) (mvar 2)) anil)) (mvar 1))) (mret (mc (.bl false))) w8)
def wm5:MS:=(mseq (mfor (w4 zip2 (z6 (mvar 0) (z6 (mlst (mcut (bvar 0) (k9 (mc (.int 1))) W6)) anil))) (.tp [2,3]) C5) (mret (m2 eqSD (u0 wq1 (z6 (mvar 0) anil)) (w5 K7 (z6 (mc (.int 0)) (z6 (m2 subD (mlen (bvar 0)) (mc (.int 2))) anil))))))
def wq4:MF:=runB 4 wm5
def xg7:MS:=(mseq (zo0 (u0 m_Z8 (z6 (mvar 1) anil))) (mret (mand (u0 wq3 (z6 (mvar 0) (z6 (mvar 2) anil))) (u0 wq4 (z6 (mlst (t9 [none,some 0] (u4 (mvar 2)) (.nm 0) cyes (mix (bvar 1) (mvar 0)))) (z6 (mvar 1) anil))))))
def xz2:MF:=runB 3 xg7
def wn9:MS:=(zi8 (t9 [none,some 0] (u4 (mvar 1)) (.nm 0) cyes (msum (t9 [none,some 1] (u4 (mvar 0)) (.nm 0) cyes (mix (bvar 1) (mvar 0))))))
def ym4:MF:=runB 2 wn9
def C3:MS:=(mseq (mapp 8 (mtup (z6 (mvar 5) (z6 (mvar 6) (z6 (mvar 7) anil))))) (mseq (mpar 6 7 (z6 (u0 ym4 (z6 (mvar 7) (z6 (mvar 3) anil))) (z6 (u0 ym4 (z6 (mvar 6) (z6 (mvar 4) anil))) anil))) (mset 5 (mlst (t9 [none,none] (w4 zip2 (z6 (mvar 6) (z6 (mvar 7) anil))) (.tp [0,1]) cyes (m2 addD (mvar 0) (mvar 1)))))))
def xg9:MS:=(mseq (masg (.tp [3,4]) (u0 m_Z9 (z6 (mvar 0) (z6 (mvar 1) anil)))) (mseq (yn8 5 6 7 (mlst (mrep (y8 (z6 (mc (.int 1)) anil)) (mlen (bvar 0))))) (mseq (Z4 8 (y8 anil)) (mseq (V4 (cand (y0 (m2 ltD (mlen (bvar 8)) (mvar 2))) (mtru (many (bvar 5)))) C3 1000) (K5 8)))))
def xj5:MF:=runB 9 xg9
def b_Z3:MS:=(mseq (mset 1 (mlst (mcat (y8 (z6 (mtup (z6 (mc (.int 0)) (z6 (mc (.int 1)) anil))) anil)) (bvar 0)))) (mseq (mset 2 (za2 (t9 [none,none] (u4 (mvar 1)) (.tp [0,1]) cyes (mvar 0)))) (mret (mtup (z6 (m2 addD (mvar 2) (mc (.int 1))) (z6 (msum (t9 [none,none,some 2] (u4 (mvar 1)) (.tp [0,1]) (y0 (m2 eqSD (mvar 0) (mvar 2))) (mvar 1))) anil))))))
def m_Z3:MF:=runB 3 b_Z3
def yw1:MS:=(mseq (a9 4 (mvar 6) (u0 m_Z3 (z6 (mlst (zz6 [none,some 5] (u4 (mix (bvar 2) (mvar 6))) (.nm 0) cyes (mix (bvar 1) (mvar 0)))) anil))) (a9 5 (mvar 6) (u0 m_Z3 (z6 (mlst (zz6 [none,some 4] (u4 (mix (bvar 3) (mvar 6))) (.nm 0) cyes (mix (bvar 1) (mvar 0)))) anil))))
def xu8:MS:=(Y9 4 (Y9 5 (mseq (mset 7 (zh0 (t9 [none,none] (u4 (m2 addD (mvar 4) (mvar 5))) (.tp [0,1]) cyes (mvar 0)) (mc (.int 0)))) (mseq (mif (y0 (m2 ltD (mvar 7) (mc (.int 2)))) (mret (w5 K7 (z6 (mc (.int 1)) (z6 (mlen (bvar 0)) anil)))) w8) (mret (msum (t9 [none,none,some 7] (u4 (m2 addD (mvar 4) (mvar 5))) (.tp [0,1]) (y0 (m2 eqSD (mvar 0) (mvar 2))) (mvar 1))))))))
def b_Z0:MS:=(mseq (zo0 (u0 m_Z8 (z6 (mvar 1) anil))) (mseq (masg (.tp [2,3]) (u0 m_Z9 (z6 (mvar 0) (z6 (mvar 1) anil)))) (mseq (Z4 4 (mrep (y8 (z6 (mtup (z6 (mc (.int 0)) (z6 (mc (.int 0)) anil))) anil)) (mlen (bvar 0)))) (mseq (Z4 5 (mrep (y8 (z6 (mtup (z6 (mc (.int 0)) (z6 (mc (.int 0)) anil))) anil)) (mlen (bvar 0)))) (mseq (mfor (w4 rngD (z6 (mlen (bvar 0)) anil)) (.nm 6) yw1) xu8)))))
def m_Z0:MF:=runB 8 b_Z0
def wn6:MS:=(mseq (masg (.tp [5,6,7]) (mvar 2)) (mseq (mif (cnot (mtru (mvar 3))) (mret (mix (bvar 5) (mvar 4))) w8) (mseq (mif (cnot (mtru (u0 xz2 (z6 (mvar 0) (z6 (mvar 1) (z6 (mlst (mcat (mcut (bvar 3) (k9 (m1 negD (mc (.int 2)))) W6) (y8 (z6 (mvar 4) anil)))) anil)))))) (mret (mc (.int 0))) w8) (mret (mite (y0 (m2 gtD (mix (bvar 0) (mvar 4)) (mix (bvar 0) (mix (bvar 3) (m1 negD (mc (.int 1))))))) (mix (bvar 7) (mvar 4)) (mix (bvar 6) (mvar 4)))))))
def xz0:MF:=runB 8 wn6
def C0:MS:=(mseq (xj1 3 (mvar 7)) (mseq (maug 5 (mc (.int 1))) (mset 7 (za5 4 (u0 xz0 (z6 (mvar 0) (z6 (mvar 1) (z6 (mvar 6) (z6 (mvar 4) (z6 (mvar 5) anil))))))))))
def yq9:MS:=(mseq (mapp 4 (mvar 5)) (maug 5 (mc (.int 1))))
def D9:MS:=(mseq (mset 7 (za5 4 (u0 xz0 (z6 (mvar 0) (z6 (mvar 1) (z6 (mvar 6) (z6 (mvar 4) (z6 (mvar 5) anil)))))))) (mseq (V4 (y0 (m2 ltD (mvar 7) (mvar 3))) C0 1000) yq9))
def xg3:MS:=(mseq (Z4 4 (y8 anil)) (mseq (mset 5 (mc (.int 0))) (mseq (mfor (w4 revL (z6 (mvar 2) anil)) (.nm 6) D9) (K5 4))))
def xz1:MF:=runB 8 xg3
def b_Z1:MS:=(mret (mite (mtru (mvar 0)) (msum (u4 (m2 ixTD (mix (bvar 0) (m1 negD (mc (.int 1)))) (mc (.int 0))))) (mc (.int 1))))
def m_Z1:MF:=runB 1 b_Z1
def n9:MFP:=wf3 5 (zi6 (zo0 (u0 m_Z8 (z6 (mvar 1) anil))) (zi6 (mif (cor (y0 (m2 ltD (mvar 2) (mc (.int 0)))) (y0 (m2 gtD (mvar 2) (mc (.int 100))))) zi9 w8) (zi6 (mset 3 (u0 xj5 (z6 (mvar 0) (z6 (mvar 1) (z6 (mlen (bvar 0)) anil))))) (zi6 (mset 4 (w5 Q3 (z6 (mvar 2) (z6 (u0 m_Z1 (z6 (mvar 3) anil)) anil)))) (Z0 [none,some 0,some 1,some 3] (w4 rng2 (z6 (mc (.int 1)) (z6 (m2 addD (mvar 4) (mc (.int 1))) anil))) (.nm 0) (W1 xz1 (z6 (mvar 1) (z6 (mvar 2) (z6 (mvar 3) (z6 (mvar 0) anil))))))))))
def xg6:MS:=(zi8 (y8 (z6 (w5 absF (z6 (mvar 0) anil)) (z6 (m2 modD (m2 mulD (m2 addD (m2 modD (mvar 0) (mc (.int 2147483647))) (mc (.int 1))) (mc (.int 742938285))) (mc (.int 2147483647))) anil))))
def xj4:MF:=runB 1 xg6
def zv3:MS:=(mseq (mif (y0 (m2 geD (mix (bvar 0) (mc (.int 0))) (m2 powD (mc (.int 10)) (mc (.int 18))))) (mseq (mset 2 (m2 modD (mix (bvar 0) (mc (.int 0))) (mvar 1))) (mseq (a9 0 (mc (.int 0)) (m2 yr6 (mix (bvar 0) (mc (.int 0))) (mvar 1))) (zw5 0 (mpu (mvar 2))))) w8) (mseq (a9 0 (mc (.int 1)) (m2 modD (m2 addD (m2 mulD (mix (bvar 0) (mc (.int 1))) (mc (.int 48271))) (mc (.int 11))) (mc (.int 2147483647)))) (mseq (mset 3 (m2 modD (m2 mulD (mix (bvar 0) (mc (.int 1))) (mix (bvar 0) (mc (.int 1)))) (mc (.int 2147483629)))) (zw5 0 (mpu (m2 modD (m2 yk1 (m2 modD (m2 mulD (mvar 3) (mc (.int 69621))) (mc (.int 2147483587))) (mc (.int 8))) (mvar 1)))))))
def i5:MG:=runG 4 zv3
def xu5:MS:=zi9
def b_Z6:MS:=(mseq (mif (y0 (m2 (isND false) (mvar 1) (mc .non))) (mret (m2 (isND false) (mvar 0) (mc .non))) w8) (mseq (mif (mtru (misi "bool" (mvar 1))) (mret (mand (misi "bool" (mvar 0)) (m2 eqSD (mvar 0) (mvar 1)))) w8) (mseq (mif (mtru (misi "int" (mvar 1))) (mret (mand (misi "int" (mvar 0)) (mand (m1 notD (misi "bool" (mvar 0))) (m2 eqSD (mvar 0) (mvar 1))))) w8) (mseq (mif (mtru (misi "str" (mvar 1))) (mret (mand (misi "str" (mvar 0)) (m2 eqSD (mvar 0) (mvar 1)))) w8) (mseq (mif (mtru (misi "tuple" (mvar 1))) (mif (cnot (mtru (misi "tuple" (mvar 0)))) (mret (mc (.bl false))) w8) (mif (cnot (mtru (misi "list" (mvar 0)))) (mret (mc (.bl false))) w8)) (mseq (mif (y0 (m2 neSD (w5 lenF (z6 (mvar 0) anil)) (w5 lenF (z6 (mvar 1) anil)))) (mret (mc (.bl false))) w8) (mseq (mfor (w4 rng1 (z6 (w5 lenF (z6 (mvar 1) anil)) anil)) (.nm 2) xu5) (mret (mc (.bl true))))))))))
def m_Z6:MF:=runB 3 b_Z6
def xu6:MS:=(mif (cnot (mtru (u0 m_Z6 (z6 (m2 ixAD (mvar 0) (mvar 2)) (z6 (m2 ixAD (mvar 1) (mvar 2)) anil))))) (mret (mc (.bl false))) w8)
def b_Z5:MS:=(mseq (mif (y0 (m2 (isND false) (mvar 1) (mc .non))) (mret (m2 (isND false) (mvar 0) (mc .non))) w8) (mseq (mif (mtru (misi "bool" (mvar 1))) (mret (mand (misi "bool" (mvar 0)) (m2 eqSD (mvar 0) (mvar 1)))) w8) (mseq (mif (mtru (misi "int" (mvar 1))) (mret (mand (misi "int" (mvar 0)) (mand (m1 notD (misi "bool" (mvar 0))) (m2 eqSD (mvar 0) (mvar 1))))) w8) (mseq (mif (mtru (misi "str" (mvar 1))) (mret (mand (misi "str" (mvar 0)) (m2 eqSD (mvar 0) (mvar 1)))) w8) (mseq (mif (mtru (misi "tuple" (mvar 1))) (mif (cnot (mtru (misi "tuple" (mvar 0)))) (mret (mc (.bl false))) w8) (mif (cnot (mtru (misi "list" (mvar 0)))) (mret (mc (.bl false))) w8)) (mseq (mif (y0 (m2 neSD (w5 lenF (z6 (mvar 0) anil)) (w5 lenF (z6 (mvar 1) anil)))) (mret (mc (.bl false))) w8) (mseq (mfor (w4 rng1 (z6 (w5 lenF (z6 (mvar 1) anil)) anil)) (.nm 2) xu6) (mret (mc (.bl true))))))))))
def m_Z5:MF:=runB 3 b_Z5
def xu4:MS:=(mif (cnot (mtru (u0 m_Z5 (z6 (m2 ixAD (mvar 0) (mvar 2)) (z6 (m2 ixAD (mvar 1) (mvar 2)) anil))))) (mret (mc (.bl false))) w8)
def b_Z7:MS:=(mseq (mif (y0 (m2 (isND false) (mvar 1) (mc .non))) (mret (m2 (isND false) (mvar 0) (mc .non))) w8) (mseq (mif (mtru (misi "bool" (mvar 1))) (mret (mand (misi "bool" (mvar 0)) (m2 eqSD (mvar 0) (mvar 1)))) w8) (mseq (mif (mtru (misi "int" (mvar 1))) (mret (mand (misi "int" (mvar 0)) (mand (m1 notD (misi "bool" (mvar 0))) (m2 eqSD (mvar 0) (mvar 1))))) w8) (mseq (mif (mtru (misi "str" (mvar 1))) (mret (mand (misi "str" (mvar 0)) (m2 eqSD (mvar 0) (mvar 1)))) w8) (mseq (mif (mtru (misi "tuple" (mvar 1))) (mif (cnot (mtru (misi "tuple" (mvar 0)))) (mret (mc (.bl false))) w8) (mif (cnot (mtru (misi "list" (mvar 0)))) (mret (mc (.bl false))) w8)) (mseq (mif (y0 (m2 neSD (w5 lenF (z6 (mvar 0) anil)) (w5 lenF (z6 (mvar 1) anil)))) (mret (mc (.bl false))) w8) (mseq (mfor (w4 rng1 (z6 (w5 lenF (z6 (mvar 1) anil)) anil)) (.nm 2) xu4) (mret (mc (.bl true))))))))))
def m_Z7:MF:=runB 3 b_Z7
def zn6:MS:=(mseq (X8 7 (u6 i5 0 (apu (z6 (mvar 4) anil)))) (mseq (mif (y0 (m2 eqSD (mvar 3) (mc (.int 1)))) (mset 7 (m2 subD (mvar 7) (m2 yk1 (mvar 4) (mc (.int 2))))) w8) (mseq (mif (y0 (m2 eqSD (mvar 3) (mc (.int 2)))) (mset 7 (m2 subD (m2 mulD (mvar 7) (m2 powD (mc (.int 10)) (mc (.int 27)))) (m2 mulD (mvar 4) (m2 powD (mc (.int 10)) (mc (.int 26)))))) w8) (mseq (mif (y0 (m2 eqSD (mvar 3) (mc (.int 3)))) (mset 7 (mix (y8 (z6 (mvar 7) (z6 (m2 addD (mvar 4) (mvar 7)) anil))) (m2 modD (mvar 6) (mc (.int 2))))) w8) (mseq (mif (y0 (m2 eqSD (mvar 3) (mc (.int 4)))) (mset 7 (m2 addD (mvar 7) (mvar 6))) w8) (mseq (mif (y0 (m2 eqSD (mvar 3) (mc (.int 5)))) (X8 7 (m2m mulD (V8 intF (e8 (m2m eqSD (u6 i5 0 (apu (z6 (mc (.int 4)) anil))) (mpu (mc (.int 0)))) (apu anil))) (mpu (mvar 7)))) w8) (mapp 5 (mvar 7))))))))
def xg5:MS:=(mseq (X8 2 (m2m ixLD (za3 (e8 (u6 i5 0 (apu (z6 (m2 addD (mvar 1) (mc (.int 1))) anil))) (e8 (mpu (mvar 1)) (e8 (u6 i5 0 (apu (z6 (m2 addD (w5 Q3 (z6 (mvar 1) (z6 (mc (.int 4)) anil))) (mc (.int 1))) anil))) (apu anil))))) (u6 i5 0 (apu (z6 (mc (.int 3)) anil))))) (mseq (X8 3 (u6 i5 0 (apu (z6 (mc (.int 6)) anil)))) (mseq (X8 4 (m2m ixLD (mpu (mlst (y8 (z6 (mc (.int 2)) (z6 (mc (.int 4)) (z6 (mc (.int 10)) (z6 (mc (.int 100)) anil))))))) (u6 i5 0 (apu (z6 (mc (.int 4)) anil))))) (mseq (Z4 5 (y8 anil)) (mseq (mfor (w4 rng1 (z6 (mvar 2) anil)) (.nm 6) zn6) (yt8 0 5))))))
def wr8:MG:=runG 8 xg5
def xg8:MS:=(mseq (X8 2 (za3 (e8 (mpu (mc (.int 1))) (e8 (mpu (mc (.int 1))) (e8 (m2m addD (mpu (mc (.int 1))) (u6 i5 0 (apu (z6 (mc (.int 4)) anil)))) (e8 (m2m addD (mpu (mc (.int 1))) (u6 i5 0 (apu (z6 (mc (.int 100)) anil)))) (apu (z6 (m2 powD (mc (.int 10)) (mc (.int 27))) (z6 (m2 powD (mc (.int 10)) (mc (.int 29))) anil))))))))) (mseq (mif (y0 (meqB true (bvar 1) (y8 anil))) (mseq (X8 3 (V8 absF (e8 (m2m subD (m2m ixLD (mpu (mvar 1)) (u6 i5 0 (apu (z6 (mlen (bvar 1)) anil)))) (m2m ixLD (mpu (mvar 1)) (u6 i5 0 (apu (z6 (mlen (bvar 1)) anil))))) (apu anil)))) (mset 2 (mlst (mcat (bvar 2) (y8 (z6 (w5 K7 (z6 (mc (.int 1)) (z6 (mvar 3) anil))) (z6 (m2 addD (mvar 3) (mc (.int 1))) anil))))))) w8) (zw5 0 (m2m ixLD (mpu (mvar 2)) (u6 i5 0 (apu (z6 (mlen (bvar 2)) anil)))))))
def wq0:MG:=runG 4 xg8
def C2:MS:=(mseq (mset 4 (mix (bvar 0) (mix (bvar 2) (m2 subD (mvar 3) (mc (.int 1)))))) (mseq (mset 5 (m2 subD (mix (bvar 0) (mix (bvar 2) (mvar 3))) (mvar 4))) (mseq (mif (y0 (m2 ltD (w5 absF (z6 (mvar 5) anil)) (mvar 1))) (mret (mc (.bl false))) w8) (mif (cand (y0 (m2 gtD (mvar 3) (mc (.int 1)))) (y0 (m2 eqSD (m2 gtD (mvar 5) (mc (.int 0))) (m2 gtD (mvar 4) (mix (bvar 0) (mix (bvar 2) (m2 subD (mvar 3) (mc (.int 2))))))))) (mret (mc (.bl false))) w8))))
def wm1:MS:=(mseq (mfor (w4 rng2 (z6 (mc (.int 1)) (z6 (mlen (bvar 2)) anil))) (.nm 3) C2) (mret (mc (.bl true))))
def zh4:MF:=runB 6 wm1
def C1:MS:=(mseq (mset 4 (mlst (t9 [none,some 3] (u4 (mvar 2)) (.nm 0) cyes (mlst (mcat (bvar 0) (y8 (z6 (mvar 1) anil))))))) (mset 2 (mlst (mcat (bvar 2) (t9 [none,some 0,some 1] (u4 (mvar 4)) (.nm 0) (mtru (u0 zh4 (z6 (mvar 1) (z6 (mvar 2) (z6 (mlst (mcut (bvar 0) (k9 (m1 negD (mc (.int 3)))) W6)) anil))))) (mvar 0))))))
def wn8:MS:=(mseq (mset 2 (mlst (y8 (z6 (mlst (y8 anil)) anil)))) (mseq (mfor (w4 rng1 (z6 (mlen (bvar 0)) anil)) (.nm 3) C1) (zi8 (O9 (bvar 2)))))
def xj3:MF:=runB 5 wn8
def zn5:MS:=(a9 2 (m2 addD (mvar 3) (mc (.int 1))) (m2 addD (mix (bvar 2) (m2 addD (mvar 3) (mc (.int 1)))) (mvar 4)))
def xg4:MS:=(mseq (Z4 2 (mcat (bvar 0) (mrep (y8 (z6 (mc (.int 0)) anil)) (m2 subD (m2 addD (mlen (bvar 1)) (mc (.int 1))) (mlen (bvar 0)))))) (mseq (mfor (w4 Q8 (z6 (mvar 1) anil)) (.tp [3,4]) zn5) (K5 2)))
def zw8:MF:=runB 5 xg4
def C4:MS:=(mseq (mset 8 (w5 intF (z6 (m2 geD (m2 subD (mix (bvar 0) (mvar 7)) (mvar 5)) (mvar 1)) anil))) (mif (y0 (m2 geD (w5 absF (z6 (m2 subD (mvar 5) (mix (bvar 0) (mvar 7))) anil)) (mvar 1))) (a9 6 (mvar 8) (u0 zw8 (z6 (mix (bvar 6) (mvar 8)) (z6 (mix (u4 (mix (bvar 2) (mvar 7))) (m2 subD (mc (.int 1)) (mvar 8))) anil)))) w8))
def yp2:MS:=(a9 3 (mvar 10) (m2 addD (mix (bvar 3) (mvar 10)) (mix (bvar 9) (mvar 10))))
def zn8:MS:=(mseq (Z4 3 (mcat (bvar 3) (mrep (y8 (z6 (mc (.int 0)) anil)) (m2 subD (mlen (bvar 9)) (mlen (bvar 3)))))) (mfor (w4 rng2 (z6 (mc (.int 2)) (z6 (mlen (bvar 9)) anil))) (.nm 10) yp2))
def yp0:MS:=(Y9 6 (mseq (mapp 2 (mvar 6)) (mfor (u4 (mvar 6)) (.nm 9) zn8)))
def yp1:MS:=(mseq (Z4 6 (y8 (z6 (mlst (y8 (z6 (mc (.int 0)) (z6 (mc (.int 1)) anil)))) (z6 (mlst (y8 (z6 (mc (.int 0)) (z6 (mc (.int 1)) anil)))) anil)))) (mseq (mfor (w4 rng1 (z6 (mvar 4) anil)) (.nm 7) C4) yp0))
def xf0:MS:=(mseq (Z4 2 (y8 anil)) (mseq (Z4 3 (mcut (y8 (z6 (mc (.int 1)) (z6 (mlen (bvar 0)) anil))) W6 (k9 (m2 addD (mc (.int 1)) (mlen (bvar 0)))))) (mseq (mfor (w4 Q8 (z6 (mvar 0) anil)) (.tp [4,5]) yp1) (K5 3))))
def zh5:MF:=runB 11 xf0
def P7:MW:=(Q2 (wS (mset 5 (w5 intF (z6 (m2 geD (m2 subD (mix (bvar 0) (mvar 3)) (mix (bvar 0) (mvar 4))) (mvar 1)) anil)))) (mifW (wE (y0 (m2 geD (w5 absF (z6 (m2 subD (mix (bvar 0) (mvar 4)) (mix (bvar 0) (mvar 3))) anil)) (mvar 1)))) (yb7 2 (mvar 3) (mvar 5) (lsW (ym5 (W1 zw8 (z6 (mix (u4 (mix (bvar 2) (mvar 3))) (mvar 5)) (z6 (mix (u4 (mix (bvar 2) (mvar 4))) (m2 subD (mc (.int 1)) (mvar 5))) anil)))))) (wS w8)))
def P6:MW:=(Q2 (zp5 2 (mvar 3) (y8 (z6 (mlst (y8 (z6 (mc (.int 0)) (z6 (mc (.int 1)) anil)))) (z6 (mlst (y8 (z6 (mc (.int 0)) (z6 (mc (.int 1)) anil)))) anil)))) (ym0 (w4 rng2 (z6 (m2 addD (mvar 3) (mc (.int 1))) (z6 (mlen (bvar 0)) anil))) (.nm 4) P7))
def zx8:MW:=(D1 2 (zi7 (wE (mvar 2))))
def P5:MW:=(Q2 (ym0 (w4 rng3 (z6 (m2 subD (mlen (bvar 0)) (mc (.int 1))) (z6 (m1 negD (mc (.int 1))) (z6 (m1 negD (mc (.int 1))) anil)))) (.nm 3) P6) zx8)
def D7:MW:=(xk6 2 (Z0 [none] (u4 (mvar 0)) (.nm 0) (y8 anil)) P5)
def D2:MF:=plainW (runW 6 D7)
def wn7:MS:=(mret (mix (mcat (mcut (bvar 0) (k9 (mvar 1)) (k9 (m2 addD (mvar 1) (mc (.int 1))))) (y8 (z6 (mc (.int 0)) anil))) (mc (.int 0))))
def ym3:MF:=runB 2 wn7
def L0:MS:=(mif (cand (y0 (m2 eqSD (mvar 4) (mc (.int 0)))) (y0 (m2 eqSD (mvar 5) (mc (.int 1))))) (mset 6 (m2 addD (mvar 6) (mc (.int 1)))) (mif (y0 (m2 eqSD (mvar 4) (mc (.int 0)))) (mseq (mset 6 (m2 addD (mvar 6) (u0 ym3 (z6 (mix (u4 (mix (bvar 2) (mvar 7))) (mc (.int 0))) (z6 (mvar 5) anil))))) (mset 6 (m2 addD (mvar 6) (u0 ym3 (z6 (mix (u4 (mix (bvar 2) (mvar 7))) (mc (.int 1))) (z6 (mvar 5) anil)))))) (mif (mtru (u0 zh4 (z6 (mvar 0) (z6 (mvar 1) (z6 (mlst (mcat (mcut (bvar 3) (k9 (w5 K7 (z6 (mc (.int 0)) (z6 (m2 subD (mvar 4) (mc (.int 2))) anil)))) (k9 (mvar 4))) (y8 (z6 (mvar 7) anil)))) anil))))) (mseq (mset 8 (mix (u4 (mix (bvar 2) (mvar 7))) (w5 intF (z6 (m2 gtD (mix (bvar 0) (mvar 7)) (mix (bvar 0) (mix (bvar 3) (m2 subD (mvar 4) (mc (.int 1)))))) anil)))) (mset 6 (m2 addD (mvar 6) (u0 ym3 (z6 (mvar 8) (z6 (mvar 5) anil)))))) w8)))
def wm3:MS:=(mseq (mset 5 (m2 subD (mlen (bvar 3)) (mvar 4))) (mseq (mset 6 (mc (.int 0))) (mseq (mfor (w4 rng2 (z6 (m2 addD (mix (mcat (y8 (z6 (m1 negD (mc (.int 1))) anil)) (bvar 3)) (mvar 4)) (mc (.int 1))) (z6 (mix (bvar 3) (mvar 4)) anil))) (.nm 7) L0) (K5 6))))
def wq2:MF:=runB 9 wm3
def M9:MS:=(mset 4 (m2 addD (mvar 4) (u0 wq2 (z6 (mvar 0) (z6 (mvar 1) (z6 (mvar 2) (z6 (mvar 3) (z6 (mvar 5) anil))))))))
def wm0:MS:=(mseq (mset 4 (mc (.int 1))) (mseq (mfor (w4 rng1 (z6 (mlen (bvar 3)) anil)) (.nm 5) M9) (K5 4)))
def wr9:MF:=runB 6 wm0
def b_Z2:MS:=(mseq (mset 4 (u0 xj3 (z6 (mvar 0) (z6 (mvar 1) anil)))) (mseq (mset 5 (za2 (t9 [none] (u4 (mvar 4)) (.nm 0) cyes (mlen (bvar 0))))) (mseq (mset 6 (mlst (t9 [none,some 5] (u4 (mvar 4)) (.nm 0) (y0 (m2 eqSD (mlen (bvar 0)) (mvar 1))) (mvar 0)))) (mret (mand (u0 m_Z7 (z6 (mix (bvar 3) (mc (.int 0))) (z6 (mlen (bvar 6)) anil))) (u0 m_Z7 (z6 (mix (bvar 3) (mc (.int 1))) (z6 (mlst (mcut (bvar 6) W6 (k9 (mvar 2)))) anil))))))))
def m_Z2:MF:=runB 7 b_Z2
def yw0:MS:=(mseq (mif (cor (cnot (mtru (misi "list" (mvar 7)))) (y0 (meqB true (t9 [none] (u4 (mvar 7)) (.nm 0) (mtru (misi "bool" (mvar 0))) (mvar 0)) (y8 anil)))) (mret (mc (.bl false))) w8) (mseq (mif (cor (y0 (m2 neSD (mlen (bvar 7)) (m2 subD (mlen (bvar 4)) (mc (.int 1))))) (y0 (meqB true (bvar 7) (U6 (bvar 7))))) (mret (mc (.bl false))) w8) (mif (cor (cand (y0 (meqB true (bvar 7) (y8 anil))) (cor (y0 (m2 ltD (mix (bvar 7) (mc (.int 0))) (mc (.int 0)))) (y0 (m2 geD (mix (bvar 7) (m1 negD (mc (.int 1)))) (mlen (bvar 0)))))) (cnot (mtru (u0 zh4 (z6 (mvar 0) (z6 (mvar 1) (z6 (mvar 7) anil))))))) (mret (mc (.bl false))) w8)))
def xu7:MS:=(mseq (mif (y0 (meqB true (t9 [none,some 6] (w4 rng2 (z6 (mc (.int 1)) (z6 (mlen (bvar 6)) anil))) (.nm 0) (y0 (m2 geLD (mix (bvar 1) (m2 subD (mvar 0) (mc (.int 1)))) (mix (bvar 1) (mvar 0)))) (mvar 0)) (y8 anil))) (mret (mc (.bl false))) w8) (mseq (mif (y0 (meqB false (bvar 6) (y8 anil))) (mret (mc (.bl true))) w8) (mret (m2 eqSD (u0 wr9 (z6 (mvar 0) (z6 (mvar 1) (z6 (u0 D2 (z6 (mvar 0) (z6 (mvar 1) anil))) (z6 (mix (bvar 6) (m1 negD (mc (.int 1)))) anil))))) (mlen (bvar 6))))))
def b_Z4:MS:=(mseq (mset 4 (u0 zh5 (z6 (mvar 0) (z6 (mvar 1) anil)))) (mseq (zh2 [5,6] (mpu (mvar 3))) (mseq (mif (cor (cnot (mtru (u0 m_Z7 (z6 (mvar 5) (z6 (mix (bvar 4) (m1 negD (mc (.int 1)))) anil))))) (cnot (mtru (misi "list" (mvar 6))))) (mret (mc (.bl false))) w8) (mseq (mif (y0 (m2 neSD (mlen (bvar 6)) (w5 Q3 (z6 (mvar 2) (z6 (mvar 5) anil))))) (mret (mc (.bl false))) w8) (mseq (mfor (u4 (mvar 6)) (.nm 7) yw0) xu7)))))
def m_Z4:MF:=runB 8 b_Z4
def yq8:MW:=(Q2 (mifW (J8 (ym1 12 (y0 (meqB true (u4 (mix (bvar 10) (mc (.int 1)))) (t9 [none,none] (w4 Q8 (z6 (mvar 11) anil)) (.tp [0,1]) cyes (mlst (mcat (bvar 1) (y8 (z6 (mvar 0) anil))))))))) (zi7 (wE (mc (.bl false)))) (wS w8)) (mifW (wE (y0 (meqB true (yn3 (J5 n9 (z6 (mvar 9) (z6 (mvar 6) (z6 (mvar 8) anil))))) (bvar 11)))) (zi7 (wE (mc (.bl false)))) (wS w8)))
def M8:MW:=(D0 10 (Q2 (mifW (wE (y0 (meqB true (bvar 9) (bvar 5)))) (zi7 (wE (mc (.bl false)))) (wS w8)) (Q2 (mifW (J8 (cand (y0 (m2 ltD (mlen (bvar 5)) (mc (.int 10)))) (cnot (mtru (u0 m_Z2 (z6 (mvar 5) (z6 (mvar 6) (z6 (mvar 8) (z6 (mvar 10) anil))))))))) (zi7 (wE (mc (.bl false)))) (wS w8)) (Q2 (mifW (J8 (cand (y0 (m2 gtD (mlen (bvar 5)) (mc (.int 9)))) (cnot (mtru (u0 m_Z4 (z6 (mvar 5) (z6 (mvar 6) (z6 (mvar 8) (z6 (mvar 10) anil))))))))) (zi7 (wE (mc (.bl false)))) (wS w8)) (Q2 (yb6 11 (zz7 (Z0 [none] (u4 (mix (bvar 10) (mc (.int 1)))) (.nm 0) (bvar 0)))) (Q2 (zz5 (mix (bvar 10) (mc (.int 1))) 1 12) yq8))))))
def D6:MW:=(zh3 10 (J5 n9 (z6 (mvar 9) (z6 (mvar 6) (z6 (mvar 8) anil)))) M8)
def D8:MS:=(mseq (Z4 3 (W1 xj4 (z6 (mvar 2) anil))) (mseq (X8 4 (m2m ixLD (mpu (mlst (y8 (z6 (mc (.int 9)) (z6 (mc (.int 40)) anil))))) (u6 i5 3 (apu (z6 (mc (.int 2)) anil))))) (mseq (mifm (yx4 (cpu (y0 (m2 eqSD (mvar 1) (mc (.int 0))))) (zz2 (m2m eqSD (u6 i5 3 (apu (z6 (mc (.int 8)) anil))) (mpu (mc (.int 0)))))) (X8 4 (m2m ixLD (mpu (mlst (y8 (z6 (mc (.int 150)) (z6 (mc (.int 150)) (z6 (mc (.int 150)) (z6 (mc (.int 300)) anil))))))) (u6 i5 3 (apu (z6 (mc (.int 4)) anil))))) w8) (mseq (X8 5 (u6 wr8 3 (apu (z6 (mvar 4) anil)))) (mseq (X8 6 (u6 wq0 3 (apu (z6 (mvar 5) anil)))) (mseq (X8 7 (za3 (e8 (u6 i5 3 (apu (z6 (mc (.int 101)) anil))) (e8 (u6 i5 3 (apu (z6 (mc (.int 4)) anil))) (apu (z6 (mc (.int 100)) anil)))))) (mseq (X8 8 (V8 Q3 (e8 (m2m ixLD (mpu (mvar 7)) (u6 i5 3 (apu (z6 (mc (.int 3)) anil)))) (apu (z6 (mix (y8 (z6 (mc (.int 100)) (z6 (mc (.int 3)) anil))) (w5 intF (z6 (m2 gtD (mvar 4) (mc (.int 40))) anil))) anil))))) (mseq (mset 9 (mlst (bvar 5))) (mseq (Z4 10 (y8 (z6 (u0 m_Z0 (z6 (mvar 9) (z6 (mvar 6) anil))) anil))) (lowS D6))))))))))
def xg2:MS:=(mseq (mfor (w4 Q8 (z6 (mlst (mcat (mcut (bvar 0) W6 (k9 (mc (.int 3)))) (y8 (z6 (mlen (bvar 0)) anil)))) anil)) (.tp [1,2]) D8) (mret (mc (.bl true))))
def za8:MF:=runB 13 xg2
end
section
theorem vv3(i j:Int):eqS (.int i) (.int j)=some (i==j):=rfl
theorem vv5(i j:Bool):eqS (.bl i) (.bl j)=some (i==j):=rfl
theorem vw8(i j:Str):eqS (.str i) (.str j)=some (i==j):=rfl
theorem vw9:eqS .non .non=some true:=rfl
theorem vv1(j:Bool):eqS .non (.bl j)=some false:=rfl
theorem vv4(j:Bool):eqS (.bl j) .non=some false:=rfl
theorem vv0(j:Int):eqS .non (.int j)=some false:=rfl
theorem vv2(j:Int):eqS (.int j) .non=some false:=rfl
local macro_rules|`(tactic|simp_arith [$ls,*])=>do let a<-("runB L2.u8 map_cons map_nil length_cons length_nil List.replicate cons_append nil_append mvar bvar L2.mc mlst L2.u4 L2.m2 L2.y0 subD mulD yk1 modD powD ltD leD gtD geD eqSD neSD vv3 vv5 vw8 vw9 vv1 vv4 vv0 vv2 L2.m1 negD notD mand mtru truD cand cor cnot mite anil L2.z6 L2.y8 mtup mlen mix L2.W6 L2.k9 mcut mcat addD L2.w5 lenF absF L2.K7 L2.Q3 two2 intF L2.w8 mseq mif zi9 mset L2.Z4 maug zo0 mret zi8 L2.K5 mapp L2.a9 L2.Y9 masg L2.w4 zip2 zip3 L2.Q8 cyes L2.u0 L2.W1 meqB misi tyD int2 bl2 tgD L2.R4 Option.bind_some Option.map_some Option.bind_none Option.map_none getElem?_cons_zero getElem?_cons_succ set_cons_zero set_cons_succ isEmpty_cons isEmpty_nil Bool.not_true Bool.not_false".splitOn " ").toArray.mapM λs=>`(Lean.Parser.Tactic.simpLemma|$(Lean.mkIdent s.toName):ident);let b:=a++ls.getElems;`(tactic|simp(config:={decide:=true,implicitDefEqProofs:=false}) only[$b,*])
noncomputable def stir(c k:Int):Int:=if 10^18<=c then (c-10^18) / 2^(28*k).toNat % 2^28 else
 (((c+1013*k+1)*16807 % 2147483647)*((c+1013*k+1)*16807 % 2147483647) % 2147483629)*39373 % 2147483587 / 8
theorem zb9(i j:Int)(b:-(2^64)<j)(a:j<2^64):K4 i j=true:=by delta K4;simp only[b,a,decide_true,Bool.and_self,Bool.or_true]
theorem zp3(i j:Int)(b:-(2^64)<i)(a:i<2^64):K4 i j=true:=by delta K4;simp only[b,a,decide_true,Bool.and_self,Bool.true_or]
theorem W7(i j:Int)(h:0<j):za1 i j=true:=by delta za1;simp only[h,decide_true]
theorem seqI(h:x b=some (.nx ρ'))(a:y ρ'=o):mseq x y b=o:=by delta mseq;rw[h];show a
theorem seqR(h:x a=some (.rt d)):mseq x y a=some (.rt d):=by delta mseq;rw[h]
def xq2{α:Type}(I:List α->Ro->Prop)(Q:Out->Prop)(ds:List α):Out->Prop
 | .nx a=>I ds a| .ct a=>I ds a| .bk a=>Q (.nx a)| .rt d=>Q (.rt d)| .rf es=>Q (.rf es)| .rp d es=>Q (.rp d es)| .rg d p r=>Q (.rg d p r)| .rgf d p r=>Q (.rgf d p r)
theorem N6{e:Type}{g:Tg}{c:MS}{f:e->D}(I:List e->Ro->Prop)(Q:Out->Prop)
  (i:∀d ds n,I (d::ds) n->∃ρ1 o,tgD g (f d) n=some ρ1/\c ρ1=some o/\xq2 I Q ds o) (j:∀n,I [] n->Q (.nx n)):
  ∀(ds:List e)(n:Ro),I ds n->∃o,forD g c (ds.map f) n=some o/\Q o
 |[],n,h=>⟨.nx n,rfl,j n h⟩
 |d::ds,n,h=>by
  let⟨ρ1,o,l,k,b⟩:=i d ds n h;rw[br];unfold forD;rw[l];simp only[k];cases o with
  |nx a=>show N6 I Q i j ds a b
  |ct a=>show N6 I Q i j ds a b
  |bk a=>show⟨_,rfl,b⟩
  |rt d=>show⟨_,rfl,b⟩
  |rf d=>show⟨_,rfl,b⟩
  |rp d m=>show⟨_,rfl,b⟩
  |rg d p r=>show⟨_,rfl,b⟩
  |rgf d p r=>show⟨_,rfl,b⟩
theorem i8{b:Type}{g:Tg}{c:MB}{a:ME}{f:b->D}{G:b->D}(I:List b->Ro->Prop)
  (e:∀d ds n,I (d::ds) n->∃ρ1,tgD g (f d) n=some ρ1/\c ρ1=some true/\a ρ1=some (G d)/\I ds ρ1):
  ∀(ds:List b)(n:Ro)(acc:List D),I ds n->acc.length+ds.length<=sizeLine->c9 g c a (ds.map f) n acc=some (acc++ds.map G)
 |[],n,acc,h,i=>by simp[c9]
 |d::ds,n,acc,h,i=>by let⟨ρ1,m,l,k,j⟩:=e d ds n h;rw[br];unfold c9;rw[m];simp only[l,k];rw[bA]at i;rw[aH aw,i8 I e ds ρ1 _ j (by simp;lia)];simp
def cutI{α:Type}(xs:List α)(lo hi:Option Int):List α:=(xs.drop (HT.sIx xs.length 0 lo)).take (HT.sIx xs.length xs.length hi-HT.sIx xs.length 0 lo)
theorem V2{a:Type}(f:a->D)(xs:List a)(lo hi:Option Int):cutL (xs.map f) lo hi=(cutI xs lo hi).map f:=by delta cutL cutI;rw[aL,<-map_drop,<-map_take]
theorem zx0{a:Type}(xs:List a)(k:Nat):cutI xs (some (k:Int)) none=xs.drop k:=by
 delta cutI;rw[HT.sIx_nat,HT.sIx_none];rcases Nat.le_total k xs.length with h|h
 .rw[Nat.min_eq_left h];show dC az
 .rw[Nat.min_eq_right h];simp[drop_eq_nil_of_le h]
theorem yy8{a:Type}(xs:List a)(k:Nat):cutI xs none (some (k:Int))=xs.take k:=by delta cutI;rw[HT.sIx_nat,HT.sIx_none];simp
theorem yq0{b:Type}(xs:List b)(k l:Nat):cutI xs (some (k:Int)) (some (l:Int))=(xs.take l).drop k:=by
 delta cutI;rw[HT.sIx_nat,HT.sIx_nat,List.drop_take];rcases Nat.le_total k xs.length with h|h
 .rw[Nat.min_eq_left h];rcases Nat.le_total l xs.length with a|a
  .rw[Nat.min_eq_left a]
  .rw[Nat.min_eq_right a,dC az,dC (by simp;lia)]
 .rw[Nat.min_eq_right h,cQ h];simp
theorem X1{b:Type}(f:b->D)(xs:List b)(k:Int)(e:0<=k)(d:k<xs.length)(a:b):atI (xs.map f) k=some (f (xs.getD k.toNat a)):=by delta atI ixN;rw[aL,aH e,aH d];have c:k.toNat<xs.length:=ax;simp[c]
theorem atI_last{a:Type}(f:a->D)(xs:List a)(x:a):atI ((xs++[x]).map f) (-1)=some (f x):=by
 delta atI ixN;rw[aL,aF ay,aH (by simp;lia)];have e:(-1+((xs++[x]).length:Int)).toNat=xs.length:=by simp;lia
 rw[e];simp
theorem e9{n:Nat}(h:m (u8 n ds)=some (.rt d)):runB n m ds=some (.sh d):=by delta runB;rw[h]
theorem zr9{n:Nat}(h:m (u8 n ds)=some (.rf d)):runB n m ds=some (.fr d):=by delta runB;rw[h]
def after(rest:MS):Out->Option Out
 | .nx a=>rest a| .bk a=>some (.bk a)| .ct a=>some (.ct a)| .rt d=>some (.rt d)| .rf d=>some (.rf d)| .rp d es=>some (.rp d es)| .rg d p r=>some (.rg d p r)| .rgf d p r=>some (.rgf d p r)
theorem d7(h:x a=some o):mseq x y a=after y o:=by delta mseq;rw[h];ext o <;> rfl
theorem zc1{c:Type}{res:Option Out}{f:c->D}(ds:List c)(hi:mi l=some (ds.map f))(I:List c->Ro->Prop)(Q:Out->Prop)(k:I ds l)
  (h:∀d ds l,I (d::ds) l->∃ρ1 o,tgD g (f d) l=some ρ1/\b ρ1=some o/\xq2 I Q ds o) (j:∀l,I [] l->Q (.nx l)) (i:∀o,Q o->after a o=res):mseq (mfor mi g b) a l=res:=by
 let⟨o,e,q⟩:=N6 I Q h j ds l k;rw[d7 (by delta mfor;rw[hi];show e)];show i o q
theorem zh1(i j:Int):(if j>i then j else i)=max i j:=aw
theorem ys1(i j:Int):(if j<i then j else i)=min i j:=aw
theorem xa4(i:Int):(if i<0 then -i else i)=(i.natAbs:Int):=aw
theorem v3:1000000<=sizeLine:=by decide
theorem y7{n:Nat}(h:n<=1000000):n<=sizeLine:=bD h v3
theorem K1(j n:Nat)(h:j<n):List.range' j (n-j)=j::List.range' (j+1) (n-(j+1)):=by have:n-j=(n-(j+1))+1:=aw;rw[this,range'_succ]
theorem yb9{x n:Int}(a:0<n):0<=x % n/\x % n<n:=⟨Int.emod_nonneg _ aw,Int.emod_lt_of_pos _ a⟩
def Run(m:MS)(a:Ro)(R:Out->Prop):Prop:=∃o,m a=some o/\R o
def vu9(rest:MS)(R:Out->Prop):Out->Prop
 | .nx a=>Run rest a R| .bk a=>R (.bk a)| .ct a=>R (.ct a)| .rt d=>R (.rt d)| .rf d=>R (.rf d)| .rp d es=>R (.rp d es)| .rg d p r=>R (.rg d p r)| .rgf d p r=>R (.rgf d p r)
theorem y6{R:Out->Prop}(h:x ρ=some (.nx ρ'))(a:Run y ρ' R):Run (mseq x y) ρ R:=by let⟨o,e,r⟩:=a;show⟨o,seqI h e,r⟩
theorem m8{R:Out->Prop}(h:Run x g (vu9 y R)):Run (mseq x y) g R:=by
 let⟨o,e,r⟩:=h;cases o with
 |nx a=>show y6 e r
 |bk a=>show⟨_,d7 e,r⟩
 |ct a=>show⟨_,d7 e,r⟩
 |rt d=>show⟨_,d7 e,r⟩
 |rf d=>show⟨_,d7 e,r⟩
 |rp d f=>show⟨_,d7 e,r⟩
 |rg d c b=>show⟨_,d7 e,r⟩
 |rgf d c b=>show⟨_,d7 e,r⟩
theorem yg2{j:Type}{f:j->D}(ds:List j)(hi:mi n=some (ds.map f))(I:List j->Ro->Prop)(Q:Out->Prop)(m:I ds n)
  (k:∀d ds n,I (d::ds) n->∃ρ1,tgD g (f d) n=some ρ1/\Run i ρ1 (xq2 I Q ds)) (l:∀n,I [] n->Q (.nx n)):Run (mfor mi g i) n Q:=by
 let⟨o,e,q⟩:=N6 I Q (λd ds n h=>by let⟨ρ1,a,o,b,c⟩:=k d ds n h;show⟨ρ1,o,a,b,c⟩) l ds n m;show⟨o,by delta mfor;rw[hi];show e,q⟩
theorem j6{f:Nat->D}(n:Nat)(hi:mi w=some ((List.range n).map f))(I:Nat->Ro->Prop)(Q:Out->Prop)(s:I 0 w)
  (p:∀j w,j<n->I j w->∃ρ1,tgD g (f j) w=some ρ1/\Run a ρ1 (xq2 (λ(_:List Unit) w=>I (j+1) w) Q [])) (q:∀w,I n w->Q (.nx w)):Run (mfor mi g a) w Q:=by
 show yg2 (List.range n) hi (I:=λm w=>∃j,j<=n/\m=List.range' j (n-j)/\I j w) (Q:=Q) ⟨0,aw,by rw[eE];rfl,s⟩ ?_ ?_
 .rintro d ds w ⟨j,hj,e,h⟩;have c:j<n:=by
   rcases bi j n with z|z
   .exact z
   .rw[show n-j=0 by lia]at e;ext e
  rw[K1 j n c]at e;let⟨t,k⟩:=List.cons.inj e;subst t;let⟨ρ1,v,o,u,b⟩:=p d w c h;show⟨ρ1,v,o,u,?_⟩;cases o with
  |nx r=>show⟨d+1,aw,k,b⟩
  |ct r=>show⟨d+1,aw,k,b⟩
  |bk r=>show b
  |rt r=>show b
  |rf r=>show b
  |rp r i=>show b
  |rg r i l=>show b
  |rgf r i l=>show b
 .rintro w ⟨j,hj,e,h⟩;have:n-j=0:=by
   rcases Nat.eq_zero_or_pos (n-j)with z|z
   .exact z
   .rw[K1 j n aw]at e;ext e
  have:j=n:=aw;subst this;show q w h
theorem X4{i:Nat}{R:Out->Prop}(h:b[i]? =some (some (.own ds)))(a:Run m (b.set i (some (.sh (.lst ds)))) R):Run (Y9 i m) b R:=by let⟨o,e,r⟩:=a;show⟨o,by delta Y9;rw[h];show e,r⟩
theorem yu2{R:Out->Prop}{b:Bool}(h:c d=some b)(a:Run (if b then x else y) d R):Run (mif c x y) d R:=by let⟨o,e,r⟩:=a;show⟨o,?_,r⟩;delta mif;rw[h];ext b <;> show e
theorem zr8{R:Out->Prop}(h:R (.nx a)):Run w8 a R:=⟨_,rfl,h⟩
theorem vy7{x:Int}(h:0<=x):∃n:Nat,x=n:=⟨x.toNat,aw⟩
theorem wr7{a b:Bool}(d:x e=some (.bl a))(c:y e=some (.bl b)):mand x y e=some (.bl (a&&b)):=by delta mand;rw[d];ext a <;> simp[c]
theorem X5(lo:Int)(n:Nat):U2 lo n=(List.range n).map λ(i:Nat)=>D.int (lo+(i:Int)):=rfl
theorem A0(n:Nat):U2 0 n=((List.range n).map λ(i:Nat)=>(i:Int)).map .int:=by rw[X5,bw];apply ba;intro i _;simp
theorem Y1{j:Int}(b:-(2^62)<=j)(a:j<2^62):okR j=true:=by delta okR;simp only[b,a,decide_true,Bool.and_self]
theorem B8{j:Int}(h:okR j=true):rng1 [.int j]=some (U2 0 j.toNat):=by delta rng1;simp only[h,if_true]
theorem K0{i j:Int}(h:okR i=true)(a:okR j=true):rng2 [.int i,.int j]=some (U2 i (j-i).toNat):=by delta rng2;simp only[h,a,Bool.and_self,if_true]
theorem E7{n:Nat}{P:List D->Prop}(h:Run m (u8 n ds) (λo=>∃es,o= .rf es/\P es)):∃es,runB n m ds=some (.fr es)/\P es:=by let⟨o,e,es,rfl,p⟩:=h;show⟨es,zr9 e,p⟩
theorem xq8{i:Nat}{R:Out->Prop}(h:b[i]? =some (some (.own ds)))(a:R (.rf ds)):Run (K5 i) b R:=⟨_,by delta K5;rw[h],a⟩
theorem zg6(i j:Int)(h:0<j)(a:j<1073741824):zg7 i j=true:=by delta zg7;simp only[h,a,decide_true,Bool.and_self]
theorem at4(a b c d:Int)(k:Int)(f:0<=k)(e:k<4):∃x,atI [D.int a,.int b,.int c,.int d] k=some (.int x)/\(x=a\/x=b\/x=c\/x=d):=by
 have:k=0\/k=1\/k=2\/k=3:=aw;rcases this with h|h|h|h <;> subst h
 .exact⟨_,rfl,by simp⟩
 .exact⟨_,rfl,by simp⟩
 .exact⟨_,rfl,by simp⟩
 .exact⟨_,rfl,by simp⟩
theorem at2(a b:Int)(k:Int)(d:0<=k)(c:k<2):∃x,atI [D.int a,.int b] k=some (.int x):=by have:k=0\/k=1:=aw;rcases this with h|h <;> subst h <;> show⟨_,rfl⟩
theorem N7:∀(a:List Int)(k:Nat),V9 k (a.map .int)=(List.range a.length).map λ(i:Nat)=>D.tup [.int ((k+i:Nat):Int),.int (a.getD i 0)]
 |[],k=>rfl
 |x::a,k=>by rw[br,V9,N7 a (k+1),bA,cq,br,bw];congr 1;apply ba;intro i _;simp only[Function.comp,Nat.succ_eq_add_one,getD_cons_succ];rw[show k+1+i=k+(i+1)by lia]
theorem wo1(ds:List D):eqFD false (.lst ds) (.lst [])=some (.bl ds.isEmpty):=by
 cases ds with
 |nil=>rfl
 |cons d ds=>rfl
theorem xx9(ds:List D):eqFD true (.lst ds) (.lst [])=some (.bl (!ds.isEmpty)):=by
 cases ds with
 |nil=>rfl
 |cons d ds=>rfl
theorem xh4{a:Type}(xs:List a)(lo hi:Option Int):(cutI xs lo hi).length<=xs.length:=by delta cutI;rw[cB,dQ];omega
theorem yw8(n:Nat):∀xs:List Int,zipE (eqF (n+1)) (xs.map .int) (xs.map .int)=some true
 |[]=>rfl
 |x::xs=>by rw[br,zipE,yw8 n xs];show (some (x==x)).bind _=_;rw[bT];rfl
theorem xw1(n:Nat)(xs:List Int):eqF (n+2) (.lst (xs.map .int)) (.lst (xs.map .int))=some true:=by show (if _=_ then zipE (eqF (n+1)) (xs.map .int) (xs.map .int)else some false)=_;rw[aH rfl,yw8]
theorem Y0{n:Nat}(h:Run m (u8 n ds) (λo=>o= .rt d)):runB n m ds=some (.sh d):=by let⟨o,e,rfl⟩:=h;show e9 e
theorem W8(h:m b=some ds)(a:f ds=some (.fr es)):u0 f m b=some (.lst es):=by delta u0;rw[h];show (match f ds with |some (.sh d)=>some d|some (.fr es)=>some (D.lst es)|some (.pr d es)=>some (.tup [d,.lst es])|none=>none)=_;rw[a]
theorem w9(h:m ρ=some ds)(a:f ds=some (.sh d)):u0 f m ρ=some d:=by delta u0;rw[h];show (match f ds with |some (.sh d)=>some d|some (.fr es)=>some (D.lst es)|some (.pr d es)=>some (.tup [d,.lst es])|none=>none)=_;rw[a]
theorem z0(h:x ρ=some d)(a:r ρ=some ds):z6 x r ρ=some (d::ds):=by delta z6;rw[h,a];rfl
theorem z7:anil ρ=some []:=rfl
theorem L4(a:List Int)(i:Nat)(h:i<a.length):atI (a.map D.int) (i:Int)=some (.int (a.getD i 0)):=by have:=X1 D.int a (i:Int) aw aw 0;show this
theorem yt9{x:Int}(h:m ρ=some ((x::r).map .int)):za2 m ρ=some (.int (maxI (x::r))):=by delta za2;rw[h];simp only[Z7]
theorem yv7{i j:Int}(b:x c=some (.int i))(a:y c=some (.int j)):y0 (m2 ltD x y) c=some (decide (i<j)):=by delta y0 m2;rw[b,a];rfl
theorem k0{a:Type}{g:Tg}{c:MB}{b:ME}{f:a->D}{p:a->Bool}{G:a->D}(I:List a->Ro->Prop)
  (e:∀d ds n,I (d::ds) n->∃ρ1,tgD g (f d) n=some ρ1/\c ρ1=some (p d)/\(p d=true->b ρ1=some (G d))/\I ds ρ1):
  ∀(ds:List a)(n:Ro)(acc:List D),I ds n->acc.length+ds.length<=sizeLine->c9 g c b (ds.map f) n acc=some (acc++(ds.filter p).map G)
 |[],n,acc,h,i=>by simp[c9]
 |d::ds,n,acc,h,i=>by
  let⟨ρ1,m,l,k,j⟩:=e d ds n h;rw[bA]at i;rw[br];unfold c9;rw[m];simp only[l];cases hp:p d with
  |false=>simp only;rw[k0 I e ds ρ1 acc j ax,ey,hp];rfl
  |true=>simp only[k hp];rw[aH ax,k0 I e ds ρ1 _ j (by simp;omega),ey,hp];simp
theorem wo3(h:m a=some ds):y0 (meqB true m (y8 anil)) a=some (!ds.isEmpty):=by
 have e:y8 anil a=some []:=by simp_arith [Nat.zero_le _,if_true]
 delta y0 meqB;rw[h,e];simp only[Option.bind_some,xx9]
theorem zt6{a b:Bool}(d:x e=some a)(c:y e=some b):cor x y e=some (a || b):=by delta cor;rw[d];ext a <;> simp[c]
theorem zx4{a b:Bool}(d:x ρ=some a)(c:y ρ=some b):cand x y ρ=some (a&&b):=by delta cand;rw[d];ext a <;> simp[c]
theorem wm6(d:D)(ds:List D):atI (d::ds) 0=some d:=by delta atI ixN;rw[bA,aH ay,aH ax];rfl
theorem v4{i:Nat}(h:x a=some d):mset i x a=some (.nx (a.set i (some (.sh d)))):=by delta mset;rw[h];rfl
theorem t7(h:m a=some ds):mlst m a=some (.lst ds):=by delta mlst;rw[h];rfl
theorem x8(h:m ρ=some ds)(a:ds.length<=sizeLine):y8 m ρ=some ds:=by delta y8;rw[h];show (if ds.length<=sizeLine then some ds else none)=_;rw[aH a]
theorem w6{k:Int}(c:m e=some ds)(b:i e=some (.int k))(a:atI ds k=some d):mix m i e=some d:=by delta mix;rw[c,b];show a
theorem xv2(h:x a=some false):cand x y a=some false:=by delta cand;rw[h]
theorem D4(h:m b=some ds)(a:Bool):meqB a m (y8 anil) b=some (.bl (if a then !ds.isEmpty else ds.isEmpty)):=by
 have e:y8 anil b=some []:=by simp_arith [Nat.zero_le _,if_true]
 delta meqB;rw[h,e];ext a
 .simp only[Option.bind_some,wo1];rfl
 .simp only[Option.bind_some,xx9];rfl
theorem wp5{r:Bool}(f:m h=some (.bl r))(e:x h=some a)(d:y h=some c):mix (y8 (z6 x (z6 y anil))) (w5 intF (z6 m anil)) h=some (if r then c else a):=by
 have b:0+1+1<=sizeLine:=y7 ay;have g:w5 intF (z6 m anil) h=some (.int (if r then 1 else 0)):=by delta w5;rw[z0 f z7];rfl
 show w6 (x8 (z0 e (z0 d z7)) b) g ?_;ext r <;> rfl
theorem j3(h:m ρ=some (.lst ds)):u4 m ρ=some ds:=by delta u4;rw[h]
theorem c7(c:x d=some ds)(b:y d=some es)(a:ds.length+es.length<=sizeLine):mcat x y d=some (ds++es):=by delta mcat;rw[c,b];show (if ds.length+es.length<=sizeLine then some (ds++es)else none)=_;rw[aH a]
theorem zz1(h:m ρ=some ds)(a:ds.length<=sizeLine):mtup m ρ=some (.tup ds):=by delta mtup;rw[x8 h a];rfl
theorem Z5(h:x ρ=some d):mret x ρ=some (.rt d):=by delta mret;rw[h];rfl
theorem vx2:kitB "list" "list"=some true:=by decide +kernel
theorem vx3:kitB "int" "int"=some true:=by decide +kernel
theorem xy4:kitB "int" "bool"=some false:=by decide +kernel
theorem zy7{a:Type}(xs:List a):xs.filter (λ_=>false)=[]:=by
 induction xs with
 |nil=>rfl
 |cons x xs b=>rw[ey];show b
section
open PySem L2
noncomputable def lx:List Nat->List Nat->Bool
 |[],[]=>false
 |[],_::_=>true
 |_::_,[]=>false
 |a::l,b::m=>decide (a<b) || (a==b&&lx l m)
def xf6(l m:List Nat):Bool:=decide (m.length<l.length) || (l.length==m.length&&lx l m)
theorem zu7:∀l,lx l l=false
 |[]=>rfl
 |a::l=>by unfold lx;simp[zu7 l]
theorem D3:∀{a b c:List Nat},lx a b=true->lx b c=true->lx a c=true
 |[],[],_,h,_=>by ext h
 |[],_::_,[],_,h=>by ext h
 |[],_::_,_::_,_,_=>rfl
 |_::_,[],_,h,_=>by ext h
 |_::_,_::_,[],_,h=>by ext h
 |a::l,b::m,c::k,e,d=>by
  unfold lx at*;simp only[Bool.or_eq_true,Bool.and_eq_true,decide_eq_true_eq,beq_iff_eq]at*;rcases e with e|⟨rfl,e⟩ <;> rcases d with d|⟨rfl,d⟩
  .exact .inl aw
  .exact .inl e
  .exact .inl d
  .exact .inr ⟨rfl,D3 e d⟩
theorem xb3:∀(a b:List Nat),a=b\/lx a b=true\/lx b a=true
 |[],[]=>.inl rfl
 |[],_::_=>.inr (.inl rfl)
 |_::_,[]=>.inr (.inr rfl)
 |a::l,b::m=>by
  unfold lx;simp only[Bool.or_eq_true,Bool.and_eq_true,decide_eq_true_eq,beq_iff_eq];rcases Nat.lt_trichotomy a b with h|h|h
  .exact .inr (.inl (.inl h))
  .subst h;rcases xb3 l m with h|h|h
   .exact .inl (by rw[h])
   .exact .inr (.inl (.inr ⟨rfl,h⟩))
   .exact .inr (.inr (.inr ⟨rfl,h⟩))
  .exact .inr (.inr (.inl h))
theorem ze9(l m:List Nat):xf6 l m=true↔m.length<l.length\/(l.length=m.length/\lx l m=true):=by delta xf6;simp
def Best(P:List Nat->Prop)(l:List Nat):Prop:=P l/\∀m,P m->xf6 m l=false
theorem Best.len{P:List Nat->Prop}(a:Best P l)(m:List Nat)(h:P m):m.length<=l.length:=by
 have:=a.2 m h;rcases bi l.length m.length with z|z
 .rw[(ze9 m l).mpr (.inl z)]at this;ext this
 .exact z
def far(s:Int)(d:Bool)(a b:Int):Prop:=if d then s<=b-a else s<=a-b
noncomputable instance (s:Int) (d:Bool) (a b:Int):Decidable (far s d a b):=by unfold far;exact inferInstance
noncomputable def Wd(x:Nat->Int)(n:Nat)(s:Int):Bool->List Nat->Prop
 |_,[]=>False
 |_,[p]=>p<n
 |d,p::q::l=>p<q/\far s d (x p) (x q)/\Wd x n s (!d) (q::l)
def Wv(x:Nat->Int)(n:Nat)(s:Int)(l:List Nat):Prop:=l=[]\/∃d,Wd x n s d l
variable {s:Int}
theorem Wd.lt:∀{l:List Nat}{d:Bool}{p:Nat},Wd x n s d (p::l)->p<n
 |[],d,p,h=>h
 |q::l,d,p,h=>de h.1 h.2.2.lt
theorem Wd.len:∀{l:List Nat}{d:Bool}{p:Nat},Wd x n s d (p::l)->l.length+p<n
 |[],d,p,h=>by have h:p<n:=h;simpa using h
 |q::l,d,p,h=>by have:=h.2.2.len;have:=h.1;simp;lia
end
section
open PySem L2
noncomputable def dN(p:Nat):D:=.int (p:Int)
def L(l:List Nat):D:=.lst (l.map dN)
noncomputable abbrev xr(a:List Int):Nat->Int:=λi=>a.getD i 0
theorem zk1{i j:Int}(b:x c=some (.int i))(a:y c=some (.int j)):y0 (m2 geD x y) c=some (decide (j<=i)):=by delta y0 m2;rw[b,a];rfl
theorem u7(h:m a=some ds):mlen m a=some (.int ds.length):=by delta mlen;rw[h];rfl
theorem at_L(U:Qe)(p:Nat)(h:p<U.length):atI (U.map L) (p:Int)=some (L (U.getD p [])):=by have:=X1 L U (p:Int) aw aw [];show this
theorem wp2(n p:Nat)(h:p<n):ixN n (p:Int)=some p:=by delta ixN;rw[aH aw,aH aw,bB]
theorem Y7(a:Int)(h:1<=a):m_Z8 [.int a]=some (.sh .non):=by have:¬ a<1:=aw;delta m_Z8 b_Z8;simp_arith [this,decide_false]
noncomputable def pok(n:Nat):Int->List Int->Bool
 |_,[]=>true
 |l,p::ps=>if p<l\/(n:Int)<=p then false else pok n (p+1) ps
theorem L7(b a:List Int):wq3 [.lst (b.map .int),.lst (a.map .int)]=some (.sh (.bl (pok b.length 0 a))):=by
 show e9 ?_
 ((apply seqI;focus (simp_arith [];rfl)))
 show zc1 a (f:=D.int) (by simp_arith []) (I:=λg c=>∃l x,c=[k0a b,k0a a,k0c l,x]/\pok b.length 0 a=pok b.length l g)
  (Q:=λo=>(∃c,o= .nx c/\pok b.length 0 a=true)\/(o= .rt (.bl false)/\pok b.length 0 a=false)) ⟨0,none,rfl,rfl⟩ ?_ ?_ ?_
 .rintro p g c ⟨l,x,rfl,e⟩;simp only[pok]at e;by_cases d:p<l
  .rw[aH (.inl d)]at e;show⟨_,.rt (.bl false),rfl,by delta L3;simp_arith [length_map,d,decide_true],.inr ⟨rfl,e⟩⟩
  .by_cases h2:(b.length:Int)<=p
   .rw[aH (.inr h2)]at e;show⟨_,.rt (.bl false),rfl,by delta L3;simp_arith [length_map,d,h2,decide_true,decide_false],.inr ⟨rfl,e⟩⟩
   .rw[aF aw]at e;show⟨_,.nx _,rfl,by delta L3;simp_arith [length_map,d,h2,decide_true,decide_false];rfl,_,_,rfl,e⟩
 .rintro c ⟨l,x,rfl,e⟩;show .inl ⟨_,rfl,e⟩
 .rintro o (⟨c,rfl,e⟩|⟨rfl,e⟩)
  .rw[e];rfl
  .rw[e];rfl
noncomputable def turn(t:Int×Int×Int):Bool:=decide (max t.1 t.2.2<t.2.1) || decide (t.2.1<min t.1 t.2.2)
noncomputable def trip:List Int->List (Int×Int×Int)
 |a::b::c::r=>(a,b,c)::trip (b::c::r)
 |_=>[]
theorem zv4:∀ns:List Int,G8 (ns.map .int) ((ns.drop 1).map .int) ((ns.drop 2).map .int)=(trip ns).map λt=>.tup [.int t.1,.int t.2.1,.int t.2.2]
 |[]=>rfl
 |[_]=>rfl
 |[_,_]=>rfl
 |a::b::c::r=>by have:=zv4 (b::c::r);simp only[drop_succ_cons,drop_zero,map_cons]at this;simp only[drop_succ_cons,drop_zero,map_cons,trip,G8,List.cons.injEq,true_and];show this
theorem zc0(ns:List Int):wq1 [.lst (ns.map .int)]=some (.sh (.int (((trip ns).filter turn).length:Nat))):=by
 show e9 ?_
 ((apply seqI;focus (simp_arith [];rfl)))
 have j:cutI ns (some 1) none=ns.drop 1:=zx0 ns 1;have i:cutI ns (some 2) none=ns.drop 2:=zx0 ns 2;show zc1 (trip ns) (f:=λt=>.tup [.int t.1,.int t.2.1,.int t.2.2]) (by simp_arith [V2,j,i,zv4]) (I:=λh g=>∃k:Nat,∃x y z,g=[k0a ns,some (.sh (.int (k:Nat))),x,y,z]/\((trip ns).filter turn).length=k+(h.filter turn).length)
  (Q:=λo=>∃x y z,o= .nx [k0a ns,some (.sh (.int (((trip ns).filter turn).length:Nat))),x,y,z]) ⟨0,none,none,none,rfl,by simp⟩ ?_ ?_ ?_
 .rintro⟨a,b,c⟩ h g ⟨k,x,y,z,rfl,e⟩;show⟨_,.nx [k0a ns,some (.sh (.int ((k+if turn (a,b,c)then 1 else 0:Nat):Nat))),k0c a,k0c b,k0c c],rfl,?_,?_⟩
  .delta zn7;by_cases d:max a c<b
   .have t:turn (a,b,c)=true:=by delta turn;simp[d]
    simp_arith [zh1,ys1,d,decide_true,t,if_true];simp
   .by_cases q2:b<min a c
    .have t:turn (a,b,c)=true:=by delta turn;simp[q2]
     simp_arith [zh1,ys1,d,q2,decide_true,decide_false,t,if_true];simp
    .have t:turn (a,b,c)=false:=by delta turn;simp[d,q2]
     simp_arith [zh1,ys1,d,q2,decide_true,decide_false,t,if_true];simp
  .refine⟨_,_,_,_,rfl,?_⟩;split <;> simp_all <;> lia
 .rintro g ⟨k,x,y,z,rfl,e⟩;show⟨x,y,z,by rw[e];simp⟩
 .rintro o ⟨x,y,z,rfl⟩;delta after;simp_arith []
noncomputable def num(a:List Int)(p:Int):Int:=a.getD p.toNat 0
noncomputable def S9(ns:List Int):List (Int×Int):=ns.zip (ns.drop 1)
noncomputable def W3(step:Int)(p:Int×Int):Bool:=decide (step<=((p.2-p.1).natAbs:Int))
def areW(a:List Int)(step:Int)(places:List Int):Bool:=
 pok a.length 0 places&&((S9 (places.map (num a))).all (W3 step)&&decide ((((trip (places.map (num a))).filter turn).length:Int)=max 0 ((places.length:Int)-2)))
theorem ye2{n:Nat}:∀{l:Int}{b:List Int},0<=l->pok n l b=true->∀p∈b,0<=p/\p<n
 |l,[],_,_,p,a=>by simp at a
 |l,q::b,d,h,p,a=>by
  simp only[pok]at h;split at h
  .cases h
  .rename_i c;rcases aT.mp a with rfl|a
   .omega
   .exact ye2 ax h p a
theorem zm2:∀(c bs:List Int),List.zipWith (λd e=>D.tup [d,e]) (c.map .int) (bs.map .int)=(c.zip bs).map λp=>.tup [.int p.1,.int p.2]
 |[],_=>by simp
 |_::_,[]=>by simp
 |a::c,b::bs=>by simp[zm2 c bs]
theorem zv0(ns:List Int)(c:Int):wq4 [.lst (ns.map .int),.int c]=some (.sh (.bl ((S9 ns).all (W3 c)&&decide ((((trip ns).filter turn).length:Int)=max 0 ((ns.length:Int)-2))))):=by
 show e9 ?_;have h:cutI ns (some 1) none=ns.drop 1:=zx0 _ 1;show zc1 (S9 ns) (by simp_arith [V2,h,zm2];rfl)
  (I:=λf d=>∃x y,d=[k0a ns,k0c c,x,y]/\(S9 ns).all (W3 c)=f.all (W3 c))
  (Q:=λo=>(∃x y,o= .nx [k0a ns,k0c c,x,y]/\(S9 ns).all (W3 c)=true)\/(o= .rt (.bl false)/\(S9 ns).all (W3 c)=false))
  ⟨none,none,rfl,rfl⟩ ?_ ?_ ?_
 .rintro⟨a,b⟩ f d ⟨x,y,rfl,e⟩;rw[all_cons]at e;by_cases g:((b-a).natAbs:Int)<c
  .have hf:W3 c (a,b)=false:=by delta W3;show aP aw
   rw[hf,Bool.false_and]at e;show⟨_,.rt (.bl false),rfl,by delta C5;simp_arith [xa4,g,decide_true],.inr ⟨rfl,e⟩⟩
  .have hf:W3 c (a,b)=true:=by delta W3;show aO aw
   rw[hf,dM]at e;show⟨_,.nx _,rfl,by delta C5;simp_arith [xa4,g,decide_false];rfl,_,_,rfl,e⟩
 .rintro d ⟨x,y,rfl,e⟩;show .inl ⟨x,y,rfl,e⟩
 .rintro o (⟨x,y,rfl,e⟩|⟨rfl,e⟩)
  .rw[e,dM];delta after;simp_arith [zc0,length_map,zh1];rfl
  .rw[e];rfl
theorem yw3(c a:List Int)(b:Int)(i:1<=b)(j:a.length<sizeLine):xz2 [.lst (c.map .int),.int b,.lst (a.map .int)]=some (.sh (.bl (areW c b a))):=by
 delta xz2 xg7 areW;show e9 ?_;show seqI (ρ':=[k0a c,k0c b,k0a a]) (by simp_arith [Y7 b i];rfl) ?_;cases hp:pok c.length 0 a with
 |false=>simp_arith [L7,hp];rfl
 |true=>
  have h:t9 [none,some 0] (u4 (mvar 2)) (.nm 0) cyes (mix (bvar 1) (mvar 0)) [k0a c,k0c b,k0a a]=some ((a.map (num c)).map .int):=by
   delta t9;simp_arith [P3];rw[i8 (G:=λp=>D.int (num c p)) (λe d=>∃x,d=[x,k0a c]/\∀p∈e,0<=p/\p<c.length)
    (by rintro p e d ⟨x,rfl,f⟩;have:=f p az;show⟨_,rfl,rfl,by simp_arith [X1 D.int c p this.1 this.2 0];rfl,_,rfl,λq g=>f q (by simp[g])⟩) a _ [] ⟨none,rfl,(ye2 (Int.le_refl 0) hp)⟩ (by simp;lia)]
   simp
  simp_arith [L7,hp,h,zv0,length_map,Bool.true_and]
def S8(a:List Int)(step:Int):Int->Option Bool->List Int->Bool
 |_,_,[]=>true
 |last,way,p::ps=>if p<=last\/(a.length:Int)<=p then false else
  if -1<last then (if ((num a p-num a last).natAbs:Int)<step\/way=some (decide (0<num a p-num a last))then false else S8 a step p (some (decide (0<num a p-num a last))) ps)
  else S8 a step p way ps
noncomputable def altW(step:Int):Option Bool->List Int->Bool
 |way,a::b::r=>if ((b-a).natAbs:Int)<step\/way=some (decide (0<b-a))then false else altW step (some (decide (0<b-a))) (b::r)
 |_,_=>true
theorem zv7(b:List Int)(a:Int):∀(c:List Int)(last:Int)(way:Option Bool),0<=last->S8 b a last way c=(pok b.length (last+1) c&&altW a way (num b last::c.map (num b)))
 |[],last,way,h=>by simp[S8,pok,altW]
 |p::c,last,way,h=>by
  simp only[S8,pok,altW,map_cons];by_cases e:p<=last\/(b.length:Int)<=p
  .rw[aH e,aH ax];rfl
  .rw[aF e,aH (show -1<last by omega),aF (show ¬ (p<last+1\/(b.length:Int)<=p)by omega)];by_cases d:((num b p-num b last).natAbs:Int)<a\/way=some (decide (0<num b p-num b last))
   .rw[aH d,aH d,Bool.and_false]
   .rw[aF d,aF d,zv7 b a c p _ aw]
theorem zd2(b:List Int)(a:Int)(c:List Int):S8 b a (-1) none c=(pok b.length 0 c&&altW a none (c.map (num b))):=by
 cases c with
 |nil=>rfl
 |cons p c=>
  simp only[S8,pok,map_cons];by_cases d:p<= -1\/(b.length:Int)<=p
  .rw[aH d,aH ax];rfl
  .rw[aF d,aF (show ¬ (-1:Int) < -1 by lia),aF (show ¬ (p<0\/(b.length:Int)<=p)by omega),zv7 b a c p none aw]
theorem B6:∀ns:List Int,(trip ns).length=ns.length-2
 |[]=>rfl
 |[_]=>rfl
 |[_,_]=>rfl
 |a::b::c::r=>by have:=B6 (b::c::r);simp only[trip,length_cons]at this ⊢;lia
theorem yk0(a:List (Int×Int×Int))(n:Nat)(h:a.length=n-2):decide (((a.filter turn).length:Int)=max 0 ((n:Int)-2))=a.all turn:=by
 have e:max 0 ((n:Int)-2)=(a.length:Int):=aw;rw[e];have:((((a.filter turn).length:Int)=(a.length:Int))↔a.all turn=true):=by rw[Int.natCast_inj,length_filter_eq_length_iff,all_eq_true]
 cases h2:a.all turn with
 |true=>show aO (this.mpr h2)
 |false=>show aP λb=>by rw[this.mp b]at h2;ext h2
theorem ze7(d:Int)(i:1<=d):∀(r:List Int)(a b:Int),d<=((b-a).natAbs:Int)->altW d (some (decide (0<b-a))) (b::r)=((S9 (b::r)).all (W3 d)&&(trip (a::b::r)).all turn)
 |[],a,b,h=>by simp[altW,S9,trip]
 |c::r,a,b,h=>by
  have g:=ze7 d i r b c;have j:S9 (b::c::r)=(b,c)::S9 (c::r):=by simp[S9]
  simp only[altW,j,trip,all_cons];by_cases f:((c-b).natAbs:Int)<d
  .rw[aH (Or.inl f)];have:W3 d (b,c)=false:=by delta W3;show aP (by simp only;omega)
   rw[this];rfl
  .have hf:W3 d (b,c)=true:=by delta W3;show aO (by simp only;omega)
   rw[hf,dM];by_cases e:some (decide (0<b-a))=some (decide (0<c-b))
   .rw[aH (Or.inr e)];have k:(0<b-a)↔(0<c-b):=by simpa using e
    have:turn (a,b,c)=false:=by delta turn;simp only[Bool.or_eq_false_iff,decide_eq_false_iff_not];omega
    rw[this,Bool.false_and,Bool.and_false]
   .rw[aF (by simp only[f,e,or_self,not_false_eq_true]),g ax];have k:¬ ((0<b-a)↔(0<c-b)):=by simpa using e
    have:turn (a,b,c)=true:=by delta turn;simp only[Bool.or_eq_true,decide_eq_true_eq];omega
    rw[this,dM]
theorem xt4(c:Int)(e:1<=c)(ns:List Int):altW c none ns=((S9 ns).all (W3 c)&&(trip ns).all turn):=by
 match ns with
 |[]=>rfl
 |[a]=>simp[altW,S9,trip]
 |a::b::r=>
  have f:S9 (a::b::r)=(a,b)::S9 (b::r):=by simp[S9]
  simp only[altW,f,all_cons];by_cases d:((b-a).natAbs:Int)<c
  .rw[aH (.inl d)];have:W3 c (a,b)=false:=by delta W3;show aP (by simp only;omega)
   rw[this];rfl
  .have hf:W3 c (a,b)=true:=by delta W3;show aO ax
   rw[aF (by simp[d]),hf,dM,ze7 c e r a b ax]
theorem xt1(b places:List Int)(a:Int)(c:1<=a):areW b a places=S8 b a (-1) none places:=by delta areW;rw[zd2,xt4 a c,yk0 _ places.length (by rw[B6];simp)]
noncomputable def NI(cs:List Nat):List Int:=cs.map λ(c:Nat)=>(c:Int)
theorem yb3(a:List Int)(p:Nat):num a (p:Int)=xr a p:=by delta num;rw[bB]
theorem wo0{s:Int}(c:1<=s){d:Bool}{a b:Int}(h:far s d a b):¬ ((b-a).natAbs:Int)<s/\decide (0<b-a)=d:=by
 delta far at h;ext d
 .simp at h;show⟨aw,aP aw⟩
 .simp at h;show⟨aw,aO aw⟩
theorem zt3{s:Int}{a b:Int}(h:¬ ((b-a).natAbs:Int)<s):far s (decide (0<b-a)) a b:=by
 delta far;by_cases z:0<b-a
 .rw[aO z];simp;omega
 .rw[aP z];simp;omega
theorem wx2{j:Int}(h:okR j=true):rngD [.int j]=some (zy9 j.toNat):=by delta rngD;simp only[h,if_true]
variable {s t:Int}
end
section
open PySem L2
theorem Y2(h:m a=some d):mpu m a=some (d,a):=by delta mpu;rw[h]
theorem R8(h:m ρ=some d):apu m ρ=some (d,ρ):=by delta apu;rw[h]
theorem W2{f:D->D->Option D}(h:x i=some (d,ρ1))(c:y ρ1=some (e,a))(b:f d e=some g):m2m f x y i=some (g,a):=by delta m2m;rw[h];simp only;rw[c];simp only;rw[b]
theorem k8(c:x e=some (d,ρ1))(b:r ρ1=some (ds,a)):e8 x r e=some (d::ds,a):=by delta e8;rw[c];simp only;rw[b]
theorem zp7(h:m b=some (ds,ρ1))(a:ds.length<=sizeLine):za3 m b=some (.lst ds,ρ1):=by delta za3;rw[h];simp only[a,if_true]
theorem zx6{f:List D->Option D}(h:m b=some (ds,ρ1))(a:f ds=some d):V8 f m b=some (d,ρ1):=by delta V8;rw[h];simp only;rw[a]
theorem h6{i:Nat}(h:x ρ=some (d,ρ1)):X8 i x ρ=some (.nx (ρ1.set i (some (.sh d)))):=by delta X8;rw[h]
theorem xk5{i:Nat}(h:x b=some (d,ρ1))(a:ρ1[i]? =some (some (.ob p r))):zw5 i x b=some (.rg d p r):=by delta zw5;rw[h];simp only;rw[a]
theorem ya4{i:Nat}(h:j[i]? =some (some (.ob p r2)))(g:m j=some (ds,ρ1))(e:ρ1[i]? =some (some (.ob p r0)))(c:f p r0 ds=some (t,a))(b:rtD t=some d):u6 f i m j=some (d,ρ1.set i (some (.ob p a))):=by delta u6;rw[h];rw[g];simp only;rw[e];simp only;rw[c];simp only;rw[b]
theorem K6{i:Nat}(h:ρ[i]? =some (some (.own r2)))(g:m ρ=some (ds,ρ1))(e:ρ1[i]? =some (some (.own r0)))(c:∀p,f p r0 ds=some (t,a))(b:rtD t=some d):u6 f i m ρ=some (d,ρ1.set i (some (.own a))):=by delta u6;rw[h];rw[g];simp only;rw[e];simp only;rw[wm8 c];simp only;rw[b]
def URun(m:MS)(a:Addr->Ro)(R:(Addr->Out)->Prop):Prop:=∃o,(∀p,m (a p)=some (o p))/\R o
theorem g9{b ρ':Addr->Ro}{R:(Addr->Out)->Prop}(h:∀p,x (b p)=some (.nx (ρ' p)))(a:URun y ρ' R):URun (mseq x y) b R:=by let⟨o,e,r⟩:=a;show⟨o,λp=>seqI (h p) (e p),r⟩
theorem yi7{b:Addr->Ro}{R:(Addr->Out)->Prop}(h:URun x b (λo=>∃ρ',(o=λp=>.nx (ρ' p))/\URun y ρ' R)):URun (mseq x y) b R:=by let⟨o,e,ρ',rfl,a⟩:=h;show g9 e a
theorem vq4{d:Addr->Ro}{R:(Addr->Out)->Prop}{b:Bool}(h:∀p,c (d p)=some b)(a:URun (if b then x else y) d R):URun (mif c x y) d R:=by let⟨o,e,r⟩:=a;show⟨o,λp=>?_,r⟩;delta mif;rw[h p];ext b <;> show e p
theorem wz7{a:Addr->Ro}{R:(Addr->Out)->Prop}(h:R λp=>.nx (a p)):URun w8 a R:=⟨_,λ_=>rfl,h⟩
theorem yi8{b ρ':Addr->Ro}{R:(Addr->Out)->Prop}(h:∀p,x (b p)=some (.nx (ρ' p)))(a:R λp=>.nx (ρ' p)):URun x b R:=⟨_,h,a⟩
theorem wz8{w:Addr->Ro}{f:Nat->D}{R:(Addr->Out)->Prop}(n:Nat)(hi:∀p,mi (w p)=some ((List.range n).map f))(I:Nat->(Addr->Ro)->Prop)(s:I 0 w)
  (l:∀j w,j<n->I j w->∃ρ1,(∀p,tgD g (f j) (w p)=some (ρ1 p))/\URun a ρ1 (λo=>∃b,(o=λp=>.nx (b p))/\I (j+1) b)) (r:∀w,I n w->R (λp=>.nx (w p))):URun (mfor mi g a) w R:=by
 have c:∀(k j:Nat)(w:Addr->Ro),n-j=k->j<=n->I j w->∃ρ',(∀p,forD g a ((List.range' j k).map f) (w p)=some (.nx (ρ' p)))/\I n ρ':=by
  intro k;induction k with
  |zero=>intro j w m q h;have:j=n:=ax;subst this;show⟨w,λ_=>rfl,h⟩
  |succ k i=>intro j w m q h;let⟨ρ1,v,o,u,b,rfl,t⟩:=l j w ax h;let⟨ρ',e,d⟩:=i (j+1) b ax ax t;show⟨ρ',λp=>?_,d⟩;rw[range'_succ,br];unfold forD;rw[v p];simp only[u p];show e p
 let⟨ρ',e,d⟩:=c n 0 w ax ax s;show⟨_,λp=>?_,r ρ' d⟩;delta mfor;rw[hi p,eE];show e p
theorem yg3{n:Nat}(h:m (Z9 n p r ds)=some (.rg d p a)):runG n m p r ds=some (.sh d,a):=by delta runG;rw[h];simp
theorem xq9{n:Nat}(h:m (Z9 n p r ds)=some (.rgf es p a)):runG n m p r ds=some (.fr es,a):=by delta runG;rw[h];simp
noncomputable def RL(a b:Int):List D:=[.int a,.int b]
noncomputable def tkX(a b m:Int):Int:=if 10^18<=a then a % m else ((((b*48271+11) % 2147483647)*((b*48271+11) % 2147483647) % 2147483629)*69621 % 2147483587 / 8) % m
noncomputable def tkA(a m:Int):Int:=if 10^18<=a then a / m else a
noncomputable def tkB(a b:Int):Int:=if 10^18<=a then b else (b*48271+11) % 2147483647
theorem G9(a b m:Int)(h:0<m):0<=tkX a b m:=by delta tkX;split <;> show Int.emod_nonneg _ ax
theorem zs7(a b m:Int)(h:0<m):tkX a b m<m:=by delta tkX;split <;> show Int.emod_lt_of_pos _ h
def FB(m:Int):Prop:=m.natAbs<2^400
theorem xi9{m:Int}(h:0<m)(a:m<1073741824):FB m:=by show de (show m.natAbs<2^30 by omega) (Nat.pow_lt_pow_right ay ay)
theorem xq0(p:Addr)(a b m:Int)(h:0<m)(s:FB m):i5 p (RL a b) [.int m]=some (.sh (.int (tkX a b m)),RL (tkA a m) (tkB a b)):=by
 show yg3 ?_;have f:((10:Int)^(18:Int).toNat)=10^18:=rfl;have d:zb0 10 18=true:=by decide
 have g:∀x y:Int,atI [D.int x,D.int y] 0=some (.int x):=λ_ _=>rfl;have u:∀x y:Int,atI [D.int x,D.int y] 1=some (.int y):=λ_ _=>rfl;have n:ixN (0+1+1) 0=some 0:=rfl;have l:ixN (0+1+1) 1=some 1:=rfl;delta zv3;by_cases c:10^18<=a
 .have e:zv3 (Z9 4 p (RL a b) [.int m])=some (.rg (.int (a % m)) p (RL (a / m) b)):=by delta zv3 Z9 RL;simp_arith [f,d,g,c,decide_true,if_true,W7 a m h,yr6,int2,xx6 h s,n,zw5,mpu,set_cons_zero]
  delta zv3 at e;rw[e];delta tkX tkA tkB;rw[aH c,aH c,aH c]
 .have q3:∀i,za1 i 2147483647=true:=λi=>W7 _ _ ay;have k:∀i,za1 i 2147483629=true:=λi=>W7 _ _ ay;have j:∀i,za1 i 2147483587=true:=λi=>W7 _ _ ay;have t:∀i,zg7 i 8=true:=λi=>zg6 _ _ ay ay;have r:K4 b 48271=true:=zb9 _ _ ay ay;have q:K4 ((b*48271+11) % 2147483647) ((b*48271+11) % 2147483647)=true:=zp3 _ _ ax ax;have o:∀i,K4 i 69621=true:=λi=>zb9 _ _ ay ay;have e:zv3 (Z9 4 p (RL a b) [.int m])=some (.rg (.int (((((b*48271+11) % 2147483647)*((b*48271+11) % 2147483647) % 2147483629)*69621 % 2147483587 / 8) % m)) p (RL a ((b*48271+11) % 2147483647))):=by delta zv3 Z9 RL;simp_arith [f,d,g,u,c,decide_false,if_true,q3,k,j,(λi=>W7 _ _ h),t,r,q,o,l,zw5,mpu,set_cons_zero,set_cons_succ]
  delta zv3 at e;rw[e];delta tkX tkA tkB;rw[aF c,aF c,aF c]
theorem yh4(p:Addr)(a b m:Int)(h:0<m)(c:m<1073741824):i5 p (RL a b) [.int m]=some (.sh (.int (tkX a b m)),RL (tkA a m) (tkB a b)):=xq0 p a b m h (xi9 h c)
theorem wy1{a b m:Int}(c:f[0]? =some (some (.ob p (RL a b))))(d:x f=some (.int m))(h:0<m)(e:m<1073741824):u6 i5 0 (apu (z6 x anil)) f=some (.int (tkX a b m),f.set 0 (some (.ob p (RL (tkA a m) (tkB a b))))):=
 ya4 c (R8 (z0 d z7)) c (yh4 p a b m h e) rfl
theorem i9{a b m:Int}{tl:List (Option S)}(c:x (some (.ob p (RL a b))::tl)=some (.int m))(h:0<m)(d:m<1073741824):u6 i5 0 (apu (z6 x anil)) (some (.ob p (RL a b))::tl)=some (.int (tkX a b m),some (.ob p (RL (tkA a m) (tkB a b)))::tl):=
 wy1 rfl c h d
def envR(p:Addr)(a b most many kind span:Int)(f:List Int)(o6 o7:Option S):Ro:=[some (.ob p (RL a b)),k0c most,k0c many,k0c kind,k0c span,some (.own (f.map .int)),o6,o7]
theorem at3(x y z:Int)(k:Int)(b:0<=k)(a:k<3):∃w,atI [D.int x,.int y,.int z] k=some (.int w)/\(w=x\/w=y\/w=z):=by
 have:k=0\/k=1\/k=2:=aw;rcases this with h|h|h <;> subst h
 .exact⟨_,rfl,by simp⟩
 .exact⟨_,rfl,by simp⟩
 .exact⟨_,rfl,by simp⟩
theorem zq6{c:Int}{kind:Int}{a:Addr->Int->Ro}{x:Int}(P:Int->Prop)(f:∀p x,mvar 3 (a p x)=some (.int kind))(b:∀p x y,(a p x).set 7 (k0c y)=a p y)(e:kind≠c->P x)(g:kind=c->∃y,P y/\∀p,E (a p x)=some (.int y)):
  ∃y,P y/\∀p,mif (y0 (m2 eqSD (mvar 3) (mc (.int c)))) (mset 7 E) w8 (a p x)=some (.nx (a p y)):=by
 have d:∀p,y0 (m2 eqSD (mvar 3) (mc (.int c))) (a p x)=some (kind==c):=λp=>by delta y0 m2;rw[f p x];rfl
 by_cases h:kind=c
 .let⟨y,py,hy⟩:=g h;show⟨y,py,λp=>?_⟩;delta mif;rw[d p,show (kind==c)=true by rw[h];show bT _];rw[v4 (hy p),b]
 .refine⟨x,e h,λp=>?_⟩;delta mif;rw[d p,cU.mpr h];rfl
theorem xp0(a b most many kind span:Int)(f:List Int)(k:Nat)(o7:Option S)(hs:0<span)(hs2:span<=100)(hf:f.length<1000):
  ∃a' b' x,URun zn6 (λp=>envR p a b most many kind span f (k0b k) o7) (λo=>o=λp=>.nx (envR p a' b' most many kind span (f++[x]) (k0b k) (k0c x))):=by
 have big:=v3;have x0lo:=G9 a b span hs;have x0hi:=zs7 a b span hs;generalize ha1:tkA a span=a1;generalize hb1:tkB a b=b1;have st0:∀p,X8 7 (u6 i5 0 (apu (z6 (mvar 4) anil))) (envR p a b most many kind span f (k0b k) o7)=some (.nx (envR p a1 b1 most many kind span f (k0b k) (some (.sh (.int (tkX a b span)))))):=λp=>by rw[<-ha1,<-hb1];show(h6 (i9 rfl hs aw)).trans rfl
 generalize tkX a b span=x0 at x0lo x0hi st0
 let env:=λp x=>envR p a1 b1 most many kind span f (k0b k) (k0c x)
 have hk:∀p x,mvar 3 (env p x)=some (.int kind):=λ_ _=>rfl;have hset:∀p x y,(env p x).set 7 (k0c y)=env p y:=λ_ _ _=>rfl;have i2:0+1+1<=sizeLine:=y7 ay;have p27:(10:Int)^(27:Int).toNat=1000000000000000000000000000:=by decide
 have p26:(10:Int)^(26:Int).toNat=100000000000000000000000000:=by decide
 have o27:zb0 10 27=true:=by decide
 have o26:zb0 10 26=true:=by decide
 let⟨x1,⟨l1,u1⟩,s1⟩:=zq6 (E:=m2 subD (mvar 7) (m2 yk1 (mvar 4) (mc (.int 2)))) (x:=x0) (λy=>-1000<=y/\y<=1000) hk hset (λ_=>by lia)
  (λ_=>⟨x0-span / 2,aw,λp=>by show m2 subD _ _ (envR _ _ _ _ _ _ _ _ _ _)=_;delta envR;simp_arith [zg6 span 2 ay ay,if_true]⟩)
 have mu1:K4 x1 1000000000000000000000000000=true:=zp3 _ _ aw aw;have mu2:K4 span 100000000000000000000000000=true:=zp3 _ _ aw aw;let⟨x2,_,s2⟩:=zq6 (E:=m2 subD (m2 mulD (mvar 7) (m2 powD (mc (.int 10)) (mc (.int 27)))) (m2 mulD (mvar 4) (m2 powD (mc (.int 10)) (mc (.int 26))))) (x:=x1) (λ_=>True) hk hset (λ_=>True.intro)
  (λ_=>⟨x1*1000000000000000000000000000-span*100000000000000000000000000,True.intro,λp=>by show m2 subD _ _ (envR _ _ _ _ _ _ _ _ _ _)=_;delta envR;simp_arith [p27,p26,o27,o26,mu1,mu2,if_true]⟩)
 have m2k:=yb9 (x:=(k:Int)) (show (0:Int)<2 by decide);let⟨y3,e3⟩:=at2 x2 (span+x2) ((k:Int) % 2) m2k.1 m2k.2;let⟨x3,_,s3⟩:=zq6 (E:=mix (y8 (z6 (mvar 7) (z6 (m2 addD (mvar 4) (mvar 7)) anil))) (m2 modD (mvar 6) (mc (.int 2)))) (x:=x2) (λ_=>True) hk hset (λ_=>True.intro)
  (λ_=>⟨y3,True.intro,λp=>by show mix _ _ (envR _ _ _ _ _ _ _ _ _ _)=_;delta envR;simp_arith [i2,if_true,W7 (k:Int) 2 ay,e3]⟩)
 let⟨x4,_,s4⟩:=zq6 (E:=m2 addD (mvar 7) (mvar 6)) (x:=x3) (λ_=>True) hk hset (λ_=>True.intro)
  (λ_=>⟨x3+k,True.intro,λp=>by show m2 addD _ _ (envR _ _ _ _ _ _ _ _ _ _)=_;delta envR;simp_arith []⟩)
 have lf:(f.map D.int).length<sizeLine:=by simp;lia
 have fin:∀a2 b2 x,URun (mapp 5 (mvar 7)) (λp=>envR p a2 b2 most many kind span f (k0b k) (k0c x)) (λo=>o=λp=>.nx (envR p a2 b2 most many kind span (f++[x]) (k0b k) (k0c x))):=λa2 b2 x=>
  yi8 (λp=>by delta envR;simp_arith [lf,if_true,map_append]) rfl
 have ht5:∀p,y0 (m2 eqSD (mvar 3) (mc (.int 5))) (env p x4)=some (kind==5):=λp=>by delta y0 m2;rw[hk p x4];rfl
 by_cases h5:kind=5
 .have t4lo:=G9 a1 b1 4 ay;show⟨tkA a1 4,tkB a1 b1,(if (tkX a1 b1 4==0)=true then 1 else 0)*x4,?_⟩;show g9 st0 (g9 s1 (g9 s2 (g9 s3 (g9 s4 (g9 (λp=>?_) (fin _ _ _))))));delta mif;rw[ht5 p,show (kind==5)=true by rw[h5];rfl];show(h6 (W2 (zx6 (k8 (W2 (i9 rfl ay ay) (Y2 rfl) rfl) (R8 rfl)) rfl) (Y2 rfl) ?_)).trans rfl;show (if K4 _ _=true then _ else none)=_;rw[aH (zp3 _ _ (by split <;> decide) (by split <;> decide))]
 .refine⟨a1,b1,x4,?_⟩;show g9 st0 (g9 s1 (g9 s2 (g9 s3 (g9 s4 (g9 (λp=>?_) (fin a1 b1 x4))))));delta mif;rw[ht5 p,cU.mpr h5];rfl
theorem wf4(a b:Int)(most:Nat)(hm:most<=300):∃(f:List Int)(a' b':Int),f.length<=300/\∀p,wr8 p (RL a b) [.int most]=some (.fr (f.map .int),RL a' b'):=by
 suffices h:URun xg5 (λp=>Z9 8 p (RL a b) [.int most]) (λo=>∃(f:List Int)(a' b':Int),f.length<=300/\o=λp=>.rgf (f.map .int) p (RL a' b'))by let⟨o,e,f,a',b',hf,rfl⟩:=h;show⟨f,a',b',hf,λp=>xq9 (e p)⟩
 have i3:[D.int (tkX a b ((most:Int)+1)),D.int (most:Int),D.int (tkX (tkA a ((most:Int)+1)) (tkB a b) (min (most:Int) 4+1))].length<=sizeLine:=y7 az;have i4:0+1+1+1+1<=sizeLine:=y7 ay;have q1:(0:Int)<(most:Int)+1:=aw;have q2:(0:Int)<min (most:Int) 4+1:=aw;have l1:=G9 a b ((most:Int)+1) q1;have u1:=zs7 a b ((most:Int)+1) q1;generalize hA1:tkA a ((most:Int)+1)=A1 at i3;generalize hB1:tkB a b=B1 at i3;have l2:=G9 A1 B1 (min (most:Int) 4+1) q2;have u2:=zs7 A1 B1 (min (most:Int) 4+1) q2;generalize hA2:tkA A1 (min (most:Int) 4+1)=A2;generalize hB2:tkB A1 B1=B2;let⟨many,em,hmn⟩:=at3 (tkX a b ((most:Int)+1)) (most:Int) (tkX A1 B1 (min (most:Int) 4+1)) (tkX A2 B2 3) (G9 A2 B2 3 ay) (zs7 A2 B2 3 ay);have hmany:0<=many/\many<=most:=aw;generalize hA3:tkA A2 3=A3;generalize hB3:tkB A2 B2=B3;show g9 (ρ':=λp=>[some (.ob p (RL A3 B3)),k0b most,k0c many,none,none,none,none,none]) (λp=>?_) ?_
 .have e2:(w5 Q3 (z6 (mvar 1) (z6 (mc (.int 4)) anil))) [some (.ob p (RL A1 B1)),k0b most,none,none,none,none,none,none]=some (.int (min (most:Int) 4)):=by simp_arith [ys1]
  have e3:m2 addD (w5 Q3 (z6 (mvar 1) (z6 (mc (.int 4)) anil))) (mc (.int 1)) [some (.ob p (RL A1 B1)),k0b most,none,none,none,none,none,none]=some (.int (min (most:Int) 4+1)):=by delta m2;rw[e2];rfl
  have t1:=i9 (p:=p) (a:=a) (b:=b) (x:=m2 addD (mvar 1) (mc (.int 1))) (tl:=[k0b most,none,none,none,none,none,none]) (by simp_arith []) q1 aw;rw[hA1,hB1]at t1;have t2:=i9 e3 q2 aw;rw[hA2,hB2]at t2;have t3:=i9 (p:=p) (a:=A2) (b:=B2) (x:=mc (.int 3)) (tl:=[k0b most,none,none,none,none,none,none]) rfl ay ay;rw[hA3,hB3]at t3;show(h6 (W2 (zp7 (k8 t1 (k8 (Y2 rfl) (k8 t2 (R8 rfl)))) i3) t3 em)).trans rfl
 generalize hA4:tkA A3 6=A4;generalize hB4:tkB A3 B3=B4;show g9 (ρ':=λp=>[some (.ob p (RL A4 B4)),k0b most,k0c many,some (.sh (.int (tkX A3 B3 6))),none,none,none,none]) (λp=>?_) ?_
 .have t:=i9 (p:=p) (a:=A3) (b:=B3) (x:=mc (.int 6)) (tl:=[k0b most,k0c many,none,none,none,none,none]) rfl ay ay;rw[hA4,hB4]at t;show(h6 t).trans rfl
 generalize tkX A3 B3 6=kind;let⟨span,es,hsp⟩:=at4 2 4 10 100 (tkX A4 B4 4) (G9 A4 B4 4 ay) (zs7 A4 B4 4 ay);generalize hA5:tkA A4 4=A5;generalize hB5:tkB A4 B4=B5;show g9 (ρ':=λp=>[some (.ob p (RL A5 B5)),k0b most,k0c many,k0c kind,k0c span,none,none,none]) (λp=>?_) ?_
 .have t:=i9 (p:=p) (a:=A4) (b:=B4) (x:=mc (.int 4)) (tl:=[k0b most,k0c many,k0c kind,none,none,none,none]) rfl ay ay;rw[hA5,hB5]at t;show(h6 (W2 (Y2 (d:=.lst [.int 2,.int 4,.int 10,.int 100]) (by simp_arith [i4,if_true])) t es)).trans rfl
 show g9 (ρ':=λp=>envR p A5 B5 most many kind span [] none none) (λp=>by delta envR;simp_arith [Nat.zero_le _,if_true]) ?_;let⟨n,en⟩:=vy7 hmany.1;subst en;have k1:okR (n:Int)=true:=Y1 aw aw;show yi7 (wz8 n (f:=λ(j:Nat)=>D.int (j:Int)) (λp=>by delta envR;simp_arith [B8 k1,Int.toNat_natCast];rw[A0,bw];rfl)
  (I:=λj c=>∃(f:List Int)(a b:Int)(o6 o7:Option S),f.length=j/\c=λp=>envR p a b most n kind span f o6 o7) ⟨[],A5,B5,none,none,rfl,rfl⟩ ?_ ?_)
 .rintro j c hj ⟨f,a,b,o6,o7,hf,rfl⟩;let⟨a',b',x,o,e,rfl⟩:=xp0 a b most n kind span f j o7 aw aw aw;show⟨λp=>envR p a b most n kind span f (k0b j) o7,λp=>rfl,_,e,_,rfl,f++[x],a',b',_,_,by simp[hf],rfl⟩
 .rintro c ⟨f,a,b,o6,o7,hf,rfl⟩;show⟨_,rfl,λp=>.rgf (f.map .int) p (RL a b),λp=>?_,f,a,b,aw,rfl⟩;delta yt8 envR;rfl
theorem ze8{ds:List Int}{P:Int->Prop}(h:∀x∈ds,P x)(k:Int)(c:0<=k)(b:k<ds.length):∃x,atI (ds.map D.int) k=some (.int x)/\P x:=by have a:k.toNat<ds.length:=ax;show⟨ds.getD k.toNat 0,X1 D.int ds k c b 0,h _ ?_⟩;rw[aE,aG a];show dj a
theorem wy5(a b:Int)(d:List Int)(V:d.length<=300):∃(s i g:Int),1<=s/\∀p,wq0 p (RL a b) [.lst (d.map .int)]=some (.sh (.int s),RL i g):=by
 suffices h:URun xg8 (λp=>Z9 4 p (RL a b) [.lst (d.map .int)]) (λo=>∃(s i g:Int),1<=s/\o=λp=>.rg (.int s) p (RL i g))by let⟨o,e,s,i,g,z,rfl⟩:=h;show⟨s,i,g,z,λp=>yg3 (e p)⟩
 have t:(10:Int)^(27:Int).toNat=1000000000000000000000000000:=by decide
 have q:(10:Int)^(29:Int).toNat=100000000000000000000000000000:=by decide
 have v:zb0 10 27=true:=by decide
 have u:zb0 10 29=true:=by decide
 have l1:=G9 a b 4 ay;generalize L:tkA a 4=A1;generalize H:tkB a b=B1;have l2:=G9 A1 B1 100 ay;generalize K:tkA A1 100=A2;generalize G:tkB A1 B1=B2;generalize y:tkX a b 4=x1 at l1;generalize w:tkX A1 B1 100=x2 at l2
 let so:=[1,1,1+x1,1+x2,1000000000000000000000000000,100000000000000000000000000000]
 have m:∀x∈so,1<=x:=by intro x n;simp only[so,mem_cons,mem_nil_iff]at n;rcases n with h|h|h|h|h|h <;> lia
 show g9 (ρ':=λp=>[some (.ob p (RL A2 B2)),k0a d,k0a so,none]) (λp=>?_) ?_
 .have t1:=i9 (p:=p) (a:=a) (b:=b) (x:=mc (.int 4)) (tl:=[k0a d,none,none]) rfl ay ay;rw[L,H,y]at t1;have l:=i9 (p:=p) (a:=A1) (b:=B1) (x:=mc (.int 100)) (tl:=[k0a d,none,none]) rfl ay ay;rw[K,G,w]at l;show(h6 (zp7 (k8 (Y2 rfl) (k8 (Y2 rfl) (k8 (W2 (Y2 rfl) t1 rfl) (k8 (W2 (Y2 rfl) l rfl) (R8 ?_))))) (y7 (by simp[so])))).trans rfl;simp_arith [t,q,v,u,if_true]
 have last:∀(A B:Int)(f:List Int)(M:Option S),f≠[]->f.length<=1000->(∀x∈f,1<=x)->URun (zw5 0 (m2m ixLD (mpu (mvar 2)) (u6 i5 0 (apu (z6 (mlen (bvar 2)) anil))))) (λp=>[some (.ob p (RL A B)),k0a d,k0a f,M]) (λo=>∃(s i g:Int),1<=s/\o=λp=>.rg (.int s) p (RL i g)):=by
  intro A B f M C W O;have c:(0:Int)<(f.length:Int):=by
   cases f with
   |nil=>show aV rfl C
   |cons x r=>rw[bA];lia
  let⟨s,e,z⟩:=ze8 O (tkX A B f.length) (G9 A B _ c) (zs7 A B _ c);show⟨λp=>.rg (.int s) p (RL (tkA A f.length) (tkB A B)),λp=>?_,s,_,_,z,rfl⟩;show xk5 (W2 (Y2 rfl) (i9 (by simp_arith [length_map]) c aw) e) rfl
 show yi7 (vq4 (λp=>wo3 rfl) ?_);cases hrow:d with
 |nil=>subst hrow;show wz7 ⟨_,rfl,last A2 B2 so none az (by simp[so]) m⟩
 |cons U T=>
  rw[<-hrow];have c:(0:Int)<(d.length:Int):=by rw[hrow,bA];lia
  rw[show (!(d.map D.int).isEmpty)=true by rw[hrow];rfl];let⟨k,R,_⟩:=ze8 (λ_ _=>True.intro) (tkX A2 B2 d.length) (G9 _ _ _ c) (zs7 _ _ _ c);generalize J:tkA A2 d.length=A3;generalize F:tkB A2 B2=B3;let⟨j,Q,_⟩:=ze8 (λ_ _=>True.intro) (tkX A3 B3 d.length) (G9 _ _ _ c) (zs7 _ _ _ c);generalize I:tkA A3 d.length=A4;generalize E:tkB A3 B3=B4;show g9 (ρ':=λp=>[some (.ob p (RL A4 B4)),k0a d,k0a so,some (.sh (.int (if k-j<0 then -(k-j)else k-j)))]) (λp=>?_) ?_
  .have t1:=i9 (p:=p) (a:=A2) (b:=B2) (x:=mlen (bvar 1)) (tl:=[k0a d,k0a so,none]) (by simp_arith [length_map]) c aw;rw[J,F]at t1;have l:=i9 (p:=p) (a:=A3) (b:=B3) (x:=mlen (bvar 1)) (tl:=[k0a d,k0a so,none]) (by simp_arith [length_map]) c aw;rw[I,E]at l;show(h6 (zx6 (k8 (W2 (W2 (Y2 rfl) t1 R) (W2 (Y2 rfl) l Q) rfl) (R8 rfl)) rfl)).trans rfl
  generalize P:(if k-j<0 then -(k-j)else k-j)=ap;have N:0+1+1<=sizeLine:=y7 ay;show yi8 (ρ':=λp=>[some (.ob p (RL A4 B4)),k0a d,some (.sh (.lst ((so++[max 1 ap,ap+1]).map .int))),k0c ap]) (λp=>?_) ⟨_,rfl,last A4 B4 (so++[max 1 ap,ap+1]) _ az (by simp[so]) ?_⟩
  .have e:mcat (bvar 2) (y8 (z6 (w5 K7 (z6 (mc (.int 1)) (z6 (mvar 3) anil))) (z6 (m2 addD (mvar 3) (mc (.int 1))) anil))) [some (.ob p (RL A4 B4)),k0a d,k0a so,k0c ap]=some (so.map .int++[.int (max 1 ap),.int (ap+1)]):=
    c7 rfl (x8 (z0 (by simp_arith [zh1]) (z0 (by simp_arith []) z7)) N) (y7 (by simp[so]))
   rw[v4 (t7 e),bN];rfl
  .intro x n;rcases bz.mp n with h|h
   .exact m x h
   .simp at h;rcases h with h|h <;> lia
theorem y9{f:D->D->Option D}(d:x ρ=some a)(c:y ρ=some b):m2 f x y ρ=f a b:=by delta m2;rw[d,c];rfl
theorem N3{a:Type}(f:Nat->a)(j:Nat):(List.range (j+1)).map f=(List.range j).map f++[f j]:=by rw[range_succ,bN];rfl
def abv(a:List Int)(s:Int)(d:Bool)(p:Nat):List Nat:=((List.range (a.length-(p+1))).map λj=>p+1+j).filter λq=>decide (far s d (xr a p) (xr a q))
theorem abv_mem{s:Int}{d:Bool}{p q:Nat}:q∈abv a s d p↔p<q/\q<a.length/\far s d (xr a p) (xr a q):=by
 delta abv;rw[mem_filter,mem_map,decide_eq_true_eq];constructor
 .rintro⟨⟨j,hj,rfl⟩,h⟩;have:=bq.mp hj;show⟨ax,ax,h⟩
 .rintro⟨h1,h2,h3⟩;show⟨⟨q-(p+1),bq.mpr ax,ax⟩,h3⟩
theorem yw5(a:List Int)(s:Int)(d:Bool)(p:Nat):(abv a s d p).length<=a.length:=by show bD (length_filter_le _ _) ?_;rw[aL,length_range];omega
def yy3(a:List Int)(s:Int)(A B:Qe)(o4 o5:Option S):Ro:=[k0a a,k0c s,some (.own (A.map L)),some (.own (B.map L)),o4,o5]
theorem xp1(a:List Int)(p:Nat)(b:a.length<=300)(c:p<a.length):U2 ((p:Int)+1) ((a.length:Int)-((p:Int)+1)).toNat=((List.range (a.length-(p+1))).map λj=>p+1+j).map dN:=by rw[X5,show ((a.length:Int)-((p:Int)+1)).toNat=a.length-(p+1)by lia,bw];apply ba;intro i _;congr 1
theorem yp8(a:List Int)(s:Int)(d:Bool)(p:Nat)(e:a.length<=300)(l:p<a.length)(A B:Qe)(b:MB)
  (k:∀q:Nat,q<a.length->b [some (.sh (dN q)),k0c s,some (.sh (.int (xr a p))),k0a a]=some (decide (far s d (xr a p) (xr a q)))):
  t9 [none,some 1,some 5,some 0] (w4 rng2 (z6 (m2 addD (mvar 4) (mc (.int 1))) (z6 (mlen (bvar 0)) anil))) (.nm 0) b (mvar 0) (yy3 a s A B (k0b p) (some (.sh (.int (xr a p)))))=some ((abv a s d p).map dN):=by
 have i:okR ((p:Int)+1)=true:=Y1 aw aw;have h:okR (a.length:Int)=true:=Y1 aw aw;have n:w4 rng2 (z6 (m2 addD (mvar 4) (mc (.int 1))) (z6 (mlen (bvar 0)) anil)) (yy3 a s A B (k0b p) (some (.sh (.int (xr a p)))))=some (((List.range (a.length-(p+1))).map λj=>p+1+j).map dN):=by delta yy3;simp_arith [length_map,K0 i h,xp1 a p e l]
 delta t9;rw[n,aI];show c9 _ _ _ _ [none,k0c s,some (.sh (.int (xr a p))),k0a a] []=_;rw[k0 (λg f=>(∀q∈g,q<a.length)/\∃o,f=[o,k0c s,some (.sh (.int (xr a p))),k0a a])
  (by
   rintro q g f ⟨c,o,rfl⟩;show⟨_,rfl,k q (c q az),λ_=>rfl,λr e=>c r (by simp[e]),_,rfl⟩) _ _ [] ⟨λq c=>by let⟨j,m,rfl⟩:=bj.mp c;have:=bq.mp m;lia,_,rfl⟩ (y7 (by simp;lia)),cT]
 rfl
theorem R5(a:List Int)(s:Int)(k:a.length<=300):m_Z9 [.lst (a.map .int),.int s]=some (.sh (.tup [.lst (((List.range a.length).map (abv a s true)).map L),.lst (((List.range a.length).map (abv a s false)).map L)])):=by
 show Y0 ?_;have v:=v3;have h:0<=sizeLine:=aW _;have o:2<=sizeLine:=y7 ay;show y6 (by delta Z4;rw[x8 z7 h];rfl) ?_;show y6 (by delta Z4;rw[x8 z7 h];rfl) ?_;have u:w4 Q8 (z6 (mvar 0) anil) (yy3 a s [] [] none none)=some ((List.range a.length).map λ(i:Nat)=>D.tup [.int (i:Int),.int (xr a i)]):=by delta w4;rw[z0 rfl z7,aI];show some (V9 0 (a.map .int))=_;rw[N7];congr 1;apply ba;intro i _;rw[cg]
 show m8 (j6 a.length u
  (I:=λj b=>∃g f,b=yy3 a s ((List.range j).map (abv a s true)) ((List.range j).map (abv a s false)) g f) _ ⟨_,_,rfl⟩ ?_ ?_)
 .rintro j b hj ⟨g,f,rfl⟩;show⟨yy3 a s ((List.range j).map (abv a s true)) ((List.range j).map (abv a s false)) (k0b j) (some (.sh (.int (xr a j)))),rfl,?_⟩;have n:∀q:Nat,q<a.length->mix (bvar 3) (mvar 0) [some (.sh (dN q)),k0c s,some (.sh (.int (xr a j))),k0a a]=some (.int (xr a q)):=λq c=>w6 rfl rfl (L4 a q c);have e:∀(b:Ro)(i:Nat)(M:Qe)(m:ML)(l:List Nat),b[i]? =some (some (.own (M.map L)))->m b=some (l.map dN)->M.length<sizeLine->mapp i (mlst m) b=some (.nx (b.set i (some (.own ((M++[l]).map L))))):=by intro b i M m l t r p;delta mapp;rw[t,t7 r];show (some (D.lst (l.map dN))).bind (λd=>if (M.map L).length<sizeLine then some (Out.nx (b.set i (some (.own (M.map L++[d])))))else none)=_;rw[aI,aH (by rw[aL];show p),bN];rfl
  show y6 (ρ':=yy3 a s ((List.range (j+1)).map (abv a s true)) ((List.range j).map (abv a s false)) (k0b j) (some (.sh (.int (xr a j))))) ?_ ?_
  .rw[e _ 2 _ _ _ rfl (yp8 a s true j k hj ((List.range j).map (abv a s true)) ((List.range j).map (abv a s false)) (y0 (m2 geD (m2 subD (mix (bvar 3) (mvar 0)) (mvar 2)) (mvar 1))) (λq c=>by
   rw[zk1 ((y9 (n q c) rfl).trans (rfl)) rfl];delta far;simp)) (by simp;lia),<-N3]
   rfl
  .refine⟨_,e _ 3 _ _ _ rfl (yp8 a s false j k hj ((List.range (j+1)).map (abv a s true)) ((List.range j).map (abv a s false)) (y0 (m2 geD (m2 subD (mvar 2) (mix (bvar 3) (mvar 0))) (mvar 1))) (λq c=>by
   rw[zk1 ((y9 (rfl) (n q c)).trans (rfl)) rfl];delta far;simp)) (by simp;lia),?_⟩
   rw[<-N3];show⟨_,_,rfl⟩
 .rintro b ⟨g,f,rfl⟩;show X4 rfl (X4 rfl ⟨_,Z5 (zz1 (z0 rfl (z0 rfl z7)) o),rfl⟩)
def cnt(a:List Int)(s:Int):Nat->Bool->Nat->Nat
 |0,_,_=>1
 |k+1,d,p=>((abv a s d p).map (cnt a s k (!d))).sum
theorem xq1(ns:List Nat):(ns.map λ(k:Nat)=>(k:Int)).sum=((ns.sum:Nat):Int):=by
 induction ns with
 |nil=>rfl
 |cons n ns a=>rw[br,dv,dv,a];lia
theorem dns(ns:List Nat):ns.map dN=(ns.map λ(k:Nat)=>(k:Int)).map .int:=by rw[bw];rfl
theorem zp4{m:ML}{ρ:Ro}{ns:List Nat}(h:m ρ=some (ns.map dN)):msum m ρ=some (dN ns.sum):=by delta msum;rw[h,dns];simp only[Z7,xq1];rfl
theorem wr6{m:ML}{a:Ro}{ns:List Nat}(h:m a=some (ns.map dN)):many m a=some (.bl (ns.any λn=>n != 0)):=by
 delta many;rw[h,dns];simp only[Z7];congr 2;rw[any_map];congr 1;funext n;show ((n:Int) != 0)=(n != 0);by_cases z:n=0
 .subst z;rfl
 .rw[bne_iff_ne.mpr z,bne_iff_ne.mpr aw]
theorem E4(ns:List Nat)(q:Nat)(h:q<ns.length):atI (ns.map dN) (q:Int)=some (dN (ns.getD q 0)):=by have:=X1 dN ns (q:Int) aw aw 0;show this
theorem yw4(ns:List Nat)(f:Qe)(j:∀a∈f,a.length<=300/\∀q∈a,q<ns.length)(m:f.length<=300):ym4 [.lst (ns.map dN),.lst (f.map L)]=some (.fr ((f.map λa=>(a.map λq=>ns.getD q 0).sum).map dN)):=by
 unfold ym4 wn9;show zr9 ?_;have k:=v3;have b:∀a:List Nat,(a.length<=300/\∀q∈a,q<ns.length)->t9 [none,some 1] (u4 (mvar 0)) (.nm 0) cyes (mix (bvar 1) (mvar 0)) [some (.sh (L a)),some (.sh (.lst (ns.map dN)))]=some ((a.map λq=>ns.getD q 0).map dN):=by
  rintro a ⟨l,g⟩;unfold t9;show c9 _ _ _ _ [none,some (.sh (.lst (ns.map dN)))] []=_;rw[i8 (λd c=>(∀q∈d,q<ns.length)/\∃o,c=[o,some (.sh (.lst (ns.map dN)))]) (by rintro q d c ⟨i,o,rfl⟩;show⟨_,rfl,rfl,w6 rfl rfl (E4 ns q (i q az)),λz h=>i z (by simp[h]),_,rfl⟩) a _ [] ⟨g,none,rfl⟩ (by simp;lia),cT,bw]
  rfl
 unfold zi8 t9;show (c9 _ _ _ _ [none,some (.sh (.lst (ns.map dN)))] []).map _=_;rw[i8 (λd c=>(∀a∈d,a.length<=300/\∀q∈a,q<ns.length)/\∃o,c=[o,some (.sh (.lst (ns.map dN)))]) (by rintro a d c ⟨g,o,rfl⟩;show⟨[some (.sh (L a)),some (.sh (.lst (ns.map dN)))],rfl,rfl,?_,λz h=>g z (by simp[h]),_,rfl⟩;have e:=b a (g a az);unfold t9 at e;show zp4 e) f _ [] ⟨j,none,rfl⟩ (by simp;lia),cT]
 rw[bw];rfl
theorem zn1(a:List Int)(s:Int):∀(k:Nat)(d:Bool)(p:Nat),p<a.length->a.length<=p+k->cnt a s k d p=0
 |0,d,p,hp,h=>by lia
 |k+1,d,p,hp,h=>by rw[cnt,List.sum_eq_zero_iff_forall_eq_nat];intro v b;let⟨q,c,e⟩:=bj.mp b;let⟨g,f,_⟩:=abv_mem.mp c;rw[<-e];show zn1 a s k (!d) q f aw
def CL(a:List Int)(s:Int)(k:Nat)(d:Bool):List Nat:=(List.range a.length).map (cnt a s k d)
def bgn(a:List Int)(s:Int):Nat->Nat->Nat
 |0,_=>1
 |k+1,p=>cnt a s (k+1) true p+cnt a s (k+1) false p
def BL(a:List Int)(s:Int)(k:Nat):List Nat:=(List.range a.length).map (bgn a s k)
def lay(a:List Int)(s:Int)(k:Nat):D:=.tup [.lst ((BL a s k).map dN),.lst ((CL a s k true).map dN),.lst ((CL a s k false).map dN)]
def anyB(a:List Int)(s:Int)(k:Nat):Bool:=(BL a s k).any λn=>n != 0
theorem yp4(a:List Int)(s:Int)(k:Nat)(h:a.length<=k):anyB a s k=false:=by
 delta anyB BL;rw[any_map,any_eq_false];intro p hp;have hp:=bq.mp hp;have:bgn a s k p=0:=by
  cases k with
  |zero=>lia
  |succ k=>rw[bgn,zn1 a s _ _ p hp aw,zn1 a s _ _ p hp aw]
 simp[this]
theorem wn0(a:List Int)(s:Int)(k:Nat)(d:Bool)(q:Nat)(h:q<a.length):(CL a s k d).getD q 0=cnt a s k d q:=by delta CL;rw[aE,bn,cw h];rfl
theorem xv0(a:List Int)(s:Int)(k:Nat)(d:Bool):(CL a s k d).length=a.length:=by delta CL;simp
theorem yp7(b:List Int)(s:Int)(e:b.length<=300)(k:Nat)(d:Bool):ym4 [.lst ((CL b s k (!d)).map dN),.lst (((List.range b.length).map (abv b s d)).map L)]=some (.fr ((CL b s (k+1) d).map dN)):=by
 rw[yw4 (CL b s k (!d)) ((List.range b.length).map (abv b s d)) ?_ (by simp;omega)]
 .congr 3;rw[bw];apply ba;intro p f;show ((abv b s d p).map λq=>(CL b s k (!d)).getD q 0).sum=cnt b s (k+1) d p;congr 1;apply ba;intro q c;show wn0 b s k (!d) q (abv_mem.mp c).2.1
 .intro a ha;let⟨p,_,rfl⟩:=bj.mp ha;show⟨bD (yw5 b s d p) e,λq c=>?_⟩;rw[xv0];show(abv_mem.mp c).2.1
def envY(a:List Int)(s:Int)(most:Int)(k:Nat):Ro:=[k0a a,k0c s,k0c most,some (.sh (.lst (((List.range a.length).map (abv a s true)).map L))),some (.sh (.lst (((List.range a.length).map (abv a s false)).map L))),some (.sh (.lst ((BL a s k).map dN))),some (.sh (.lst ((CL a s k true).map dN))),some (.sh (.lst ((CL a s k false).map dN))),some (.own ((List.range k).map (lay a s)))]
theorem xa8(n:Nat)(f g:Nat->Nat):List.zipWith (λd e=>D.tup [d,e]) (((List.range n).map f).map dN) (((List.range n).map g).map dN)=(List.range n).map λp=>D.tup [dN (f p),dN (g p)]:=by rw[bw,bw,zipWith_map,zipWith_self];rfl
theorem xj6(a:List Int)(s:Int)(d:a.length<=300)(b:Int)(k:Nat)(h:k<=400):C3 (envY a s b k)=some (.nx (envY a s b (k+1))):=by
 have f:=v3;show seqI (ρ':=(envY a s b k).set 8 (some (.own ((List.range (k+1)).map (lay a s))))) ?_ ?_
 .delta mapp;rw[zz1 (z0 rfl (z0 rfl (z0 rfl z7))) (y7 az)];show (if ((List.range k).map (lay a s)).length<sizeLine then _ else none)=_;rw[aH (by simp;lia),N3];rfl
 show seqI (ρ':=(((envY a s b k).set 8 (some (.own ((List.range (k+1)).map (lay a s))))).set 6 (some (.sh (.lst ((CL a s (k+1) true).map dN))))).set 7 (some (.sh (.lst ((CL a s (k+1) false).map dN))))) ?_ ?_
 .delta mpar;rw[z0 (W8 (z0 rfl (z0 rfl z7)) (yp7 a s d k true)) (z0 (W8 (z0 rfl (z0 rfl z7)) (yp7 a s d k false)) z7)]
 .have e3:t9 [none,none] (w4 zip2 (z6 (mvar 6) (z6 (mvar 7) anil))) (.tp [0,1]) cyes (m2 addD (mvar 0) (mvar 1)) ((((envY a s b k).set 8 (some (.own ((List.range (k+1)).map (lay a s))))).set 6 (some (.sh (.lst ((CL a s (k+1) true).map dN))))).set 7 (some (.sh (.lst ((CL a s (k+1) false).map dN)))))=some ((BL a s (k+1)).map dN):=by
   have e:w4 zip2 (z6 (mvar 6) (z6 (mvar 7) anil)) ((((envY a s b k).set 8 (some (.own ((List.range (k+1)).map (lay a s))))).set 6 (some (.sh (.lst ((CL a s (k+1) true).map dN))))).set 7 (some (.sh (.lst ((CL a s (k+1) false).map dN)))))=some ((List.range a.length).map λp=>D.tup [dN (cnt a s (k+1) true p),dN (cnt a s (k+1) false p)]):=by delta w4;rw[z0 rfl (z0 rfl z7),aI];show some (List.zipWith _ _ _)=_;delta CL;rw[xa8]
   delta t9;rw[e,aI];show c9 _ _ _ _ [none,none] []=_;rw[i8 (G:=λp=>dN (bgn a s (k+1) p)) (λ_ c=>∃x y,c=[x,y]) (by rintro p g c ⟨x,y,rfl⟩;show⟨[some (.sh (dN (cnt a s (k+1) true p))),some (.sh (dN (cnt a s (k+1) false p)))],rfl,rfl,?_,_,_,rfl⟩;show(y9 rfl rfl).trans ?_;rw[bgn];delta dN;congr 2) (List.range a.length) _ [] ⟨none,none,rfl⟩ (by simp;lia),cT]
   delta BL;rw[bw];rfl
  show(v4 (t7 e3)).trans rfl
theorem Y8{b:Bool}(h:x a=some (.bl b)):mtru x a=some b:=by delta mtru;rw[h];rfl
theorem u9{b:Bool}(h:x a=some (.bl b)):y0 x a=some b:=by delta y0;rw[h]
theorem f9{i:Nat}(h:x a=some ds):Z4 i x a=some (.nx (a.set i (some (.own ds)))):=by delta Z4;rw[h];rfl
def zw0(a:List Int)(s most:Int)(J:Nat):Prop:=J<=a.length/\(∀i,i<J->anyB a s i=true/\(i:Int)<most)/\(most<=(J:Int)\/anyB a s J=false)
theorem ys6(d:List Int)(s c:Int)(g:d.length<=300):∀(f k:Nat),d.length+1<=k+f->k<=d.length->(∀i,i<k->anyB d s i=true/\(i:Int)<c)->
  ∃J,zw0 d s c J/\V4 (cand (y0 (m2 ltD (mlen (bvar 8)) (mvar 2))) (mtru (many (bvar 5)))) C3 f (envY d s c k)=some (.nx (envY d s c J))
 |0,k,h,j,_=>by lia
 |f+1,k,h,j,e=>by
  have o:y0 (m2 ltD (mlen (bvar 8)) (mvar 2)) (envY d s c k)=some (decide ((k:Int)<c)):=by show u9 ((y9 (a:=.int (k:Int)) (b:=.int c) ?_ rfl).trans rfl);rw[u7 (show bvar 8 (envY d s c k)=some ((List.range k).map (lay d s))from rfl)];simp
  have n:mtru (many (bvar 5)) (envY d s c k)=some (anyB d s k):=Y8 (wr6 (ns:=BL d s k) rfl);have m:=zx4 o n;unfold V4;rw[m];by_cases z:(k:Int)<c/\anyB d s k=true
  .rw[aO z.1,z.2];have l:k<d.length:=by
    rcases bi k d.length with w|w
    .exact w
    .rw[yp4 d s k w]at z;cases z.2
   simp only[Bool.and_self,xj6 d s g c k aw];show ys6 d s c g f (k+1) aw aw λi hi=>?_;rcases bi i k with w|w
   .exact e i w
   .have:i=k:=aw;subst this;show⟨z.2,z.1⟩
  .have:(decide ((k:Int)<c)&&anyB d s k)=false:=by rw[<-Bool.not_eq_true,ej,decide_eq_true_eq];show z
   rw[this];show⟨k,⟨j,e,?_⟩,rfl⟩;by_cases w:(k:Int)<c
   .right;rw[<-Bool.not_eq_true];show λy=>z ⟨w,y⟩
   .left;lia
theorem xk1(n:Nat):(List.replicate n [D.int 1]).flatten=((List.range n).map λ_=>1).map dN:=by
 induction n with
 |zero=>rfl
 |succ n a=>rw[replicate_succ',flatten_append,a,range_succ,bN,bN];rfl
theorem wn4(a:List Int)(s:Int):BL a s 0=(List.range a.length).map λ_=>1:=by apply ba;intro p _;rw[bgn]
theorem xk4{i j k:Nat}(h:x a=some d):yn8 i j k x a=some (.nx (((a.set i (some (.sh d))).set j (some (.sh d))).set k (some (.sh d)))):=by delta yn8;rw[h]
theorem xy2(a:List Int)(s b:Int)(f:a.length<=300):yn8 5 6 7 (mlst (mrep (y8 (z6 (mc (.int 1)) anil)) (mlen (bvar 0)))) [k0a a,k0c s,k0c b,some (.sh (.lst (((List.range a.length).map (abv a s true)).map L))),some (.sh (.lst (((List.range a.length).map (abv a s false)).map L))),none,none,none,none]=some (.nx [k0a a,k0c s,k0c b,some (.sh (.lst (((List.range a.length).map (abv a s true)).map L))),some (.sh (.lst (((List.range a.length).map (abv a s false)).map L))),some (.sh (.lst ((BL a s 0).map dN))),some (.sh (.lst ((CL a s 0 true).map dN))),some (.sh (.lst ((CL a s 0 false).map dN))),none]):=by
 have e:=v3;have c:F8 1 (a.length:Int)=true:=by delta F8;rw[aO aw,aO aw,aO (by rw[bB];lia)];rfl
 have d:mlen (bvar 0) [k0a a,k0c s,k0c b,some (.sh (.lst (((List.range a.length).map (abv a s true)).map L))),some (.sh (.lst (((List.range a.length).map (abv a s false)).map L))),none,none,none,none]=some (.int (a.length:Int)):=by rw[u7 (rfl),aL]
 have rp:=zp6 (x:=y8 (z6 (mc (.int 1)) anil)) (x8 (z0 rfl z7) (y7 ay)) d c;rw[bB,xk1]at rp;show(xk4 (t7 rp)).trans rfl
theorem xy1(b:List Int)(s a:Int)(c:b.length<=300):masg (.tp [3,4]) (u0 m_Z9 (z6 (mvar 0) (z6 (mvar 1) anil))) [k0a b,k0c s,k0c a,none,none,none,none,none,none]=some (.nx [k0a b,k0c s,k0c a,some (.sh (.lst (((List.range b.length).map (abv b s true)).map L))),some (.sh (.lst (((List.range b.length).map (abv b s false)).map L))),none,none,none,none]):=by delta masg;rw[w9 (ρ:=[k0a b,k0c s,k0c a,none,none,none,none,none,none]) (z0 (x:=mvar 0) rfl (z0 (x:=mvar 1) rfl z7)) (R5 b s c)];rfl
theorem Y3(b:List Int)(s a:Int)(c:b.length<=300):∃J,zw0 b s a J/\xj5 [.lst (b.map .int),.int s,.int a]=some (.fr ((List.range J).map (lay b s))):=by
 let⟨J,d,e⟩:=ys6 b s a c 1000 0 aw aw (λi hi=>by lia);show⟨J,d,?_⟩;have h:xg9 [k0a b,k0c s,k0c a,none,none,none,none,none,none]=some (.rf ((List.range J).map (lay b s))):=by show seqI (xy1 b s a c) (seqI (xy2 b s a c) (seqI ((f9 (x8 z7 (aW _))).trans rfl) (seqI e ?_)));rfl
 show zr9 h
theorem wh0{ns:List Nat}:ns.sum≠0↔∃n∈ns,n≠0:=by
 induction ns with
 |nil=>simp
 |cons a ns b=>
  rw[dv];constructor
  .intro h;by_cases z:a=0
   .let⟨n,hn,e⟩:=b.mp aw;show⟨n,aX _ hn,e⟩
   .exact⟨a,by simp,z⟩
  .rintro⟨n,hn,e⟩;rcases aT.mp hn with z|z
   .lia
   .have:=b.mpr ⟨n,z,e⟩;lia
theorem U9(c:List Int)(s:Int):∀(k:Nat)(d:Bool)(p:Nat),p<c.length->(cnt c s k d p≠0↔∃m,Wd (xr c) c.length s d (p::m)/\m.length=k)
 |0,d,p,hp=>⟨λ_=>⟨[],hp,rfl⟩,λ_=>by rw[cnt];lia⟩
 |k+1,d,p,hp=>by
  rw[cnt,wh0];constructor
  .rintro⟨v,i,e⟩;let⟨q,j,rfl⟩:=bj.mp i;let⟨h,g,f⟩:=abv_mem.mp j;let⟨m,a,b⟩:=(U9 c s k (!d) q g).mp e;show⟨q::m,⟨h,f,a⟩,by rw[bA,b]⟩
  .rintro⟨m,a,b⟩;cases m with
   |nil=>ext b
   |cons q m=>let⟨h,g,f⟩:=a;show⟨_,bj.mpr ⟨q,abv_mem.mpr ⟨h,f.lt,g⟩,rfl⟩,(U9 c s k (!d) q f.lt).mpr ⟨m,f,by simpa using b⟩⟩
theorem yx8(b:List Int)(s:Int)(k p:Nat)(c:p<b.length):bgn b s k p≠0↔∃d m,Wd (xr b) b.length s d (p::m)/\m.length=k:=by
 cases k with
 |zero=>show⟨λ_=>⟨true,[],c,rfl⟩,λ_=>by rw[bgn];lia⟩
 |succ k=>
  rw[bgn];constructor
  .intro h;by_cases z:cnt b s (k+1) true p=0
   .let⟨m,a⟩:=(U9 b s (k+1) false p c).mp aw;show⟨false,m,a⟩
   .let⟨m,a⟩:=(U9 b s (k+1) true p c).mp z;show⟨true,m,a⟩
  .rintro⟨d,m,a⟩;have:=(U9 b s (k+1) d p c).mpr ⟨m,a⟩;ext d <;> lia
theorem C6(c:List Int)(s:Int)(k:Nat):anyB c s k=true↔∃l,Wv (xr c) c.length s l/\l.length=k+1:=by
 delta anyB BL;rw[any_map,any_eq_true];constructor
 .rintro⟨p,hp,e⟩;let⟨d,m,a,b⟩:=(yx8 c s k p (bq.mp hp)).mp (by simpa using e);show⟨p::m,.inr ⟨d,a⟩,by rw[bA,b]⟩
 .rintro⟨l,h,e⟩;rcases h with z|⟨d,z⟩
  .rw[z]at e;ext e
  .cases l with
   |nil=>ext e
   |cons p m=>show⟨p,bq.mpr z.lt,?_⟩;have:=(yx8 c s k p z.lt).mpr ⟨d,m,z,by simpa using e⟩;simpa using this
theorem C8{x:Nat->Int}{n:Nat}{s:Int}:∀(k:Nat){l:List Nat},Wv x n s l->Wv x n s (l.drop k)
 |0,l,h=>h
 |k+1,[],h=>.inl rfl
 |k+1,[p],h=>by simp;show .inl rfl
 |k+1,p::q::l,h=>by
  rcases h with z|⟨d,z⟩
  .cases z
  .exact C8 k (l:=q::l) (.inr ⟨_,z.2.2⟩)
theorem yz4{s:Int}(f:Best (Wv (xr c) c.length s) l){e:Int}(k:(c.length:Int)<=e){J:Nat}(h:zw0 c s e J):J=l.length:=by
 let⟨n,i,g⟩:=h;have j:l.length<=c.length:=by
  rcases f.1 with z|⟨d,z⟩
  .rw[z];simp
  .cases l with
   |nil=>simp
   |cons p m=>have:=z.len;simp;lia
 rcases Nat.lt_trichotomy J l.length with w|w|w
 .rcases g with z|z
  .lia
  .have:anyB c s J=true:=(C6 c s J).mpr ⟨l.drop (l.length-1-J),C8 _ f.1,by rw[dQ];lia⟩;rw[this]at z;ext z
 .exact w
 .let⟨m,a,b⟩:=(C6 c s (J-1)).mp (i (J-1) aw).1;have:=f.len m a;lia
def PN(q:Nat×Nat):D:=.tup [dN q.1,dN q.2]
theorem wr3(ns:List Nat):∃v:Nat,maxI (0::ns.map λ(k:Nat)=>(k:Int))=(v:Int)/\(∀y∈ns,y<=v)/\(v=0\/v∈ns):=by
 have hm:maxI (0::ns.map λ(k:Nat)=>(k:Int))∈0::ns.map λ(k:Nat)=>(k:Int):=zo2 az;have hg:∀y∈ns,(y:Int)<=maxI (0::ns.map λ(k:Nat)=>(k:Int)):=λy hy=>za7 (aX _ (bj.mpr ⟨y,hy,rfl⟩));generalize maxI (0::ns.map λ(k:Nat)=>(k:Int))=w at hm hg;rcases aT.mp hm with h|h
 .exact⟨0,by rw[h];rfl,λy hy=>by have:=hg y hy;lia,.inl rfl⟩
 .let⟨y,hy,e⟩:=bj.mp h;show⟨y,e.symm,λz hz=>by have:=hg z hz;lia,.inr hy⟩
theorem xb9(a b:Nat):eqSD (.int (a:Int)) (.int (b:Int))=some (.bl (decide (a=b))):=by
 show some (D.bl ((a:Int)==(b:Int)))=_;by_cases h:a=b
 .rw[h,bT,aO rfl]
 .rw[aP h,cU.mpr aw]
theorem zg5(T:List (Nat×Nat))(h:mi ρ=some (T.map PN))(c:T.length<=1000):t9 [none,none] mi (.tp [0,1]) cyes (mvar 0) ρ=some ((T.map (·.1)).map dN):=by
 have a:=v3;delta t9;rw[h,aI];show c9 _ _ _ _ [none,none] []=_;rw[i8 (λ_ ρ=>∃x y,ρ=[x,y]) (by rintro q b ρ ⟨x,y,rfl⟩;show⟨[some (.sh (dN q.1)),some (.sh (dN q.2))],rfl,rfl,rfl,_,_,rfl⟩) T _ [] ⟨none,none,rfl⟩ (by simp;lia),cT,bw]
 rfl
theorem yv8{i:Nat}(T:List (Nat×Nat))(v:Nat)(h:mi ρ=some (T.map PN))(a:P3 [none,none,some i] ρ=[none,none,some (.sh (dN v))])(d:T.length<=1000):t9 [none,none,some i] mi (.tp [0,1]) (y0 (m2 eqSD (mvar 0) (mvar 2))) (mvar 1) ρ=some (((T.filter λq=>decide (q.1=v)).map (·.2)).map dN):=by
 have b:=v3;delta t9;rw[h,aI,a];rw[k0 (λ_ ρ=>∃x y,ρ=[x,y,some (.sh (dN v))]) (by rintro q c ρ ⟨x,y,rfl⟩;show⟨[some (.sh (dN q.1)),some (.sh (dN q.2)),some (.sh (dN v))],rfl,u9 ((y9 rfl rfl).trans (xb9 q.1 v)),λ_=>rfl,_,_,rfl⟩) T _ [] ⟨none,none,rfl⟩ (by simp;lia),cT,bw]
 rfl
theorem K8(T:List (Nat×Nat))(h:T.length<=300):∃v:Nat,(∀q∈T,q.1<=v)/\(v=0\/∃q∈T,q.1=v)/\m_Z3 [.lst (T.map PN)]=some (.sh (PN (v+1,((((0,1)::T).filter λq=>decide (q.1=v)).map (·.2)).sum))):=by
 let⟨v,e,f,d⟩:=wr3 (T.map (·.1));show⟨v,λq a=>f _ (bj.mpr ⟨q,a,rfl⟩),?_,?_⟩
 .rcases d with z|z
  .exact .inl z
  .let⟨q,a,z⟩:=bj.mp z;show .inr ⟨q,a,z⟩
 have g:=v3;have b:2<=sizeLine:=y7 ay;show e9 ?_;show seqI ((v4 (t7 (c7 (x8 (m:=z6 (mtup (z6 (mc (.int 0)) (z6 (mc (.int 1)) anil))) anil) (z0 (zz1 (z0 rfl (z0 rfl z7)) b) z7) (y7 ay)) (show bvar 0 (u8 3 [.lst (T.map PN)])=some (T.map PN)from rfl) (by simp;lia)))).trans rfl) ?_;have c:=yt9 (x:=0) ((zg5 (mi:=u4 (mvar 1)) (ρ:=[some (.sh (.lst (T.map PN))),some (.sh (.lst ((((0,1)::T:List (Nat×Nat))).map PN))),none]) ((0,1)::T) (j3 rfl) (by simp;lia)).trans (by rw[br,dns];rfl));rw[e]at c;show seqI ((v4 c).trans rfl) ?_;show Z5 (zz1 (z0 ((y9 rfl rfl).trans rfl) (z0 (zp4 (yv8 (mi:=u4 (mvar 1)) (i:=2) (ρ:=[some (.sh (.lst (T.map PN))),some (.sh (.lst ((((0,1)::T:List (Nat×Nat))).map PN))),some (.sh (dN v))]) ((0,1)::T) v (j3 rfl) rfl (by simp;lia))) z7)) b)
section
variable {s:Int}
def TL(x:Nat->Int)(n:Nat)(s:Int)(t:Bool->Nat->Nat):Prop:=∀d p,p<n->(∃m,Wd x n s d (p::m)/\(p::m).length=t d p)/\∀m,Wd x n s d (p::m)->(p::m).length<=t d p
theorem wi3{t:Bool->Nat->Nat}(e:TL x n s t)(d:Bool)(p:Nat)(g:p<n)(v:Nat)(o:∀q,p<q->q<n->far s d (x p) (x q)->t (!d) q<=v)(l:v=0\/∃q,p<q/\q<n/\far s d (x p) (x q)/\t (!d) q=v):t d p=1+v:=by
 let⟨⟨m,a,b⟩,c⟩:=e d p g;have w:t d p<=1+v:=by
  cases m with
  |nil=>rw[<-b];simp
  |cons q m=>let⟨u,r,f⟩:=a;have:=o q u f.lt r;have:=(e (!d) q f.lt).2 m f;rw[<-b,bA];lia
 have lo:1+v<=t d p:=by
  rcases l with z|⟨q,k,j,i,h⟩
  .have:=c [] g;simp at this;lia
  .let⟨⟨m',a',b'⟩,_⟩:=e (!d) q j;have:=c (q::m') ⟨k,i,a'⟩;rw[bA,b',h]at this;lia
 lia
theorem wz9{t:Bool->Nat->Nat}(e:TL x n s t)(f:Best (Wv x n s) l):(∀d p,p<n->t d p<=l.length)/\(l.length=0\/∃d p,p<n/\t d p=l.length):=by
 have g:∀d p,p<n->t d p<=l.length:=λd p h=>by let⟨⟨m,a,b⟩,c⟩:=e d p h;rw[<-b];show f.len _ (.inr ⟨d,a⟩)
 show⟨g,?_⟩;cases hc:l with
 |nil=>show .inl rfl
 |cons p m=>
  right;have hw:=f.1;rw[hc]at hw;rcases hw with z|⟨d,z⟩
  .cases z
  .have a:=(e d p z.lt).2 m z;have b:=g d p z.lt;show⟨d,p,z.lt,aw⟩
end
noncomputable def tl(U V:Qe)(d:Bool)(p:Nat):Nat:=if d then (U.getD p []).length else (V.getD p []).length
def mst(a:List Int)(s:Int)(t:Bool->Nat->Nat)(d:Bool)(p:Nat):Nat×Nat:=(t d p,cnt a s (t d p-1) d p)
theorem yq2{s:Int}{t:Bool->Nat->Nat}(f:TL (xr c) c.length s t)(d:Bool)(q k:Nat)(e:q<c.length)(h:t d q<=k):cnt c s k d q=0:=by
 by_cases z:cnt c s k d q=0
 .exact z
 .let⟨m,a,b⟩:=(U9 c s k d q e).mp z;have:=(f d q e).2 m a;rw[bA]at this;lia
theorem zu0{c:Type}(l:List c)(p:c->Bool)(f:c->Nat)(h:∀x∈l,p x=false->f x=0):((l.filter p).map f).sum=(l.map f).sum:=by
 induction l with
 |nil=>rfl
 |cons a l b=>
  have b:=b λx d=>h x (aX _ d);rw[ey,br,dv];cases z:p a with
  |true=>simp only[if_true,map_cons,sum_cons,b]
  |false=>rw[h a az z,cg];show b
theorem zh8{s:Int}(m:f.length<=300){t:Bool->Nat->Nat}(i:TL (xr f) f.length s t)(d:Bool)(p:Nat)(n:p<f.length):m_Z3 [.lst (((abv f s d p).map (mst f s t (!d))).map PN)]=some (.sh (PN (mst f s t d p))):=by
 let⟨v,j,o,e⟩:=K8 ((abv f s d p).map (mst f s t (!d))) (by rw[aL];show bD (yw5 f s d p) m);have h:=λe q g=>by have:=(i e q g).2 [] g;simpa using this
 have k:t d p=1+v:=by
  show wi3 i d p n v (λq a b c=>j (mst f s t (!d) q) (bj.mpr ⟨q,abv_mem.mpr ⟨a,b,c⟩,rfl⟩)) ?_;rcases o with z|⟨w,hw,z⟩
  .exact .inl z
  .let⟨q,g,rfl⟩:=bj.mp hw;let⟨a,b,c⟩:=abv_mem.mp g;show .inr ⟨q,a,b,c,z⟩
 rw[e];have l:((((0,1)::(abv f s d p).map (mst f s t (!d))).filter λq=>decide (q.1=v)).map (·.2)).sum=cnt f s v d p:=by
  cases v with
  |zero=>
   have:abv f s d p=[]:=by rw[eq_nil_iff_forall_not_mem];intro q g;have a:=j (mst f s t (!d) q) (bj.mpr ⟨q,g,rfl⟩);have b:=h (!d) q (abv_mem.mp g).2.1;have a:t (!d) q<=0:=a;lia
   rw[this];rfl
  |succ v=>
   rw[ey,aF az,filter_map,bw,cnt];have r:∀q∈(abv f s d p).filter ((λq:Nat×Nat=>decide (q.1=v+1))∘mst f s t (!d)),((λq:Nat×Nat=>q.2)∘mst f s t (!d)) q=cnt f s v (!d) q:=by intro q g;have:=(dO.mp g).2;have:t (!d) q=v+1:=of_decide_eq_true this;show cnt f s (t (!d) q-1) (!d) q=_;rw[this];rfl
   rw[ba r];show zu0 (abv f s d p) _ (cnt f s v (!d)) λq g z=>?_;have z:¬ t (!d) q=v+1:=of_decide_eq_false z;have a:t (!d) q<=v+1:=j (mst f s t (!d) q) (bj.mpr ⟨q,g,rfl⟩);show yq2 i (!d) q v (abv_mem.mp g).2.1 aw
 rw[l];congr 3;delta mst;rw[k,show 1+v-1=v by lia,Nat.add_comm]
end
section
open PySem L2
def MLs(a:List Int)(s:Int)(t:Bool->Nat->Nat)(j:Nat)(d:Bool):List (Nat×Nat):=(List.range a.length).map λq=>if a.length-j<=q then mst a s t d q else (0,0)
theorem zp9(a:List Int)(s:Int)(t:Bool->Nat->Nat)(j:Nat)(d:Bool):(MLs a s t j d).length=a.length:=by delta MLs;simp
theorem xb1(a:List Int)(s:Int)(t:Bool->Nat->Nat)(j:Nat)(d:Bool)(q:Nat)(h:q<a.length):(MLs a s t j d).getD q (0,0)=if a.length-j<=q then mst a s t d q else (0,0):=by delta MLs;rw[aE,bn,cw h];rfl
theorem ya0(a:List Int)(s:Int)(t:Bool->Nat->Nat)(j:Nat)(d:Bool)(h:j<a.length):(MLs a s t j d).set (a.length-1-j) (mst a s t d (a.length-1-j))=MLs a s t (j+1) d:=by
 apply db;intro i;delta MLs;rw[dH,bn,bn,aL,length_range];by_cases hi:i<a.length
 .rw[cw hi];by_cases z:a.length-1-j=i
  .rw[aH z,aH aw];show some _=some (if _ then _ else _);rw[aH aw,z]
  .rw[aF z];show some (if _ then _ else _)=some (if _ then _ else _);by_cases w:a.length-j<=i
   .rw[aH w,aH aw]
   .rw[aF w,aF aw]
 .rw[aY (by simp;lia),aF aw];rfl
theorem vk7(T:List (Nat×Nat))(q:Nat)(h:q<T.length):atI (T.map PN) (q:Int)=some (PN (T.getD q (0,0))):=by have:=X1 PN T (q:Int) aw aw (0,0);show this
def envX(a:List Int)(s:Int)(A B:List (Nat×Nat))(o6:Option S):Ro:=[k0a a,k0c s,some (.sh (.lst (((List.range a.length).map (abv a s true)).map L))),some (.sh (.lst (((List.range a.length).map (abv a s false)).map L))),some (.own (A.map PN)),some (.own (B.map PN)),o6,none]
theorem vt0(a:List Int)(s:Int)(d:Bool)(p:Nat)(h:p<a.length):atI (((List.range a.length).map (abv a s d)).map L) (p:Int)=some (L (abv a s d p)):=by have:=at_L ((List.range a.length).map (abv a s d)) p (by simp;omega);rw[this,aE,bn,cw h];rfl
theorem yg7{s:Int}(w:a.length<=300){t:Bool->Nat->Nat}(p:Nat)(k:p<a.length)(d:Bool)(c b:Nat)(x:Ro)(A:List (Nat×Nat))(v:A.length=a.length)(n:∀q,p<q->q<a.length->A.getD q (0,0)=mst a s t (!d) q)(m:bvar c x=some (((List.range a.length).map (abv a s d)).map L))(j:mvar 6 x=some (.int (p:Int)))
  (l:zt8 [none,some b] x=[none,some (.own (A.map PN))]):zz6 [none,some b] (u4 (mix (bvar c) (mvar 6))) (.nm 0) cyes (mix (bvar 1) (mvar 0)) x=some (((abv a s d p).map (mst a s t (!d))).map PN):=by
 have r:=v3;have u:=yw5 a s d p;delta zz6;rw[j3 (w6 m j (vt0 a s d p k)),aI,l];rw[i8 (λg x=>(∀q∈g,p<q/\q<a.length)/\∃o,x=[o,some (.own (A.map PN))]) (by rintro q g x ⟨h,o,rfl⟩;have f:=h q az;show⟨_,rfl,rfl,w6 rfl rfl ?_,λz i=>h z (by simp[i]),_,rfl⟩;rw[vk7 _ q aw,n q f.1 f.2]) (abv a s d p) _ [] ⟨λq e=>⟨(abv_mem.mp e).1,(abv_mem.mp e).2.1⟩,none,rfl⟩ (by simp;lia),cT,bw]
 rfl
theorem xd4(i:Nat)(A:List (Nat×Nat))(p:Nat)(q:Nat×Nat)(x:ME)(d:Ro)(hi:d[i]? =some (some (.own (A.map PN))))(c:mvar 6 d=some (.int (p:Int)))(b:x d=some (PN q))(a:p<A.length):a9 i (mvar 6) x d=some (.nx (d.set i (some (.own ((A.set p q).map PN))))):=by delta a9;rw[b,hi,c];show ((ixN (A.map PN).length (p:Int)).map λj=>Out.nx (d.set i (some (.own ((A.map PN).set j (PN q))))))=_;rw[aL,wp2 _ _ a];show some (Out.nx _)=_;rw[map_set]
theorem ya9{s:Int}(e:c.length<=300){t:Bool->Nat->Nat}(h:TL (xr c) c.length s t)(j:Nat)(i:j<c.length):
  yw1 (envX c s (MLs c s t j true) (MLs c s t j false) (some (.sh (.int ((c.length-1-j:Nat):Int)))))=some (.nx (envX c s (MLs c s t (j+1) true) (MLs c s t (j+1) false) (some (.sh (.int ((c.length-1-j:Nat):Int)))))):=by
 have d:c.length-1-j<c.length:=ax;have g:=xd4 4 (MLs c s t j true) (c.length-1-j) _ _ (envX c s (MLs c s t j true) (MLs c s t j false) (some (.sh (.int ((c.length-1-j:Nat):Int))))) rfl rfl (w9 (z0 (t7 (yg7 e (c.length-1-j) d true 2 5 (envX c s (MLs c s t j true) (MLs c s t j false) (some (.sh (.int ((c.length-1-j:Nat):Int))))) (MLs c s t j false) (zp9 ..) (λq a b=>by rw[xb1 _ _ _ _ _ q b,aH ax];rfl) rfl rfl rfl)) z7) (zh8 e h true (c.length-1-j) d)) (by rw[zp9];show d);rw[ya0 _ _ _ _ _ i]at g;show seqI (g.trans rfl) ?_;have f:=xd4 5 (MLs c s t j false) (c.length-1-j) _ _ (envX c s (MLs c s t (j+1) true) (MLs c s t j false) (some (.sh (.int ((c.length-1-j:Nat):Int))))) rfl rfl (w9 (z0 (t7 (yg7 e (c.length-1-j) d false 3 4 (envX c s (MLs c s t (j+1) true) (MLs c s t j false) (some (.sh (.int ((c.length-1-j:Nat):Int))))) (MLs c s t (j+1) true) (zp9 ..) (λq a b=>by rw[xb1 _ _ _ _ _ q b,aH ax];rfl) rfl rfl rfl)) z7) (zh8 e h false (c.length-1-j) d)) (by rw[zp9];show d);rw[ya0 _ _ _ _ _ i]at f;show f.trans rfl
theorem vm7(a b:Nat):gtI (dN b) (dN a)=some (decide (a<b)):=by show some (decide ((a:Int)<(b:Int)))=_;congr 1;apply dh.mpr;omega
theorem za6:∀(ns:List Nat)(a:Nat),∃v,maxP (ns.map dN) (dN a)=some (dN v)/\(∀y∈a::ns,y<=v)/\v∈a::ns
 |[],a=>⟨a,rfl,by simp,by simp⟩
 |b::ns,a=>by
  rw[br,maxP,vm7];by_cases h:a<b
  .rw[aO h];let⟨v,e,c,f⟩:=za6 ns b;show⟨v,e,λy d=>?_,aX _ f⟩;rcases aT.mp d with z|z
   .have:=c b az;lia
   .exact c y z
  .rw[aP h];let⟨v,e,c,f⟩:=za6 ns a;show⟨v,e,λy d=>?_,?_⟩
   .rcases aT.mp d with z|z
    .exact c y (by simp[z])
    .rcases aT.mp z with z|z
     .have:=c a az;lia
     .exact c y (by simp[z])
   .rcases aT.mp f with z|z
    .simp[z]
    .simp[z]
theorem wr4(ns:List Nat):∃v,maxE (ns.map dN) (.int 0)=some (dN v)/\(∀y∈ns,y<=v)/\(ns=[]/\v=0\/v∈ns):=by
 cases ns with
 |nil=>show⟨0,rfl,by simp,.inl ⟨rfl,rfl⟩⟩
 |cons a ns=>let⟨v,e,c,b⟩:=za6 ns a;show⟨v,e,c,.inr b⟩
theorem ya1(a:List Int)(s:Int)(t:Bool->Nat->Nat)(d:Bool):MLs a s t a.length d=(List.range a.length).map (mst a s t d):=by apply ba;intro q _;rw[aH aw]
theorem yh6(l:List Nat)(f g:Nat->Nat):(l.map λp=>f p+g p).sum=(l.map f).sum+(l.map g).sum:=by
 induction l with
 |nil=>rfl
 |cons a l b=>rw[br,br,br,dv,dv,dv,b];lia
theorem yh3{s:Int}{t:Bool->Nat->Nat}(f:TL (xr a) a.length s t)(v:Nat)(h:2<=v)(e:∀d p,p<a.length->t d p<=v):(((((List.range a.length).map (mst a s t true)++(List.range a.length).map (mst a s t false))).filter λq=>decide (q.1=v)).map (·.2)).sum=(BL a s (v-1)).sum:=by
 have c:∀d,((((List.range a.length).map (mst a s t d)).filter λq=>decide (q.1=v)).map (·.2)).sum=((List.range a.length).map (cnt a s (v-1) d)).sum:=by
  intro d;rw[filter_map,bw];have g:∀q∈(List.range a.length).filter ((λq:Nat×Nat=>decide (q.1=v))∘mst a s t d),((λq:Nat×Nat=>q.2)∘mst a s t d) q=cnt a s (v-1) d q:=by intro q b;have:t d q=v:=of_decide_eq_true (dO.mp b).2;show cnt a s (t d q-1) d q=_;rw[this]
  rw[ba g];show zu0 (List.range a.length) _ (cnt a s (v-1) d) λq b z=>?_;have z:¬ t d q=v:=of_decide_eq_false z;have b:=bq.mp b;have:=e d q b;show yq2 f d q (v-1) b aw
 rw[filter_append,bN,sum_append,c true,c false];obtain⟨k,rfl⟩:∃k,v=k+2:=⟨v-2,aw⟩;rw[show k+2-1=k+1 by lia,<-yh6];congr 1
theorem mmaxE_ev(c:m d=some ds)(b:a d=some d0):zh0 m a d=maxE ds d0:=by delta zh0;rw[c,b];rfl
theorem yj5(n:Nat):(List.replicate n [D.tup [.int 0,.int 0]]).flatten=((List.range n).map λ_=>((0,0):Nat×Nat)).map PN:=by
 induction n with
 |zero=>rfl
 |succ n a=>rw[replicate_succ',flatten_append,a,range_succ,bN,bN];rfl
theorem zp8(a:List Int)(s:Int)(t:Bool->Nat->Nat)(d:Bool):MLs a s t 0 d=(List.range a.length).map λ_=>(0,0):=by apply ba;intro q b;have:=bq.mp b;rw[aF aw]
theorem yw9(a:List Int)(f:a.length<=300)(g:Ro)(c:bvar 0 g=some (a.map .int)):mrep (y8 (z6 (mtup (z6 (mc (.int 0)) (z6 (mc (.int 0)) anil))) anil)) (mlen (bvar 0)) g=some (((List.range a.length).map λ_=>((0,0):Nat×Nat)).map PN):=by
 have e:=v3;have b:F8 1 (a.length:Int)=true:=by delta F8;rw[aO aw,aO aw,aO (by rw[bB];lia)];rfl
 have d:mlen (bvar 0) g=some (.int (a.length:Int)):=by rw[u7 c,aL]
 have rp:=zp6 (x:=y8 (z6 (mtup (z6 (mc (.int 0)) (z6 (mc (.int 0)) anil))) anil)) (x8 (z0 (zz1 (z0 rfl (z0 rfl z7)) (y7 ay)) z7) (y7 ay)) d b;rw[bB,yj5]at rp;show rp
def envZ(a:List Int)(s:Int)(A B:List (Nat×Nat))(o6 o7:Option S):Ro:=[k0a a,k0c s,some (.sh (.lst (((List.range a.length).map (abv a s true)).map L))),some (.sh (.lst (((List.range a.length).map (abv a s false)).map L))),some (.sh (.lst (A.map PN))),some (.sh (.lst (B.map PN))),o6,o7]
theorem wn2(a:List Int)(s:Int)(A B:List (Nat×Nat))(c b:Option S)(f:A.length<=300)(e:B.length<=300):u4 (m2 addD (mvar 4) (mvar 5)) (envZ a s A B c b)=some ((A++B).map PN):=by have d:=v3;show j3 ((y9 rfl rfl).trans ?_);show (if (A.map PN).length+(B.map PN).length<=sizeLine then some (D.lst (A.map PN++B.map PN))else none)=_;rw[aH (by rw[aL,aL];lia),bN]
theorem za0{p:Nat->Prop}:∀(N k:Nat),p k->(∀j,p j->j<=N)->∃m,p m/\∀j,p j->j<=m
 |0,k,a,h=>⟨k,a,λj b=>bD (h j b) (aW _)⟩
 |N+1,k,a,h=>by
  by_cases c:p (N+1)
  .exact⟨_,c,h⟩
  .exact za0 N k a λj b=>by
    have:=h j b;rcases bi N j with g|g
    .exact aV (show p (N+1)by rwa [show N+1=j by lia]) c
    .exact g
theorem vq5(x:Nat->Int)(n:Nat)(s:Int):∃t:Bool->Nat->Nat,TL x n s t:=by
 have h:∀(d:Bool)(p:Nat),∃k,p<n->(∃m,Wd x n s d (p::m)/\(p::m).length=k)/\∀m,Wd x n s d (p::m)->(p::m).length<=k:=λd p=>by
  by_cases b:p<n
  .let⟨k,⟨m,e,c⟩,h3⟩:=za0 (p:=λk=>∃m,Wd x n s d (p::m)/\(p::m).length=k) n 1 ⟨[],b,rfl⟩ λj a=>by let⟨m,e,c⟩:=a;have:=e.len;rw[<-c,bA];lia
   show⟨k,λ_=>⟨⟨m,e,c⟩,λf h=>h3 _ ⟨f,h,rfl⟩⟩⟩
  .exact⟨0,λz=>aV z b⟩
 show⟨λd p=>Classical.choose (h d p),λd p b=>c0 (h d p) b⟩
theorem Q6(a:List Int)(s:Int)(hs:1<=s)(hr:a.length<=300)(hl:Best (Wv (xr a) a.length s) l):
  m_Z0 [.lst (a.map .int),.int s]=some (.sh (dN (if l.length<2 then max 1 a.length else (BL a s (l.length-1)).sum))):=by
 let⟨t,ht⟩:=vq5 (xr a) a.length s;let⟨m1',m2'⟩:=wz9 ht hl;show Y0 ?_;show y6 (ρ':=[k0a a,k0c s,none,none,none,none,none,none]) ?_ ?_
 .delta zo0;rw[w9 (z0 rfl z7) (Y7 s hs)];rfl
 show y6 (ρ':=[k0a a,k0c s,some (.sh (.lst (((List.range a.length).map (abv a s true)).map L))),some (.sh (.lst (((List.range a.length).map (abv a s false)).map L))),none,none,none,none]) ?_ ?_
 .delta masg;rw[w9 (ρ:=[k0a a,k0c s,none,none,none,none,none,none]) (z0 (x:=mvar 0) rfl (z0 (x:=mvar 1) rfl z7)) (R5 a s hr)];rfl
 show y6 (ρ':=[k0a a,k0c s,some (.sh (.lst (((List.range a.length).map (abv a s true)).map L))),some (.sh (.lst (((List.range a.length).map (abv a s false)).map L))),some (.own ((MLs a s t 0 true).map PN)),none,none,none]) ?_ ?_
 .rw[zp8];show(f9 (yw9 a hr _ rfl)).trans rfl
 show y6 (ρ':=envX a s (MLs a s t 0 true) (MLs a s t 0 false) none) ?_ ?_
 .rw[zp8,zp8];show(f9 (yw9 a hr _ rfl)).trans rfl
 have ed:zy9 a.length=(List.range a.length).map λ(j:Nat)=>D.int ((a.length:Int)-1-(j:Int)):=rfl;show m8 (j6 a.length (f:=λ(j:Nat)=>D.int ((a.length:Int)-1-(j:Int))) ?_
  (I:=λj ρ=>∃o6,ρ=envX a s (MLs a s t j true) (MLs a s t j false) o6) _ ⟨_,rfl⟩ ?_ ?_)
 .delta w4;rw[z0 (u7 rfl) z7,aI,aL,wx2 (Y1 aw aw),bB,ed]
 .rintro j ρ hj ⟨o6,rfl⟩;show⟨envX a s (MLs a s t j true) (MLs a s t j false) (some (.sh (.int ((a.length-1-j:Nat):Int)))),?_,?_⟩
  .rw[show (a.length:Int)-1-(j:Int)=((a.length-1-j:Nat):Int)by lia];rfl
  .exact⟨_,ya9 hr ht j hj,_,rfl⟩
 rintro ρ ⟨o6,rfl⟩;rw[ya1,ya1];show X4 rfl (X4 rfl ?_);have lA:∀d,((List.range a.length).map (mst a s t d)).length<=300:=λd=>by simp;lia
 have eb:=λo7=>wn2 a s ((List.range a.length).map (mst a s t true)) ((List.range a.length).map (mst a s t false)) o6 o7 (lA true) (lA false);let⟨v,ev,g1,g2⟩:=wr4 ((((List.range a.length).map (mst a s t true)++(List.range a.length).map (mst a s t false))).map (·.1));have mem:∀d p,p<a.length->t d p∈(((List.range a.length).map (mst a s t true)++(List.range a.length).map (mst a s t false))).map (·.1):=λd p hp=>by
  show bj.mpr ⟨mst a s t d p,?_,rfl⟩;ext d
  .exact bC _ (bj.mpr ⟨p,bq.mpr hp,rfl⟩)
  .exact dw _ (bj.mpr ⟨p,bq.mpr hp,rfl⟩)
 have hv:v=l.length:=by
  have up:v<=l.length:=by
   rcases g2 with⟨_,z⟩|z
   .lia
   .let⟨q,hq,z⟩:=bj.mp z;rcases bz.mp hq with hq|hq
    .let⟨p,hp,rfl⟩:=bj.mp hq;rw[<-z];show m1' true p (bq.mp hp)
    .let⟨p,hp,rfl⟩:=bj.mp hq;rw[<-z];show m1' false p (bq.mp hp)
  have lo:l.length<=v:=by
   rcases m2' with z|⟨d,p,hp,z⟩
   .lia
   .rw[<-z];show g1 _ (mem d p hp)
  lia
 show y6 (ρ':=envZ a s ((List.range a.length).map (mst a s t true)) ((List.range a.length).map (mst a s t false)) o6 (some (.sh (dN v)))) ((v4 ((mmaxE_ev (zg5 _ (eb none) (by simp;lia)) rfl).trans ev)).trans rfl) ?_;have et:y0 (m2 ltD (mvar 7) (mc (.int 2))) (envZ a s ((List.range a.length).map (mst a s t true)) ((List.range a.length).map (mst a s t false)) o6 (some (.sh (dN v))))=some (decide (l.length<2)):=by show u9 ((y9 rfl rfl).trans ?_);have z:decide ((v:Int)<2)=decide (l.length<2):=dh.mpr aw;show some (D.bl (decide ((v:Int)<2)))=_;rw[z]
 by_cases h:l.length<2
 .rw[aH h];show m8 (yu2 (by rw[et,aO h]) ?_);have el:mlen (bvar 0) (envZ a s ((List.range a.length).map (mst a s t true)) ((List.range a.length).map (mst a s t false)) o6 (some (.sh (dN v))))=some (.int (a.length:Int)):=by rw[u7 (rfl),aL]
  have em:w5 K7 (z6 (mc (.int 1)) (z6 (mlen (bvar 0)) anil)) (envZ a s ((List.range a.length).map (mst a s t true)) ((List.range a.length).map (mst a s t false)) o6 (some (.sh (dN v))))=some (dN (max 1 a.length)):=by
   delta w5;rw[z0 rfl (z0 el z7)];have z:(if (a.length:Int)>1 then (a.length:Int)else 1)=((max 1 a.length:Nat):Int):=by split <;> lia
   show some (D.int (if (a.length:Int)>1 then (a.length:Int)else 1))=some (D.int ((max 1 a.length:Nat):Int));rw[z]
  have er:=Z5 em;generalize dN (max 1 a.length)=w at er;show⟨.rt w,er,rfl⟩
 .rw[aF h];show m8 (yu2 (b:=false) (by rw[et,aP h]) (zr8 ?_));have es:=zp4 (yv8 (i:=7) (ρ:=envZ a s ((List.range a.length).map (mst a s t true)) ((List.range a.length).map (mst a s t false)) o6 (some (.sh (dN v)))) _ v (eb _) rfl (by simp;lia));rw[yh3 ht v aw (λd p hp=>by rw[hv];show m1' d p hp)]at es;show⟨_,Z5 es,by rw[hv]⟩
noncomputable abbrev St':=Option (Nat×Option Bool)
def wy(a:List Int)(s:Int)(k:Nat):St'->Nat->Nat
 |none,q=>bgn a s k q
 |some (p,e),q=>(if far s true (xr a p) (xr a q)/\e≠some true then cnt a s k false q else 0)+(if far s false (xr a p) (xr a q)/\e≠some false then cnt a s k true q else 0)
theorem yy1{s:Int}(g:1<=s){a b:Int}{d e:Bool}(f:far s d a b)(c:far s e a b):d=e:=by delta far at f c;ext d <;> ext e <;> simp at* <;> lia
theorem zo6{s:Int}(c:1<=s){a b:Int}{d:Bool}(e:far s d a b):¬ far s (!d) a b:=λh=>by have:=yy1 c e h;ext d <;> ext this
def nxS:St'->Bool->Nat->St'
 |none,_,q=>some (q,none)
 |some _,d,q=>some (q,some d)
def aft:St'->Nat
 |none=>0
 |some (p,_)=>p+1
def sumF(b:List Int)(s:Int)(k:Nat)(st:St')(a:Nat):Nat:=((List.range (b.length-a)).map λj=>wy b s k st (a+j)).sum
theorem S1(b:List Int)(s:Int)(k:Nat)(st:St')(a:Nat)(h:b.length<=a):sumF b s k st a=0:=by delta sumF;rw[show b.length-a=0 by lia];rfl
theorem B7(b:List Int)(s:Int)(k:Nat)(st:St')(a:Nat)(h:a<b.length):sumF b s k st a=wy b s k st a+sumF b s k st (a+1):=by delta sumF;rw[show b.length-a=(b.length-(a+1))+1 by lia,cq,br,dv,bw];congr 2;apply ba;intro j _;congr 1;lia
theorem wy4{b:Type}(l:List b)(p:b->Prop)[DecidablePred p](f:b->Nat):((l.filter λx=>decide (p x)).map f).sum=(l.map λx=>if p x then f x else 0).sum:=by
 induction l with
 |nil=>rfl
 |cons a l c=>
  rw[ey,br,dv];by_cases h:p a
  .rw[aH (aO h),aH h,br,dv,c]
  .rw[aF (by simpa using h),aF h,c,cg]
theorem zn2(a:List Int)(s:Int)(k:Nat)(d:Bool)(q:Nat):cnt a s (k+1) d q=((List.range (a.length-(q+1))).map λj=>if far s d (xr a q) (xr a (q+1+j))then cnt a s k (!d) (q+1+j)else 0).sum:=by rw[cnt];delta abv;rw[wy4,bw];rfl
def zd8(a:List Int)(s:Int):St'->Bool->Nat->Prop
 |none,_,_=>True
 |some (p,e),d,q=>far s d (xr a p) (xr a q)/\e≠some d
theorem zv6{s:Int}(f:1<=s){k:Nat}{p:Nat}{q:Nat}{d:Bool}(h:far s d (xr a p) (xr a q))(c:e≠some d):wy a s k (some (p,e)) q=cnt a s k (!d) q:=by
 have b:=zo6 f h;cases d with
 |true=>rw[wy,aH ⟨h,c⟩,aF (λz=>b z.1),cG];rfl
 |false=>rw[wy,aF (λz=>b z.1),aH ⟨h,c⟩,cg];rfl
theorem xr4{s:Int}{k:Nat}{p:Nat}{q:Nat}(h:wy a s k (some (p,e)) q≠0):∃d,far s d (xr a p) (xr a q)/\e≠some d:=by
 rw[wy]at h;by_cases b:far s true (xr a p) (xr a q)/\e≠some true
 .exact⟨true,b⟩
 .by_cases h2:far s false (xr a p) (xr a q)/\e≠some false
  .exact⟨false,h2⟩
  .rw[aF b,aF h2]at h;show aV rfl h
theorem xe2{s:Int}(b:1<=s)(k:Nat)(st:St')(d:Bool)(q:Nat)(h:zd8 a s st d q):wy a s (k+1) st q=sumF a s k (nxS st d q) (q+1):=by
 cases st with
 |none=>show bgn a s (k+1) q=_;rw[bgn,zn2,zn2,<-yh6];congr 1;apply ba;intro j _;show _=wy a s k (some (q,none)) (q+1+j);rw[wy];simp
 |some c=>rw[zv6 b h.1 h.2,zn2];congr 1;apply ba;intro j _;show _=wy a s k (some (q,some d)) (q+1+j);rw[wy];ext d <;> simp
def Tld(a:List Int)(s:Int)(T:List Nat):St'->Prop
 |none=>T=[]
 |some (p,none)=>T=[p]/\p<a.length
 |some (p,some d)=>∃T1 o,T=T1++[o,p]/\o<p/\p<a.length/\far s d (xr a o) (xr a p)/\∃d0,Wd (xr a) a.length s d0 T
theorem Tld.wv{a:List Int}{s:Int}{T:List Nat}:∀{st:St'},Tld a s T st->Wv (xr a) a.length s T
 |none,h=>.inl h
 |some (p,none),h=>.inr ⟨true,by rw[h.1];show h.2⟩
 |some (p,some d),h=>by let⟨c,o,_,_,_,_,b,w⟩:=h;show .inr ⟨b,w⟩
section
variable {s:Int}
theorem yi4{d:Bool}{t:Nat}(h:Wd x n s d (t::l))(a:l≠[]):∃c r,l=c::r/\t<c/\far s d (x t) (x c)/\Wd x n s (!d) (c::r):=by
 cases l with
 |nil=>show aV rfl a
 |cons c r=>show⟨c,r,rfl,h⟩
theorem zd7(f:1<=s){o p q:Nat}{d:Bool}(j:far s d (x o) (x p))(b:p<q)(g:q<n)(i:far s (!d) (x p) (x q)):∀(T:List Nat)(a:Bool),Wd x n s a (T++[o,p])->Wd x n s a (T++[o,p]++[q])
 |[],a,h=>by have e:=yy1 f h.2.1 j;subst e;show⟨h.1,h.2.1,b,i,g⟩
 |t::T,a,h=>by let⟨c,r,e,u,m,k⟩:=yi4 (l:=T++[o,p]) h az;rw[<-e]at k;have:=zd7 f j b g i T (!a) k;show Wd x n s a (t::(T++[o,p]++[q]));rw[e]at this ⊢;show⟨u,m,this⟩
theorem O0{p:Nat}{l:List Nat}:∀(T:List Nat)(a:Bool),Wd x n s a (T++p::l)->∃d,Wd x n s d (p::l)
 |[],a,h=>⟨a,h⟩
 |t::T,a,h=>by let⟨c,r,e,_,_,b⟩:=yi4 (l:=T++p::l) h az;rw[<-e]at b;show O0 T _ b
end
theorem S0{c:List Int}{s:Int}(j:1<=s){T:List Nat}{q:Nat}(a:q<c.length){d:Bool}:∀{st:St'},Tld c s T st->aft st<=q->zd8 c s st d q->Tld c s (T++[q]) (nxS st d q)
 |none,h,_,_=>by subst h;show⟨rfl,a⟩
 |some (p,none),h,b,hw=>by let⟨rfl,k⟩:=h;have b:p+1<=q:=b;show⟨[],p,rfl,aw,a,hw.1,d,aw,hw.1,a⟩
 |some (p,some e),h,b,hw=>by
  let⟨i,o,rfl,m,k,l,g,w⟩:=h;have b:p+1<=q:=b;have f:d= !e:=by have:=hw.2;ext d <;> ext e <;> simp at*
  show⟨i++[o],p,by simp,aw,a,hw.1,g,?_⟩;show zd7 j l aw a (by rw[<-f];show hw.1) i g w
theorem yv0{a:List Int}{s:Int}(b:1<=s){T:List Nat}{q:Nat}{r:List Nat}{k:Nat}(c:r.length=k)(hw:Wv (xr a) a.length s (T++q::r)):∀{st:St'},Tld a s T st->wy a s k st q≠0/\aft st<=q/\q<a.length
 |none,h=>by
  subst h;rcases hw with z|⟨d,z⟩
  .cases z
  .exact⟨(yx8 a s k q z.lt).mpr ⟨d,r,z,c⟩,aW _,z.lt⟩
 |some (p,none),h=>by
  let⟨rfl,f⟩:=h;rcases hw with z|⟨d,z⟩
  .cases z
  .have z:=z;show⟨?_,z.1,z.2.2.lt⟩;rw[zv6 b z.2.1 az];show(U9 a s k (!d) q z.2.2.lt).mpr ⟨r,z.2.2,c⟩
 |some (p,some e),h=>by
  let⟨j,o,rfl,l,f,g,_⟩:=h;rcases hw with z|⟨i,z⟩
  .simp at z
  .rw[dq]at z;let⟨d,z⟩:=O0 j i z;have hd:=yy1 b z.2.1 g;subst hd;show⟨?_,z.2.2.1,z.2.2.2.2.lt⟩;rw[zv6 b z.2.2.2.1 (by ext d <;> simp)];show(U9 a s k _ q z.2.2.2.2.lt).mpr ⟨r,z.2.2.2.2,c⟩
end
section
open PySem L2
theorem zd3{s:Int}{p q:Nat}(b:p<q)(c:q<a.length):S8 a s (p:Int) w ((q:Int)::ps)=if ((xr a q-xr a p).natAbs:Int)<s\/w=some (decide (0<xr a q-xr a p))then false else S8 a s (q:Int) (some (decide (0<xr a q-xr a p))) ps:=by rw[S8,aF aw,aH (show (-1:Int)<(p:Int)by lia),yb3,yb3]
theorem yv1{s:Int}{p:Nat}(b:p<a.length):S8 a s (-1) none ((p:Int)::ps)=S8 a s (p:Int) none ps:=by rw[S8,aF aw,aF (show ¬ (-1:Int) < -1 by lia)]
theorem Q7{s:Int}(c:1<=s){a b:Int}{d:Bool}(h:far s d a b):¬ ((b-a).natAbs:Int)<s/\decide (0<b-a)=d:=wo0 c h
theorem xf2{s:Int}(c:1<=s){p q:Nat}(f:p<a.length)(b:p<q)(e:q<a.length):areW a s (NI [p,q])=true↔∃d,far s d (xr a p) (xr a q)/\(none:Option Bool)≠some d:=by
 rw[xt1 _ _ _ c];show S8 a s (-1) none [(p:Int),(q:Int)]=true↔_;rw[yv1 f,zd3 b e];constructor
 .intro h;by_cases z:((xr a q-xr a p).natAbs:Int)<s
  .rw[aH (.inl z)]at h;ext h
  .exact⟨_,zt3 z,by simp⟩
 .rintro⟨d,h,_⟩;rw[aF]
  .rfl
  .rintro(z|z)
   .exact(Q7 c h).1 z
   .cases z
theorem yj2{s:Int}(b:1<=s){o p q:Nat}{e:Bool}(i:o<p)(g:p<a.length)(j:far s e (xr a o) (xr a p))(c:p<q)(f:q<a.length):areW a s (NI [o,p,q])=true↔∃d,far s d (xr a p) (xr a q)/\some e≠some d:=by
 rw[xt1 _ _ _ b];show S8 a s (-1) none [(o:Int),(p:Int),(q:Int)]=true↔_;let⟨n,m⟩:=Q7 b j;rw[yv1 aw,zd3 i g,aF (by rintro(z|z);show n z;ext z),m,zd3 c f];constructor
 .intro h;by_cases z:((xr a q-xr a p).natAbs:Int)<s\/some e=some (decide (0<xr a q-xr a p))
  .rw[aH z]at h;ext h
  .exact⟨_,zt3 (λy=>z (.inl y)),λy=>z (.inr y)⟩
 .rintro⟨d,h,hne⟩;let⟨l,k⟩:=Q7 b h;rw[aF]
  .rfl
  .rintro(z|z)
   .exact l z
   .rw[k]at z;show hne z
theorem wo6{c:Type}(T:List c)(a b:c):cutI (T++[a,b]) (some (-2)) none=[a,b]:=by
 delta cutI;have e:HT.sIx (T++[a,b]).length 0 (some (-2))=T.length:=by show (if (-2:Int)<0 then ((-2:Int)+((T++[a,b]).length:Int)).toNat else min (-2:Int).toNat (T++[a,b]).length)=_;simp;lia
 rw[e,HT.sIx_none,drop_left,bV];simp
theorem xj8{s:Int}(g:1<=s){T:List Nat}{p:Nat}(h:Tld a s T (some (p,e))){q:Nat}(b:p<q)(i:q<a.length):
  ∃T0 f,T=T0++[p]/\cutI T (some (-2)) none=f/\f.length<=2/\(areW a s (NI (f++[q]))=true↔∃d,far s d (xr a p) (xr a q)/\e≠some d):=by
 cases e with
 |none=>let⟨rfl,c⟩:=h;show⟨[],[p],rfl,rfl,by simp,xf2 g c b i⟩
 |some e=>let⟨j,o,rfl,k,c,l,_⟩:=h;show⟨j++[o],[o,p],by simp,wo6 j o p,by simp,yj2 g k c l b i⟩
theorem wr1{lo hi:MO}(d:m e=some (a.map dN))(c:lo e=some l)(b:hi e=some h):mcut m lo hi e=some ((cutI a l h).map dN):=by delta mcut;rw[d,aI,c,aI,b,aI,V2]
theorem vk6(a:List Int)(s:Int)(k q:Nat)(h:q<a.length):(BL a s k).getD q 0=bgn a s k q:=by delta BL;rw[aE,bn,cw h];rfl
theorem vu3(a:List Int)(s:Int)(k:Nat):(BL a s k).length=a.length:=by delta BL;simp
abbrev envV(a:List Int)(s:Int)(k:Nat)(T:List Nat)(q:Nat):Ro:=[k0a a,k0c s,some (.sh (lay a s k)),some (.sh (L T)),some (.sh (dN q)),some (.sh (.lst ((BL a s k).map dN))),some (.sh (.lst ((CL a s k true).map dN))),some (.sh (.lst ((CL a s k false).map dN)))]
theorem m6{b:Bool}(h:c ρ=some b):mif c x y ρ=(if b then x else y) ρ:=by delta mif;rw[h];ext b <;> rfl
theorem wz5(a:List Int)(s:Int)(g:1<=s)(y:a.length<=300)(k:Nat)(T:List Nat)(st:St')(n:Tld a s T st)(q:Nat)(m:aft st<=q)(b:q<a.length):xz0 [.lst (a.map .int),.int s,lay a s k,L T,dN q]=some (.sh (dN (wy a s k st q))):=by
 have v:=v3;show e9 ?_;show seqI rfl ?_;cases st with
 |none=>subst n;show seqR ((m6 rfl).trans ?_);show Z5 (w6 rfl rfl ?_);rw[E4 _ q (by rw[vu3];show b),vk6 a s k q b];rfl
 |some r=>
  let⟨p,e⟩:=r;have m:p+1<=q:=m;let⟨T0,f,o,t,w,c⟩:=xj8 g n aw b;have u:cnot (mtru (mvar 3)) (envV a s k T q)=some false:=by subst o;show ((truD (L (T0++[p]))).map _)=_;delta L;ext T0 <;> rfl
  show seqI ((m6 u).trans rfl) ?_;have j:mcut (bvar 3) (k9 (m1 negD (mc (.int 2)))) W6 (envV a s k T q)=some (f.map dN):=by rw[<-t];show wr1 rfl rfl rfl
  have l:mlst (mcat (mcut (bvar 3) (k9 (m1 negD (mc (.int 2)))) W6) (y8 (z6 (mvar 4) anil))) (envV a s k T q)=some (.lst ((NI (f++[q])).map .int)):=by show(t7 (c7 j (x8 (z0 rfl z7) (y7 az)) (by simp;lia))).trans ?_;delta NI;rw[<-dns,bN];rfl
  have h:cnot (mtru (u0 xz2 (z6 (mvar 0) (z6 (mvar 1) (z6 (mlst (mcat (mcut (bvar 3) (k9 (m1 negD (mc (.int 2)))) W6) (y8 (z6 (mvar 4) anil)))) anil))))) (envV a s k T q)=some (!(areW a s (NI (f++[q])))):=by delta cnot;rw[Y8 (w9 (z0 (x:=mvar 0) rfl (z0 (x:=mvar 1) rfl (z0 l z7))) (yw3 a (NI (f++[q])) s g (by delta NI;simp;lia)))];rfl
  by_cases hw:areW a s (NI (f++[q]))=true
  .let⟨d,hf,hne⟩:=c.mp hw;rw[hw]at h;show seqI ((m6 h).trans rfl) ?_;rw[zv6 g hf hne];have lst:mix (bvar 3) (m1 negD (mc (.int 1))) (envV a s k T q)=some (dN p):=by subst o;show w6 rfl rfl (atI_last dN T0 p)
   have i:y0 (m2 gtD (mix (bvar 0) (mvar 4)) (mix (bvar 0) (mix (bvar 3) (m1 negD (mc (.int 1)))))) (envV a s k T q)=some d:=by show u9 ((y9 (w6 rfl rfl (L4 a q b)) (w6 rfl lst (L4 a p aw))).trans ?_);show some (D.bl (decide (xr a p<xr a q)))=_;congr 2;rw[<-((Q7 g hf).2)];apply dh.mpr;lia
   show Z5 ?_;delta mite;rw[i];cases d with
   |true=>show w6 rfl rfl ?_;rw[E4 _ q (by rw[xv0];show b),wn0 a s k false q b];rfl
   |false=>show w6 rfl rfl ?_;rw[E4 _ q (by rw[xv0];show b),wn0 a s k true q b];rfl
  .have hz:wy a s k (some (p,e)) q=0:=Classical.byContradiction λz=>hw (c.mpr (xr4 z));rw[Bool.not_eq_true]at hw;rw[hw]at h;rw[hz];show seqR ((m6 h).trans rfl)
def envQ(b:List Int)(s:Int)(Ls:List D)(N:Nat)(T:List Nat)(a:Nat)(o6 o7:Option S):Ro:=[k0a b,k0c s,some (.sh (.lst Ls)),some (.sh (dN N)),some (.own (T.map dN)),some (.sh (dN a)),o6,o7]
theorem ya6{i:Nat}(h:c[i]? =some (some (.own ds)))(b:m (c.set i (some (.sh (.lst ds))))=some d)(a:noL d=true):za5 i m c=some d:=by delta za5;rw[h];simp only;rw[b];simp only[a,if_true]
section
variable (b:List Int)(s:Int)(d:1<=s)(f:b.length<=300)(c:List D)(k:Nat)(T:List Nat)(st:St')(g:Tld b s T st)
include d f g
theorem xt0(N a:Nat)(e:Option S)(i:aft st<=a)(h:a<b.length):mset 7 (za5 4 (u0 xz0 (z6 (mvar 0) (z6 (mvar 1) (z6 (mvar 6) (z6 (mvar 4) (z6 (mvar 5) anil))))))) (envQ b s c N T a (some (.sh (lay b s k))) e)=some (.nx (envQ b s c N T a (some (.sh (lay b s k))) (some (.sh (dN (wy b s k st a)))))):=by show(v4 (ya6 rfl (w9 (z0 rfl (z0 rfl (z0 rfl (z0 rfl (z0 rfl z7))))) (wz5 b s d f k T st g a i h)) rfl)).trans rfl
theorem ye8(N a:Nat)(i:aft st<=a)(h:a+1<b.length)(j:wy b s k st a<N):C0 (envQ b s c N T a (some (.sh (lay b s k))) (some (.sh (dN (wy b s k st a)))))=some (.nx (envQ b s c (N-wy b s k st a) T (a+1) (some (.sh (lay b s k))) (some (.sh (dN (wy b s k st (a+1))))))):=by
 show seqI (ρ':=envQ b s c (N-wy b s k st a) T a (some (.sh (lay b s k))) (some (.sh (dN (wy b s k st a))))) ?_ ?_
 .have e:dN (N-wy b s k st a)= .int ((N:Int)-(wy b s k st a:Int)):=by delta dN;congr 1;lia
  delta xj1 envQ;rw[e];rfl
 show seqI (ρ':=envQ b s c (N-wy b s k st a) T (a+1) (some (.sh (lay b s k))) (some (.sh (dN (wy b s k st a))))) ?_ ?_
 .have e:dN (a+1)= .int ((a:Int)+1):=rfl;delta maug envQ;rw[e];rfl
 show xt0 b s d f c k T st g _ (a+1) _ aw h
end
theorem zt9(st:St')(d:Bool)(q:Nat):aft (nxS st d q)=q+1:=by ext st <;> rfl
theorem yi5{s:Int}{k:Nat}{st:St'}{q:Nat}(h:wy a s k st q≠0):∃d,zd8 a s st d q:=by
 cases st with
 |none=>show⟨true,True.intro⟩
 |some b=>let⟨p,e⟩:=b;show xr4 h
theorem zr1(a:List Int)(s:Int)(k:Nat):sumF a s k none 0=(BL a s k).sum:=by delta sumF BL;congr 1;apply ba;intro p _;show bgn a s k (0+p)=_;rw[cg]
theorem wp8{n a:Nat}(h:n<=300):n+1<=a+1000:=aw
theorem xy6{J j k:Nat}(a:J-1-j=k)(h:j+1<J):J-1-(j+1)=k-1/\k-1+1=k:=aw
theorem yo9{n:Nat}{l:List D}(h:l.length<=n)(a:n<=300):l.length<sizeLine:=by have:=v3;lia
def tot(a:List Int)(s:Int)(J:Nat):Nat:=if J=0 then 1 else (BL a s (J-1)).sum
end
section
open PySem L2
def stN(a:List Int)(s:Int):St'->Nat->Option St'
 |none,q=>some (some (q,none))
 |some (p,e),q=>if far s true (xr a p) (xr a q)/\e≠some true then some (some (q,some true))else if far s false (xr a p) (xr a q)/\e≠some false then some (some (q,some false))else none
def cts(b:List Int)(s:Int):Nat->St'->Nat->Qe
 |0,st,a=>(List.range' a (b.length-a)).flatMap λq=>if (stN b s st q).isSome then [[q]]else []
 |k+1,st,a=>(List.range' a (b.length-a)).flatMap λq=>match stN b s st q with |none=>[]|some st'=>(cts b s k st' (q+1)).map (q::·)
def blk(a:List Int)(s:Int):Nat->St'->Nat->Qe
 |0,st,q=>if (stN a s st q).isSome then [[q]]else []
 |k+1,st,q=>match stN a s st q with |none=>[]|some st'=>(cts a s k st' (q+1)).map (q::·)
theorem zo9(b:List Int)(s:Int)(k:Nat)(st:St')(a:Nat):cts b s k st a=(List.range' a (b.length-a)).flatMap (blk b s k st):=by
 cases k with
 |zero=>rfl
 |succ k=>rfl
theorem V3(b:List Int)(s:Int)(k:Nat)(st:St')(a:Nat)(h:a<b.length):cts b s k st a=blk b s k st a++cts b s k st (a+1):=by rw[zo9,zo9,K1 a b.length h,flatMap_cons]
theorem zx1(b:List Int)(s:Int)(k:Nat)(st:St')(a:Nat)(h:b.length<=a):cts b s k st a=[]:=by rw[zo9,show b.length-a=0 by omega];rfl
theorem zr2{s:Int}(c:1<=s){st:St'}{d:Bool}{q:Nat}(h:zd8 a s st d q):stN a s st q=some (nxS st d q):=by
 cases st with
 |none=>rfl
 |some b=>
  let⟨p,e⟩:=b;cases d with
  |true=>rw[stN,aH (show far s true (xr a p) (xr a q)/\e≠some true from h)];rfl
  |false=>rw[stN,aF (λz=>(zo6 c h.1) z.1),aH (show far s false (xr a p) (xr a q)/\e≠some false from h)];rfl
theorem O2{s:Int}{st a:St'}{q:Nat}(h:stN b s st q=some a):∃d,zd8 b s st d q/\a=nxS st d q:=by
 cases st with
 |none=>ext h;show⟨true,True.intro,rfl⟩
 |some c=>
  rw[stN]at h;split at h
  .rename_i z;ext h;show⟨true,z,rfl⟩
  .split at h
   .rename_i z;ext h;show⟨false,z,rfl⟩
   .cases h
theorem zr3{s:Int}{k:Nat}{st:St'}{q:Nat}(h:stN a s st q=none):wy a s k st q=0:=by
 cases st with
 |none=>ext h
 |some b=>
  rw[stN]at h;split at h
  .cases h
  .rename_i z;split at h
   .cases h
   .rename_i z2;rw[wy,aF z,aF z2]
theorem wz0{s:Int}(c:1<=s){st:St'}{q:Nat}{d:Bool}(h:zd8 a s st d q):wy a s 0 st q=1:=by
 cases st with
 |none=>rfl
 |some b=>let⟨p,e⟩:=b;rw[zv6 c h.1 h.2];rfl
theorem J0(b:List Int)(s:Int)(l:1<=s):∀(k:Nat),(∀st q,(blk b s k st q).length=wy b s k st q)/\∀(n:Nat) st a,b.length-a=n->(cts b s k st a).length=sumF b s k st a:=by
 intro k;induction k with
 |zero=>
  have c:∀st q,(blk b s 0 st q).length=wy b s 0 st q:=λst q=>by
   cases h:stN b s st q with
   |none=>rw[zr3 h];rw[blk,h];rfl
   |some f=>let⟨d,j,_⟩:=O2 h;rw[wz0 l j];rw[blk,h];rfl
  show⟨c,λn=>?_⟩;induction n with
  |zero=>intro st a h;rw[zx1 _ _ _ _ _ ax,S1 _ _ _ _ _ ax];rfl
  |succ n i=>intro st a h;rw[V3 _ _ _ _ _ ax,B7 _ _ _ _ _ ax,bV,c,i st (a+1) ax]
 |succ k g=>
  have c:∀st q,(blk b s (k+1) st q).length=wy b s (k+1) st q:=λst q=>by
   cases h:stN b s st q with
   |none=>rw[zr3 h];rw[blk,h];rfl
   |some f=>let⟨d,j,e⟩:=O2 h;rw[xe2 l k st d q j];rw[blk,h];simp;rw[g.2 _ _ _ rfl,e]
  show⟨c,λn=>?_⟩;induction n with
  |zero=>intro st a h;rw[zx1 _ _ _ _ _ ax,S1 _ _ _ _ _ ax];rfl
  |succ n i=>intro st a h;rw[V3 _ _ _ _ _ ax,B7 _ _ _ _ _ ax,bV,c,i st (a+1) ax]
theorem zo8(b:List Int)(s:Int)(k:Nat)(st:St')(a:Nat)(m:List Nat):m∈cts b s k st a↔∃q,a<=q/\q<b.length/\m∈blk b s k st q:=by
 rw[zo9,mem_flatMap];constructor
 .rintro⟨q,hq,h⟩;rw[mem_range'_1]at hq;show⟨q,hq.1,ax,h⟩
 .rintro⟨q,h1,h2,h⟩;show⟨q,by rw[mem_range'_1];omega,h⟩
theorem xw6(f:List Int)(s:Int)(i:1<=s):∀(k:Nat)(st:St')(T:List Nat)(m:List Nat),Tld f s T st->(m∈cts f s k st (aft st)↔m.length=k+1/\Wv (xr f) f.length s (T++m))
 |0,st,T,m,t=>by
  rw[zo8];constructor
  .rintro⟨q,g,j,h⟩;rw[blk]at h;rcases e:stN f s st q,h with l;have h:m∈[[q]]:=h;rw[aZ.mp h];let⟨d,p,_⟩:=O2 e;show⟨rfl,(S0 i j t g p).wv⟩
  .rintro⟨g,j⟩
   match m,g with
   |[q],_=>
    let⟨a,b,c⟩:=yv0 i (T:=T) (q:=q) (r:=[]) (k:=0) rfl j t;show⟨q,b,c,?_⟩;rw[blk];cases e:stN f s st q with
    |none=>show aV (zr3 e) a
    |some l=>show aZ.mpr rfl
 |k+1,st,T,m,t=>by
  rw[zo8];constructor
  .rintro⟨q,g,j,h⟩;rw[blk]at h;rcases e:stN f s st q,h with l;let⟨o,u,rfl⟩:=bj.mp (show m∈(cts f s k l (q+1)).map (q::·)from h);let⟨d,p,rfl⟩:=O2 e;have n:=S0 i j t g p;rw[<-zt9 st d q]at u;let⟨x,w⟩:=(xw6 f s i k _ _ o n).mp u;rw[dq]at w;show⟨by rw[bA,x],w⟩
  .rintro⟨g,j⟩
   match m,g with
   |q::o,g=>
    have v:o.length=k+1:=by simpa using g
    let⟨a,b,c⟩:=yv0 i (T:=T) (q:=q) (r:=o) (k:=k+1) v j t;show⟨q,b,c,?_⟩;let⟨d,p⟩:=yi5 a;have e:=zr2 i p;rw[blk,e];have n:=S0 i c t b p;show bj.mpr ⟨o,?_,rfl⟩;rw[<-zt9 st d q];show(xw6 f s i k _ _ o n).mpr ⟨v,by rw[dq];show j⟩
theorem J6(q:Nat)(a b:List Nat):lx (q::a) (q::b)=lx a b:=by rw[lx];simp
theorem S4{p q:Nat}(h:p<q)(a b:List Nat):lx (p::a) (q::b)=true:=by rw[lx];simp[h]
theorem M7(a:List Int)(s:Int)(k:Nat)(st:St')(q:Nat)(m:List Nat)(h:m∈blk a s k st q):∃r,m=q::r:=by
 cases k with
 |zero=>
  rw[blk]at h;split at h
  .exact⟨[],aZ.mp h⟩
  .cases h
 |succ k=>
  rw[blk]at h;split at h
  .cases h
  .let⟨m',_,e⟩:=bj.mp h;show⟨m',e.symm⟩
theorem vv9(d:List Int)(s:Int):∀(k:Nat),(∀st q,(blk d s k st q).Pairwise (λa b=>lx a b=true))/\∀(n:Nat) st a,d.length-a=n->(cts d s k st a).Pairwise (λa b=>lx a b=true):=by
 intro k;have l:(∀st q,(blk d s k st q).Pairwise (λa b=>lx a b=true))->∀(n:Nat) st a,d.length-a=n->(cts d s k st a).Pairwise (λa b=>lx a b=true):=λc n=>by
  induction n with
  |zero=>intro st a h;rw[zx1 _ _ _ _ _ ax];show .nil
  |succ n f=>intro st a h;rw[V3 _ _ _ _ _ ax,pairwise_append];show⟨c st a,f st (a+1) ax,λx i y g=>?_⟩;let⟨r,rfl⟩:=M7 _ _ _ _ _ _ i;let⟨q,o,_,j⟩:=(zo8 _ _ _ _ _ _).mp g;let⟨m,rfl⟩:=M7 _ _ _ _ _ _ j;show S4 ax _ _
 induction k with
 |zero=>
  have c:∀st q,(blk d s 0 st q).Pairwise (λa b=>lx a b=true):=λst q=>by
   rw[blk];split
   .exact dn _ _
   .exact .nil
  show⟨c,l c⟩
 |succ k e=>
  have c:∀st q,(blk d s (k+1) st q).Pairwise (λa b=>lx a b=true):=λst q=>by
   rw[blk];split
   .exact .nil
   .rw[pairwise_map];show((e (λc n=>by
   induction n with
   |zero=>intro st a h;rw[zx1 _ _ _ _ _ ax];show .nil
   |succ n f=>intro st a h;rw[V3 _ _ _ _ _ ax,pairwise_append];show⟨c st a,f st (a+1) ax,λx i y g=>?_⟩;let⟨r,rfl⟩:=M7 _ _ _ _ _ _ i;let⟨q,o,_,j⟩:=(zo8 _ _ _ _ _ _).mp g;let⟨m,rfl⟩:=M7 _ _ _ _ _ _ j;show S4 ax _ _)).2 _ _ _ rfl).imp λh=>by rw[J6];show h
  show⟨c,l c⟩
theorem yi9:∀{a b:Qe},a.Pairwise (λx y=>lx x y=true)->b.Pairwise (λx y=>lx x y=true)->(∀m,m∈a↔m∈b)->a=b
 |[],[],_,_,_=>rfl
 |[],y::b,_,_,h=>aV ((h y).mpr az) az
 |x::a,[],_,_,h=>aV ((h x).mp az) az
 |x::a,y::b,f,d,h=>by
  rw[pairwise_cons]at f d;have e:x=y:=by
   rcases aT.mp ((h x).mp az)with z|z
   .exact z
   .rcases aT.mp ((h y).mpr az)with w|w
    .exact w.symm
    .have:=D3 (d.1 x z) (f.1 y w);rw[zu7]at this;ext this
  subst e;have g:∀{c:Qe},(∀m∈c,lx x m=true)->x∉c:=λi z=>by have:=i x z;rw[zu7]at this;ext this
  rw[yi9 f.2 d.2 λm=>?_];constructor
  .intro z;rcases aT.mp ((h m).mp (aX _ z))with w|w
   .rw[w]at z;show aV z (g f.1)
   .exact w
  .intro z;rcases aT.mp ((h m).mpr (aX _ z))with w|w
   .rw[w]at z;show aV z (g d.1)
   .exact w
def ctsJ(a:List Int)(s:Int):Nat->Qe
 |0=>[[]]
 |J+1=>cts a s J none 0
theorem Y4(a:List Int)(s:Int)(b:1<=s)(J:Nat)(m:List Nat):m∈ctsJ a s J↔Wv (xr a) a.length s m/\m.length=J:=by
 cases J with
 |zero=>show m∈[[]]↔_;rw[dy];show⟨λh=>by rw[h];show⟨.inl rfl,rfl⟩,λh=>cS.mp h.2⟩
 |succ J=>have:=xw6 a s b J none [] m rfl;show this.trans And.comm
theorem yy9(c:List Int)(s:Int)(J:Nat):(ctsJ c s J).Pairwise (λa b=>lx a b=true):=by
 cases J with
 |zero=>show dn _ _
 |succ J=>show(vv9 c s J).2 _ none 0 rfl
theorem zn0(a:List Int)(s:Int)(b:1<=s)(J:Nat):(ctsJ a s J).length=tot a s J:=by
 cases J with
 |zero=>rfl
 |succ J=>show (cts a s J none 0).length=_;rw[(J0 a s b J).2 _ none 0 rfl,zr1];rfl
section
variable (b:List Int)(s:Int)(d:1<=s)(g:b.length<=300)(e:List D)(k:Nat)(T:List Nat)(st:St')(h:Tld b s T st)
include d g h
theorem zj5:∀(f N a:Nat),1<=N->N<=sumF b s k st a->b.length+1<=a+f->aft st<=a->∃l n,a<=l/\l<b.length/\1<=n/\n<=wy b s k st l/\(cts b s k st a).drop (N-1)=(cts b s k st l).drop (n-1)/\
  V4 (y0 (m2 ltD (mvar 7) (mvar 3))) C0 f (envQ b s e N T a (some (.sh (lay b s k))) (some (.sh (dN (wy b s k st a)))))=some (.nx (envQ b s e n T l (some (.sh (lay b s k))) (some (.sh (dN (wy b s k st l))))))
 |0,N,a,q,p,t,_=>by rw[S1 b s k st a aw]at p;lia
 |f+1,N,a,q,p,t,r=>by
  have m:a<b.length:=by
   rcases bi a b.length with w|w
   .exact w
   .rw[S1 b s k st a w]at p;lia
  have nx:=B7 b s k st a m;have c:y0 (m2 ltD (mvar 7) (mvar 3)) (envQ b s e N T a (some (.sh (lay b s k))) (some (.sh (dN (wy b s k st a)))))=some (decide (wy b s k st a<N)):=by show(yv7 (i:=(wy b s k st a:Int)) (j:=(N:Int)) rfl rfl).trans ?_;congr 1;apply dh.mpr;omega
  unfold V4;rw[c];by_cases o:wy b s k st a<N
  .have hlt2:a+1<b.length:=by
    rcases bi (a+1) b.length with w|w
    .exact w
    .rw[S1 b s k st (a+1) w]at nx;lia
   rw[aO o];simp only[ye8 b s d g e k T st h N a r hlt2 o];let⟨l,n,A,z,y,x,v,u⟩:=zj5 f (N-wy b s k st a) (a+1) aw aw aw aw;show⟨l,n,aw,z,y,x,?_,u⟩;rw[<-v,V3 b s k st a m,drop_append,cQ (by rw[(J0 b s d k).1];lia),cT,(J0 b s d k).1];congr 1;lia
  .rw[aP o];show⟨a,N,aK _,m,q,aw,rfl,rfl⟩
end
abbrev Pk(a:List Int)(s:Int)(J N:Nat)(T:List Nat):Prop:=T=(ctsJ a s J).getD (N-1) []
def InvP(a:List Int)(s:Int)(Ls:List D)(J:Nat)(G:List Nat)(j:Nat)(b:Ro):Prop:=∃T st M o6 o7,b=envQ a s Ls M T (aft st) o6 o7/\T.length=j/\Tld a s T st/\(j<J->1<=M/\M<=sumF a s (J-1-j) st (aft st)/\∃X,(cts a s (J-1-j) st (aft st))[M-1]? =some X/\G=T++X)/\(j=J->G=T)
theorem G3{a:Type}(l:List a)(n:Nat):l[n]? =(l.drop n)[0]?:=by rw[getElem?_drop,cG]
theorem ye5{s:Int}(g:1<=s)(n:c.length<=300){J:Nat}(H:J<=300){j:Nat}(y:j<J)(I:InvP c s i J G j Q):∃ρ1,tgD (.nm 6) (lay c s (J-1-j)) Q=some ρ1/\∃ρ2,D9 ρ1=some (.nx ρ2)/\InvP c s i J G (j+1) ρ2:=by
 let⟨T,st,M,P,E,rfl,x,r,F,_⟩:=I;let⟨v,l,X,q,A⟩:=F y;generalize p:J-1-j=k at l q;show⟨envQ c s i M T (aft st) (some (.sh (lay c s k))) E,rfl,?_⟩;have o:aft st<c.length:=by
  rcases bi (aft st) c.length with w|w
  .exact w
  .rw[S1 c s k st _ w]at l;show aV (bD v l) ay
 let⟨a,h,N,C,B,u,L,K⟩:=zj5 c s g n i k T st r 1000 M (aft st) v l (wp8 n) (aK _);let⟨d,m⟩:=yi5 (λz=>by rw[z]at u;show aV (bD B u) ay);have b:(blk c s k st a)[h-1]? =some X:=by rw[G3,L,<-G3,V3 c s k st a C,bW (by rw[(J0 c s g k).1];omega)]at q;show q
 show⟨envQ c s i h (T++[a]) (a+1) (some (.sh (lay c s k))) (some (.sh (dN (wy c s k st a)))),?_,T++[a],nxS st d a,h,_,_,by rw[zt9],by rw[bV,x];rfl,(S0 g C r N m),λf=>⟨B,?_,?_⟩,λf=>?_⟩
 .delta D9;show seqI (xt0 c s g n i k T st r M (aft st) _ (aK _) o) (seqI K ?_);show seqI (ρ':=envQ c s i h (T++[a]) a (some (.sh (lay c s k))) (some (.sh (dN (wy c s k st a))))) ?_ ?_
  .delta mapp;show (if (T.map dN).length<sizeLine then _ else none)=_;rw[aH (yo9 (by rw[aL,x];show dt y) H)];delta envQ;rw[bN];rfl
  .have e:dN (a+1)= .int ((a:Int)+1):=rfl;delta maug envQ;rw[e];rfl
 .rw[zt9,(xy6 p f).1,<-xe2 g (k-1) st d a m,(xy6 p f).2];show u
 .let⟨e1,e2⟩:=xy6 p f;rw[<-e2,blk,zr2 g m]at b;simp only[getElem?_map]at b;rcases hc:(cts c s (k-1) (nxS st d a) (a+1))[h-1]?,b with O;have b:=bm b;show⟨O,by rw[e1,zt9];show hc,?_⟩;rw[A,<-b,dq];rfl
 .have hk0:k=0:=aw;rw[hk0,blk,zr2 g m]at b;have t:h-1=0:=by
   rcases Nat.eq_zero_or_pos (h-1)with z|z
   .exact z
   .rw[aY (z)]at b;ext b
  rw[t]at b;rw[A,<-(bm b)]
theorem ye4(d:List Int)(s:Int)(p:1<=s)(t:d.length<=300)(J N:Nat)(v:J<=300)(u:J=0\/(1<=N/\N<=(BL d s (J-1)).sum)):
  ∃T,Pk d s J N T/\xz1 [.lst (d.map .int),.int s,.lst ((List.range J).map (lay d s)),dN N]=some (.fr (T.map dN)):=by
 suffices h:Run xg3 (u8 8 [.lst (d.map .int),.int s,.lst ((List.range J).map (lay d s)),dN N]) (λo=>∃m,o= .rf m/\∃T,Pk d s J N T/\m=T.map dN)by let⟨m,e,T,q,rfl⟩:=E7 h;show⟨T,q,by show e⟩
 generalize k:(List.range J).map (lay d s)=Ls;show y6 ((f9 (x8 z7 (aW _))).trans rfl) ?_;show y6 rfl ?_;have i:w4 revL (z6 (mvar 2) anil) (envQ d s Ls N [] 0 none none)=some ((List.range J).map λj=>lay d s (J-1-j)):=by
  delta w4;rw[z0 rfl z7,aI];show some Ls.reverse=_;rw[<-k,<-map_reverse];congr 1;have y:(List.range J).reverse=(List.range J).map λx=>0+J-1-x:=by rw[eE,reverse_range',<-eE]
  rw[y,bw];apply ba;intro j _;show lay d s (0+J-1-j)=_;rw[cg]
 show m8 (j6 J i (I:=InvP d s Ls J ((ctsJ d s J).getD (N-1) [])) _ ⟨[],none,N,none,none,rfl,rfl,rfl,λg=>?_,λe=>?_⟩ (λj r g l=>?_) ?_)
 .rcases u with z|z
  .rw[z]at g;show aV g (bO 0)
  .have hs':sumF d s (J-1-0) none 0=(BL d s (J-1)).sum:=by rw[Nat.sub_zero,zr1]
   show⟨z.1,by show N<=sumF d s (J-1-0) none 0;rw[hs'];show z.2,?_⟩;cases J with
   |zero=>show aV g (bO 0)
   |succ J=>
    show ∃X,(cts d s (J+1-1-0) none 0)[N-1]? =some X/\(cts d s J none 0).getD (N-1) []=[]++X;have f:N-1<(cts d s J none 0).length:=by rw[(J0 d s p J).2 _ none 0 rfl,zr1];have:=z.2;rw[cA]at this;omega
    show⟨(cts d s J none 0)[N-1],aG f,?_⟩;rw[aE,aG f];rfl
 .rw[<-e];rcases N-1 with _|n <;> rfl
 .let⟨ρ1,a,ρ2,b,c⟩:=ye5 p t v g l;show⟨ρ1,a,.nx ρ2,b,c⟩
 .intro r l;let⟨T,st,M,B,A,rfl,C,q,_,w⟩:=l;show xq8 rfl ⟨_,rfl,T,(w rfl).symm,rfl⟩
end
section
open PySem L2
theorem zw7(a:List Int)(s:Int)(J:Nat):m_Z1 [.lst ((List.range J).map (lay a s))]=some (.sh (dN (tot a s J))):=by
 show e9 (Z5 ?_);delta mite tot;cases J with
 |zero=>rfl
 |succ J=>
  have t:mtru (mvar 0) (u8 1 [.lst ((List.range (J+1)).map (lay a s))])=some true:=by rw[cq];rfl
  rw[t,aF aw,cA];show zp4 (j3 ?_);have e:mix (bvar 0) (m1 negD (mc (.int 1))) (u8 1 [.lst ((List.range (J+1)).map (lay a s))])=some (lay a s J):=by show w6 rfl rfl ?_;rw[range_succ];show atI_last (lay a s) (List.range J) J
  show(y9 e rfl).trans rfl
abbrev xa6(a:List Int)(s most:Int)(J:Nat):Prop:=xj5 [.lst (a.map .int),.int s,.int most]=some (.fr ((List.range J).map (lay a s)))
abbrev vs7(a:List Int)(s:Int)(J:Nat)(F:Nat->List Nat):Prop:=∀N,1<=N->N<=tot a s J->Pk a s J N (F N)/\xz1 [.lst (a.map .int),.int s,.lst ((List.range J).map (lay a s)),dN N]=some (.fr ((F N).map dN))
theorem xn5(c:List Int)(s:Int)(d:1<=s)(e:c.length<=300)(J:Nat)(f:J<=300):∃F,vs7 c s J F:=by
 have h:∀N,∃T,1<=N->N<=tot c s J->Pk c s J N T/\xz1 [.lst (c.map .int),.int s,.lst ((List.range J).map (lay c s)),dN N]=some (.fr (T.map dN)):=by
  intro N;by_cases h:1<=N/\N<=tot c s J
  .have h2:J=0\/(1<=N/\N<=(BL c s (J-1)).sum):=by
    by_cases z:J=0
    .exact .inl z
    .refine .inr ⟨h.1,?_⟩;have:=h.2;unfold tot at this
     rwa [aF z]at this
   let⟨T,a⟩:=ye4 c s d e J N f h2;show⟨T,λ_ _=>a⟩
  .exact⟨[],λa b=>aV ⟨a,b⟩ h⟩
 show⟨λN=>Classical.choose (h N),λN=>c0 (h N)⟩
theorem xk7(h:x a=some d):zo0 x a=some (.nx a):=by delta zo0;rw[h];rfl
theorem wp1{s:Int}(d:Best (Wv (xr c) c.length s) l){m J:Nat}(h:zw0 c s (m:Int) J):J=min m l.length:=by
 let⟨j,g,f⟩:=h;have i:J<=l.length/\J<=m:=by
  cases J with
  |zero=>show⟨aW _,aW _⟩
  |succ J=>let⟨a,b⟩:=g J aw;let⟨k,w,e⟩:=(C6 c s J).mp a;have:=d.len k w;show⟨aw,aw⟩
 rcases f with z|z
 .lia
 .have:¬ J<l.length:=λw=>by have:anyB c s J=true:=(C6 c s J).mpr ⟨l.drop (l.length-1-J),C8 _ d.1,by rw[dQ];lia⟩;rw[this]at z;ext z
  lia
theorem wp0{s:Int}(b:a.length<=300)(c:Best (Wv (xr a) a.length s) l)(m:Nat):xa6 a s (m:Int) (min m l.length):=by let⟨J,d,e⟩:=Y3 a s (m:Int) b;rw[<-wp1 c d];show e
def allW(a:List Int)(s:Int):Nat->Bool->Nat->Qe
 |0,_,p=>[[p]]
 |k+1,d,p=>(abv a s d p).flatMap λq=>(allW a s k (!d) q).map (p::·)
theorem zm0(a:List Int)(s:Int):∀(k:Nat)(d:Bool)(p:Nat),(allW a s k d p).length=cnt a s k d p
 |0,d,p=>rfl
 |k+1,d,p=>by rw[allW,cnt,length_flatMap];congr 1;apply ba;intro q _;rw[aL,zm0 a s k (!d) q]
theorem S7(a:List Int)(s:Int):∀(k:Nat)(d:Bool)(p:Nat),p<a.length->∀l,l∈allW a s k d p↔∃m,l=p::m/\Wd (xr a) a.length s d (p::m)/\m.length=k
 |0,d,p,hp,l=>by
  rw[allW,dy];constructor
  .intro e;show⟨[],e,hp,rfl⟩
  .rintro⟨m,e,_,z⟩;rw[e,eq_nil_of_length_eq_zero z]
 |k+1,d,p,hp,l=>by
  rw[allW,mem_flatMap];constructor
  .rintro⟨q,f,g⟩;let⟨c,b,e⟩:=bj.mp g;let⟨j,i,h⟩:=abv_mem.mp f;let⟨m,n,w,z⟩:=(S7 a s k (!d) q i c).mp b;show⟨q::m,by rw[<-e,n],⟨j,h,w⟩,by rw[bA,z]⟩
  .rintro⟨m,e,w,z⟩;cases m with
   |nil=>ext z
   |cons q m=>show⟨q,abv_mem.mpr ⟨w.1,w.2.2.lt,w.2.1⟩,bj.mpr ⟨q::m,(S7 a s k (!d) q w.2.2.lt _).mpr ⟨m,rfl,w.2.2,by simpa using z⟩,e.symm⟩⟩
def allB(a:List Int)(s:Int)(k:Nat):Qe:=(List.range a.length).flatMap λp=>if k=0 then [[p]]else allW a s k true p++allW a s k false p
abbrev cN(a:List Int)(s:Int)(k:Nat):Nat:=(BL a s k).sum
theorem xf4(a:List Int)(s:Int)(k:Nat):(allB a s k).length=cN a s k:=by
 unfold allB cN BL;rw[length_flatMap];congr 1;apply ba;intro p _;cases k with
 |zero=>rfl
 |succ k=>rw[aF aw,bV,zm0,zm0,bgn]
theorem yp5(a:List Int)(s:Int)(k:Nat)(l:List Nat):l∈allB a s k↔Wv (xr a) a.length s l/\l.length=k+1:=by
 unfold allB;rw[mem_flatMap];constructor
 .rintro⟨p,hp,h⟩;have hp:=bq.mp hp;by_cases z:k=0
  .rw[aH z,dy]at h;rw[h,z];show⟨.inr ⟨true,hp⟩,rfl⟩
  .rw[aF z,mem_append]at h;rcases h with h|h
   .let⟨m,e,w,y⟩:=(S7 a s k true p hp l).mp h;rw[e];show⟨.inr ⟨_,w⟩,by rw[bA,y]⟩
   .let⟨m,e,w,y⟩:=(S7 a s k false p hp l).mp h;rw[e];show⟨.inr ⟨_,w⟩,by rw[bA,y]⟩
 .rintro⟨h,hl⟩;rcases h with z|⟨d,z⟩
  .rw[z]at hl;ext hl
  .cases l with
   |nil=>ext hl
   |cons p m=>
    show⟨p,bq.mpr z.lt,?_⟩;by_cases y:k=0
    .rw[aH y,dy,eq_nil_of_length_eq_zero (l:=m) (by simp at hl;lia)]
    .rw[aF y,mem_append];cases d with
     |true=>show .inl ((S7 a s k true p z.lt _).mpr ⟨m,rfl,z,by simpa using hl⟩)
     |false=>show .inr ((S7 a s k false p z.lt _).mpr ⟨m,rfl,z,by simpa using hl⟩)
theorem vu0{s:Int}{k:Nat}(c:Best (Wv (xr b) b.length s) l):cN b s k≠0↔k<l.length:=by
 rw[<-xf4];constructor
 .intro h;cases hA:allB b s k with
  |nil=>rw[hA]at h;show aV rfl h
  |cons a A=>let⟨w,e⟩:=(yp5 b s k a).mp (by rw[hA];simp);have:=c.len a w;lia
 .intro h;have:l.drop (l.length-1-k)∈allB b s k:=(yp5 b s k _).mpr ⟨C8 _ c.1,by rw[dQ];omega⟩;have:=length_pos_of_mem this;lia
theorem xe6:∀{x:Nat->Int}{n:Nat}{s:Int}{l:List Nat}{d:Bool}{p:Nat},Wd x n s d (p::l)->∀q∈p::l,q<n
 |x,n,s,[],d,p,h,q,a=>by simp at a;subst a;show h
 |x,n,s,r::l,d,p,h,q,a=>by
  rcases aT.mp a with z|z
  .subst z;show h.lt
  .exact xe6 h.2.2 q z
theorem zm6{x:Nat->Int}{n:Nat}{s:Int}(h:Wv x n s l):∀q∈l,q<n:=by
 rcases h with z|⟨d,z⟩
 .rw[z];simp
 .cases l with
  |nil=>simp
  |cons p l=>show xe6 z
def cl(a:List Int)(s:Int)(J:Nat):List Nat:=1::(List.range J).map (cN a s)
theorem xv7(a:List Int)(s:Int):cN a s 0=a.length:=by
 delta cN;rw[wn4];generalize a.length=n;induction n with
 |zero=>rfl
 |succ n b=>rw[range_succ,bN,sum_append,b];rfl
theorem vr1(l:List Nat):L l= .lst ((NI l).map .int):=by delta L NI;rw[dns]
theorem zy8(f:Nat->D):∀(n a:Nat),V9 a ((List.range' a n).map f)=(List.range' a n).map λ(i:Nat)=>D.tup [.int (i:Int),f i]
 |0,_=>rfl
 |n+1,a=>by rw[range'_succ,br,br,V9,zy8 f n (a+1)]
theorem wo9(a:List Int)(s:Int)(J:Nat):atI ((cl a s J).map dN) (-1)=some (dN (tot a s J)):=by
 delta cl tot;cases J with
 |zero=>rfl
 |succ J=>rw[aF aw,cA,range_succ,bN];show atI ((1::((List.range J).map (cN a s))++[cN a s J]).map dN) (-1)=_;show atI_last dN _ _
theorem xj2{s:Int}(b:Best (Wv (xr a) a.length s) l):(if l.length<2 then max 1 a.length else (BL a s (l.length-1)).sum)=tot a s l.length:=by
 delta tot;have c:=xv7 a s;have hp:=vu0 (k:=0) b;rcases bi l.length 2 with h|h
 .rw[aH h];by_cases z:l.length=0
  .rw[aH z];lia
  .rw[aF z,show l.length-1=0 by lia];lia
 .rw[aF aw,aF aw]
theorem wo8{k:Type}{src:Qd}{f:k->D}(xs:List k)(hi:mi q=some (xs.map f))(o:xs.length<=1000)(I:Ro->Prop)(n:I (P3 src q))(m:∀x∈xs,∀q,I q->∃ρ1,tgD g (f x) q=some ρ1/\c ρ1=some false/\I ρ1):t9 src mi g c j q=some []:=by
 delta t9;rw[hi,aI];rw[k0 (G:=λ_=>D.non) (λl q=>(∀y∈l,y∈xs)/\I q) (λd p q h=>by let⟨ρ1,a,b,e⟩:=m d (h.1 d az) q h.2;show⟨ρ1,a,b,⟨(λz=>aV z az),(λy i=>h.1 y (aX _ i)),e⟩⟩) xs _ [] ⟨λy i=>i,n⟩ (y7 (by simp;lia)),zy7]
 rfl
noncomputable def sm(n:Nat)(f:Nat->Nat):Nat:=((List.range n).map f).sum
theorem h7(n:Nat)(f:Nat->Nat):sm (n+1) f=sm n f+f n:=by delta sm;rw[N3];simp
theorem f6{n:Nat}{f g:Nat->Nat}(h:∀i,i<n->f i=g i):sm n f=sm n g:=by
 induction n with
 |zero=>rfl
 |succ n a=>rw[h7,h7,a λi hi=>h i aw,h n aw]
theorem yh7(n:Nat)(f g:Nat->Nat):sm n (λi=>f i+g i)=sm n f+sm n g:=by
 induction n with
 |zero=>rfl
 |succ n a=>rw[h7,h7,h7,a];lia
theorem xe7(n:Nat)(f:Nat->Nat)(c:Nat):sm n (λi=>f i*c)=sm n f*c:=by
 induction n with
 |zero=>simp[sm]
 |succ n a=>rw[h7,h7,a,Nat.add_mul]
theorem zr4(n:Nat):sm n (λ_=>0)=0:=by
 induction n with
 |zero=>rfl
 |succ n a=>rw[h7,a]
theorem wy8(n m:Nat)(f:Nat->Nat->Nat):sm n (λi=>sm m λj=>f i j)=sm m λj=>sm n λi=>f i j:=by
 induction n with
 |zero=>rw[show (λj=>sm 0 λi=>f i j)=λ_=>0 from rfl,zr4];rfl
 |succ n a=>rw[h7,a,<-yh7];show f6 λj _=>(h7 n λi=>f i j).symm
def rl(a:List Int)(s:Int)(d:Bool)(p q:Nat):Nat:=if p<q/\far s d (xr a p) (xr a q)then 1 else 0
theorem yv9(f:Nat->Nat)(p:Nat->Bool):∀l:List Nat,((l.filter p).map f).sum=(l.map λq=>if p q then f q else 0).sum
 |[]=>rfl
 |a::l=>by
  rw[ey,br,dv,<-yv9 f p l];cases h:p a with
  |true=>rw[aH rfl,aH rfl,br,dv]
  |false=>rw[aF bd,aF bd,cg]
theorem wy7(n p:Nat)(b:p<n)(f:Nat->Nat):((List.range (n-(p+1))).map λj=>f (p+1+j)).sum=sm n λq=>if p<q then f q else 0:=by
 have h:∀m,sm (p+1+m) (λq=>if p<q then f q else 0)=((List.range m).map λj=>f (p+1+j)).sum:=λm=>by
  induction m with
  |zero=>rw[cG,f6 λi hi=>aF ax,zr4];rfl
  |succ m a=>rw[<-dL,h7,a,N3,aH ax];simp
 rw[<-h,show p+1+(n-(p+1))=n by omega]
theorem xa3(a:List Int)(s:Int)(k:Nat)(d:Bool)(p:Nat)(e:p<a.length):cnt a s (k+1) d p=sm a.length λq=>rl a s d p q*cnt a s k (!d) q:=by
 rw[cnt,abv,yv9,bw];have:=wy7 a.length p e λq=>if decide (far s d (xr a p) (xr a q))then cnt a s k (!d) q else 0;rw[show ((λq=>if decide (far s d (xr a p) (xr a q))=true then cnt a s k (!d) q else 0)∘λj=>p+1+j)=λj=>if decide (far s d (xr a p) (xr a (p+1+j)))=true then cnt a s k (!d) (p+1+j)else 0 from rfl,this];show f6 λq _=>?_;delta rl;by_cases c:p<q
 .rw[aH c];by_cases b:far s d (xr a p) (xr a q)
  .rw[aH (aO b),aH ⟨c,b⟩,Nat.one_mul]
  .rw[aF (by rw[aP b];show bd),aF (λz=>b z.2),Nat.zero_mul]
 .rw[aF c,aF (λz=>c z.1),Nat.zero_mul]
def ecnt(a:List Int)(s:Int):Nat->Bool->Nat->Nat
 |0,_,_=>1
 |k+1,d,q=>sm a.length λp=>rl a s d p q*ecnt a s k (!d) p
def Sx(a:List Int)(s:Int)(i j:Nat)(d:Bool):Nat:=sm a.length λr=>ecnt a s i (!d) r*cnt a s j d r
theorem xs3(a:List Int)(s:Int)(i j:Nat)(d:Bool):Sx a s (i+1) j d=Sx a s i (j+1) (!d):=by
 have e:Sx a s (i+1) j d=sm a.length λr=>sm a.length λp=>rl a s (!d) p r*ecnt a s i d p*cnt a s j d r:=by show f6 λr _=>?_;rw[ecnt,Bool.not_not,xe7]
 have c:Sx a s i (j+1) (!d)=sm a.length λp=>sm a.length λr=>rl a s (!d) p r*ecnt a s i d p*cnt a s j d r:=by show f6 λp b=>?_;rw[xa3 a s j (!d) p b,Bool.not_not,Nat.mul_comm,<-xe7];show f6 λr _=>?_;rw[Nat.mul_assoc,Nat.mul_assoc,Nat.mul_comm (cnt a s j d r)]
 rw[e,c,wy8]
theorem xa5(a:List Int)(s:Int):∀(i j:Nat),Sx a s i j true+Sx a s i j false=Sx a s 0 (i+j) true+Sx a s 0 (i+j) false
 |0,j=>by rw[cg]
 |i+1,j=>by rw[xs3,xs3,Bool.not_true,Bool.not_false,Nat.add_comm,xa5 a s i (j+1),show i+(j+1)=i+1+j by lia]
theorem wo4(a:List Int)(s:Int)(k:Nat):cN a s (k+1)=sm a.length λq=>ecnt a s (k+1) true q+ecnt a s (k+1) false q:=by
 have h:=xa5 a s (k+1) 0;have c:∀d,Sx a s 0 (k+1+0) d=sm a.length (cnt a s (k+1) d):=λd=>f6 λr _=>by rw[ecnt,Nat.one_mul]
 have b:∀d,Sx a s (k+1) 0 d=sm a.length (ecnt a s (k+1) (!d)):=λd=>f6 λr _=>by rw[cnt,Nat.mul_one]
 rw[c,c,b,b,<-yh7,<-yh7]at h;show sm a.length (bgn a s (k+1))=_;rw[show bgn a s (k+1)=λp=>cnt a s (k+1) true p+cnt a s (k+1) false p from rfl,<-h];show f6 λq _=>Nat.add_comm _ _
noncomputable def ptN(a b:List Nat)(k m:Nat):Nat:=a.getD m 0+(if 1<=m/\m<=k then b.getD (m-1) 0 else 0)
def ptL(a b:List Nat)(k:Nat):List Nat:=(List.range (max a.length (b.length+1))).map (ptN a b k)
theorem d6(a b:List Nat)(k:Nat):(ptL a b k).length=max a.length (b.length+1):=by delta ptL;simp
theorem zu2(a b:List Nat)(k m:Nat)(h:m<max a.length (b.length+1)):(ptL a b k)[m]? =some (ptN a b k m):=by delta ptL;rw[bn,cw h];rfl
theorem xp8(a b:List Nat):a++List.replicate (b.length+1-a.length) 0=ptL a b 0:=by
 show db λm=>?_;by_cases h:m<max a.length (b.length+1)
 .rw[zu2 a b 0 m h,ptN,aF ax,cG];by_cases c:m<a.length
  .rw[bW c,aE,aG c];rfl
  .rw[cr ax,dP,aH ax,aE,aY ax];rfl
 .rw[aY (by simp;omega),aY (by rw[d6];omega)]
theorem xp9(a b:List Nat)(k:Nat)(d:k<b.length):(ptL a b k).set (k+1) (ptN a b k (k+1)+b.getD k 0)=ptL a b (k+1):=by
 show db λm=>?_;rw[dH];by_cases h:m<max a.length (b.length+1)
 .by_cases e:k+1=m
  .subst e;rw[aH rfl,aH (by rw[d6];show h),zu2 a b _ _ h];delta ptN;rw[aF aw,aH aw];simp
  .rw[aF e,zu2 a b k m h,zu2 a b (k+1) m h];delta ptN;by_cases c:1<=m/\m<=k
   .rw[aH c,aH aw]
   .rw[aF c,aF aw]
 .rw[aF aw,aY (by rw[d6];lia),aY (by rw[d6];lia)]
theorem yu0{i:Nat}{ns:List Nat}{p:Nat}{v:Nat}{a x:ME}{f:Ro}(hi:f[i]? =some (some (.own (ns.map dN))))(c:a f=some (.int (p:Int)))(b:x f=some (dN v))(d:p<ns.length):a9 i a x f=some (.nx (f.set i (some (.own ((ns.set p v).map dN))))):=by
 delta a9;rw[b,aI];simp only[hi];rw[c,aI];simp only;have e:ixN (ns.map dN).length (p:Int)=some p:=by delta ixN;rw[aL,aH aw,aH aw];simp
 rw[e,Option.map_some,<-map_set]
theorem yr7:∀(ns:List Nat)(k:Nat),V9 k (ns.map dN)=(List.range ns.length).map λ(i:Nat)=>D.tup [.int ((k+i:Nat):Int),dN (ns.getD i 0)]
 |[],k=>rfl
 |n::ns,k=>by rw[br,V9,yr7 ns (k+1),bA,cq,br,bw];show congr (bf List.cons rfl) (ba λi _=>?_);show _=D.tup [.int ((k+(i+1):Nat):Int),dN ((n::ns).getD (i+1) 0)];rw[show k+(i+1)=k+1+i by lia];rfl
def eP(a b f:List Nat)(o3 o4:Option S):Ro:=[some (.sh (L a)),some (.sh (L b)),some (.own (f.map dN)),o3,o4]
theorem yu4(a b:List Nat)(w:a.length<=1000)(v:b.length<=1000):zw8 [L a,L b]=some (.fr ((ptL a b b.length).map dN)):=by
 have u:=v3;delta zw8 xg4;have j:Run (mseq (Z4 2 (mcat (bvar 0) (mrep (y8 (z6 (mc (.int 0)) anil)) (m2 subD (m2 addD (mlen (bvar 1)) (mc (.int 1))) (mlen (bvar 0)))))) (mseq (mfor (w4 Q8 (z6 (mvar 1) anil)) (.tp [3,4]) zn5) (K5 2))) (u8 5 [L a,L b]) (λo=>∃m,o= .rf m/\m=(ptL a b b.length).map dN):=by
  show y6 (ρ':=eP a b (ptL a b 0) none none) ?_ ?_
  .have e0:m2 subD (m2 addD (mlen (bvar 1)) (mc (.int 1))) (mlen (bvar 0)) (u8 5 [L a,L b])=some (.int ((b.length:Int)+1-(a.length:Int))):=by show(y9 ((y9 (u7 rfl) rfl).trans rfl) (u7 rfl)).trans ?_;rw[aL,aL];rfl
   have r:F8 1 ((b.length:Int)+1-(a.length:Int))=true:=by delta F8;rw[aO aw,aO aw,aO aw];rfl
   have rp:=zp6 (x:=y8 (z6 (mc (.int 0)) anil)) (x8 (z0 rfl z7) (y7 ay)) e0 r;have t:(List.replicate ((b.length:Int)+1-(a.length:Int)).toNat [D.int 0]).flatten=(List.replicate (b.length+1-a.length) 0).map dN:=by
    rw[show ((b.length:Int)+1-(a.length:Int)).toNat=b.length+1-a.length by lia,map_replicate];generalize b.length+1-a.length=n;induction n with
    |zero=>rfl
    |succ n s=>rw[cF,dI,s,cF];rfl
   rw[t]at rp;show(f9 (c7 rfl rp (y7 (by rw[aL,aL,length_replicate];lia)))).trans ?_;rw[<-bN,xp8];rfl
  show m8 (j6 b.length (f:=λ(i:Nat)=>D.tup [.int (i:Int),dN (b.getD i 0)]) ?_ (I:=λk c=>∃g d,c=eP a b (ptL a b k) g d) _ ⟨_,_,rfl⟩ ?_ ?_)
  .delta w4;rw[z0 rfl z7,aI];show some (V9 0 (b.map dN))=_;rw[yr7];congr 1;apply ba;intro i _;rw[cg]
  .rintro k c hk ⟨g,d,rfl⟩;show⟨eP a b (ptL a b k) (k0b k) (some (.sh (dN (b.getD k 0)))),rfl,?_⟩;have q:m2 addD (mvar 3) (mc (.int 1)) (eP a b (ptL a b k) (k0b k) (some (.sh (dN (b.getD k 0)))))=some (.int ((k+1:Nat):Int)):=(y9 rfl rfl).trans rfl;have l:k+1<max a.length (b.length+1):=aw;have p:atI ((ptL a b k).map dN) ((k+1:Nat):Int)=some (dN (ptN a b k (k+1))):=by rw[E4 _ _ (by rw[d6];show l),aE,zu2 _ _ _ _ l];rfl
   show⟨_,yu0 rfl q ((y9 (w6 rfl q p) rfl).trans rfl) (by rw[d6];show l),?_⟩;rw[xp9 a b k hk];show⟨_,_,rfl⟩
  .rintro c ⟨g,d,rfl⟩;show⟨_,rfl,_,rfl,rfl⟩
 let⟨m,e,h⟩:=E7 j;rw[e,h]
noncomputable def gp(e:List Nat×List Nat)(d:Bool):List Nat:=if d then e.1 else e.2
def owL(a:List Int)(s:Int)(en:List (List Nat×List Nat))(q:Nat):Nat->List Nat×List Nat
 |0=>([0,1],[0,1])
 |j+1=>
  if far s true (xr a j) (xr a q)then (ptL (owL a s en q j).1 (gp (en.getD j ([],[])) false) (gp (en.getD j ([],[])) false).length,(owL a s en q j).2)
  else if far s false (xr a j) (xr a q)then ((owL a s en q j).1,ptL (owL a s en q j).2 (gp (en.getD j ([],[])) true) (gp (en.getD j ([],[])) true).length)
  else owL a s en q j
def enL(a:List Int)(s:Int):Nat->List (List Nat×List Nat)
 |0=>[]
 |q+1=>enL a s q++[owL a s (enL a s q) q q]
theorem yy4(a:List Int)(s:Int)(q:Nat):(enL a s q).length=q:=by
 induction q with
 |zero=>rfl
 |succ q b=>rw[enL,bV,b];rfl
noncomputable def adN(f o:List Nat)(k m:Nat):Nat:=f.getD m 0+(if 2<=m/\m<k then o.getD m 0 else 0)
def adL(f o:List Nat)(k:Nat):List Nat:=(List.range (max f.length o.length)).map (adN f o k)
def foL(a:List Int)(s:Int):Nat->List Nat
 |0=>[1,a.length].take (1+a.length)
 |q+1=>adL (adL (foL a s q) (owL a s (enL a s q) q q).1 (owL a s (enL a s q) q q).1.length) (owL a s (enL a s q) q q).2 (owL a s (enL a s q) q q).2.length
theorem zz0(b:List Int)(s:Int)(a:List (List Nat×List Nat))(q:Nat)(h:∀e∈a,e.1.length<=q+1/\e.2.length<=q+1):∀j,(owL b s a q j).1.length<=q+2/\(owL b s a q j).2.length<=q+2
 |0=>⟨by show 2<=q+2;lia,by show 2<=q+2;lia⟩
 |j+1=>by
  have c:=zz0 b s a q h j;have f:∀d,(gp (a.getD j ([],[])) d).length<=q+1:=λd=>by
   have:(a.getD j ([],[])).1.length<=q+1/\(a.getD j ([],[])).2.length<=q+1:=by
    rw[aE];cases e:a[j]? with
    |none=>show⟨aW _,aW _⟩
    |some x=>show h x (mem_of_getElem? e)
   ext d
   .exact this.2
   .exact this.1
  unfold owL;split
  .exact⟨by rw[d6];have:=f false;lia,c.2⟩
  .split
   .exact⟨c.1,by rw[d6];have:=f true;lia⟩
   .exact c
theorem yr8(b:List Int)(s:Int):∀q,∀e∈enL b s q,e.1.length<=q+1/\e.2.length<=q+1
 |0,e,a=>by ext a
 |q+1,e,a=>by
  rw[enL,mem_append,dy]at a;rcases a with a|rfl
  .have:=yr8 b s q e a;lia
  .exact zz0 b s (enL b s q) q (yr8 b s q) q
theorem Z8(f o:List Nat)(k:Nat):(adL f o k).length=max f.length o.length:=by delta adL;simp
theorem yy0(a:List Int)(s:Int):∀q,(foL a s q).length<=q+2
 |0=>by rw[foL,cB];show min _ 2<=2;lia
 |q+1=>by have b:=zz0 a s (enL a s q) q (yr8 a s q) q;have:=yy0 a s q;rw[foL,Z8,Z8];lia
theorem zs0(f o:List Nat)(k m:Nat)(h:m<max f.length o.length):(adL f o k)[m]? =some (adN f o k m):=by delta adL;rw[bn,cw h];rfl
theorem xf7(f o:List Nat):f++List.replicate (o.length-f.length) 0=adL f o 2:=by
 show db λm=>?_;by_cases h:m<max f.length o.length
 .rw[zs0 f o 2 m h,adN,aF aw,cG];by_cases a:m<f.length
  .rw[bW a,aE,aG a];rfl
  .rw[cr ax,dP,aH ax,aE,aY ax];rfl
 .rw[aY (by simp;omega),aY (by rw[Z8];lia)]
theorem xf8(f o:List Nat)(k:Nat)(c:2<=k)(b:k<o.length):(adL f o k).set k (adN f o k k+o.getD k 0)=adL f o (k+1):=by
 show db λm=>?_;rw[dH];by_cases h:m<max f.length o.length
 .by_cases e:k=m
  .subst e;rw[aH rfl,aH (by rw[Z8];show h),zs0 f o _ _ h];delta adN;rw[aF aw,aH aw];simp
  .rw[aF e,zs0 f o k m h,zs0 f o (k+1) m h];delta adN;by_cases a:2<=m/\m<k
   .rw[aH a,aH aw]
   .rw[aF a,aF aw]
 .rw[aF ax,aY (by rw[Z8];lia),aY (by rw[Z8];lia)]
theorem xt9{i:Int}(h:x a=some (.int i)):w5 absF (z6 x anil) a=some (.int (i.natAbs:Int)):=by delta w5;rw[z0 h z7];show some (D.int (if i<0 then -i else i))=_;congr 2;split <;> lia
theorem wr5{i:Nat}(h:c[i]? =some (some (.own ds)))(b:x c=some d)(a:ds.length<sizeLine):mapp i x c=some (.nx (c.set i (some (.own (ds++[d]))))):=by delta mapp;rw[h];simp only[b,Option.bind_some,a,if_true]
theorem zz3(h:x a=some (.nx ρ')):mseq x y a=y ρ':=by delta mseq;rw[h]
def LP(e:List Nat×List Nat):D:=.lst [L e.1,L e.2]
def eC(a:List Int)(s:Int)(en:List (List Nat×List Nat))(f:List Nat)(q:Nat)(o:List Nat×List Nat)(o7 o8 o9 o10:Option S):Ro:=
 [k0a a,k0c s,some (.own (en.map LP)),some (.own (f.map dN)),k0b q,some (.sh (.int (xr a q))),some (.own [L o.1,L o.2]),o7,o8,o9,o10]
theorem vu4(a:List (List Nat×List Nat))(j:Nat)(h:j<a.length):atI (a.map LP) (j:Int)=some (LP (a.getD j ([],[]))):=by rw[X1 LP a (j:Int) aw aw ([],[])];simp
theorem wt6(a:List Int)(s:Int)(C:1<=s)(D:a.length<=300)(en:List (List Nat×List Nat))(f:List Nat)(q j:Nat)(E:q<a.length)(F:j<q)(A:en.length=q)(n:∀e∈en,e.1.length<=q+1/\e.2.length<=q+1)(g c b:Option S):
  ∃l,C4 (eC a s en f q (owL a s en q j) (k0b j) g c b)=some (.nx (eC a s en f q (owL a s en q (j+1)) (k0b j) l c b)):=by
 have m:=zz0 a s en q n j;have k:∀d,(gp (en.getD j ([],[])) d).length<=q+1:=λd=>by
  have r:en.getD j ([],[])∈en:=by rw[aE,aG aw];show dj _
  ext d
  .exact(n _ r).2
  .exact(n _ r).1
 generalize x:owL a s en q j=o at m;have p:∀g,mix (bvar 0) (mvar 7) (eC a s en f q o (k0b j) g c b)=some (.int (xr a j)):=λ_=>w6 rfl rfl (L4 a j aw);have w:w5 intF (z6 (m2 geD (m2 subD (mix (bvar 0) (mvar 7)) (mvar 5)) (mvar 1)) anil) (eC a s en f q o (k0b j) g c b)=some (.int (if s<=xr a j-xr a q then 1 else 0)):=by
  delta w5;rw[z0 ((y9 (y:=mvar 1) ((y9 (f:=subD) (y:=mvar 5) (p g) rfl).trans rfl) rfl).trans (show geD (.int (xr a j-xr a q)) (.int s)=some (.bl (decide (s<=xr a j-xr a q)))from rfl)) z7];by_cases h:s<=xr a j-xr a q
  .rw[aO h,aH h];rfl
  .rw[aP h,aF h];rfl
 show⟨some (.sh (.int (if s<=xr a j-xr a q then 1 else 0))),?_⟩;delta C4;rw[zz3 (ρ':=eC a s en f q o (k0b j) (some (.sh (.int (if s<=xr a j-xr a q then 1 else 0)))) c b) ((v4 w).trans rfl)];have u:y0 (m2 geD (w5 absF (z6 (m2 subD (mvar 5) (mix (bvar 0) (mvar 7))) anil)) (mvar 1)) (eC a s en f q o (k0b j) (some (.sh (.int (if s<=xr a j-xr a q then 1 else 0)))) c b)=some (decide (s<=((xr a q-xr a j).natAbs:Int))):=
  zk1 (xt9 ((y9 rfl (p _)).trans rfl)) rfl
 rw[m6 u];have t:∀g,u4 (mix (bvar 2) (mvar 7)) (eC a s en f q o (k0b j) g c b)=some [L (en.getD j ([],[])).1,L (en.getD j ([],[])).2]:=λ_=>j3 (w6 rfl rfl (vu4 en j aw));have next:owL a s en q (j+1)=if far s true (xr a j) (xr a q)then (ptL o.1 (gp (en.getD j ([],[])) false) (gp (en.getD j ([],[])) false).length,o.2)
  else if far s false (xr a j) (xr a q)then (o.1,ptL o.2 (gp (en.getD j ([],[])) true) (gp (en.getD j ([],[])) true).length)else o:=by
  rw[<-x];rfl
 by_cases i:far s true (xr a j) (xr a q)
 .have ht':s<=xr a q-xr a j:=i;have z:¬ s<=xr a j-xr a q:=aw;rw[next,aH i,aF z,aO aw,aH rfl];have v:u0 zw8 (z6 (mix (bvar 6) (mvar 8)) (z6 (mix (u4 (mix (bvar 2) (mvar 7))) (m2 subD (mc (.int 1)) (mvar 8))) anil)) (eC a s en f q o (k0b j) (some (.sh (.int 0))) c b)=some (.lst ((ptL o.1 (gp (en.getD j ([],[])) false) (gp (en.getD j ([],[])) false).length).map dN)):=
   W8 (z0 (w6 rfl rfl rfl) (z0 (w6 (t _) ((y9 rfl rfl).trans rfl) rfl) z7)) (yu4 o.1 (gp (en.getD j ([],[])) false) aw (by have:=k false;lia))
  delta a9;rw[v];rfl
 .by_cases hf:far s false (xr a j) (xr a q)
  .have hf':s<=xr a j-xr a q:=hf;rw[next,aF i,aH hf,aH hf',aO aw,aH rfl];have v:u0 zw8 (z6 (mix (bvar 6) (mvar 8)) (z6 (mix (u4 (mix (bvar 2) (mvar 7))) (m2 subD (mc (.int 1)) (mvar 8))) anil)) (eC a s en f q o (k0b j) (some (.sh (.int 1))) c b)=some (.lst ((ptL o.2 (gp (en.getD j ([],[])) true) (gp (en.getD j ([],[])) true).length).map dN)):=
    W8 (z0 (w6 rfl rfl rfl) (z0 (w6 (t _) ((y9 rfl rfl).trans rfl) rfl) z7)) (yu4 o.2 (gp (en.getD j ([],[])) true) aw (by have:=k true;lia))
   delta a9;rw[v];rfl
  .have h1:¬ s<=xr a q-xr a j:=i;have B:¬ s<=xr a j-xr a q:=hf;rw[next,aF i,aF hf,aF B,aP aw,aF bd];rfl
def eD(a:List Int)(s:Int)(en:List (List Nat×List Nat))(f:List Nat)(q:Nat)(o:List Nat×List Nat)(o7 o8 o9 o10:Option S):Ro:=
 [k0a a,k0c s,some (.own (en.map LP)),some (.own (f.map dN)),k0b q,some (.sh (.int (xr a q))),some (.sh (LP o)),o7,o8,o9,o10]
theorem yc3(a:List Int)(s:Int)(c:List (List Nat×List Nat))(q:Nat):∀j,2<=(owL a s c q j).1.length/\2<=(owL a s c q j).2.length
 |0=>⟨aK _,aK _⟩
 |j+1=>by
  have b:=yc3 a s c q j;unfold owL;split
  .exact⟨by rw[d6];lia,b.2⟩
  .split
   .exact⟨b.1,by rw[d6];lia⟩
   .exact b
theorem xr1(n:Nat):(List.replicate n [D.int 0]).flatten=(List.replicate n 0).map dN:=by
 induction n with
 |zero=>rfl
 |succ n a=>rw[cF,dI,a,cF];rfl
theorem xt7(b:List Int)(s:Int)(e:List (List Nat×List Nat))(f g:List Nat)(q:Nat)(o:List Nat×List Nat)(d c a:Option S)(v:f.length<=1000)(u:g.length<=1000)(w:2<=g.length):
  Run zn8 (eD b s e f q o d c (some (.sh (L g))) a) (λout=>∃h,out= .nx (eD b s e (adL f g g.length) q o d c (some (.sh (L g))) h)):=by
 have r:=v3;have n:∀f a,mlen (bvar 9) (eD b s e f q o d c (some (.sh (L g))) a)=some (.int (g.length:Int)):=λf a=>by rw[u7 rfl,aL]
 show y6 (ρ':=eD b s e (adL f g 2) q o d c (some (.sh (L g))) a) ?_ ?_
 .have lf:mlen (bvar 3) (eD b s e f q o d c (some (.sh (L g))) a)=some (.int (f.length:Int)):=by rw[u7 rfl,aL]
  have p:F8 1 ((g.length:Int)-(f.length:Int))=true:=by delta F8;rw[aO aw,aO aw,aO aw];rfl
  have rp:=zp6 (x:=y8 (z6 (mc (.int 0)) anil)) (x8 (z0 rfl z7) (y7 ay)) ((y9 (n f a) lf).trans (show subD (.int (g.length:Int)) (.int (f.length:Int))=some (.int ((g.length:Int)-(f.length:Int)))from rfl)) p;rw[xr1,show ((g.length:Int)-(f.length:Int)).toNat=g.length-f.length by lia]at rp;show(f9 (c7 rfl rp (y7 (by rw[aL,aL,length_replicate];lia)))).trans ?_;rw[<-bN,xf7];rfl
 .refine j6 (g.length-2) (f:=λ(i:Nat)=>D.int (2+(i:Int))) ?_ (I:=λk j=>∃a,j=eD b s e (adL f g (2+k)) q o d c (some (.sh (L g))) a) _ ⟨_,rfl⟩ ?_ ?_
  .delta w4;rw[z0 rfl (z0 (n _ _) z7),aI,K0 ay (Y1 aw aw),show ((g.length:Int)-2).toNat=g.length-2 by lia];rfl
  .rintro k j hk ⟨a,rfl⟩;show⟨eD b s e (adL f g (2+k)) q o d c (some (.sh (L g))) (some (.sh (.int (2+(k:Int))))),rfl,?_⟩;have m:2+k<max f.length g.length:=aw;have l:mvar 10 (eD b s e (adL f g (2+k)) q o d c (some (.sh (L g))) (some (.sh (.int (2+(k:Int))))))=some (.int ((2+k:Nat):Int)):=rfl;have t:atI ((adL f g (2+k)).map dN) ((2+k:Nat):Int)=some (dN (adN f g (2+k) (2+k))):=by rw[E4 _ _ (by rw[Z8];show m),aE,zs0 _ _ _ _ m];rfl
   show⟨_,yu0 rfl l ((y9 (w6 rfl l t) (w6 rfl l (E4 _ _ aw))).trans rfl) (by rw[Z8];show m),?_⟩;rw[xf8 f g (2+k) aw aw];show⟨_,rfl⟩
  .rintro j ⟨a,rfl⟩;rw[show 2+(g.length-2)=g.length by lia];show⟨_,rfl⟩
def eG(a:List Int)(s:Int)(en:List (List Nat×List Nat))(f:List Nat)(o4 o5 o6 o7 o8 o9 o10:Option S):Ro:=
 [k0a a,k0c s,some (.own (en.map LP)),some (.own (f.map dN)),o4,o5,o6,o7,o8,o9,o10]
theorem zo4(a:List Int)(s:Int)(hs:1<=s)(hr:a.length<=300):zh5 [.lst (a.map .int),.int s]=some (.fr ((foL a s a.length).map dN)):=by
 have big:=v3;have i2:2<=sizeLine:=y7 ay;delta zh5;suffices key:Run xf0 (u8 11 [.lst (a.map .int),.int s]) (λo=>∃es,o= .rf es/\es=(foL a s a.length).map dN)by let⟨es,e,h⟩:=E7 key;rw[e,h]
 show y6 ((f9 (x8 z7 (aW _))).trans rfl) ?_;show y6 (ρ':=eG a s [] (foL a s 0) none none none none none none none) ?_ ?_
 .have lr:mlen (bvar 0) [k0a a,k0c s,some (.own []),none,none,none,none,none,none,none,none]=some (.int (a.length:Int)):=by rw[u7 rfl,aL]
  have c:=x8 (z0 (x:=mc (.int 1)) rfl (z0 lr z7)) i2;have hc:mcut (y8 (z6 (mc (.int 1)) (z6 (mlen (bvar 0)) anil))) W6 (k9 (m2 addD (mc (.int 1)) (mlen (bvar 0)))) [k0a a,k0c s,some (.own []),none,none,none,none,none,none,none,none]=some ((foL a s 0).map dN):=by delta mcut;rw[c,aI];delta k9;rw[(y9 rfl lr).trans (rfl)];show some (cutL ([1,a.length].map dN) none (some (1+(a.length:Int))))=_;rw[V2,show (1+(a.length:Int))=((1+a.length:Nat):Int)by lia,yy8];rfl
  show(f9 hc).trans rfl
 have ee:w4 Q8 (z6 (mvar 0) anil) (eG a s [] (foL a s 0) none none none none none none none)=some ((List.range a.length).map λ(i:Nat)=>D.tup [.int (i:Int),.int (xr a i)]):=by delta w4;rw[z0 rfl z7,aI];show some (V9 0 (a.map .int))=_;rw[N7];congr 1;apply ba;intro i _;rw[cg]
 show m8 (j6 a.length ee (I:=λq ρ=>∃o4 o5 o6 o7 o8 o9 o10,ρ=eG a s (enL a s q) (foL a s q) o4 o5 o6 o7 o8 o9 o10) _ ⟨_,_,_,_,_,_,_,rfl⟩ ?_ ?_)
 .rintro q ρ hq ⟨o4,o5,o6,o7,o8,o9,o10,rfl⟩;show⟨eG a s (enL a s q) (foL a s q) (k0b q) (some (.sh (.int (xr a q)))) o6 o7 o8 o9 o10,rfl,?_⟩;have hen:=yy4 a s q;have hbd:=yr8 a s q;have hfl:=yy0 a s q;show y6 (ρ':=eC a s (enL a s q) (foL a s q) q (owL a s (enL a s q) q 0) o7 o8 o9 o10) ?_ ?_
  .have c:=λρ=>x8 (ρ:=ρ) (z0 (x:=mc (.int 0)) rfl (z0 (x:=mc (.int 1)) rfl z7)) i2;show(f9 (x8 (z0 (t7 (c _)) (z0 (t7 (c _)) z7)) i2)).trans rfl
  show m8 (j6 q (f:=λ(i:Nat)=>D.int (0+(i:Int))) ?_ (I:=λj ρ=>∃o7 o8,ρ=eC a s (enL a s q) (foL a s q) q (owL a s (enL a s q) q j) o7 o8 o9 o10) _ ⟨_,_,rfl⟩ ?_ ?_)
  .delta w4;rw[z0 rfl z7,aI,B8 (Y1 aw aw),bB];rfl
  .rintro j ρ hj ⟨o7,o8,rfl⟩;let⟨o8',e⟩:=wt6 a s hs hr (enL a s q) (foL a s q) q j hq hj hen hbd o8 o9 o10;show⟨_,by rw[Int.zero_add];rfl,_,e,_,_,rfl⟩
  .rintro ρ ⟨o7,o8,rfl⟩;have hol:=zz0 a s (enL a s q) q hbd q;have ho2:=yc3 a s (enL a s q) q q;have hnx:enL a s (q+1)=enL a s q++[owL a s (enL a s q) q q]:=rfl;have hfx:foL a s (q+1)=adL (adL (foL a s q) (owL a s (enL a s q) q q).1 (owL a s (enL a s q) q q).1.length) (owL a s (enL a s q) q q).2 (owL a s (enL a s q) q q).2.length:=rfl;generalize owL a s (enL a s q) q q=o at hol ho2 hnx hfx;show X4 rfl ?_;show y6 (ρ':=eD a s (enL a s q++[o]) (foL a s q) q o o7 o8 o9 o10) ?_ ?_
   .refine(wr5 rfl rfl (by rw[aL,hen];lia)).trans ?_;delta eD;rw[bN];rfl
   show j6 2 (f:=λ(i:Nat)=>if i=0 then L o.1 else L o.2) (j3 rfl) (I:=λk ρ=>∃o9 o10,ρ=eD a s (enL a s q++[o]) (if k=0 then foL a s q else if k=1 then adL (foL a s q) o.1 o.1.length else adL (adL (foL a s q) o.1 o.1.length) o.2 o.2.length) q o o7 o8 o9 o10) _ ⟨_,_,rfl⟩ ?_ ?_
   .rintro k ρ hk ⟨o9,o10,rfl⟩;rcases (show k=0\/k=1 by lia)with rfl|rfl
    .let⟨out,e,o10',h⟩:=xt7 a s (enL a s q++[o]) (foL a s q) o.1 q o o7 o8 o10 aw aw ho2.1;show⟨_,rfl,out,e,by rw[h];show⟨_,_,rfl⟩⟩
    .let⟨out,e,o10',h⟩:=xt7 a s (enL a s q++[o]) (adL (foL a s q) o.1 o.1.length) o.2 q o o7 o8 o10 (by rw[Z8];lia) aw ho2.2;show⟨_,rfl,out,e,by rw[h];show⟨_,_,rfl⟩⟩
   .rintro ρ ⟨o9,o10,rfl⟩;show⟨some (.sh (.int (q:Int))),some (.sh (.int (xr a q))),some (.sh (LP o)),o7,o8,o9,o10,?_⟩;rw[hnx,hfx];rfl
 .rintro ρ ⟨o4,o5,o6,o7,o8,o9,o10,rfl⟩;show⟨_,rfl,_,rfl,rfl⟩
theorem k6{l:List Nat}{m:Nat}(h:l.length<=m):l.getD m 0=0:=by rw[aE,aY h];rfl
theorem A8(a b:List Nat)(m:Nat):(ptL a b b.length).getD m 0=a.getD m 0+(if 1<=m then b.getD (m-1) 0 else 0):=by
 by_cases h:m<max a.length (b.length+1)
 .rw[aE,zu2 a b _ m h];show ptN a b b.length m=_;delta ptN;by_cases c:1<=m
  .by_cases h2:m<=b.length
   .rw[aH ⟨c,h2⟩,aH c]
   .rw[aF ax,aH c,k6 (l:=b) ax]
  .rw[aF ax,aF c]
 .rw[k6 (by rw[d6];omega),k6 ax];by_cases c:1<=m
  .rw[aH c,k6 ax]
  .rw[aF c]
theorem P8(f o:List Nat)(m:Nat):(adL f o o.length).getD m 0=f.getD m 0+(if 2<=m then o.getD m 0 else 0):=by
 by_cases h:m<max f.length o.length
 .rw[aE,zs0 f o _ m h];show adN f o o.length m=_;delta adN;by_cases a:2<=m
  .by_cases h2:m<o.length
   .rw[aH ⟨a,h2⟩,aH a]
   .rw[aF aw,aH a,k6 (l:=o) aw]
  .rw[aF aw,aF a]
 .rw[k6 (by rw[Z8];lia),k6 aw];by_cases a:2<=m
  .rw[aH a,k6 aw]
  .rw[aF a]
def Rt(a:List Int)(s:Int)(e:List Nat×List Nat)(p:Nat):Prop:=∀d,(gp e d).getD 0 0=0/\∀m,(gp e d).getD (m+1) 0=ecnt a s m d p
theorem wf6{s:Int}{d:Bool}{p q:Nat}(h:p<q)(b:far s d (xr a p) (xr a q)):rl a s d p q=1:=by delta rl;rw[aH ⟨h,b⟩]
theorem wf5{s:Int}{d:Bool}{p q:Nat}(b:¬ far s d (xr a p) (xr a q)):rl a s d p q=0:=by delta rl;rw[aF λz=>b z.2]
theorem xc4(a:List Int)(s:Int)(l:1<=s)(f:List (List Nat×List Nat))(q:Nat)(h:∀p,p<q->Rt a s (f.getD p ([],[])) p):∀j,j<=q->∀d,(gp (owL a s f q j) d).getD 0 0=0/\∀m,(gp (owL a s f q j) d).getD (m+1) 0=if m=0 then 1 else sm j λp=>rl a s d p q*ecnt a s (m-1) (!d) p
 |0,_,d=>by
  have e:gp (owL a s f q 0) d=[0,1]:=by ext d <;> rfl
  rw[e];show⟨rfl,λm=>?_⟩;cases m with
  |zero=>rfl
  |succ m=>rw[aF aw];show k6 (by show 2<=_;lia)
 |j+1,hj,d=>by
  let⟨k,i⟩:=xc4 a s l f q h j aw d;have n:=h j aw (!d);have g:∀b,((far s d (xr a j) (xr a q))->b=ptL (gp (owL a s f q j) d) (gp (f.getD j ([],[])) (!d)) (gp (f.getD j ([],[])) (!d)).length)->(¬ far s d (xr a j) (xr a q)->b=gp (owL a s f q j) d)->
    b.getD 0 0=0/\∀m,b.getD (m+1) 0=if m=0 then 1 else sm (j+1) λp=>rl a s d p q*ecnt a s (m-1) (!d) p:=λb r o=>by
   by_cases c:far s d (xr a j) (xr a q)
   .rw[r c];show⟨by rw[A8,k,aF aw],λm=>?_⟩;rw[A8,i,aH (show 1<=m+1 by lia),cA];cases m with
    |zero=>rw[aH rfl,aH rfl,n.1]
    |succ m=>rw[aF (show ¬ m+1=0 by lia),aF (show ¬ m+1=0 by lia),h7,wf6 aw c,Nat.one_mul,n.2,cA]
   .rw[o c];show⟨k,λm=>?_⟩;rw[i,h7,wf5 c,Nat.zero_mul,cG]
  apply g
  .intro c;cases d with
   |true=>rw[owL,aH c];rfl
   |false=>rw[owL,aF (show ¬ far s true (xr a j) (xr a q)from zo6 l c),aH c];rfl
  .intro c;cases d with
   |true=>rw[owL,aF c];split <;> rfl
   |false=>
    rw[owL];split
    .rfl
    .rfl
theorem wh2(n q:Nat)(b:q<=n)(f:Nat->Nat)(h:∀p,q<=p->f p=0):sm n f=sm q f:=by
 induction n with
 |zero=>rw[show q=0 by lia]
 |succ n a=>
  by_cases e:q=n+1
  .rw[e]
  .rw[h7,h n aw,a aw,cG]
theorem wb6(a:List Int)(s:Int)(e:1<=s)(c:List (List Nat×List Nat))(q:Nat)(f:q<=a.length)(b:∀p,p<q->Rt a s (c.getD p ([],[])) p):Rt a s (owL a s c q q) q:=λd=>by
 let⟨h,g⟩:=xc4 a s e c q b q (aK _) d;show⟨h,λm=>?_⟩;rw[g];cases m with
 |zero=>rfl
 |succ m=>rw[aF aw,ecnt,wh2 a.length q f _ λp i=>by delta rl;rw[aF aw,Nat.zero_mul]];rfl
theorem vv7(a:List Int)(s:Int)(c:1<=s):∀q,q<=a.length->∀p,p<q->Rt a s ((enL a s q).getD p ([],[])) p
 |0,_,p,hp=>by lia
 |q+1,f,p,hp=>by
  have b:=vv7 a s c q aw;have d:=yy4 a s q;rw[enL,aE];by_cases e:p<q
  .rw[bW aw,<-aE];show b p e
  .have e:p=q:=aw;subst e;rw[cr aw,d,Nat.sub_self];show wb6 a s c _ p aw b
theorem xb6(d:List Int)(s:Int)(hs:1<=s):∀q,q<=d.length->(foL d s q).getD 0 0=1/\(foL d s q).getD 1 0=d.length/\∀m,(foL d s q).getD (m+2) 0=sm q λp=>ecnt d s (m+1) true p+ecnt d s (m+1) false p
 |0,_=>by
  have e:foL d s 0=[1,d.length].take (1+d.length):=rfl;show⟨?_,?_,λm=>?_⟩
  .rw[e];cases h:d.length with
   |zero=>rfl
   |succ n=>rw[show 1+(n+1)=n+2 by lia];rfl
  .rw[e];cases h:d.length with
   |zero=>rfl
   |succ n=>rw[show 1+(n+1)=n+2 by lia];rfl
  .exact k6 (by have:=yy0 d s 0;lia)
 |q+1,hq=>by
  let⟨a,b,c⟩:=xb6 d s hs q aw;have hR:=wb6 d s hs (enL d s q) q aw (vv7 d s hs q aw);rw[foL];generalize owL d s (enL d s q) q q=o at hR;have h1:∀m,o.1.getD (m+1) 0=ecnt d s m true q:=(hR true).2;have h2:∀m,o.2.getD (m+1) 0=ecnt d s m false q:=(hR false).2;show⟨?_,?_,λm=>?_⟩
  .rw[P8,P8,a,aF aw,aF aw]
  .rw[P8,P8,b,aF aw,aF aw];rfl
  .rw[P8,P8,c,aH aw,aH aw,h1,h2,h7,dL]
def Lst(l:List Nat):Prop:=1<=l.length/\l.getD (l.length-1) 0≠0
theorem xq7(e:Lst a)(d:Lst b)(h:∀m,a.getD m 0=b.getD m 0):a=b:=by
 have f:a.length=b.length:=by
  rcases Nat.lt_trichotomy a.length b.length with z|z|z
  .exact aV ((h (b.length-1)).symm.trans (k6 aw)) d.2
  .exact z
  .exact aV ((h (a.length-1)).trans (k6 aw)) e.2
 show db λm=>?_;by_cases c:m<a.length
 .have:=h m;rw[aE,aE,aG c,aG aw]at this;rw[aG c,aG aw];show bf some this
 .rw[aY aw,aY aw]
theorem yg9(d:Lst a)(c:Lst b):Lst (ptL a b b.length):=by
 let⟨i,g⟩:=d;let⟨e,f⟩:=c;delta Lst;rw[d6,A8];show⟨aw,?_⟩;by_cases h:b.length+1<=a.length
 .rw[show max a.length (b.length+1)=a.length by lia];lia
 .rw[show max a.length (b.length+1)-1=b.length by lia,aH e];lia
theorem xt8(b:Lst f)(c:2<=f.length)(a:Lst o):Lst (adL f o o.length)/\2<=(adL f o o.length).length:=by
 let⟨i,g⟩:=b;let⟨e,d⟩:=a;delta Lst;rw[Z8,P8];show⟨⟨aw,?_⟩,aw⟩;by_cases h:o.length<=f.length
 .rw[show max f.length o.length=f.length by lia];lia
 .lia
theorem yc2(e:List Int)(s:Int)(c:List (List Nat×List Nat))(q:Nat)(b:∀p,p<q->∀d,Lst (gp (c.getD p ([],[])) d)):∀j,j<=q->Lst (owL e s c q j).1/\Lst (owL e s c q j).2
 |0,_=>⟨⟨by show 1<=2;lia,by show 1≠0;lia⟩,⟨by show 1<=2;lia,by show 1≠0;lia⟩⟩
 |j+1,g=>by
  have a:=yc2 e s c q b j aw;have f:=b j aw;unfold owL;split
  .exact⟨yg9 a.1 (f false),a.2⟩
  .split
   .exact⟨a.1,yg9 a.2 (f true)⟩
   .exact a
theorem xa1(a:List Int)(s:Int):∀q p,p<q->∀d,Lst (gp ((enL a s q).getD p ([],[])) d)
 |0,p,hp,d=>by lia
 |q+1,p,hp,d=>by
  have b:=xa1 a s q;have c:=yy4 a s q;rw[enL,aE];by_cases e:p<q
  .rw[bW aw,<-aE];show b p e d
  .have e:p=q:=aw;subst e;rw[cr aw,c,Nat.sub_self];have:=yc2 a s (enL a s p) p b p (aK _);ext d
   .exact this.2
   .exact this.1
theorem xb7(f:List Int)(s:Int)(g:1<=f.length):∀q,Lst (foL f s q)/\2<=(foL f s q).length
 |0=>by
  have e:foL f s 0=[1,f.length]:=by show [1,f.length].take (1+f.length)=_;show dC (by show 2<=_;lia)
  rw[e];show⟨⟨by show 1<=2;lia,by show f.length≠0;lia⟩,aK _⟩
 |q+1=>by let⟨a,b⟩:=xb7 f s g q;have h:=yc2 f s (enL f s q) q (xa1 f s q) q (aK _);rw[foL];let⟨c,d⟩:=xt8 a b h.1;show xt8 c d h.2
theorem yp3{s:Int}{k:Nat}(h:anyB a s k=false):∀p,p<a.length->bgn a s k p=0:=λp b=>by delta anyB at h;rw[any_eq_false]at h;have:=h (bgn a s k p) (bj.mpr ⟨p,bq.mpr b,rfl⟩);simpa using this
theorem yj7{s:Int}{k:Nat}(h:∀p,p<a.length->bgn a s k p=0):cN a s k=0:=by show sm a.length (bgn a s k)=0;rw[f6 h,zr4]
theorem yj6{s:Int}{k:Nat}(h:∀p,p<a.length->bgn a s k p=0):∀p,p<a.length->bgn a s (k+1) p=0:=λp f=>by
 cases k with
 |zero=>show aV (h p f) (by show 1≠0;lia)
 |succ k=>
  have g:∀d q,q<a.length->cnt a s (k+1) d q=0:=λd q b=>by have:=h q b;have e:bgn a s (k+1) q=cnt a s (k+1) true q+cnt a s (k+1) false q:=rfl;ext d <;> lia
  have c:∀d,cnt a s (k+1+1) d p=0:=λd=>by rw[xa3 a s (k+1) d p f,f6 λq b=>by rw[g (!d) q b,Nat.mul_zero],zr4]
  show cnt a s (k+1+1) true p+cnt a s (k+1+1) false p=0;rw[c,c]
theorem zm4{a:List Int}{s:Int}{J:Nat}(h:∀p,p<a.length->bgn a s J p=0):∀i p,p<a.length->bgn a s (J+i) p=0
 |0=>h
 |i+1=>yj6 (zm4 h i)
theorem vu1{s:Int}{J:Nat}(h:zw0 a s (a.length:Int) J)(m:Nat)(c:J<=m):cN a s m=0:=by
 let⟨e,d,b⟩:=h;rcases b with b|b
 .exact yj7 (yp3 (yp4 a s m aw))
 .have:=zm4 (yp3 b) (m-J);rw[show J+(m-J)=m by lia]at this;show yj7 this
theorem vu6{s:Int}{k:Nat}(h:anyB c s k=true):cN c s k≠0:=λz=>by
 delta anyB at h;rw[any_eq_true]at h;let⟨v,g,d⟩:=h;have:∀l:List Nat,l.sum=0->∀x∈l,x=0:=λl=>by
  induction l with
  |nil=>intro _ x b;ext b
  |cons a l f=>
   intro e x b;rw[dv]at e;rcases aT.mp b with r|r
   .lia
   .exact f aw x r
 have:=this _ z v g;rw[this]at d;simp at d
theorem yx1(d:List Int)(s:Int)(i:1<=s){J:Nat}(h:zw0 d s (d.length:Int) J):foL d s d.length=1::(List.range J).map λk=>(BL d s k).sum:=by
 by_cases g:d.length=0
 .have e:J=0:=by have:=h.1;lia
  rw[e,g];show [1,d.length].take (1+d.length)=_;rw[g];rfl
 have f:∀m,(1::(List.range J).map λk=>(BL d s k).sum).getD (m+1) 0=cN d s m:=λm=>by
  show ((List.range J).map λk=>(BL d s k).sum).getD m 0=_;by_cases j:m<J
  .rw[aE,bn,cw j];rfl
  .rw[k6 (by rw[aL,length_range];lia),vu1 h m aw]
 show xq7 (xb7 d s aw d.length).1 ⟨by rw[bA];lia,?_⟩ λm=>?_
 .rw[bA,aL,length_range,cA];rcases Nat.eq_zero_or_pos J with e|e
  .rw[e];show 1≠0;lia
  .have:=f (J-1);rw[show J-1+1=J by lia]at this;rw[this];show vu6 (h.2.1 (J-1) aw).1
 .let⟨a,b,c⟩:=xb6 d s i d.length (aK _);rcases m with _|_|m
  .rw[a];rfl
  .rw[b,f 0,xv7]
  .rw[c,f (m+1),wo4]
section
variable {s:Int}
theorem yi3{k:Nat}:∀(l:List Nat)(p:Nat)(d:Bool),Wd x n s d (p::(l++[k]))->Wd x n s d (p::l)
 |[],p,d,h=>de h.1 h.2.2
 |q::l,p,d,h=>⟨h.1,h.2.1,yi3 l q (!d) h.2.2⟩
theorem yv6{k:Nat}:∀(l:List Nat)(p:Nat)(d:Bool),Wd x n s d (p::(l++[k]))->∀y∈p::l,y<k
 |[],p,d,h,y,a=>by rw[aZ.mp a];show h.1
 |q::l,p,d,h,y,a=>by
  have b:=yv6 l q (!d) h.2.2;rcases aT.mp a with e|a
  .rw[e];show de h.1 (b q az)
  .exact b y a
theorem yj8{k:Nat}(h:Wv x n s (l++[k])):Wv x n s l/\(∀y∈l,y<k)/\k<n:=by
 rcases h with h|⟨d,h⟩
 .simp at h
 .have hk:=zm6 (.inr ⟨d,h⟩) k az;cases l with
  |nil=>show⟨.inl rfl,λy a=>(by ext a),hk⟩
  |cons p l=>show⟨.inr ⟨d,yi3 l p d h⟩,yv6 l p d h,hk⟩
theorem wj4:Wv x n s []:=.inl rfl
end
noncomputable def AL(t:List Nat->Bool):Nat->Qe
 |0=>[[]]
 |k+1=>AL t k++((AL t k).map λl=>l++[k]).filter t
section
variable {x:Nat->Int}{n:Nat}{s:Int}{t:List Nat->Bool}(d:∀k l,k<n->Wv x n s l->(∀y∈l,y<k)->(t (l++[k])=true↔Wv x n s (l++[k])))
include d
theorem xt6:∀k,k<=n->∀l,l∈AL t k↔Wv x n s l/\∀y∈l,y<k
 |0,_,l=>by
  rw[AL,dy];constructor
  .rintro rfl;show⟨wj4,λy c=>by cases c⟩
  .rintro⟨_,h⟩;cases l with
   |nil=>rfl
   |cons p l=>show aV (h p az) aw
 |k+1,m,l=>by
  have f:=xt6 k aw;rw[AL,mem_append,f,mem_filter,mem_map];constructor
  .rintro(⟨h1,h2⟩|⟨⟨a,ha,rfl⟩,h2⟩)
   .exact⟨h1,λy c=>bK (h2 y c)⟩
   .have ha:=(f a).mp ha;show⟨(d k a aw ha.1 ha.2).mp h2,λy c=>?_⟩;rcases bz.mp c with z|z
    .exact bK (ha.2 y z)
    .rw[aZ.mp z];show bZ _
  .rintro⟨h1,h2⟩;rcases ec l with rfl|⟨a,b,rfl⟩
   .exact .inl ⟨h1,λy c=>by cases c⟩
   .rw[eh]at h1 h2 ⊢;let⟨w,g,i⟩:=yj8 h1;have j:=h2 b az;by_cases e:b=k
    .subst e;show .inr ⟨⟨a,(f a).mpr ⟨w,g⟩,rfl⟩,(d b a aw w g).mpr h1⟩
    .refine .inl ⟨h1,λy c=>?_⟩;rcases bz.mp c with z|z
     .have:=g y z;lia
     .rw[aZ.mp z];lia
theorem yp6:∀k,k<=n->(AL t k).Nodup
 |0,_=>by rw[AL];simp
 |k+1,l=>by
  have f:=yp6 k aw;have g:=xt6 d k aw;rw[AL];unfold List.Nodup at f ⊢;rw[pairwise_append];show⟨f,List.Pairwise.filter _ ?_,λa j b i e=>?_⟩
  .rw[pairwise_map];show f.imp λh e=>h (append_cancel_right e)
  .let⟨⟨c,hc,rfl⟩,_⟩:=(dO.mp i).imp (λz=>bj.mp z) id;have:=((g a).mp j).2 k (by rw[e];simp);lia
end
end
section
open PySem L2
def eV3(a:List Int)(s:Int)(l:List Nat)(o3 o4 o5:Option S):Ro:=[k0a a,k0c s,some (.sh (L l)),o3,o4,o5]
def bad(a:List Int)(s:Int)(l:List Nat)(i:Nat):Bool:=
 decide (((xr a (l.getD i 0)-xr a (l.getD (i-1) 0)).natAbs:Int)<s) || (decide (1<i)&&(decide (0<xr a (l.getD i 0)-xr a (l.getD (i-1) 0))==decide (xr a (l.getD (i-2) 0)<xr a (l.getD (i-1) 0))))
theorem wz1(a:List Int)(s:Int)(l:List Nat)(v:∀y∈l,y<a.length)(i:Nat)(z:1<=i)(x:i<l.length)(d b:Option S):
  ∃n k,C2 (eV3 a s l (k0b i) d b)=some (if bad a s l i then .rt (.bl false)else .nx (eV3 a s l (k0b i) n k)):=by
 have h:∀(j:Nat)(m:ME)(d b:Option S),j<l.length->m (eV3 a s l (k0b i) d b)=some (.int (j:Int))->mix (bvar 0) (mix (bvar 2) m) (eV3 a s l (k0b i) d b)=some (.int (xr a (l.getD j 0))):=λj m d b g u=>
  w6 rfl (w6 rfl u (E4 l j g)) (L4 a _ ((λj g=>v _ (by rw[aE,aG g];show dj _)) j g))
 have q:∀(c:Nat)(d b:Option S),c<=i->m2 subD (mvar 3) (mc (.int (c:Int))) (eV3 a s l (k0b i) d b)=some (.int ((i-c:Nat):Int)):=λc d b w=>by rw[y9 rfl rfl];show some (D.int ((i:Int)-(c:Int)))=_;rw[Int.ofNat_sub w]
 show⟨some (.sh (.int (xr a (l.getD (i-1) 0)))),some (.sh (.int (xr a (l.getD i 0)-xr a (l.getD (i-1) 0)))),?_⟩;delta C2;rw[zz3 (ρ':=eV3 a s l (k0b i) (some (.sh (.int (xr a (l.getD (i-1) 0))))) b) ((v4 (h (i-1) _ _ _ ax (show m2 subD (mvar 3) (mc (.int 1)) _=_ from q 1 _ _ z))).trans rfl)];rw[zz3 (ρ':=eV3 a s l (k0b i) (some (.sh (.int (xr a (l.getD (i-1) 0))))) (some (.sh (.int (xr a (l.getD i 0)-xr a (l.getD (i-1) 0)))))) ((v4 ((y9 (h i (mvar 3) _ _ x rfl) rfl).trans rfl)).trans rfl)];generalize o:eV3 a s l (k0b i) (some (.sh (.int (xr a (l.getD (i-1) 0))))) (some (.sh (.int (xr a (l.getD i 0)-xr a (l.getD (i-1) 0)))))=E;have f:y0 (m2 ltD (w5 absF (z6 (mvar 5) anil)) (mvar 1)) E=some (decide (((xr a (l.getD i 0)-xr a (l.getD (i-1) 0)).natAbs:Int)<s)):=by rw[<-o];show u9 ((y9 (xt9 rfl) rfl).trans rfl)
 have e:y0 (m2 gtD (mvar 3) (mc (.int 1))) E=some (decide (1<i)):=by rw[<-o];show u9 ((y9 rfl rfl).trans ?_);show some (D.bl (decide ((1:Int)<(i:Int))))=_;rw[dh.mpr (show ((1:Int)<(i:Int))↔1<i by omega)]
 have t:1<i->y0 (m2 eqSD (m2 gtD (mvar 5) (mc (.int 0))) (m2 gtD (mvar 4) (mix (bvar 0) (mix (bvar 2) (m2 subD (mvar 3) (mc (.int 2))))))) E=some (decide (0<xr a (l.getD i 0)-xr a (l.getD (i-1) 0))==decide (xr a (l.getD (i-2) 0)<xr a (l.getD (i-1) 0))):=λhi=>by rw[<-o];show u9 ((y9 ((y9 rfl rfl).trans rfl) ((y9 rfl (h (i-2) _ _ _ ax (q 2 _ _ ax))).trans rfl)).trans rfl)
 delta bad;by_cases r:((xr a (l.getD i 0)-xr a (l.getD (i-1) 0)).natAbs:Int)<s
 .rw[aO r]at f ⊢;delta mseq;rw[m6 f];rfl
 .rw[aP r]at f ⊢;rw[zz3 (by rw[m6 f];rfl),Bool.false_or];by_cases p:1<i
  .rw[aO p]at e ⊢;rw[m6 (zx4 e (t p)),dM];split <;> rfl
  .rw[aP p]at e ⊢;rw[m6 (by delta cand;rw[e])];rfl
def gd(a:List Int)(s:Int)(l:List Nat):Bool:=(List.range (l.length-1)).all λj=>!bad a s l (1+j)
theorem Q4(a:List Int)(s:Int)(l:List Nat)(n:∀y∈l,y<a.length)(o:l.length<=1000):zh4 [.lst (a.map .int),.int s,L l]=some (.sh (.bl (gd a s l))):=by
 show Y0 ?_;show m8 (j6 (l.length-1) (f:=λ(j:Nat)=>D.int (1+(j:Int))) ?_ (I:=λj d=>(∃g c b,d=eV3 a s l g c b)/\∀i,i<j->bad a s l (1+i)=false) _ ⟨⟨none,none,none,rfl⟩,λi hi=>by lia⟩ ?_ ?_)
 .have ll:mlen (bvar 2) (u8 6 [.lst (a.map .int),.int s,L l])=some (.int (l.length:Int)):=by rw[u7 rfl,aL]
  delta w4;rw[z0 rfl (z0 ll z7),aI,K0 ay (Y1 aw aw),show ((l.length:Int)-1).toNat=l.length-1 by lia];rfl
 .rintro j d h ⟨⟨g,c,b,rfl⟩,hb⟩;let⟨m,k,e⟩:=wz1 a s l n (1+j) aw aw c b;show⟨eV3 a s l (some (.sh (.int ((1+j:Nat):Int)))) c b,rfl,_,e,?_⟩;cases hbad:bad a s l (1+j)with
  |false=>
   show⟨⟨_,_,_,rfl⟩,λi hi=>?_⟩;by_cases z:i<j
   .exact hb i z
   .rw[show i=j by lia];show hbad
  |true=>
   have:gd a s l=false:=by delta gd;rw[all_eq_false];show⟨j,bq.mpr h,by rw[hbad];show bd⟩
   show Out.rt _=Out.rt _;rw[this]
 .rintro d ⟨⟨g,c,b,rfl⟩,hb⟩;have:gd a s l=true:=by delta gd;rw[all_eq_true];intro j h;rw[hb j (bq.mp h)];rfl
  show⟨_,rfl,?_⟩;rw[this]
def t3(a:List Int)(s:Int)(l:List Nat):Bool:=gd a s (cutI l (some (-3)) none)
theorem vv8(T:List Nat)(a b c:Nat):cutI (T++[a,b,c]) (some (-3)) none=[a,b,c]:=by
 delta cutI;have e:HT.sIx (T++[a,b,c]).length 0 (some (-3))=T.length:=by show (if (-3:Int)<0 then ((-3:Int)+((T++[a,b,c]).length:Int)).toNat else min (-3:Int).toNat (T++[a,b,c]).length)=_;simp;lia
 rw[e,HT.sIx_none,drop_left,bV];show [a,b,c].take (T.length+3-T.length)=_;rw[show T.length+3-T.length=3 by lia];rfl
theorem wy3(c:List Int)(s:Int)(A:1<=s)(k:Nat)(l:List Nat)(q:k<c.length)(hw:Wv (xr c) c.length s l)(n:∀y∈l,y<k):t3 c s (l++[k])=true↔Wv (xr c) c.length s (l++[k]):=by
 have fr:∀a b:Nat,(∃d,far s d (xr c a) (xr c b))↔¬ ((xr c b-xr c a).natAbs:Int)<s:=λa b=>by
  constructor
  .rintro⟨d,h⟩;ext d
   .have:s<=xr c a-xr c b:=h;omega
   .have:s<=xr c b-xr c a:=h;omega
  .intro h;by_cases z:s<=xr c b-xr c a
   .exact⟨true,z⟩
   .exact⟨false,show s<=xr c a-xr c b by omega⟩
 rcases ec l with rfl|⟨x,p,rfl⟩
 .constructor
  .intro _;show .inr ⟨true,q⟩
  .intro _;rfl
 rw[eh]at hw n ⊢;have g:=n p az;rcases ec x with rfl|⟨T,o,rfl⟩
 .have e:t3 c s ([]++[p]++[k])= !bad c s [p,k] 1:=by show (!bad c s [p,k] 1&&true)=_;rw[Bool.and_true]
  rw[e];have C:bad c s [p,k] 1=decide (((xr c k-xr c p).natAbs:Int)<s):=by show (decide (((xr c k-xr c p).natAbs:Int)<s) || (decide (1<1)&&_))=_;rw[show decide (1<1)=false from rfl,Bool.false_and,Bool.or_false]
  rw[C,Bool.not_eq_true',decide_eq_false_iff_not,<-fr p k];constructor
  .rintro⟨d,h⟩;show .inr ⟨d,g,h,q⟩
  .rintro(h|⟨d,h⟩)
   .cases h
   .exact⟨d,h.2.1⟩
 .rw[eh]at hw n ⊢;have w:T++[o]++[p]++[k]=T++[o,p,k]:=by simp
  have D:T++[o]++[p]=T++[o,p]:=by simp
  rw[D]at hw;have B:∃j,Wd (xr c) c.length s j (T++[o,p]):=by
   rcases hw with z|z
   .simp at z
   .exact z
  let⟨j,i⟩:=B;let⟨d,m⟩:=O0 T j i;have f:=m.2.1;have e:t3 c s (T++[o]++[p]++[k])=(!bad c s [o,p,k] 1&& !bad c s [o,p,k] 2):=by rw[w];delta t3;rw[vv8];show (!bad c s [o,p,k] 1&&(!bad c s [o,p,k] 2&&true))=_;rw[Bool.and_true]
  have F:bad c s [o,p,k] 1=false:=by show (decide (((xr c p-xr c o).natAbs:Int)<s) || (decide (1<1)&&_))=_;rw[show decide (1<1)=false from rfl,Bool.false_and,Bool.or_false];show aP ((fr o p).mp ⟨d,f⟩)
  have E:bad c s [o,p,k] 2=(decide (((xr c k-xr c p).natAbs:Int)<s) || (decide (0<xr c k-xr c p)==decide (xr c o<xr c p))):=rfl;rw[e,F,Bool.not_false,dM,E,Bool.not_or,ej,Bool.not_eq_true',decide_eq_false_iff_not,<-fr p k,Bool.not_eq_true',w];constructor
  .rintro⟨⟨e,h⟩,hne⟩;have r:e= !d:=by
    ext d <;> ext e
    .have a1:s<=xr c o-xr c p:=f;have u:s<=xr c p-xr c k:=h;rw[aP (show ¬ 0<xr c k-xr c p by omega),aP (show ¬ xr c o<xr c p by omega)]at hne;ext hne
    .rfl
    .rfl
    .have a1:s<=xr c p-xr c o:=f;have u:s<=xr c k-xr c p:=h;rw[aO (show 0<xr c k-xr c p by omega),aO (show xr c o<xr c p by omega)]at hne;ext hne
   subst r;have:=zd7 A f g q h T j i;rw[show T++[o,p]++[k]=T++[o,p,k]by simp]at this;show .inr ⟨j,this⟩
  .rintro(z|⟨d1,z⟩)
   .simp at z
   .let⟨d2,h2⟩:=O0 T d1 z;have v:=h2.2.1;have t:=h2.2.2.2.1;show⟨⟨_,t⟩,?_⟩;ext d2
    .have a1:s<=xr c o-xr c p:=v;have u:s<=xr c k-xr c p:=t;rw[aO (show 0<xr c k-xr c p by omega),aP (show ¬ xr c o<xr c p by omega)];rfl
    .have a1:s<=xr c p-xr c o:=v;have u:s<=xr c p-xr c k:=t;rw[aP (show ¬ 0<xr c k-xr c p by omega),aO (show xr c o<xr c p by omega)];rfl
def eA(a:List Int)(s:Int)(A:Qe)(o3 o4:Option S):Ro:=[k0a a,k0c s,some (.sh (.lst (A.map L))),o3,o4]
theorem xh3{y:Nat}(h:y∈cutI l (some (-3)) none):y∈l:=by show mem_of_mem_drop (mem_of_mem_take h)
theorem wk3(c:List Int)(s:Int)(A:Qe)(k:Nat)(q:k<c.length)(x:c.length<=300)(C:A.length<=10000)(m:∀l∈A,l.length<=300/\∀y∈l,y<c.length)(j:Option S):
  ∃g,C1 (eA c s A (k0b k) j)=some (.nx (eA c s (A++(A.map λl=>l++[k]).filter (t3 c s)) (k0b k) g)):=by
 have n:1<=sizeLine:=y7 ay;have w:t9 [none,some 3] (u4 (mvar 2)) (.nm 0) cyes (mlst (mcat (bvar 0) (y8 (z6 (mvar 1) anil)))) (eA c s A (k0b k) j)=some ((A.map λl=>l++[k]).map L):=by
  delta t9;show c9 _ _ _ _ [none,k0b k] []=_;rw[i8 (G:=λl=>L (l++[k])) (λf e=>(∀a∈f,a.length<=300)/\∃o,e=[o,k0b k]) (by rintro a f e ⟨d,o,rfl⟩;show⟨[some (.sh (L a)),k0b k],rfl,rfl,?_,λz h=>d z (by simp[h]),_,rfl⟩;have:=d a az;rw[t7 (c7 rfl (x8 (z0 rfl z7) n) (y7 (by rw[aL];show a.length+1<=_;lia)))];show some (D.lst (a.map dN++[k].map dN))=_;rw[<-bN];rfl) A _ [] ⟨λa d=>(m a d).1,none,rfl⟩ (y7 (by show 0+_<=_;lia)),cT,bw]
  rfl
 show⟨some (.sh (.lst ((A.map λl=>l++[k]).map L))),?_⟩;delta C1;rw[zz3 (ρ':=eA c s A (k0b k) (some (.sh (.lst ((A.map λl=>l++[k]).map L))))) ((v4 (t7 w)).trans rfl)];have v:t9 [none,some 0,some 1] (u4 (mvar 4)) (.nm 0) (mtru (u0 zh4 (z6 (mvar 1) (z6 (mvar 2) (z6 (mlst (mcut (bvar 0) (k9 (m1 negD (mc (.int 3)))) W6)) anil))))) (mvar 0) (eA c s A (k0b k) (some (.sh (.lst ((A.map λl=>l++[k]).map L)))))=some (((A.map λl=>l++[k]).filter (t3 c s)).map L):=by
  delta t9;show c9 _ _ _ _ [none,k0a c,k0c s] []=_;rw[k0 (p:=t3 c s) (λf e=>(∀a∈f,a.length<=301/\∀y∈a,y<c.length)/\∃o,e=[o,k0a c,k0c s]) (by
   rintro a f e ⟨d,o,rfl⟩;show⟨[some (.sh (L a)),k0a c,k0c s],rfl,?_,λ_=>rfl,λz h=>d z (by simp[h]),_,rfl⟩;have u:=d a az;have r:mcut (bvar 0) (k9 (m1 negD (mc (.int 3)))) W6 [some (.sh (L a)),k0a c,k0c s]=some ((cutI a (some (-3)) none).map dN):=by delta mcut;show some (cutL (a.map dN) (some (-3)) none)=_;rw[V2]
   show Y8 (w9 (z0 rfl (z0 rfl (z0 (t7 r) z7))) (Q4 c s (cutI a (some (-3)) none) (λy i=>u.2 y (xh3 i)) (by have:=xh4 a (some (-3)) none;lia)))) _ _ [] ⟨λa d=>by
    let⟨b,t,rfl⟩:=bj.mp d;have:=m b t;show⟨by rw[bV];show b.length+1<=_;lia,λy i=>?_⟩;rcases bz.mp i with z|z
    .exact this.2 y z
    .rw[aZ.mp z];show q,none,rfl⟩ (y7 (by rw[aL];show 0+_<=_;lia)),cT]
 have B:((A.map λl=>l++[k]).filter (t3 c s)).length<=A.length:=by have:=length_filter_le (t3 c s) (A.map λl=>l++[k]);rw[aL]at this;show this
 rw[v4 (t7 (c7 rfl v (y7 (by rw[aL,aL];lia)))),<-bN];rfl
noncomputable def IN(l:List Int):List Nat:=l.map Int.toNat
theorem vr3(l:List Nat):IN (NI l)=l:=by delta IN NI;simp[Function.comp_def]
theorem vr0(l:List Nat):L l=lsD (NI l):=by show D.lst (l.map dN)=D.lst ((NI l).map .int);delta NI;rw[bw];rfl
theorem lx_I:∀a b:List Nat,lxI (NI a) (NI b)=lx a b
 |[],[]=>rfl
 |[],_::_=>rfl
 |_::_,[]=>rfl
 |p::a,q::b=>by
  show (decide ((p:Int)<(q:Int)) || (decide ((p:Int)=(q:Int))&&lxI (NI a) (NI b)))=lx (p::a) (q::b);rw[lx_I a b];show _=(decide (p<q) || ((p==q)&&lx a b));by_cases c:p<q
  .simp[c,Int.ofNat_lt.mpr c]
  .by_cases d:p=q
   .subst d;simp
   .have f:¬ (p:Int)<(q:Int):=aw;have e:¬ (p:Int)=(q:Int):=aw;simp[c,d,f,e]
theorem zm8{d:Qe}(h:(d.map NI).Pairwise leL)(e:d.Nodup):d.Pairwise (λa b=>lx a b=true):=by
 show List.Pairwise.imp₂ (λ{a b}(c:leL (NI a) (NI b))(f:a≠b)=>?_) (List.pairwise_map.mp h) e;delta leL at c;rw[lx_I]at c;rcases xb3 a b with z|z|z
 .exact aV z f
 .exact z
 .rw[z]at c;ext c
theorem zk4(h:m ρ=some (ls.map L)):∃b:Qe,b.Perm ls/\(b.map NI).Pairwise leL/\O9 m ρ=some (b.map L):=by
 have g:ls.map L=(ls.map NI).map lsD:=by rw[bw];show ba λl _=>vr0 l
 have hp:=Q5 (ls.map NI);have a:∀z∈V7 (ls.map NI),NI (IN z)=z:=λz c=>by let⟨l,_,rfl⟩:=bj.mp (hp.mem_iff.mp c);rw[vr3]
 have d:((V7 (ls.map NI)).map IN).map NI=V7 (ls.map NI):=by
  rw[bw]
  conv=>rhs;rw[<-map_id (V7 (ls.map NI))]
  show ba λz c=>a z c
 show⟨(V7 (ls.map NI)).map IN,?_,by rw[d];show W9 _,?_⟩
 .have:=hp.map IN;rw[bw,show IN∘NI=id from funext vr3,map_id]at this;show this
 .delta O9;rw[h,g];simp only[zu8];have e:((V7 (ls.map NI)).map IN).map L=(((V7 (ls.map NI)).map IN).map NI).map lsD:=by rw[bw (f:=NI)];show ba λl _=>vr0 l
  rw[e,d]
theorem xs7(t:List Nat->Bool):∀k,(AL t k).length<=2^k
 |0=>aK _
 |k+1=>by have a:=xs7 t k;have:=length_filter_le t ((AL t k).map λl=>l++[k]);rw[aL]at this;rw[AL,bV,Nat.pow_succ];lia
theorem yw7(t:List Nat->Bool):∀k,∀l∈AL t k,l.length<=k/\∀y∈l,y<k
 |0,l,c=>by rw[AL,dy]at c;rw[c];show⟨aK _,λy a=>by cases a⟩
 |k+1,l,c=>by
  rw[AL,mem_append]at c;rcases c with h|h
  .have:=yw7 t k l h;show⟨aw,λy a=>bK (this.2 y a)⟩
  .let⟨b,hb,rfl⟩:=bj.mp (dO.mp h).1;have:=yw7 t k b hb;show⟨by rw[bV];show b.length+1<=_;lia,λy a=>?_⟩;rcases bz.mp a with z|z
   .exact bK (this.2 y z)
   .rw[aZ.mp z];show bZ _
theorem ym6(c:List Int)(s:Int)(t:1<=s)(w:c.length<=10):∃d:Qe,d.Pairwise (λa b=>lx a b=true)/\(∀l,l∈d↔Wv (xr c) c.length s l)/\d.length<=1024/\xj3 [.lst (c.map .int),.int s]=some (.fr (d.map L)):=by
 suffices h:∃r,xj3 [.lst (c.map .int),.int s]=some (.fr r)/\∃d:Qe,d.Perm (AL (t3 c s) c.length)/\(d.map NI).Pairwise leL/\r=d.map L by
  let⟨r,e,d,q,p,rfl⟩:=h;show⟨d,zm8 p (q.nodup_iff.mpr (yp6 (λk l g hw n=>wy3 c s t k l g hw n) c.length (aK _))),λl=>?_,?_,e⟩
  .rw[q.mem_iff,(xt6 (λk l g hw n=>wy3 c s t k l g hw n) c.length (aK _))];show⟨λz=>z.1,λz=>⟨z,zm6 z⟩⟩
  .rw[q.length_eq];show bD (xs7 _ _) (bD (Nat.pow_le_pow_right ay w) ay)
 show E7 ?_;show y6 (ρ':=eA c s (AL (t3 c s) 0) none none) ((v4 (t7 (x8 (z0 (t7 (x8 z7 (aW _))) z7) (y7 ay)))).trans rfl) ?_;show m8 (j6 c.length (f:=λ(i:Nat)=>D.int (0+(i:Int))) ?_ (I:=λk ρ=>∃o j,ρ=eA c s (AL (t3 c s) k) o j) _ ⟨_,_,rfl⟩ ?_ ?_)
 .have ll:mlen (bvar 0) (eA c s (AL (t3 c s) 0) none none)=some (.int (c.length:Int)):=by rw[u7 rfl,aL]
  delta w4;rw[z0 ll z7,aI,B8 (Y1 aw aw),bB];rfl
 .rintro k ρ g ⟨o,j,rfl⟩;have A:(AL (t3 c s) k).length<=1024:=bD (xs7 _ _) (bD (Nat.pow_le_pow_right ay (show k<=10 by lia)) ay);let⟨u,e⟩:=wk3 c s (AL (t3 c s) k) k g aw aw (λl n=>by have:=yw7 (t3 c s) k l n;show⟨aw,λy v=>de (this.2 y v) g⟩) j
  show⟨_,by rw[Int.zero_add];rfl,_,e,_,_,rfl⟩
 .rintro ρ ⟨o,j,rfl⟩;let⟨d,x,p,e⟩:=zk4 (m:=bvar 2) (ρ:=eA c s (AL (t3 c s) c.length) o j) rfl;show⟨.rf (d.map L),?_,_,rfl,d,x,p,rfl⟩;delta zi8;rw[e];rfl
noncomputable abbrev PR:=List Nat×List Nat
def Fo:Option PR->Fl|none=>.l []|some w=>.l [L w.1,L w.2]
def Do:Option PR->D|none=>.lst []|some w=>LP w
def pc(a:List Int)(s:Int)(d:Bool)(p j m:Nat):Nat:=if m=0 then 1 else ((List.range j).map λi=>if far s d (xr a p) (xr a (p+1+i))then cnt a s (m-1) (!d) (p+1+i)else 0).sum
theorem yc1(a:List Int)(s:Int)(d:Bool)(p j m:Nat):pc a s d p (j+1) m=pc a s d p j m+(if m=0 then 0 else if far s d (xr a p) (xr a (p+1+j))then cnt a s (m-1) (!d) (p+1+j)else 0):=by
 delta pc;by_cases h:m=0
 .simp[h]
 .simp only[h];rw[range_succ,bN,sum_append];simp
theorem wb5(a:List Int)(s:Int)(d:Bool)(p m:Nat):pc a s d p (a.length-(p+1)) m=cnt a s m d p:=by
 delta pc;cases m with
 |zero=>rfl
 |succ m=>rw[aF aw,zn2];rfl
structure Rj(η:List Int)(s:Int)(p j:Nat)(w:PR):Prop where
 len:∀d,1<=(gp w d).length/\(gp w d).length<=η.length-p+1
 v0:∀d,(gp w d).getD 0 0=0
 v1:∀d m,(gp w d).getD (m+1) 0=pc η s d p j m
abbrev Rv(a:List Int)(s:Int)(p:Nat)(w:PR):Prop:=Rj a s p (a.length-(p+1)) w
theorem Rv.at'{s:Int}{p:Nat}(h:Rv a s p w)(d:Bool)(m:Nat):(gp w d).getD (m+1) 0=cnt a s m d p:=by rw[h.v1,wb5]
def stW(a:List Int)(s:Int)(p k:Nat)(w v:PR):PR:=if far s true (xr a p) (xr a k)then (ptL w.1 v.2 v.2.length,w.2)else if far s false (xr a p) (xr a k)then (w.1,ptL w.2 v.1 v.1.length)else w
theorem xp2{s:Int}{p:Nat}(b:p<a.length):Rj a s p 0 ([0,1],[0,1]):=by
 show⟨λd=>?_,λd=>?_,λd m=>?_⟩
 .cases d <;> show⟨by decide,by show 2<=a.length-p+1;lia⟩
 .cases d <;> rfl
 .have:(gp (([0,1],[0,1]):PR) d)=[0,1]:=by ext d <;> rfl
  rw[this];delta pc;cases m with
  |zero=>rfl
  |succ m=>show k6 az
theorem wx3{s:Int}(r:1<=s){p j:Nat}(x:p+1+j<c.length)(hw:Rj c s p j w)(o:Rv c s (p+1+j) v):Rj c s p (j+1) (stW c s p (p+1+j) w v):=by
 have k:∀(a b:List Nat)(d:Bool),(∀m,a.getD (m+1) 0=pc c s d p j m)->a.getD 0 0=0->b=gp v (!d)->far s d (xr c p) (xr c (p+1+j))->(ptL a b b.length).getD 0 0=0/\∀m,(ptL a b b.length).getD (m+1) 0=pc c s d p (j+1) m:=λa b d f u q t=>by
  show⟨by rw[A8,u];rfl,λm=>?_⟩;rw[A8,f,aH aw,cA,yc1,q];congr 1;cases m with
  |zero=>rw[aH rfl,o.v0]
  |succ m=>rw[aF aw,aH t,o.at',cA]
 have e:∀d m,¬ far s d (xr c p) (xr c (p+1+j))->pc c s d p (j+1) m=pc c s d p j m:=λd m h=>by rw[yc1,aF h];simp
 have g:∀(a b:List Nat)(d:Bool),1<=a.length/\a.length<=c.length-p+1->b=gp v d->1<=(ptL a b b.length).length/\(ptL a b b.length).length<=c.length-p+1:=λa b d f q=>by rw[d6];have:=(o.len d).2;lia
 delta stW;by_cases f:far s true (xr c p) (xr c (p+1+j))
 .rw[aH f];have i:=zo6 r f;let⟨n,l⟩:=k w.1 v.2 true (hw.v1 true) (hw.v0 true) rfl f;show⟨λd=>?_,λd=>?_,λd m=>?_⟩
  .cases d
   .exact hw.len false
   .exact g w.1 v.2 false (hw.len true) rfl
  .cases d
   .exact hw.v0 false
   .exact n
  .cases d
   .rw[e false m i];show hw.v1 false m
   .exact l m
 .rw[aF f];by_cases i:far s false (xr c p) (xr c (p+1+j))
  .rw[aH i];let⟨n,l⟩:=k w.2 v.1 false (hw.v1 false) (hw.v0 false) rfl i;show⟨λd=>?_,λd=>?_,λd m=>?_⟩
   .cases d
    .exact g w.2 v.1 true (hw.len false) rfl
    .exact hw.len true
   .cases d
    .exact n
    .exact hw.v0 true
   .cases d
    .exact l m
    .rw[e true m f];show hw.v1 true m
  .rw[aF i];show⟨hw.len,hw.v0,λd m=>?_⟩;ext d
   .rw[e false m i];show hw.v1 false m
   .rw[e true m f];show hw.v1 true m
theorem ys4(y:Addr)(c:Cell)(a:Bx):List.lookup y ((y,c)::a)=some c:=by rw[cX,bT]
theorem wj8(y:Addr)(c a:Cell)(b:Bx):updB y a ((y,c)::b)=(y,a)::b:=by unfold updB;rw[aH rfl]
theorem seqW{r:Option (Out×Bx)}(h:x b c=some (.nx ρ',β'))(a:y ρ' β'=r):Q2 x y b c=r:=by delta Q2;rw[h];show a
theorem vq3(h:m a=some (.nx ρ')):wS m a b=some (.nx ρ',b):=by delta wS;rw[h]
theorem vy9{c:Ro->Bx->Option Bool}{b:Bool}(h:c a d=some b):mifW c x y a d=(if b then x else y) a d:=by delta mifW;rw[h];ext b <;> rfl
noncomputable abbrev RI'(a:List Int):D:=.lst (a.map .int)
def eO(a:List Int)(s:Int)(d2:D)(o3 o4 o5:Option S):Ro:=[some (.sh (RI' a)),k0c s,some (.sh d2),o3,o4,o5]
theorem vk0(A:List (Option PR)):(A.map Fo).map flD=A.map Do:=by rw[bw];show ba λo _=>?_;ext o <;> rfl
theorem wy0(a:List Int)(s:Int)(y:Addr)(A:List (Option PR))(p k:Nat)(i:Int):thaw (eO a s (.ptr y) (some (.sh (dN p))) (some (.sh (dN k))) (k0c i)) [(y,.row (A.map Fo))]=eO a s (.lst (A.map Do)) (some (.sh (dN p))) (some (.sh (dN k))) (k0c i):=by
 have e:zw3 [(y,.row (A.map Fo))] (some (.sh (.ptr y)))=some (.sh (.lst (A.map Do))):=by delta zw3;simp only[ys4];show some (S.sh (D.lst ((A.map Fo).map flD)))=_;rw[vk0]
 delta thaw eO;rw[br,br,br,e];rfl
noncomputable def ki(c:Bool):Int:=if c then 1 else 0
noncomputable def pkc(c:Bool)(w:PR):List Nat:=if c then w.2 else w.1
noncomputable def ptc(c:Bool)(new:List Nat)(w:PR):PR:=if c then (w.1,new)else (new,w.2)
theorem vw1{a:List Int}{s:Int}{A:List (Option PR)}{q:Nat}{w:PR}{f d b:Option S}{i j:ME}{c:Bool}(hw:A[q]? =some (some w))(hi:i (eO a s (.lst (A.map Do)) f d b)=some (dN q))(g:j (eO a s (.lst (A.map Do)) f d b)=some (.int (ki c))):
  mix (u4 (mix (bvar 2) i)) j (eO a s (.lst (A.map Do)) f d b)=some (L (pkc c w)):=by
 let⟨h,e⟩:=bg.mp hw;show w6 (ds:=[L w.1,L w.2]) (j3 (w6 rfl hi ?_)) g (by ext c <;> rfl);rw[X1 Do A (q:Int) aw aw none,bB,aE,hw];rfl
theorem vp2(l:List Nat):(l.map dN).all isSc=true:=by rw[all_eq_true];intro d a;let⟨x,_,rfl⟩:=bj.mp a;rfl
theorem wp3(n p:Nat)(h:p<n):ixN n (p:Int)=some p:=by delta ixN;rw[aH aw,aH aw];simp
theorem wx1{A:List (Option PR)}{p:Nat}{w:PR}{c:Bool}{a:List Nat}(hw:A[p]? =some (some w)):setR (p:Int) (ki c) (L a) (A.map Fo)=some ((A.set p (some (ptc c a w))).map Fo):=by let⟨b,e⟩:=bg.mp hw;delta setR;rw[wp3 _ p (by rw[aL];show b)];simp only;rw[bn,hw];rw[map_set];ext c <;> rfl
theorem vo8(a:List Int)(s:Int)(M:1<=s){A:List (Option PR)}(N:A.length=a.length){p k:Nat}(G:p<a.length)(H:k<a.length){w v:PR}(hw:A[p]? =some (some w))(F:A[k]? =some (some v))(C:∀d,(gp w d).length<=1000)(D:∀d,(gp v d).length<=1000)(g:Option S):
  ∃i,∀y,P7 (eO a s (.ptr y) (some (.sh (dN p))) (some (.sh (dN k))) g) [(y,.row (A.map Fo))]=some (.nx (eO a s (.ptr y) (some (.sh (dN p))) (some (.sh (dN k))) (k0c i)),[(y,.row ((A.set p (some (stW a s p k w v))).map Fo))]):=by
 obtain⟨c,r⟩:∃c,c=decide (s<=xr a p-xr a k):=⟨_,rfl⟩;have z:∀u g,mix (bvar 0) (mvar 3) (eO a s u (some (.sh (dN p))) (some (.sh (dN k))) g)=some (.int (xr a p)):=λ_ _=>w6 rfl rfl (L4 a p G);have B:∀u g,mix (bvar 0) (mvar 4) (eO a s u (some (.sh (dN p))) (some (.sh (dN k))) g)=some (.int (xr a k)):=λ_ _=>w6 rfl rfl (L4 a k H);have K:∀y,wS (mset 5 (w5 intF (z6 (m2 geD (m2 subD (mix (bvar 0) (mvar 3)) (mix (bvar 0) (mvar 4))) (mvar 1)) anil))) (eO a s (.ptr y) (some (.sh (dN p))) (some (.sh (dN k))) g) [(y,.row (A.map Fo))]=some (.nx (eO a s (.ptr y) (some (.sh (dN p))) (some (.sh (dN k))) (some (.sh (.int (ki c))))),[(y,.row (A.map Fo))]):=λy=>by show vq3 ((v4 ?_).trans rfl);delta w5;rw[z0 ((y9 ((y9 (z _ _) (B _ _)).trans rfl) rfl).trans (rfl)) z7,<-r];ext c <;> rfl
 have J:∀y x,wE (y0 (m2 geD (w5 absF (z6 (m2 subD (mix (bvar 0) (mvar 4)) (mix (bvar 0) (mvar 3))) anil)) (mvar 1))) (eO a s (.ptr y) (some (.sh (dN p))) (some (.sh (dN k))) (some (.sh (.int (ki c))))) x=some (decide (s<=((xr a k-xr a p).natAbs:Int))):=λy x=>
  zk1 (xt9 ((y9 (B _ _) (z _ _)).trans rfl)) rfl
 show⟨ki c,λy=>?_⟩;show seqW (K y) ?_;rw[vy9 (J y _)];have b:∀(n:Bool),c=n->∀f,zw8 [L (pkc n w),L (pkc (!n) v)]=some (.fr (f.map dN))->yb7 2 (mvar 3) (mvar 5) (lsW (ym5 (W1 zw8 (z6 (mix (u4 (mix (bvar 2) (mvar 3))) (mvar 5)) (z6 (mix (u4 (mix (bvar 2) (mvar 4))) (m2 subD (mc (.int 1)) (mvar 5))) anil))))) (eO a s (.ptr y) (some (.sh (dN p))) (some (.sh (dN k))) (some (.sh (.int (ki c))))) [(y,.row (A.map Fo))]=some (.nx (eO a s (.ptr y) (some (.sh (dN p))) (some (.sh (dN k))) (some (.sh (.int (ki c))))),[(y,.row ((A.set p (some (ptc n f w))).map Fo))]):=λn o f l=>by
  subst o;have h:lsW (ym5 (W1 zw8 (z6 (mix (u4 (mix (bvar 2) (mvar 3))) (mvar 5)) (z6 (mix (u4 (mix (bvar 2) (mvar 4))) (m2 subD (mc (.int 1)) (mvar 5))) anil)))) (eO a s (.ptr y) (some (.sh (dN p))) (some (.sh (dN k))) (some (.sh (.int (ki c))))) [(y,.row (A.map Fo))]=some (L f):=by delta lsW ym5 W1;rw[wy0];have E:m2 subD (mc (.int 1)) (mvar 5) (eO a s (.lst (A.map Do)) (some (.sh (dN p))) (some (.sh (dN k))) (some (.sh (.int (ki c)))))=some (.int (ki (!c))):=(y9 rfl rfl).trans (by ext c <;> rfl);rw[z0 (vw1 hw rfl rfl) (z0 (vw1 F rfl E) z7),aI,l];simp only[Option.bind_some,vp2,Option.map_some];rfl
  delta yb7;rw[h];show (match List.lookup y [(y,Cell.row (A.map Fo))]with |some (.row I)=>(setR (p:Int) (ki c) (L f) I).map λt=>(Out.nx _,updB y (.row t) [(y,Cell.row (A.map Fo))])|_=>none)=_;rw[ys4];simp only;rw[wx1 hw,Option.map_some,wj8]
 by_cases j:far s true (xr a p) (xr a k)
 .have ht':s<=xr a k-xr a p:=j;have q:c=false:=by rw[r];show aP aw
  rw[aO (show s<=((xr a k-xr a p).natAbs:Int)by lia),aH rfl,(b false q (ptL w.1 v.2 v.2.length) (yu4 w.1 v.2 (C true) (D false)))];delta stW;rw[aH j];rfl
 .by_cases hf:far s false (xr a p) (xr a k)
  .have hc1:c=true:=by rw[r];show aO hf
   rw[aO (show s<=((xr a k-xr a p).natAbs:Int)by lia),aH rfl,(b true hc1 (ptL w.2 v.1 v.1.length) (yu4 w.2 v.1 (C false) (D true)))];delta stW;rw[aF j,aH hf];rfl
  .have h1:¬ s<=xr a k-xr a p:=j;have O:¬ s<=xr a p-xr a k:=hf;rw[aP (show ¬ s<=((xr a k-xr a p).natAbs:Int)by lia),aF bd];have:stW a s p k w v=w:=by delta stW;rw[aF j,aF hf]
   rw[this];have:A.set p (some w)=A:=by
    show db λm=>?_;rw[dH];by_cases e:p=m
    .subst e;rw[aH rfl,aH aw,hw]
    .rw[aF e]
   rw[this];rfl
theorem zg3{e:Type}{f:e->D}{d:e}{ds:List e}{r:Option (Out×Bx)}(j:tgD g (f d) k=some ρ1)(i:a ρ1 l=some (.nx b,c))(h:forW g a (ds.map f) b c=r):forW g a ((d::ds).map f) k l=r:=by rw[br,forW,j];simp only;rw[i];show h
theorem xd0{i j:Nat}(d:a f=some (.int (i:Int)))(c:b f=some (.int (j:Int)))(hi:i<=1000)(e:j<=1000):w4 rng2 (z6 a (z6 b anil)) f=some (((List.range (j-i)).map (i+·)).map dN):=by delta w4;rw[z0 d (z0 c z7),aI,K0 (Y1 aw aw) (Y1 aw aw),X5,bw,show ((j:Int)-(i:Int)).toNat=j-i by lia];rfl
theorem ys2{r:Option (Out×Bx)}(h:mi d=some b)(c:forW g a b d e=r):ym0 mi g a d e=r:=by delta ym0;rw[h];show c
theorem yg5(n:Nat)(h:n<=900):rng3 [.int ((n:Int)-1),.int (-1),.int (-1)]=some (zy9 n):=by delta rng3;dsimp only;rw[aH ⟨aw,aw,rfl,rfl⟩,show (((n:Int)-1)+1).toNat=n by lia]
theorem wo5(n:Nat):zy9 n=((List.range n).map λj=>n-1-j).map dN:=by rw[bw];show ba λi hi=>?_;have:=bq.mp hi;show D.int ((n:Int)-1-(i:Int))=D.int ((n-1-i:Nat):Int);congr 1;omega
theorem yq1:∀(a:List Int)(o:Option S)(acc:List (List D)),acc.length+a.length<=1000->R1 (.nm 0) (y8 anil) (a.map .int) [o] acc=some (acc++List.replicate a.length [])
 |[],o,acc,_=>by simp[R1]
 |i::a,o,acc,h=>by have c:=v3;rw[br,R1];have b:tgD (.nm 0) (.int i) [o]=some [k0c i]:=rfl;rw[b];simp only;rw[x8 z7 (aW _)];simp only;rw[aH (by simp at h;lia),yq1 a _ _ (by simp at h ⊢;lia)];simp[replicate_succ]
section
variable (a:List Int)(s:Int)(b:1<=s)(c:a.length<=300)
include b c
def Dn(a:List Int)(s:Int)(p:Nat)(A:List (Option PR)):Prop:=A.length=a.length/\∀q,p<=q->q<a.length->∃v,A[q]? =some (some v)/\Rv a s q v
theorem xd1{p j:Nat}(h:Rj a s p j w):∀d,(gp w d).length<=1000:=λd=>by have:=(h.len d).2;lia
theorem yt5(p:Nat):∀(r j:Nat)(A:List (Option PR))(l g:Option S),p+1+j+r=a.length->Dn a s (p+1) A->(∃w,A[p]? =some (some w)/\Rj a s p j w)->
  ∃n t o,Dn a s p n/\∀y,forW (.nm 4) P7 (((List.range r).map (p+1+j+·)).map dN) (eO a s (.ptr y) (some (.sh (dN p))) l g) [(y,.row (A.map Fo))]=some (.nx (eO a s (.ptr y) (some (.sh (dN p))) t o),[(y,.row (n.map Fo))])
 |0,j,A,l,g,F,f,⟨w,hw,d⟩=>by
  show⟨A,l,g,⟨f.1,λq m h=>?_⟩,λy=>rfl⟩;by_cases e:q=p
  .subst e;show⟨w,hw,?_⟩;have:j=a.length-(q+1):=ax;show Rj a s q (a.length-(q+1)) w;rw[<-this];show d
  .exact f.2 q aw h
 |r+1,j,A,l,g,F,f,⟨w,hw,d⟩=>by
  let⟨v,D,B⟩:=f.2 (p+1+j) aw aw;let⟨i,G⟩:=vo8 a s b f.1 (p:=p) (k:=p+1+j) aw aw hw D (xd1 a s b c d) (xd1 a s b c B) g;have x:p<A.length:=by rw[f.1];lia
  let⟨n,t,o,m,h⟩:=yt5 p r (j+1) (A.set p (some (stW a s p (p+1+j) w v))) (some (.sh (dN (p+1+j)))) (k0c i) aw ⟨by rw[length_set];show f.1,λq m h=>by let⟨u,E,C⟩:=f.2 q m h;show⟨u,by rw[dH,aF aw];show E,C⟩⟩ ⟨_,by rw[dH,aH rfl,aH x],wx3 b aw d B⟩
  show⟨n,t,o,m,λy=>?_⟩;rw[cq,br,bw,show ((p+1+j+·)∘Nat.succ:Nat->Nat)=(p+1+(j+1)+·)by funext z;simp only[Function.comp,Nat.succ_eq_add_one];lia,cG];show zg3 (ρ1:=eO a s (.ptr y) (some (.sh (dN p))) (some (.sh (dN (p+1+j)))) g) rfl (G y) (h y)
theorem vo7(p:Nat)(v:p<a.length)(A:List (Option PR))(f e:Option S)(j:Dn a s (p+1) A):
  ∃g i h,Dn a s p g/\∀y,P6 (eO a s (.ptr y) (some (.sh (dN p))) f e) [(y,.row (A.map Fo))]=some (.nx (eO a s (.ptr y) (some (.sh (dN p))) i h),[(y,.row (g.map Fo))]):=by
 have d:p<A.length:=by rw[j.1];omega
 let⟨g,i,h,m,k⟩:=yt5 a s b c p (a.length-(p+1)) 0 (A.set p (some ([0,1],[0,1]))) f e ax ⟨by rw[length_set];show j.1,λq m k=>by let⟨u,t,r⟩:=j.2 q m k;show⟨u,by rw[dH,aF aw];show t,r⟩⟩ ⟨_,by rw[dH,aH rfl,aH d],xp2 v⟩
 show⟨g,i,h,m,λy=>?_⟩;show seqW (ρ':=eO a s (.ptr y) (some (.sh (dN p))) f e) (β':=[(y,.row ((A.set p (some ([0,1],[0,1]))).map Fo))]) ?_ ?_
 .delta zp5;have o:mlst (y8 (z6 (mc (.int 0)) (z6 (mc (.int 1)) anil))) (eO a s (.ptr y) (some (.sh (dN p))) f e)=some (L [0,1]):=t7 (x8 (z0 rfl (z0 rfl z7)) (y7 (show 2<=1000000 by decide)));rw[x8 (z0 o (z0 o z7)) (y7 (show 2<=1000000 by decide))];show (match List.lookup y [(y,Cell.row (A.map Fo))]with |some (.row fs)=>(match ixN fs.length (p:Int)with |some n=>some (Out.nx _,updB y (.row (fs.set n (.l [L [0,1],L [0,1]]))) [(y,Cell.row (A.map Fo))])|none=>none)|_=>none)=_;rw[ys4];simp only;rw[wp3 _ p (by rw[aL];show d)];simp only;rw[wj8,map_set];rfl
 .refine ys2 (xd0 ?_ ?_ aw aw) (k y)
  .exact(y9 rfl rfl).trans rfl
  .rw[u7 (rfl),aL]
theorem yt4:∀(p:Nat)(A:List (Option PR))(f e d:Option S),p<=a.length->Dn a s p A->
  ∃l i h g,Dn a s 0 l/\∀y,forW (.nm 3) P6 (((List.range p).map λj=>p-1-j).map dN) (eO a s (.ptr y) f e d) [(y,.row (A.map Fo))]=some (.nx (eO a s (.ptr y) i h g),[(y,.row (l.map Fo))])
 |0,A,f,e,d,hp,k=>⟨A,f,e,d,k,λy=>rfl⟩
 |p+1,A,f,e,d,hp,k=>by let⟨v,n,m,q,t⟩:=vo7 a s b c p aw A e d k;let⟨u,i,h,g,o,r⟩:=yt4 p v (some (.sh (dN p))) n m aw q;show⟨u,i,h,g,o,λy=>?_⟩;rw[cq,br,bw,show ((λj=>p+1-1-j)∘Nat.succ:Nat->Nat)=(λj=>p-1-j)by funext z;simp only[Function.comp,Nat.succ_eq_add_one];lia,show p+1-1-0=p by lia];show zg3 (ρ1:=eO a s (.ptr y) (some (.sh (dN p))) e d) rfl (t y) (r y)
theorem xy3:∃d:List PR,d.length=a.length/\(∀q,q<a.length->Rv a s q (d.getD q ([],[])))/\D2 [RI' a,.int s]=some (.sh (.lst (d.map LP))):=by
 let⟨A,p,n,m,g,e⟩:=yt4 a s b c a.length (List.replicate a.length none) none none none (aK _) ⟨by simp,λq B x=>by omega⟩;obtain⟨d,j⟩:∃d:List PR,A=d.map some:=by
  show⟨A.map λo=>o.getD ([],[]),db λq=>?_⟩;rw[bn,bn];by_cases i:q<a.length
  .let⟨v,hv,_⟩:=g.2 q (aW _) i;rw[hv];rfl
  .rw[aY (by rw[g.1];lia)];rfl
 have r:d.length=a.length:=by rw[<-g.1,j,aL]
 show⟨d,r,λq i=>?_,?_⟩
 .let⟨v,hv,rv⟩:=g.2 q (aW _) i;rw[j,bn]at hv;have:d[q]? =some v:=by
   rcases z:d[q]?,hv with u;ext hv;rfl
  rw[aE,this];show rv
 .have hfl:(A.map Fo).map flS=d.map LP:=by rw[j,bw,bw];show ba λw _=>rfl
  have f:(List.replicate a.length ([]:List D)).map Fl.l=(List.replicate a.length (none:Option PR)).map Fo:=by rw[map_replicate,map_replicate];rfl
  have h:D7 (u8 6 [RI' a,.int s]) []=some (.rt (.lst (d.map LP)),[]):=by
   delta D7 xk6;have t:Z0 [none] (u4 (mvar 0)) (.nm 0) (y8 anil) (u8 6 [RI' a,.int s])=some (List.replicate a.length []):=by delta Z0;show R1 (.nm 0) _ _ [none] []=_;rw[yq1 a none [] (by simp;lia),cT]
   rw[t,aI];show xt3 λy _=>?_;have k:P5 (eO a s (.ptr y) none none none) [(y,.row ((List.replicate a.length (none:Option PR)).map Fo))]=some (.rt (.lst (d.map LP)),[]):=by
    show seqW (ys2 ?_ (e y)) ?_
    .delta w4;rw[z0 ((y9 (by rw[u7 (rfl),aL]) rfl).trans rfl) (z0 rfl (z0 rfl z7)),aI,yg5 _ aw,wo5]
    .delta zx8 D1;rw[show (eO a s (.ptr y) p n m)[2]? =some (some (.sh (.ptr y)))from rfl];simp only;rw[ys4];simp only;rw[hfl,show delB y [(y,Cell.row (A.map Fo))]=[]by unfold delB;rw[bT]];rfl
   show (P5 (eO a s (.ptr y) none none none) [(y,.row ((List.replicate a.length ([]:List D)).map Fl.l))]).map (L2.letGo 2 0)=_;rw[f,k];rfl
  delta D2 plainW runW;rw[h]
end
end
section
open PySem L2
theorem of_eq(a:List Nat)(m:Nat)(b:a.length<=1000):ym3 [L a,dN m]=some (.sh (dN (a.getD m 0))):=by
 show e9 ?_;have c:mcut (bvar 0) (k9 (mvar 1)) (k9 (m2 addD (mvar 1) (mc (.int 1)))) (u8 2 [L a,dN m])=some ((cutI a (some (m:Int)) (some ((m+1:Nat):Int))).map dN):=by
  show wr1 rfl ?_ ?_
  .rfl
  .delta k9;rw[y9 rfl rfl];rfl
 rw[yq0]at c;show Z5 (w6 (c7 c (x8 (z0 rfl z7) (y7 (show 1<=1000000 by decide))) (y7 ?_)) rfl ?_)
 .simp;lia
 .by_cases h:m<a.length
  .have e:(a.take (m+1)).drop m=[a.getD m 0]:=by rw[take_succ,aG h,drop_append_of_le_length (by simp;lia),drop_of_length_le (by simp;lia),aE,aG h];rfl
   rw[e];rfl
  .rw[drop_of_length_le (by simp;lia),k6 aw];rfl
theorem xh2(l:List Nat):cutI l (some (-3)) none=l.drop (l.length-3):=by
 delta cutI;have e:HT.sIx l.length 0 (some (-3))=l.length-3:=by show (if (-3:Int)<0 then ((-3:Int)+(l.length:Int)).toNat else min (-3:Int).toNat l.length)=_;lia
 rw[e,HT.sIx_none,dC az]
theorem zs6{s:Int}{P:List Nat}{p:Nat}(h:Tld a s P (some (p,e))):∃g,P=g++[p]/\p<a.length:=by
 cases e with
 |none=>show⟨[],h.1,h.2⟩
 |some d=>let⟨f,o,c,_,b,_⟩:=h;show⟨f++[o],by rw[c];simp,b⟩
theorem vq1{x:Nat->Int}{n:Nat}{s:Int}{P:List Nat}{p:Nat}(h:Wv x n s (P++[p])):∀y∈P++[p],y<=p:=λy a=>by
 rcases bz.mp a with z|z
 .exact dt ((yj8 h).2.1 y z)
 .rw[aZ.mp z];show aK _
theorem xr5{s:Int}(g:1<=s){P:List Nat}{p q:Nat}(f:Tld a s P (some (p,e)))(c:p<q)(i:q<a.length):gd a s (P.drop (P.length-2)++[q])=true↔∃d,zd8 a s (some (p,e)) d q:=by
 let⟨b,rfl,n⟩:=zs6 f;have hw:=f.wv;have m:t3 a s (b++[p]++[q])=gd a s ((b++[p]).drop ((b++[p]).length-2)++[q]):=by delta t3;rw[xh2,show (b++[p]++[q]).length-3=(b++[p]).length-2 by simp only[length_append,length_singleton];lia,drop_append_of_le_length aw]
 rw[<-m,wy3 a s g q (b++[p]) i hw (λy j=>Nat.lt_of_le_of_lt (vq1 hw y j) c)];constructor
 .intro h;let⟨l,_,_⟩:=yv0 g rfl h f;let⟨d,k⟩:=xr4 l;show⟨d,k⟩
 .rintro⟨d,hd⟩;show(S0 g i f c hd).wv
def eB(a:List Int)(s:Int)(Bs:List PR)(T:List Nat)(k left found:Nat)(o7 o8:Option S):Ro:=[some (.sh (RI' a)),k0c s,some (.sh (.lst (Bs.map LP))),some (.sh (L T)),some (.sh (dN k)),some (.sh (dN left)),some (.sh (dN found)),o7,o8]
theorem xh0(a b:Nat)(d:x ρ=some (dN a))(c:y ρ=some (.int (b:Int))):y0 (m2 eqSD x y) ρ=some (decide (a=b)):=by show u9 ((y9 d c).trans ?_);show xb9 a b
theorem zd0(a b:Nat)(d:x e=some (dN a))(c:y e=some (dN b)):m2 addD x y e=some (dN (a+b)):=by rw[y9 d c];congr 2
section
variable (a:List Int)(s:Int)(b:1<=s)(g:a.length<=300)
include b g
theorem yx9(i:List PR)(hB:i.length=a.length)(Q:∀q,q<a.length->Rv a s q (i.getD q ([],[])))(T:List Nat)(Y:T.length<=300)(k:Nat)(hk:k<T.length)(st:St')(v:Tld a s (T.take k) st)(q:Nat)(X:aft st<=q)(u:q<a.length)(h:Nat)(l:Option S):
  ∃M,L0 (eB a s i T k (T.length-k) h (some (.sh (dN q))) l)=some (.nx (eB a s i T k (T.length-k) (h+wy a s (T.length-1-k) st q) (some (.sh (dN q))) M)):=by
 have H:=xh0 k 0 (x:=mvar 4) (y:=mc (.int 0)) (ρ:=eB a s i T k (T.length-k) h (some (.sh (dN q))) l) rfl rfl;have E:=Q q u;have A:∀(f:Nat)(l:Option S)(c:Bool)(j:ME),j (eB a s i T k (T.length-k) f (some (.sh (dN q))) l)=some (.int (ki c))->mix (u4 (mix (bvar 2) (mvar 7))) j (eB a s i T k (T.length-k) f (some (.sh (dN q))) l)=some (L (pkc c (i.getD q ([],[])))):=λf l c j V=>
  w6 (j3 (w6 rfl rfl (vu4 i q aw))) V (by ext c <;> rfl)
 have o:∀c,ym3 [L (pkc c (i.getD q ([],[]))),dN (T.length-k)]=some (.sh (dN (cnt a s (T.length-1-k) (!c) q))):=λc=>by
  have e:pkc c (i.getD q ([],[]))=gp (i.getD q ([],[])) (!c):=by ext c <;> rfl
  rw[of_eq _ _ (by rw[e];have:=(E.len (!c)).2;lia),e,show T.length-k=(T.length-1-k)+1 by lia,E.at']
 unfold L0;rw[m6 (zx4 (xh0 k 0 (x:=mvar 4) (y:=mc (.int 0)) (ρ:=eB a s i T k (T.length-k) h (some (.sh (dN q))) l) rfl rfl) (xh0 (T.length-k) 1 (x:=mvar 5) (y:=mc (.int 1)) rfl rfl))];cases st with
 |none=>
  have n:k=0:=by
   have r:(T.take k).length=0:=by rw[v];rfl
   rw[cB]at r;lia
  subst n;by_cases F:T.length-0=1
  .rw[show (decide (0=0)&&decide (T.length-0=1))=true by rw[aO F];rfl];simp only[if_true];show⟨l,?_⟩;have hw:wy a s (T.length-1-0) none q=1:=by rw[show T.length-1-0=0 by lia];rfl
   rw[hw,v4 (zd0 h 1 rfl rfl)];rfl
  .rw[show (decide (0=0)&&decide (T.length-0=1))=false by rw[aP F];rfl];simp only[Bool.false_eq_true,if_false];rw[m6 H,aO rfl];show⟨l,?_⟩;have hw:wy a s (T.length-1-0) none q=cnt a s (T.length-1-0) true q+cnt a s (T.length-1-0) false q:=by obtain⟨m,B⟩:∃m,T.length-1-0=m+1:=⟨T.length-2,aw⟩;rw[B];rfl
   show seqI (ρ':=eB a s i T 0 (T.length-0) (h+cnt a s (T.length-1-0) true q) (some (.sh (dN q))) l) ?_ ?_
   .exact(v4 (zd0 h _ rfl (w9 (z0 (A _ _ false (mc (.int 0)) rfl) (z0 rfl z7)) (o false)))).trans rfl
   .rw[v4 (zd0 (h+cnt a s (T.length-1-0) true q) _ rfl (w9 (z0 (A _ _ true (mc (.int 1)) rfl) (z0 rfl z7)) (o true))),hw,<-dL];rfl
 |some J=>
  let⟨p,e⟩:=J;let⟨I,G,R⟩:=zs6 v;have U:k=I.length+1:=by have:=bf List.length G;simp at this;lia
  have n:¬ k=0:=aw;rw[show (decide (k=0)&&decide (T.length-k=1))=false by rw[aP n];rfl];simp;rw[m6 H,aP n];simp;have K:T.getD (k-1) 0=p:=by
   have r:(T.take k)[k-1]? =some p:=by rw[G,show k-1=I.length by lia];simp
   rw[getElem?_take_of_lt aw]at r;rw[aE,r];rfl
  have w:=xr5 b v X u;rw[show (T.take k).length-2=k-2 by rw[cB];omega]at w;have N:∀y∈(T.take k).drop (k-2)++[q],y<a.length:=λy P=>by
   rcases bz.mp P with z|z
   .have:=zm6 v.wv y (mem_of_mem_drop z);show this
   .rw[aZ.mp z];show u
  have cc:mlst (mcat (mcut (bvar 3) (k9 (w5 K7 (z6 (mc (.int 0)) (z6 (m2 subD (mvar 4) (mc (.int 2))) anil)))) (k9 (mvar 4))) (y8 (z6 (mvar 7) anil))) (eB a s i T k (T.length-k) h (some (.sh (dN q))) l)=some (L ((T.take k).drop (k-2)++[q])):=by
   have B:k9 (w5 K7 (z6 (mc (.int 0)) (z6 (m2 subD (mvar 4) (mc (.int 2))) anil))) (eB a s i T k (T.length-k) h (some (.sh (dN q))) l)=some (some ((k-2:Nat):Int)):=by
    have W:w5 K7 (z6 (mc (.int 0)) (z6 (m2 subD (mvar 4) (mc (.int 2))) anil)) (eB a s i T k (T.length-k) h (some (.sh (dN q))) l)=some (.int ((k-2:Nat):Int)):=by unfold w5;rw[z0 rfl (z0 ((y9 rfl rfl).trans rfl) z7)];show some (D.int (if (k:Int)-2>0 then (k:Int)-2 else 0))=_;congr 2;split <;> lia
    unfold k9;rw[W];rfl
   have r:=wr1 (m:=bvar 3) (hi:=k9 (mvar 4)) rfl B (by unfold k9;rfl);rw[yq0]at r;show(t7 (c7 r (x8 (z0 rfl z7) (y7 (show 1<=1000000 by decide))) (y7 (by simp;lia)))).trans ?_;show some (D.lst _)=some (D.lst _);rw[bN];rfl
  have ct:mtru (u0 zh4 (z6 (mvar 0) (z6 (mvar 1) (z6 (mlst (mcat (mcut (bvar 3) (k9 (w5 K7 (z6 (mc (.int 0)) (z6 (m2 subD (mvar 4) (mc (.int 2))) anil)))) (k9 (mvar 4))) (y8 (z6 (mvar 7) anil)))) anil)))) (eB a s i T k (T.length-k) h (some (.sh (dN q))) l)=some (gd a s ((T.take k).drop (k-2)++[q])):=
   Y8 (w9 (z0 rfl (z0 rfl (z0 cc z7))) (Q4 a s _ N (by simp;lia)))
  rw[m6 ct];cases hg:gd a s ((T.take k).drop (k-2)++[q])with
  |false=>
   have hw:wy a s (T.length-1-k) (some (p,e)) q=0:=by
    cases z:wy a s (T.length-1-k) (some (p,e)) q with
    |zero=>rfl
    |succ m=>let⟨d,t⟩:=xr4 (by rw[z];lia);have:=w.mpr ⟨d,t⟩;rw[hg]at this;ext this
   show⟨l,by rw[hw,cG];rfl⟩
  |true=>
   let⟨d,t⟩:=w.mp hg;have C:d=decide (xr a p<xr a q):=by have:=t.1;unfold far at this;ext d <;> simp at this <;> simp <;> lia
   have O:∀l,w5 intF (z6 (m2 gtD (mix (bvar 0) (mvar 7)) (mix (bvar 0) (mix (bvar 3) (m2 subD (mvar 4) (mc (.int 1)))))) anil) (eB a s i T k (T.length-k) h (some (.sh (dN q))) l)=some (.int (ki d)):=λl=>by
    have Z:mix (bvar 3) (m2 subD (mvar 4) (mc (.int 1))) (eB a s i T k (T.length-k) h (some (.sh (dN q))) l)=some (dN p):=by
     show w6 (k:=((k-1:Nat):Int)) rfl ((y9 rfl rfl).trans ?_) ?_
     .show some (D.int ((k:Int)-1))=some (D.int ((k-1:Nat):Int));congr 2;lia
     .rw[E4 T (k-1) aw,K]
    unfold w5;rw[z0 ((y9 (w6 rfl rfl (L4 a q u)) (w6 (m:=bvar 0) rfl Z (L4 a p R))).trans (rfl)) z7,<-C];ext d <;> rfl
   show⟨some (.sh (L (pkc d (i.getD q ([],[]))))),?_⟩;show seqI ((v4 (A _ _ d _ (O l))).trans rfl) ?_;rw[v4 (zd0 h _ rfl (w9 (z0 rfl (z0 rfl z7)) (o d))),(zv6 b t.1 t.2)];rfl
end
end
section
open PySem L2
def bfs(b:List Int)(s:Int)(k:Nat)(st:St')(a q:Nat):Nat:=((List.range (q-a)).map λi=>wy b s k st (a+i)).sum
def ixP(a:List Int)(s:Int):St'->List Nat->Nat
 |_,[]=>0
 |st,q::r=>bfs a s r.length st (aft st) q+(match stN a s st q with |some st'=>ixP a s st' r|none=>0)
theorem yq6(b:List Int)(s:Int)(k:Nat)(st:St')(a q:Nat)(h:a<q):bfs b s k st a q=wy b s k st a+bfs b s k st (a+1) q:=by delta bfs;rw[show q-a=(q-(a+1))+1 by lia,cq,br,dv,bw];congr 2;show ba λi _=>?_;congr 1;lia
theorem yq5(b:List Int)(s:Int)(k:Nat)(st:St')(a:Nat):bfs b s k st a a=0:=by delta bfs;rw[Nat.sub_self];rfl
theorem xa2(b:List Int)(s:Int)(e:1<=s)(k:Nat)(st:St'):∀(n a i:Nat)(T:List Nat),b.length-a=n->(cts b s k st a)[i]? =some T->∃q r d,T=q::r/\a<=q/\q<b.length/\(blk b s k st q)[d]? =some T/\i=bfs b s k st a q+d
 |0,a,i,T,g,h=>by rw[zx1 b s k st a aw]at h;ext h
 |n+1,a,i,T,g,h=>by
  have f:a<b.length:=aw;rw[V3 b s k st a f]at h;have o:(blk b s k st a).length=wy b s k st a:=(J0 b s e k).1 st a;by_cases c:i<(blk b s k st a).length
  .rw[bW c]at h;let⟨r,rfl⟩:=M7 b s k st a T (mem_of_getElem? h);show⟨a,r,i,rfl,aK _,f,h,by rw[yq5,cg]⟩
  .rw[cr aw]at h;let⟨q,r,d,m,t,l,j,p⟩:=xa2 b s e k st n (a+1) _ T aw h;show⟨q,r,d,m,aw,l,j,by rw[yq6 b s k st a q aw];lia⟩
theorem xw7(c:List Int)(s:Int)(n:1<=s):∀(k:Nat)(st:St')(i:Nat)(T:List Nat),(cts c s k st (aft st))[i]? =some T->T.length=k+1->ixP c s st T=i
 |k,st,i,T,h,t=>by
  let⟨q,r,f,rfl,x,w,o,hi⟩:=xa2 c s n k st _ (aft st) i T rfl h;have j:r.length=k:=by simpa using t
  cases k with
  |zero=>
   have g:r=[]:=cS.mp j;subst g;have a:(if (stN c s st q).isSome then [[q]]else [])[f]? =some [q]:=o;rcases z:stN c s st q,a with b;have:f=0:=by
    cases f with
    |zero=>rfl
    |succ m=>ext a
   rw[hi,this];show bfs c s 0 st (aft st) q+(match stN c s st q with |some b=>ixP c s b []|none=>0)=_;rw[z];rfl
  |succ k=>
   have a:(match stN c s st q with |none=>[]|some b=>(cts c s k b (q+1)).map (q::·))[f]? =some (q::r):=o;rcases z:stN c s st q,a with b;simp only[getElem?_map]at a;have l:aft b=q+1:=by let⟨d,_,e⟩:=O2 z;rw[e,zt9]
   have v:(cts c s k b (aft b))[f]? =some r:=by
    rw[l];rcases y:(cts c s k b (q+1))[f]?,a with u;simp at a;rw[a]
   have p:=xw7 c s n k b f r v j;rw[hi];show bfs c s r.length st (aft st) q+(match stN c s st q with |some b=>ixP c s b r|none=>0)=_;rw[z,j];simp only;rw[p]
theorem wo7(a:List Int)(s:Int)(b:1<=s)(J i:Nat)(T:List Nat)(h:(ctsJ a s J)[i]? =some T):ixP a s none T=i:=by
 have c:=(Y4 a s b J T).mp (mem_of_getElem? h);cases J with
 |zero=>
  have:i=0:=by
   cases i with
   |zero=>rfl
   |succ m=>ext h
  rw[this,(cS.mp c.2)];rfl
 |succ J=>show xw7 a s b J none i T h c.2
section
variable (b:List Int)(s:Int)(c:1<=s)(g:b.length<=300)
include c g
theorem zx7(e:List PR)(u:e.length=b.length)(n:∀q,q<b.length->Rv b s q (e.getD q ([],[])))(T:List Nat)(i:T.length<=300)(k:Nat)(o:k<T.length)(st:St')(t:Tld b s (T.take k) st):∀(r a d:Nat)(h f:Option S),aft st<=a->a+r<=b.length->
  ∃l j,forD (.nm 7) L0 (((List.range r).map (a+·)).map dN) (eB b s e T k (T.length-k) d h f)=some (.nx (eB b s e T k (T.length-k) (d+bfs b s (T.length-1-k) st a (a+r)) l j))
 |0,a,d,h,f,p,m=>⟨h,f,by rw[cG,yq5,cG];rfl⟩
 |r+1,a,d,h,f,p,m=>by let⟨v,x⟩:=yx9 b s c g e u n T i k o st t a p aw d f;let⟨l,j,w⟩:=zx7 e u n T i k o st t r (a+1) (d+wy b s (T.length-1-k) st a) (some (.sh (dN a))) v aw aw;show⟨l,j,?_⟩;rw[cq,br,bw,br,show ((a+·)∘Nat.succ:Nat->Nat)=(a+1+·)by funext z;simp only[Function.comp,Nat.succ_eq_add_one];lia,cG];unfold forD;rw[show tgD (.nm 7) (dN a) (eB b s e T k (T.length-k) d h f)=some (eB b s e T k (T.length-k) d (some (.sh (dN a))) f)from rfl];simp only[x];rw[w,yq6 b s _ st a (a+(r+1)) aw,<-dL,show a+1+r=a+(r+1)by lia]
theorem xu1(a:List PR)(w:a.length=b.length)(u:∀q,q<b.length->Rv b s q (a.getD q ([],[])))(T:List Nat)(i:T.length<=300)(k:Nat)(l:k<T.length)(st:St')(j:Tld b s (T.take k) st)(x:T.getD k 0<b.length)(z:aft st<=T.getD k 0):
  wq2 [RI' b,.int s,.lst (a.map LP),L T,dN k]=some (.sh (dN (bfs b s (T.length-1-k) st (aft st) (T.getD k 0)))):=by
 let⟨t,r,e⟩:=zx7 b s c g a w u T i k l st j (T.getD k 0-aft st) (aft st) 0 none none (aK _) aw;show e9 ?_;show seqI ((v4 (d:=dN (T.length-k)) ((y9 (u7 rfl) rfl).trans ?_)).trans rfl) ?_
 .show some (D.int (((T.map dN).length:Int)-(k:Int)))=some (D.int ((T.length-k:Nat):Int));rw[aL];congr 2;lia
 show seqI (ρ':=eB b s a T k (T.length-k) 0 none none) ((v4 rfl).trans rfl) ?_;show seqI (ρ':=eB b s a T k (T.length-k) (bfs b s (T.length-1-k) st (aft st) (T.getD k 0)) t r) ?_ rfl;have lo:m2 addD (mix (mcat (y8 (z6 (m1 negD (mc (.int 1))) anil)) (bvar 3)) (mvar 4)) (mc (.int 1)) (eB b s a T k (T.length-k) 0 none none)=some (.int ((aft st:Nat):Int)):=by
  have h:atI ([D.int (-1)]++T.map dN) (k:Int)=some (.int ((aft st:Int)-1)):=by
   cases st with
   |none=>
    have f:(T.take k).length=0:=by rw[j];rfl
    rw[cB]at f;have:k=0:=aw;subst this;show wm6 (D.int (-1)) (T.map dN)
   |some o=>
    let⟨p,e⟩:=o;let⟨n,m,y⟩:=zs6 j;have v:k=n.length+1:=by have:=bf List.length m;rw[cB,bV,dZ]at this;lia
    have f:(T.take k)[k-1]? =some p:=by rw[m,show k-1=n.length by lia];simp
    rw[getElem?_take_of_lt aw]at f;delta atI;rw[wp3 _ k (by simp;lia)];show ([D.int (-1)]++T.map dN)[k]? =some (.int (((p+1:Nat):Int)-1));rw[show k=(k-1)+1 by lia];show (T.map dN)[k-1]? =_;rw[bn,f];show some (D.int (p:Int))=_;congr 2;lia
  show(y9 (w6 (c7 (x8 (z0 rfl z7) (y7 (show 1<=1000000 by decide))) rfl (y7 (by simp;lia))) rfl h) rfl).trans ?_;show some (D.int ((aft st:Int)-1+1))=_;congr 2;lia
 delta mfor;rw[xd0 lo (w6 rfl rfl (E4 T k l)) aw aw,aI,e,cg,show aft st+(T.getD k 0-aft st)=T.getD k 0 by lia]
def eR(b:List Int)(s:Int)(Bs:List PR)(T:List Nat)(f:Nat)(o5:Option S):Ro:=[some (.sh (RI' b)),k0c s,some (.sh (.lst (Bs.map LP))),some (.sh (L T)),some (.sh (dN f)),o5]
theorem zj0(e:List PR)(y:e.length=b.length)(u:∀q,q<b.length->Rv b s q (e.getD q ([],[])))(T:List Nat)(l:T.length<=300)(hw:Wv (xr b) b.length s T):∀(r k f:Nat)(st:St')(i:Option S),k+r=T.length->Tld b s (T.take k) st->
  ∃h,forD (.nm 5) M9 (((List.range r).map (k+·)).map dN) (eR b s e T f i)=some (.nx (eR b s e T (f+ixP b s st (T.drop k)) h))
 |0,k,f,st,i,B,n=>⟨i,by rw[drop_of_length_le aw];rfl⟩
 |r+1,k,f,st,i,B,n=>by
  have a:k<T.length:=aw;have w:T.drop k=T.getD k 0::T.drop (k+1):=by rw[cP a,aE,aG a];rfl
  have v:T.getD k 0<b.length:=zm6 hw _ (by rw[aE,aG a];show dj _);have p:Wv (xr b) b.length s (T.take k++T.getD k 0::T.drop (k+1)):=by rw[<-w,take_append_drop];show hw
  let⟨A,x,_⟩:=yv0 c (k:=(T.drop (k+1)).length) rfl p n;let⟨d,j⟩:=yi5 A;have t:Tld b s (T.take (k+1)) (nxS st d (T.getD k 0)):=by have:=S0 c v n x j;rw[show T.take (k+1)=T.take k++[T.getD k 0]by rw[take_succ,aG a,aE,aG a];rfl];show this
  have C:=xu1 b s c g e y u T l k a st n v x;let⟨h,D⟩:=zj0 e y u T l hw r (k+1) (f+bfs b s (T.length-1-k) st (aft st) (T.getD k 0)) (nxS st d (T.getD k 0)) (some (.sh (dN k))) aw t;show⟨h,?_⟩;rw[cq,br,bw,br,show ((k+·)∘Nat.succ:Nat->Nat)=(k+1+·)by funext z;simp only[Function.comp,Nat.succ_eq_add_one];lia,cG];have m:M9 (eR b s e T f (some (.sh (dN k))))=some (.nx (eR b s e T (f+bfs b s (T.length-1-k) st (aft st) (T.getD k 0)) (some (.sh (dN k))))):=by delta M9;show(v4 (zd0 f _ rfl (w9 (ds:=[RI' b,.int s,.lst (e.map LP),L T,dN k]) (z0 rfl (z0 rfl (z0 rfl (z0 rfl (z0 rfl z7))))) C))).trans rfl
  unfold forD;rw[show tgD (.nm 5) (dN k) (eR b s e T f i)=some (eR b s e T f (some (.sh (dN k))))from rfl];simp only[m];rw[D,w];show some (Out.nx (eR b s e T _ h))=some (Out.nx (eR b s e T (f+(bfs b s (T.drop (k+1)).length st (aft st) (T.getD k 0)+(match stN b s st (T.getD k 0)with |some o=>ixP b s o (T.drop (k+1))|none=>0))) h));rw[zr2 c j,show (T.drop (k+1)).length=T.length-1-k by rw[dQ];lia];simp only;rw[dL]
theorem wx5(a:List PR)(k:a.length=b.length)(j:∀q,q<b.length->Rv b s q (a.getD q ([],[])))(T:List Nat)(f:T.length<=300)(hw:Wv (xr b) b.length s T):wr9 [RI' b,.int s,.lst (a.map LP),L T]=some (.sh (dN (1+ixP b s none T))):=by
 let⟨h,e⟩:=zj0 b s c g a k j T f hw T.length 0 1 none none aw rfl;show e9 ?_;show seqI (ρ':=eR b s a T 1 none) ((v4 rfl).trans rfl) ?_;show seqI (ρ':=eR b s a T (1+ixP b s none T) h) ?_ rfl;have d:w4 rng1 (z6 (mlen (bvar 3)) anil) (eR b s a T 1 none)=some (((List.range T.length).map (0+·)).map dN):=by delta w4;rw[z0 (u7 rfl) z7,aI,aL,B8 (Y1 aw aw),bB,A0,bw,bw];show bf some (ba λi _=>?_);simp;rfl
 delta mfor;rw[d,aI,e,drop_zero]
end
end
section
open PySem L2
theorem xb2:∀(ns:List Int),ns.Pairwise (·<·)->∀i,i<=ns.length->PyProof.Rows.firstMet (λi=>ns.getD i 0) i=ns.take i
 |ns,h,0,_=>by rw[PyProof.Rows.firstMet_zero];rfl
 |ns,h,i+1,hi=>by
  have a:i<ns.length:=aw;rw[PyProof.Rows.firstMet_succ,xb2 ns h i aw];have e:ns.getD i 0=ns[i]:=by rw[aE,aG a];rfl
  have c:((ns.take i).any (·==ns.getD i 0))=false:=by rw[any_eq_false];intro y b;let⟨j,d,rfl⟩:=dg b;rw[cB]at d;have:=c6.mp h j i aw a aw;rw[getElem_take,e];simp;lia
  unfold PyProof.Rows.step_dedup;rw[c];simp only[Bool.false_eq_true,if_false];rw[e,take_succ,aG a];rfl
theorem wy6{T:List Nat}(h:T.Pairwise (·<·))(c:m g=some (T.map dN))(f:T.length<=1000):U6 m g=some (T.map dN):=by
 have e:T.map dN=(NI T).map .int:=by delta NI;rw[bw];rfl
 have b:(NI T).Pairwise (·<·):=List.pairwise_map.mpr (h.imp λa=>Int.ofNat_lt.mpr a);have d:ddI (NI T)=NI T:=by delta ddI;rw[xb2 _ b _ (aK _),take_length]
 delta U6;rw[c,e];simp only[Z7];rw[aH (by delta NI;rw[aL];lia),d];have:zo5 (NI T)=NI T:=R9 (S5 _) (U7 _) (b.imp λa=>Int.le_of_lt a);rw[this]
theorem Wd.riseL{x:Nat->Int}{n:Nat}{s:Int}:∀{l:List Nat}{d:Bool},Wd x n s d l->l.Pairwise (·<·)
 |[],_,h=>h.elim
 |[p],_,_=>dn ..
 |p::q::l,d,h=>by
  have b:=h.2.2.riseL;show bG.mpr ⟨λy a=>?_,b⟩;rcases aT.mp a with rfl|a
  .exact h.1
  .exact de h.1 ((bG.mp b).1 y a)
theorem Wv.riseL{x:Nat->Int}{n:Nat}{s:Int}(h:Wv x n s l):l.Pairwise (·<·):=by
 rcases h with rfl|⟨d,h⟩
 .exact .nil
 .exact h.riseL
theorem vm9(f:List Int)(s:Int)(l:1<=s)(T:List Nat)(hw:Wv (xr f) f.length s T):gd f s T=true:=by
 delta gd;rw[all_eq_true];intro j m;have m:=bq.mp m;have p:∀i,i<T.length->T.getD i 0=(T.drop j).getD (i-j) 0\/i<j:=λi hi=>by
  by_cases c:i<j
  .exact .inr c
  .refine .inl ?_;rw[aE,aE,getElem?_drop,show j+(i-j)=i by lia]
 cases j with
 |zero=>
  match T,hw,m with
  |a::b::r,hw,_=>let⟨d,h⟩:=hw.resolve_left az;have:=(λa b r d h=>(Q7 l h.2.1).1) a b r d h;show (!(decide (((xr f b-xr f a).natAbs:Int)<s) || (decide (1<1)&&_)))=true;rw[aP this];rfl
 |succ j=>
  have k:=C8 j hw;have o:T.drop j=T.getD j 0::T.getD (j+1) 0::T.getD (j+2) 0::T.drop (j+3):=by
   have g:∀i,i<T.length->T.drop i=T.getD i 0::T.drop (i+1):=λi hi=>by rw[cP hi,aE,aG hi];rfl
   rw[g j aw,g (j+1) aw,g (j+2) aw]
  rw[o]at k;let⟨d,h⟩:=k.resolve_left az;delta bad;rw[show 1+(j+1)=j+2 by lia,show j+2-1=j+1 by lia,show j+2-2=j by lia];have n:=Q7 l h.2.2.2.1;rw[aP n.1,n.2];have e:decide (xr f (T.getD j 0)<xr f (T.getD (j+1) 0))=d:=by rw[<-(Q7 l h.2.1).2];show dh.mpr aw
  rw[e];ext d <;> simp
section
variable (a:List Int)(s:Int)(b:1<=s)(c:a.length<=300)
include b c
theorem yx0:∃J,zw0 a s (a.length:Int) J/\zh5 [RI' a,.int s]=some (.fr ((cl a s J).map dN)):=by let⟨J,d,_⟩:=Y3 a s (a.length:Int) c;show⟨J,d,?_⟩;rw[zo4 a s b c,yx1 a s b d];rfl
end
end
section
open PySem L2
theorem zx2{b:Type}{g:Tg}{a:ML}{f:b->D}{G:b->List D}(I:List b->Ro->Prop)
  (e:∀d ds l,I (d::ds) l->∃ρ1,tgD g (f d) l=some ρ1/\a ρ1=some (G d)/\I ds ρ1):
  ∀(ds:List b)(l:Ro)(acc:List (List D)),I ds l->acc.length+ds.length<=sizeLine->R1 g a (ds.map f) l acc=some (acc++ds.map G)
 |[],l,acc,h,i=>by simp[R1]
 |d::ds,l,acc,h,i=>by let⟨ρ1,k,j,h'⟩:=e d ds l h;rw[bA]at i;rw[br];unfold R1;rw[k];show (match a ρ1 with |some c=>if acc.length<sizeLine then R1 g a (ds.map f) ρ1 (acc++[c])else none|none=>none)=_;rw[j];show (if acc.length<sizeLine then R1 g a (ds.map f) ρ1 (acc++[G d])else none)=_;rw[aH aw,zx2 I e ds ρ1 (acc++[G d]) h' (by rw[bV,dZ];lia),dq];rfl
theorem wr2(h:m b=some ds)(a:f ds=some (.fr es)):W1 f m b=some es:=by delta W1;rw[h,aI,a]
theorem seqP(h:x b=some (.nx ρ'))(a:y ρ'=o):zi6 x y b=o:=by delta zi6;rw[h];show a
theorem ym9(d:List Int)(s:Int)(p:1<=s)(B:d.length<=300){J:Nat}(t:xa6 d s (d.length:Int) J){F:Nat->List Nat}(v:vs7 d s J F)(b:Nat)(q:b<=100):
  n9 [.lst (d.map .int),.int s,dN b]=some ((List.range (min b (tot d s J))).map λi=>(F (i+1)).map dN):=by
 have A:=v3;show seqP (xk7 (w9 (z0 rfl z7) (Y7 s p))) ?_;have c:cor (y0 (m2 ltD (mvar 2) (mc (.int 0)))) (y0 (m2 gtD (mvar 2) (mc (.int 100)))) [k0a d,k0c s,some (.sh (dN b)),none,none]=some false:=by
  show zt6 (a:=false) ?_ ?_
  .rw[yv7 rfl rfl,aP aw]
  .refine u9 ((y9 rfl rfl).trans ?_);show some (D.bl (decide ((100:Int)<(b:Int))))=_;rw[aP aw]
 show seqP ((m6 c).trans rfl) ?_;have x:mlen (bvar 0) [k0a d,k0c s,some (.sh (dN b)),none,none]=some (.int (d.length:Int)):=by rw[u7 (rfl),aL]
 show seqP ((v4 (W8 (z0 rfl (z0 rfl (z0 x z7))) t)).trans rfl) ?_;generalize g:(List.range J).map (lay d s)=Ls;have h:=zw7 d s J;rw[g]at h;have y:w5 Q3 (z6 (mvar 2) (z6 (u0 m_Z1 (z6 (mvar 3) anil)) anil)) [k0a d,k0c s,some (.sh (dN b)),some (.sh (.lst Ls)),none]=some (dN (min b (tot d s J))):=by delta w5;rw[z0 rfl (z0 (w9 (z0 rfl z7) h) z7)];show some (D.int (if (tot d s J:Int)<(b:Int)then (tot d s J:Int)else (b:Int)))=_;congr 2;split <;> lia
 show seqP (ρ':=[k0a d,k0c s,some (.sh (dN b)),some (.sh (.lst Ls)),some (.sh (dN (min b (tot d s J))))]) ((v4 y).trans rfl) ?_;have j:min b (tot d s J)<=tot d s J:=Nat.min_le_right _ _;have f:min b (tot d s J)<=100:=bD (Nat.min_le_left _ _) q;generalize min b (tot d s J)=K at j f;have m:okR 1=true:=by decide
 have w:w4 rng2 (z6 (mc (.int 1)) (z6 (m2 addD (mvar 4) (mc (.int 1))) anil)) [k0a d,k0c s,some (.sh (dN b)),some (.sh (.lst Ls)),some (.sh (dN K))]=some ((List.range K).map λi=>dN (i+1)):=by delta w4;rw[z0 rfl (z0 ((y9 rfl rfl).trans (rfl)) z7),aI,K0 m (Y1 aw aw),X5,show ((K:Int)+1-1).toNat=K by lia];show bf some (ba λi _=>?_);show D.int (1+(i:Int))=D.int ((i+1:Nat):Int);rw[show (1:Int)+(i:Int)=((i+1:Nat):Int)by lia]
 delta Z0;rw[w,aI];show R1 _ _ _ [none,k0a d,k0c s,some (.sh (.lst Ls))] []=_;rw[zx2 (λl k=>(∀i∈l,i<K)/\∃o,k=[o,k0a d,k0c s,some (.sh (.lst Ls))]) (by intro i l k u;let⟨hi,o,rfl⟩:=u;have r:=hi i az;have e:=(v (i+1) aw aw).2;rw[g]at e;show⟨[some (.sh (dN (i+1))),k0a d,k0c s,some (.sh (.lst Ls))],rfl,wr2 (z0 rfl (z0 rfl (z0 rfl (z0 rfl z7)))) e,λz n=>hi z (by simp[n]),_,rfl⟩) (List.range K) _ [] ⟨λi hi=>bq.mp hi,none,rfl⟩ (by simp;lia),cT]
theorem yr4(b:List Int)(s:Int)(d:1<=s)(c:b.length<=300)(f:Best (Wv (xr b) b.length s) l)(a:Nat)(k:a<=100):
  n9 [.lst (b.map .int),.int s,dN a]=some (((ctsJ b s l.length).take a).map (·.map dN)):=by
 have e:l.length<=b.length:=by let⟨J,h,_⟩:=Y3 b s (b.length:Int) c;rw[<-yz4 f (Int.le_refl _) h];show h.1
 have g:=wp0 c f b.length;rw[Nat.min_eq_right e]at g;let⟨F,j⟩:=xn5 b s d c l.length aw;rw[ym9 b s d c g j a k];have len:=zn0 b s d l.length;show bf some (ext_getElem (by simp[len]) λi m n=>?_);simp;simp at m;have hi:i<(ctsJ b s l.length).length:=by rw[len];lia
 rw[(j (i+1) aw aw).1,cA,aE,aG hi];rfl
theorem ys0{f:List D->Option (List D)}(h:m b=some ds)(a:f ds=some es):w4 f m b=some es:=by delta w4;rw[h];show a
theorem kk5:kitB "list" "bool"=some false:=by decide +kernel
theorem kk6:kitB "list" "int"=some false:=by decide +kernel
theorem kk7:kitB "list" "str"=some false:=by decide +kernel
theorem kk8:kitB "list" "tuple"=some false:=by decide +kernel
theorem kk9:kitB "list" "list"=some true:=by decide +kernel
theorem vw3(i:Int):isND false (.int i) .non=some (.bl false):=rfl
theorem vw2(ds:List D):isND false (.lst ds) .non=some (.bl false):=rfl
theorem vu8(a:Int):m_Z6 [.int a,.int a]=some (.sh (.bl true)):=by
 show Y0 ?_
 ((apply y6;focus (simp_arith [vw3];rfl)))
 ((apply y6;focus (simp_arith [xy4];rfl)))
 show m8 ⟨.rt (.bl true),?_,rfl⟩;simp_arith [vx3,xy4,beq_self_eq_true,Bool.not_false]
theorem xt5(a:Int):m_Z7 [.int a,.int a]=some (.sh (.bl true)):=by
 show Y0 ?_
 ((apply y6;focus (simp_arith [vw3];rfl)))
 ((apply y6;focus (simp_arith [xy4];rfl)))
 show m8 ⟨.rt (.bl true),?_,rfl⟩;simp_arith [vx3,xy4,beq_self_eq_true,Bool.not_false]
theorem yg4(xs:List D)(b:xs.length<=900):w4 rng1 (z6 (w5 lenF (z6 (mvar 1) anil)) anil) [some (.sh (.lst xs)),some (.sh (.lst xs)),none]=some ((List.range xs.length).map λ(j:Nat)=>D.int (j:Int)):=by
 have e:w5 lenF (z6 (mvar 1) anil) [some (.sh (.lst xs)),some (.sh (.lst xs)),none]=some (.int (xs.length:Int)):=by delta w5;rw[z0 rfl z7];rfl
 have a:=ys0 (z0 e z7) (B8 (Y1 aw aw));rw[bB,A0,bw]at a;show a
theorem wk2(xs:List D)(g:xs.length<=900)(h:∀j,j<xs.length->∃x,atI xs (j:Int)=some x/\m_Z6 [x,x]=some (.sh (.bl true))):m_Z5 [.lst xs,.lst xs]=some (.sh (.bl true)):=by
 show Y0 ?_
 ((apply y6;focus (simp_arith [vw2];rfl)))
 ((apply y6;focus (simp_arith [kk5];rfl)))
 ((apply y6;focus (simp_arith [kk6];rfl)))
 ((apply y6;focus (simp_arith [kk7];rfl)))
 ((apply y6;focus (simp_arith [kk8,kk9,Bool.not_true];rfl)))
 ((apply y6;focus (simp_arith [beq_self_eq_true,Bool.not_true];rfl)))
 show m8 (j6 xs.length (yg4 xs g)
  (I:=λ_ a=>∃d,a=[some (.sh (.lst xs)),some (.sh (.lst xs)),d]) _ ⟨none,rfl⟩ ?_ (λa _=>⟨_,rfl,rfl⟩))
 rintro j a k ⟨d,rfl⟩;show⟨_,rfl,?_⟩;let⟨x,f,c⟩:=h j k;show yu2 (b:=false) ?_ (zr8 ⟨_,rfl⟩);have e:∀i,(i=0\/i=1)->m2 ixAD (mvar i) (mvar 2) [some (.sh (.lst xs)),some (.sh (.lst xs)),k0b j]=some x:=λi hi=>by delta m2;rcases hi with h|h <;> subst h <;> show f
 show Option.map _ (Option.bind (u0 _ _ [some (.sh (.lst xs)),some (.sh (.lst xs)),k0b j]) truD)=_;rw[w9 (z0 (e 0 (.inl rfl)) (z0 (e 1 (.inr rfl)) z7)) c];rfl
theorem wk1(xs:List D)(g:xs.length<=900)(h:∀j,j<xs.length->∃x,atI xs (j:Int)=some x/\m_Z5 [x,x]=some (.sh (.bl true))):m_Z7 [.lst xs,.lst xs]=some (.sh (.bl true)):=by
 show Y0 ?_
 ((apply y6;focus (simp_arith [vw2];rfl)))
 ((apply y6;focus (simp_arith [kk5];rfl)))
 ((apply y6;focus (simp_arith [kk6];rfl)))
 ((apply y6;focus (simp_arith [kk7];rfl)))
 ((apply y6;focus (simp_arith [kk8,kk9,Bool.not_true];rfl)))
 ((apply y6;focus (simp_arith [beq_self_eq_true,Bool.not_true];rfl)))
 show m8 (j6 xs.length (yg4 xs g)
  (I:=λ_ a=>∃d,a=[some (.sh (.lst xs)),some (.sh (.lst xs)),d]) _ ⟨none,rfl⟩ ?_ (λa _=>⟨_,rfl,rfl⟩))
 rintro j a k ⟨d,rfl⟩;show⟨_,rfl,?_⟩;let⟨x,f,c⟩:=h j k;show yu2 (b:=false) ?_ (zr8 ⟨_,rfl⟩);have e:∀i,(i=0\/i=1)->m2 ixAD (mvar i) (mvar 2) [some (.sh (.lst xs)),some (.sh (.lst xs)),k0b j]=some x:=λi hi=>by delta m2;rcases hi with h|h <;> subst h <;> show f
 show Option.map _ (Option.bind (u0 _ _ [some (.sh (.lst xs)),some (.sh (.lst xs)),k0b j]) truD)=_;rw[w9 (z0 (e 0 (.inl rfl)) (z0 (e 1 (.inr rfl)) z7)) c];rfl
theorem wk0(l:List Nat)(b:l.length<=900):m_Z5 [L l,L l]=some (.sh (.bl true)):=
 wk2 (l.map dN) (by rw[aL];show b) λj a=>by rw[aL]at a;show⟨_,E4 l j a,vu8 _⟩
theorem xf5(a:Qe)(c:a.length<=900)(d:∀l∈a,l.length<=900):m_Z7 [.lst (a.map L),.lst (a.map L)]=some (.sh (.bl true)):=
 wk1 (a.map L) (by rw[aL];show c) λj b=>by
  rw[aL]at b;show⟨L (a.getD j []),?_,wk0 _ (d _ ?_)⟩
  .rw[X1 L a (j:Int) aw aw [],bB]
  .rw[aE,aG b];show dj b
theorem N2{src:Qd}(h:mi d=some a):t9 src mi g c b d=c9 g c b a (P3 src d) []:=by delta t9;rw[h];rfl
theorem vn9{lo hi:MO}(d:m e=some (a.map L))(c:lo e=some l)(b:hi e=some h):mcut m lo hi e=some ((cutI a l h).map L):=by delta mcut;rw[d,aI,c,aI,b,aI,V2]
theorem yq7{s:Int}(c:a.length<=300)(d:Best (Wv (xr a) a.length s) l):l.length<=a.length:=by let⟨J,b,_⟩:=Y3 a s (a.length:Int) c;rw[<-yz4 d (Int.le_refl _) b];show b.1
theorem xj0{a:Qe}{m:ML}{n:Ro}(h:m n=some ((a.map List.length).map dN)){l:List Nat}(i:l∈a)(d:∀q∈a,q.length<=l.length):za2 m n=some (dN l.length):=by
 have j:(a.map List.length).map dN=(a.map λq=>(q.length:Int)).map .int:=by rw[bw,bw];show ba λ_ _=>rfl
 rw[j]at h;have b:(l.length:Int)∈a.map λq=>(q.length:Int):=bj.mpr ⟨l,i,rfl⟩;cases hq:a.map (λq=>(q.length:Int))with
 |nil=>rw[hq]at b;ext b
 |cons x r=>rw[hq]at h b;rw[yt9 h];have g:=za7 b;have f:=zo2 (ns:=x::r) az;rw[<-hq]at f;let⟨q,c,e⟩:=bj.mp f;have k:=d q c;rw[<-hq]at g ⊢;rw[<-e]at g ⊢;have:q.length=l.length:=aw;rw[this];rfl
section
variable (a:List Int)(s:Int)(b:1<=s)(c:a.length<=300)
include b c
theorem xq5(z:a.length<10)(n:Best (Wv (xr a) a.length s) l)(d:Nat)(C:d<=100):
  m_Z2 [RI' a,.int s,dN d,.lst [dN (tot a s l.length),.lst (((ctsJ a s l.length).take d).map L)]]=some (.sh (.bl true)):=by
 let⟨f,j,e,x,A⟩:=ym6 a s b aw;have i:f.filter (λq=>decide (q.length=l.length))=ctsJ a s l.length:=yi9 (j.sublist filter_sublist) (yy9 a s l.length) λm=>by rw[mem_filter,e,Y4 a s b l.length m];simp
 generalize y:D.lst [dN (tot a s l.length),.lst (((ctsJ a s l.length).take d).map L)]=T;show e9 ?_;show seqI ((v4 (W8 (z0 rfl (z0 rfl z7)) A)).trans rfl) ?_;have h:t9 [none] (u4 (mvar 4)) (.nm 0) cyes (mlen (bvar 0)) [some (.sh (RI' a)),k0c s,some (.sh (dN d)),some (.sh T),some (.sh (.lst (f.map L))),none,none]=some ((f.map List.length).map dN):=by
  rw[N2 (j3 rfl)];show(i8 (G:=λq=>dN q.length) (λ_ g=>∃o,g=[o]) (by rintro q ls g ⟨o,rfl⟩;show⟨[some (.sh (L q))],rfl,rfl,by rw[u7 rfl,aL];rfl,_,rfl⟩) f _ [] ⟨none,rfl⟩ (y7 (by simp;lia))).trans ?_
  rw[bw];rfl
 show seqI ((v4 (xj0 h ((e l).mpr n.1) (λq k=>n.len q ((e q).mp k)))).trans rfl) ?_;have r:t9 [none,some 5] (u4 (mvar 4)) (.nm 0) (y0 (m2 eqSD (mlen (bvar 0)) (mvar 1))) (mvar 0) [some (.sh (RI' a)),k0c s,some (.sh (dN d)),some (.sh T),some (.sh (.lst (f.map L))),some (.sh (dN l.length)),none]=some ((ctsJ a s l.length).map L):=by
  rw[N2 (j3 rfl)];show(k0 (λ_ g=>∃o,g=[o,some (.sh (dN l.length))]) (by rintro q ls g ⟨o,rfl⟩;show⟨[some (.sh (L q)),some (.sh (dN l.length))],rfl,?_,λ_=>rfl,_,rfl⟩;show xh0 q.length l.length (by rw[u7 rfl,aL];rfl) rfl) f _ [] ⟨none,rfl⟩ (y7 (by simp;lia))).trans ?_
  rw[i];rfl
 show seqI (ρ':=[some (.sh (RI' a)),k0c s,some (.sh (dN d)),some (.sh T),some (.sh (.lst (f.map L))),some (.sh (dN l.length)),some (.sh (.lst ((ctsJ a s l.length).map L)))]) ((v4 (t7 r)).trans rfl) ?_;subst y;generalize p:([some (.sh (RI' a)),k0c s,some (.sh (dN d)),some (.sh (D.lst [dN (tot a s l.length),.lst (((ctsJ a s l.length).take d).map L)])),some (.sh (.lst (f.map L))),some (.sh (dN l.length)),some (.sh (.lst ((ctsJ a s l.length).map L)))]:Ro)=E;have u:bvar 3 E=some [dN (tot a s l.length),.lst (((ctsJ a s l.length).take d).map L)]:=by rw[<-p];rfl
 have t:bvar 6 E=some ((ctsJ a s l.length).map L):=by rw[<-p];rfl
 have v:mvar 2 E=some (dN d):=by rw[<-p];rfl
 have w:mlen (bvar 6) E=some (dN (tot a s l.length)):=by rw[u7 t,aL,zn0 a s b];rfl
 have B:mlst (mcut (bvar 6) W6 (k9 (mvar 2))) E=some (.lst (((ctsJ a s l.length).take d).map L)):=by show t7 ?_;rw[vn9 t rfl (by delta k9;rw[v];rfl),yy8]
 show Z5 ((wr7 (w9 (z0 (w6 u rfl rfl) (z0 w z7)) (xt5 _)) (w9 (z0 (w6 u rfl rfl) (z0 B z7)) (xf5 _ (by rw[cB];lia) λq k=>?_))).trans rfl);have:=(Y4 a s b l.length q).mp (mem_of_mem_take k);have F:=yq7 c n;lia
end
end
section
open PySem L2
theorem S6{b:Bool}(h:c a=some b):cnot c a=some (!b):=by delta cnot;rw[h];rfl
theorem vy6(a b:Nat)(d:x e=some (dN a))(c:y e=some (dN b)):y0 (m2 neSD x y) e=some (!decide (a=b)):=by
 show u9 ((y9 d c).trans ?_);show some (D.bl (!((a:Int)==(b:Int))))=_;congr 3;by_cases h:a=b
 .subst h;simp
 .rw[aP h];have:((a:Int)==(b:Int))=false:=by rw[cU];lia
  rw[this]
theorem vk3{a:Bool}{T:List Nat}(c:x d=some (T.map dN))(b:y d=some (T.map dN)):meqB a x y d=some (.bl a.not):=by
 have e:T.map dN=(NI T).map .int:=by delta NI;rw[bw];rfl
 rw[e]at c b;delta meqB eqFD;rw[c,b,aI,aI,xw1 6];ext a <;> rfl
def EV(a:List Int)(s:Int)(many:Nat)(T0 C:D)(n:Nat)(LS:List D)(o7:Option S):Ro:=[some (.sh (RI' a)),k0c s,some (.sh (dN many)),some (.sh T0),some (.sh C),some (.sh (dN n)),some (.sh (.lst LS)),o7]
section
variable (b:List Int)(s:Int)(c:1<=s)(d:b.length<=300)
include c d
theorem wa5{J f n:Nat}{T0:D}{T:List Nat}(N:J<=300)(hw:Wv (xr b) b.length s T)(m:T.length=J):
  yw0 (EV b s f T0 (L (cl b s J)) n t (some (.sh (L T))))=some (.nx (EV b s f T0 (L (cl b s J)) n t (some (.sh (L T))))):=by
 have B:(cl b s J).length=J+1:=by delta cl;simp
 have g:=zm6 hw;generalize e:EV b s f T0 (L (cl b s J)) n t (some (.sh (L T)))=E;have I:bvar 0 E=some (b.map .int):=by rw[<-e];rfl
 have w:mvar 0 E=some (RI' b):=by rw[<-e];rfl
 have v:mvar 1 E=some (.int s):=by rw[<-e];rfl
 have i:mvar 7 E=some (L T):=by rw[<-e];rfl
 have h:bvar 7 E=some (T.map dN):=by rw[<-e];rfl
 have F:bvar 4 E=some ((cl b s J).map dN):=by rw[<-e];rfl
 have A:misi "list" (mvar 7) E=some (.bl true):=by delta misi;rw[i];show (kitB "list" "list").map D.bl=_;rw[vx2];rfl
 have x:t9 [none] (u4 (mvar 7)) (.nm 0) (mtru (misi "bool" (mvar 0))) (mvar 0) E=some []:=by
  rw[N2 (j3 i)];show(k0 (p:=λ_=>false) (G:=dN) (λ_ u=>∃o,u=[o]) (by
   rintro k K u ⟨o,rfl⟩;show⟨[some (.sh (dN k))],rfl,?_,λz=>(by ext z),_,rfl⟩;have H:misi "bool" (mvar 0) [some (.sh (dN k))]=some (.bl false):=by delta misi;show (kitB "int" "bool").map D.bl=_;rw[xy4];rfl
   delta mtru;rw[H];rfl) T _ [] ⟨none,rfl⟩ (y7 (by simp;lia))).trans ?_
  rw[zy7];rfl
 show seqI ((m6 (zt6 (S6 (Y8 A)) (u9 (D4 x true)))).trans rfl) ?_;have y:mlen (bvar 7) E=some (dN T.length):=by rw[u7 h,aL];rfl
 have C:m2 subD (mlen (bvar 4)) (mc (.int 1)) E=some (dN J):=by show(y9 (by rw[u7 F,aL]) rfl).trans ?_;show some (D.int (((cl b s J).length:Int)-1))=_;congr 2;lia
 show seqI ((m6 (zt6 (a:=false) ((vy6 T.length J y C).trans (by rw[aO m];rfl)) (u9 (vk3 h (wy6 hw.riseL h aw))))).trans rfl) ?_;have r:mtru (u0 zh4 (z6 (mvar 0) (z6 (mvar 1) (z6 (mvar 7) anil)))) E=some true:=by rw[Y8 (w9 (z0 w (z0 v (z0 i z7))) (Q4 b s T g aw)),vm9 b s c T hw]
 have j:cand (y0 (meqB true (bvar 7) (y8 anil))) (cor (y0 (m2 ltD (mix (bvar 7) (mc (.int 0))) (mc (.int 0)))) (y0 (m2 geD (mix (bvar 7) (m1 negD (mc (.int 1)))) (mlen (bvar 0))))) E=some false:=by
  have ne:=u9 (D4 h true);rcases ec T with z|⟨P,q,z⟩
  .rw[z]at ne;show xv2 ne
  .rw[eh]at z;have l:(T.map dN).isEmpty=false:=by rw[z];simp
   rw[l]at ne;have M:=g q (by rw[z];simp);show zx4 ne (zt6 (a:=false) ?_ ?_)
   .rw[yv7 (w6 h rfl (by
    have:=E4 T 0 (by rw[z];simp);show this)) rfl,aP aw]
   .rw[zk1 (w6 h rfl (by rw[z];show atI_last dN P q)) (u7 I),aL,aP aw]
 show(m6 (zt6 j (S6 r))).trans rfl
end
end
section
open PySem L2
theorem xf1(h:x d=some (.lst ds,ρ1))(c:R4 b ds ρ1=some a):zh2 b x d=some (.nx a):=by delta zh2;rw[h];show (match R4 b ds ρ1 with |some a=>some (Out.nx a)|none=>none)=_;rw[c]
theorem xz8:∀(l m:List Nat),lexG (l.map dN) (m.map dN)=some (!lx l m)
 |[],[]=>rfl
 |[],_::_=>rfl
 |_::_,[]=>rfl
 |a::l,b::m=>by
  have e:eqF 7 (dN a) (dN b)=some (decide (a=b)):=by
   show some ((a:Int)==(b:Int))=_;by_cases h:a=b
   .subst h;simp
   .rw[aP h];have:((a:Int)==(b:Int))=false:=by rw[cU];lia
    rw[this]
  rw[br,br];unfold lexG;rw[e];by_cases h:a=b
  .subst h;rw[aO rfl,J6];show xz8 l m
  .rw[aP h];show some (decide ((b:Int)<=(a:Int)))=_;rcases bi a b with z|z
   .rw[S4 z,aP aw];rfl
   .have:lx (a::l) (b::m)=false:=by
     have c:=S4 (show b<a by lia) m l;cases h3:lx (a::l) (b::m)with
     |false=>rfl
     |true=>have:=D3 h3 c;rw[zu7]at this;ext this
    rw[this,aO aw];rfl
theorem vy8{a b:Nat}(d:x e=some (dN a))(c:y e=some (dN b)):w5 Q3 (z6 x (z6 y anil)) e=some (dN (min a b)):=by delta w5;rw[z0 d (z0 c z7)];show some (D.int (if (b:Int)<(a:Int)then (b:Int)else (a:Int)))=_;congr 2;split <;> lia
section
variable (c:List Int)(s:Int)(d:1<=s)(f:c.length<=300)
include d f
theorem wq7{J:Nat}(hJ:J<=300)(Z:zh5 [RI' c,.int s]=some (.fr ((cl c s J).map dN)))(g:Nat)(hm:g<=100):
  m_Z4 [RI' c,.int s,dN g,.lst [dN (tot c s J),.lst (((ctsJ c s J).take g).map L)]]=some (.sh (.bl true)):=by
 have t:((ctsJ c s J).take g).Pairwise (λa b=>lx a b=true):=(yy9 c s J).sublist (take_sublist _ _);have q:∀T∈(ctsJ c s J).take g,Wv (xr c) c.length s T/\T.length=J:=λT hT=>(Y4 c s d J T).mp (mem_of_mem_take hT);have u:∀i T,((ctsJ c s J).take g)[i]? =some T->(ctsJ c s J)[i]? =some T:=λi T h=>by
  rw[getElem?_take]at h;split at h
  .exact h
  .cases h
 have p:((ctsJ c s J).take g).length=min g (tot c s J):=by rw[cB,(zn0 c s d J)]
 generalize (ctsJ c s J).take g=qs at t q u p;generalize Y:tot c s J=n at p;generalize H:D.lst [dN n,.lst (qs.map L)]=T0;suffices h:Run b_Z4 (u8 8 [RI' c,.int s,dN g,T0]) (λo=>o= .rt (.bl true))by let⟨o,e,rfl⟩:=h;show e9 e
 show y6 ((v4 (W8 (z0 rfl (z0 rfl z7)) Z)).trans rfl) ?_;show y6 (xf1 (ρ1:=[some (.sh (RI' c)),k0c s,some (.sh (dN g)),some (.sh T0),some (.sh (L (cl c s J))),none,none,none]) (by delta mpu;rw[<-H];rfl) rfl) ?_;have m:∀E,E=EV c s g T0 (L (cl c s J)) n (qs.map L) none->mif (cor (cnot (mtru (u0 m_Z7 (z6 (mvar 5) (z6 (mix (bvar 4) (m1 negD (mc (.int 1)))) anil))))) (cnot (mtru (misi "list" (mvar 6))))) (mret (mc (.bl false))) w8 E=some (.nx E):=by
  intro E k;have A:mvar 5 E=some (dN n):=by rw[k];rfl
  have R:mvar 6 E=some (.lst (qs.map L)):=by rw[k];rfl
  have b4:bvar 4 E=some ((cl c s J).map dN):=by rw[k];rfl
  have W:mix (bvar 4) (m1 negD (mc (.int 1))) E=some (dN n):=w6 b4 rfl (by rw[wo9,Y]);have V:misi "list" (mvar 6) E=some (.bl true):=by delta misi;rw[R];show (kitB "list" "list").map D.bl=_;rw[vx2];rfl
  show(m6 (zt6 (S6 (Y8 (w9 (z0 A (z0 W z7)) (xt5 _)))) (S6 (Y8 V)))).trans rfl
 show y6 (m _ rfl) ?_;have l:∀E,E=EV c s g T0 (L (cl c s J)) n (qs.map L) none->mif (y0 (m2 neSD (mlen (bvar 6)) (w5 Q3 (z6 (mvar 2) (z6 (mvar 5) anil))))) (mret (mc (.bl false))) w8 E=some (.nx E):=by
  intro E k;have S:mvar 2 E=some (dN g):=by rw[k];rfl
  have A:mvar 5 E=some (dN n):=by rw[k];rfl
  have w:bvar 6 E=some (qs.map L):=by rw[k];rfl
  show(m6 ((vy6 qs.length (min g n) (by rw[u7 w,aL];rfl) (vy8 S A)).trans (by rw[aO p];try rfl))).trans rfl
 show y6 (l _ rfl) ?_;show m8 (yg2 qs rfl (I:=λQ r=>(∀T∈Q,T∈qs)/\∃y,r=EV c s g T0 (L (cl c s J)) n (qs.map L) y) _ ⟨λ_ h=>h,none,rfl⟩ ?_ ?_)
 .rintro T Q r ⟨hd,y,rfl⟩;let⟨h1,h2⟩:=q T (hd T az);show⟨_,rfl,_,wa5 c s d f hJ h1 h2,λT h=>hd T (by simp[h]),_,rfl⟩
 rintro r ⟨_,y,rfl⟩;generalize k:EV c s g T0 (L (cl c s J)) n (qs.map L) y=E;have M:mvar 0 E=some (RI' c):=by rw[<-k];rfl
 have K:mvar 1 E=some (.int s):=by rw[<-k];rfl
 have w:bvar 6 E=some (qs.map L):=by rw[<-k];rfl
 have v:P3 [none,some 6] E=[none,some (.sh (.lst (qs.map L)))]:=by rw[<-k];rfl
 have O:mlen (bvar 6) E=some (dN qs.length):=by rw[u7 w,aL];rfl
 have er:w4 rng2 (z6 (mc (.int 1)) (z6 (mlen (bvar 6)) anil)) E=some ((List.range (qs.length-1)).map λi=>dN (i+1)):=by show(ys0 (z0 rfl (z0 O z7)) (K0 ay (Y1 aw aw))).trans ?_;rw[X5,show ((qs.length:Int)-1).toNat=qs.length-1 by lia];show bf some (ba λi _=>?_);show D.int (1+(i:Int))=D.int ((i+1:Nat):Int);rw[show (1:Int)+(i:Int)=((i+1:Nat):Int)by lia]
 have U:t9 [none,some 6] (w4 rng2 (z6 (mc (.int 1)) (z6 (mlen (bvar 6)) anil))) (.nm 0) (y0 (m2 geLD (mix (bvar 1) (m2 subD (mvar 0) (mc (.int 1)))) (mix (bvar 1) (mvar 0)))) (mvar 0) E=some []:=by
  show wo8 (List.range (qs.length-1)) er (by simp;lia) (λr=>∃o,r=[o,some (.sh (.lst (qs.map L)))]) ⟨none,v⟩ ?_;rintro i hi r ⟨o,rfl⟩;have hi:=bq.mp hi;show⟨[some (.sh (dN (i+1))),some (.sh (.lst (qs.map L)))],rfl,?_,_,rfl⟩;have x:∀j,j<qs.length->atI (qs.map L) (j:Int)=some (L (qs.getD j [])):=λj hj=>by rw[X1 L qs (j:Int) aw aw [],bB]
  have e1:mix (bvar 1) (m2 subD (mvar 0) (mc (.int 1))) [some (.sh (dN (i+1))),some (.sh (.lst (qs.map L)))]=some (L (qs.getD i [])):=by show w6 rfl ((y9 rfl rfl).trans ?_) (x i aw);show some (D.int (((i+1:Nat):Int)-1))=_;rw[show ((i+1:Nat):Int)-1=(i:Int)by lia]
  show u9 ((y9 e1 (w6 rfl rfl (x (i+1) aw))).trans ?_);show (lexG ((qs.getD i []).map dN) ((qs.getD (i+1) []).map dN)).map D.bl=_;rw[xz8];have:=c6.mp t i (i+1) aw aw aw;rw[aE,aE,aG (show i<qs.length by lia),aG (show i+1<qs.length by lia)];show some (D.bl (!lx qs[i] qs[i+1]))=_;rw[this];rfl
 show y6 ((m6 (u9 (D4 U true))).trans rfl) ?_;have B:=u9 (D4 w false);rcases ec qs with z|⟨P,T,z⟩
 .refine⟨_,seqR ?_,rfl⟩;rw[m6 B,z];show Z5 rfl
 .rw[eh]at z;have F:(qs.map L).isEmpty=false:=by rw[z];simp
  rw[F]at B;show y6 ((m6 B).trans rfl) ?_;have G:T∈qs:=by rw[z];simp
  let⟨hw,a0⟩:=q T G;let⟨Bs,hB,X,eo⟩:=xy3 c s d f;have N:=wx5 c s d f Bs hB X T aw hw;have C:qs.length=P.length+1:=by rw[z];simp
  rw[wo7 c s d J P.length T (u _ _ (by rw[z];simp))]at N;show⟨_,Z5 ((y9 (w9 (z0 M (z0 K (z0 (w9 (z0 M (z0 K z7)) eo) (z0 (w6 w rfl (by rw[z];show atI_last L P T)) z7)))) N) O).trans ?_),rfl⟩;show some (D.bl (((1+P.length:Nat):Int)==(qs.length:Int)))=_;rw[C,show 1+P.length=P.length+1 by lia];simp
end
end
section
open PySem L2
theorem E5{i:Nat}(h:a[i]? =some y):(Y6 a b)[i]? =some (xr8 b (zw3 b y)):=by delta Y6 thaw;rw[bn,bn,h];rfl
theorem zv9(a:Bx)(ns:List Int):(ns.map D.int).map (thawD a)=ns.map .int:=by rw[bw];show ba λ_ _=>rfl
theorem yb4{i:Nat}{k:Int}(h:a[i]? =some (k0c k)):mvar i (Y6 a b)=some (.int k):=by delta mvar;rw[E5 h];rfl
theorem zb8{i:Nat}(h:a[i]? =some (some (.sh (.lst ds)))):mvar i (Y6 a b)=some (.lst (ds.map (thawD b))):=by delta mvar;rw[E5 h];rfl
theorem yx7{i:Nat}(h:a[i]? =some (some (.sh (.lst ds)))):bvar i (Y6 a b)=some (ds.map (thawD b)):=by delta bvar;rw[E5 h];rfl
theorem zg2{c:Ro->Bx->Option Bool}{b:Bool}(h:c a d=some b):mifW c x y a d=(if b then x else y) a d:=by delta mifW;rw[h];ext b <;> rfl
theorem L9{r:Option (Out×Bx)}(h:x b c=some (.nx ρ',β'))(a:y ρ' β'=r):Q2 x y b c=r:=by delta Q2;rw[h];show a
theorem wx0{i:Nat}{x:Ro->Bx->Option D}(h:x a b=some d):yb6 i x a b=some (.nx (a.set i (some (.sh d))),b):=by delta yb6;rw[h];rfl
theorem xs8(xs:List D)(h:∀x∈xs,eqF 7 x x=some true):zipE (eqF 7) xs xs=some true:=by
 induction xs with
 |nil=>rfl
 |cons x xs a=>unfold zipE;rw[h x az,aI,a λy b=>h y (by simp[b])];rfl
theorem eqLL{a:Bool}(xs:List D)(h:∀x∈xs,∃ns:List Int,x= .lst (ns.map .int)):eqFD a (.lst xs) (.lst xs)=some (.bl (!a)):=by
 have e:eqF 8 (.lst xs) (.lst xs)=some true:=by
  show (if xs.length=xs.length then zipE (eqF 7) xs xs else some false)=_;rw[aH rfl];show xs8 xs λx b=>by let⟨ns,rfl⟩:=h x b;show xw1 5 ns
 delta eqFD;rw[e];ext a <;> rfl
theorem xa0{a:Bool}(c:x d=some xs)(b:y d=some xs)(h:∀x∈xs,∃ns:List Int,x= .lst (ns.map .int)):meqB a x y d=some (.bl (!a)):=by delta meqB;rw[c,b];show eqLL xs h
theorem vk4{a:Bool}{x y:ML}{c:Ro}{xs:List Int}(h:x c=some (xs.map .int))(b:y c=some (xs.map .int)):meqB a x y c=some (.bl (!a)):=by delta meqB eqFD;rw[h,b,aI,aI,xw1 6];ext a <;> rfl
def fsN(qs:Qe)(n:Nat):List Fl:=(List.range qs.length).map λi=>.l ((qs.getD i []).map dN++if i<n then [.int (i:Int)]else [])
theorem zt2(a:Qe)(n:Nat):(fsN a n).length=a.length:=by delta fsN;simp
theorem xx4(a:Qe):fsN a 0=a.map λT=>.l (T.map dN):=by show ext_getElem (by rw[zt2];simp) λi b c=>?_;rw[zt2]at b;delta fsN;simp[getElem?_eq_getElem b]
theorem vw6(a:Qe)(n i:Nat)(h:i<a.length):(fsN a n)[i]? =some (.l ((a.getD i []).map dN++if i<n then [.int (i:Int)]else [])):=by delta fsN;rw[bn,cw h];rfl
theorem wp9(a:Qe)(n:Nat)(h:n<a.length):(fsN a n).set n (.l ((a.getD n []).map dN++[.int (n:Int)]))=fsN a (n+1):=by
 show db λi=>?_;by_cases hi:i<a.length
 .rw[vw6 a (n+1) i hi];by_cases b:n=i
  .subst b;rw[aN (by rw[zt2];show hi),aH aw]
  .rw[aR b,vw6 a n i hi];by_cases c:i<n
   .rw[aH c,aH aw]
   .rw[aF c,aF aw]
 .rw[aY (by rw[length_set,zt2];lia),aY (by rw[zt2];lia)]
theorem xz5(qs:Qe)(d:∀T∈qs,T.length<=300):∀(m n:Nat),n+m=qs.length->∃a,∀(p:Addr)(k:Ro),J7 1 12 p m n k [(p,.row (fsN qs n))]=some (.nx (if m=0 then k else (k.set 1 a).set 12 none),[(p,.row (fsN qs qs.length))])
 |0,n,h=>⟨none,λp k=>by unfold J7;rw[show n=qs.length by lia];rfl⟩
 |m+1,n,h=>by
  let⟨a,e⟩:=xz5 qs d m (n+1) aw;have b:n<qs.length:=aw;have c:(fsN qs n)[n]? =some (.l ((qs.getD n []).map dN)):=by delta fsN;rw[bn,cw b];simp
  have i:((qs.getD n []).map dN).length<sizeLine:=by
   have:(qs.getD n [])∈qs:=by rw[aE,aG b];show dj b
   have:=d _ this;have j:=v3;rw[aL];lia
  show⟨if m=0 then some (.sh (.int (n:Int)))else a,λp k=>?_⟩;have g:List.lookup p [(p,Cell.row (fsN qs n))]=some (.row (fsN qs n)):=by rw[cX,bT]
  have f:updB p (.row ((fsN qs n).set n (.l ((qs.getD n []).map dN++[.int (n:Int)])))) [(p,Cell.row (fsN qs n))]=[(p,.row (fsN qs (n+1)))]:=by rw[wp9 qs n b];unfold updB;rw[aH rfl]
  unfold J7;rw[g];simp only;rw[c];simp only;rw[aH i,f,e p _];cases m with
  |zero=>rfl
  |succ m=>
   rw[aF aw,aF aw,aF aw];have:((((k.set 1 (k0b n)).set 12 none).set 1 a).set 12 none)=(k.set 1 a).set 12 none:=by rw[set_comm _ _ (show (12:Nat)≠1 by decide),set_set,set_set]
   rw[this]
def EK(o0 o1 o2 o3 o4:Option S)(a:List Int)(s:Int)(o7:Option S)(many:Nat)(x10 x11 x12:Option S):Ro:=[o0,o1,o2,o3,o4,some (.sh (RI' a)),k0c s,o7,some (.sh (dN many)),some (.sh (RI' a)),x10,x11,x12]
theorem th10(n:Nat)(X:List D)(fs:List Fl)(a:fs.map flD=X)(p:Addr):[dN n,D.ptr p].map (thawD [(p,.row fs)])=[dN n,.lst X]:=by
 have e:thawD [(p,Cell.row fs)] (.ptr p)= .lst (fs.map flD):=by show (match List.lookup p [(p,Cell.row fs)]with |some c=>xh6 c|none=>.ptr p)=_;rw[cX,bT];rfl
 show [thawD [(p,Cell.row fs)] (dN n),thawD [(p,Cell.row fs)] (.ptr p)]=_;rw[e,a];rfl
theorem xx5(a:Qe):(fsN a 0).map flD=a.map L:=by rw[xx4,bw];show ba λ_ _=>rfl
def apN(qs:Qe):List D:=(List.range qs.length).map λi=>.lst ((qs.getD i []).map dN++[.int (i:Int)])
theorem vw7(qs:Qe):(fsN qs qs.length).map flD=apN qs:=by delta fsN apN;rw[bw];show ba λi hi=>?_;show D.lst (_++if i<qs.length then _ else _)=_;rw[aH (bq.mp hi)]
theorem xv1{x:Bool}(c:a e=some x)(d:x=true->b e=some false):cand a b e=some false:=by
 cases x with
 |true=>show zx4 c (d rfl)
 |false=>show xv2 c
theorem xk8{i:Nat}(h:a[i]? =some none):ym1 i m a=m a:=by delta ym1;rw[h]
section
variable (c:List Int)(s:Int)(d:1<=s)(f:c.length<=300)
include d f
theorem vp6(W:Best (Wv (xr c) c.length s) l)(k:Nat)(V:k<=100)(B A z y w v C:Option S)(hc:zh5 [RI' c,.int s]=some (.fr ((cl c s l.length).map dN)))(g:Qe)(r:g=(ctsJ c s l.length).take k)(n:Nat)(hn:n=tot c s l.length):
  ∃p1:Option S,∀p:Addr,M8 (EK B A z y w c s v k (some (.own [dN n,.ptr p])) C none) [(p,.row (fsN g 0))]=some (.nx (EK B p1 z y w c s v k (some (.sh (.lst [dN n,.ptr p]))) (some (.sh (.lst (g.map L)))) none),[(p,.row (fsN g g.length))]):=by
 have a2:=v3;have a1:=yq7 f W;have O:∀T∈g,T.length<=300:=λT X=>by rw[r]at X;have:=(Y4 c s d l.length T).mp (mem_of_mem_take X);lia
 have a0:g.length<=100:=by rw[r,cB];lia
 have Y:∀x∈g.map L,∃ns:List Int,x= .lst (ns.map .int):=λx U=>by let⟨T,_,rfl⟩:=bj.mp U;show⟨NI T,vr1 T⟩
 have hF:=yr4 c s d f W k V;rw[<-r]at hF;let⟨F,H⟩:=xz5 g O g.length 0 (cg _);show⟨if g.length=0 then A else F,λp=>?_⟩;delta M8;generalize t:EK B A z y w c s v k (some (.sh (.lst [dN n,.ptr p]))) C none=E;generalize G:[(p,Cell.row (fsN g 0))]=β;have frz:∀m:MW,D0 10 m (EK B A z y w c s v k (some (.own [dN n,.ptr p])) C none) β=m E β:=λm=>by rw[<-t];rfl
 rw[frz];have Q:E[10]? =some (some (.sh (.lst [dN n,.ptr p]))):=by rw[<-t];rfl
 have N:mvar 10 (Y6 E β)=some (.lst [dN n,.lst (g.map L)]):=by rw[zb8 Q,<-G,th10 n _ _ (xx5 g)]
 have Z:bvar 10 (Y6 E β)=some [dN n,.lst (g.map L)]:=by rw[yx7 Q,<-G,th10 n _ _ (xx5 g)]
 have t5:mvar 5 (Y6 E β)=some (RI' c):=by rw[zb8 (by rw[<-t];rfl),zv9]
 have b5:bvar 5 (Y6 E β)=some (c.map .int):=by rw[yx7 (by rw[<-t];rfl),zv9]
 have t6:mvar 6 (Y6 E β)=some (.int s):=yb4 (by rw[<-t];rfl);have t8:mvar 8 (Y6 E β)=some (dN k):=yb4 (by rw[<-t];rfl);show L9 ((zg2 (u9 (vk4 (by rw[<-t];rfl) (by rw[<-t];rfl)))).trans rfl) ?_;have l5:mlen (bvar 5) (Y6 E β)=some (.int (c.length:Int)):=by rw[u7 b5,aL]
 have u:D.lst [dN n,.lst (g.map L)]= .lst [dN (tot c s l.length),.lst (((ctsJ c s l.length).take k).map L)]:=by rw[hn,r]
 have c1:J8 (cand (y0 (m2 ltD (mlen (bvar 5)) (mc (.int 10)))) (cnot (mtru (u0 m_Z2 (z6 (mvar 5) (z6 (mvar 6) (z6 (mvar 8) (z6 (mvar 10) anil)))))))) E β=some false:=by
  show xv1 (x:=decide (c.length<10)) ?_ λh=>?_
  .rw[yv7 l5 rfl];show bf some (dh.mpr aw)
  .have:=xq5 c s d f (of_decide_eq_true h) W k V;rw[<-u]at this;show S6 (Y8 (w9 (z0 t5 (z0 t6 (z0 t8 (z0 N z7)))) this))
 show L9 ((zg2 c1).trans rfl) ?_;have c2:J8 (cand (y0 (m2 gtD (mlen (bvar 5)) (mc (.int 9)))) (cnot (mtru (u0 m_Z4 (z6 (mvar 5) (z6 (mvar 6) (z6 (mvar 8) (z6 (mvar 10) anil)))))))) E β=some false:=by show xv1 (u9 ((y9 l5 rfl).trans rfl)) λ_=>?_;have:=wq7 c s d f aw hc k V;rw[<-u]at this;show S6 (Y8 (w9 (z0 t5 (z0 t6 (z0 t8 (z0 N z7)))) this))
 show L9 ((zg2 c2).trans rfl) ?_;have ck:zz7 (Z0 [none] (u4 (mix (bvar 10) (mc (.int 1)))) (.nm 0) (bvar 0)) E β=some (.lst (g.map L)):=by
  have e:Z0 [none] (u4 (mix (bvar 10) (mc (.int 1)))) (.nm 0) (bvar 0) (Y6 E β)=some (g.map λT=>T.map dN):=by
   delta Z0;rw[j3 (w6 Z rfl rfl),aI];show R1 _ _ _ [none] []=_;rw[zx2 (λ_ J=>∃o,J=[o]) (by rintro T ds J ⟨o,rfl⟩;show⟨[some (.sh (L T))],rfl,rfl,_,rfl⟩) g _ [] ⟨none,rfl⟩ (by simp;lia),cT]
  delta zz7;rw[e,aI,aH (by simp[isSc,dN]),bw];rfl
 show L9 (ρ':=EK B A z y w c s v k (some (.sh (.lst [dN n,.ptr p]))) (some (.sh (.lst (g.map L)))) none) ((wx0 ck).trans (by rw[<-t];rfl)) ?_;generalize I:EK B A z y w c s v k (some (.sh (.lst [dN n,.ptr p]))) (some (.sh (.lst (g.map L)))) none=E2;have lp:zz5 (mix (bvar 10) (mc (.int 1))) 1 12 E2 β=some (.nx (EK B (if g.length=0 then A else F) z y w c s v k (some (.sh (.lst [dN n,.ptr p]))) (some (.sh (.lst (g.map L)))) none),[(p,.row (fsN g g.length))]):=by
  delta zz5;rw[w6 (by rw[<-I];rfl) rfl rfl];simp only;rw[<-G,cX,bT];simp only;rw[aH (by rw[<-I];show⟨by decide,(show 1<13 by decide),(show 12<13 by decide)⟩),zt2,H p E2,<-I];by_cases R:g.length=0
  .rw[aH R,aH R]
  .rw[aF R,aF R];rfl
 show L9 lp ?_;generalize (if g.length=0 then A else F)=q1;generalize q:EK B q1 z y w c s v k (some (.sh (.lst [dN n,.ptr p]))) (some (.sh (.lst (g.map L)))) none=E3;have M:bvar 10 (Y6 E3 [(p,.row (fsN g g.length))])=some [dN n,.lst (apN g)]:=by rw[yx7 (by rw[<-q];rfl),th10 n _ _ (vw7 g)]
 have K:mvar 11 (Y6 E3 [(p,.row (fsN g g.length))])=some (.lst (g.map L)):=by rw[zb8 (by rw[<-q];rfl),bw];show bf (λx=>some (D.lst x)) (ba λ_ _=>rfl)
 have c3:J8 (ym1 12 (y0 (meqB true (u4 (mix (bvar 10) (mc (.int 1)))) (t9 [none,none] (w4 Q8 (z6 (mvar 11) anil)) (.tp [0,1]) cyes (mlst (mcat (bvar 1) (y8 (z6 (mvar 0) anil)))))))) E3 [(p,.row (fsN g g.length))]=some false:=by
  delta J8;rw[xk8 (by rw[E5 (by rw[<-q];rfl)];rfl)];have en:w4 Q8 (z6 (mvar 11) anil) (Y6 E3 [(p,.row (fsN g g.length))])=some ((List.range g.length).map λ(i:Nat)=>D.tup [.int (i:Int),L (g.getD i [])]):=by
   delta w4;rw[z0 K z7,aI];show some (V9 0 (g.map L))=_;have hq:g.map L=(List.range' 0 g.length).map λi=>L (g.getD i []):=by show ext_getElem az λi h1 h2=>?_;rw[aL]at h1;simp[getElem?_eq_getElem h1]
   rw[hq,zy8,eE]
  have cm:t9 [none,none] (w4 Q8 (z6 (mvar 11) anil)) (.tp [0,1]) cyes (mlst (mcat (bvar 1) (y8 (z6 (mvar 0) anil)))) (Y6 E3 [(p,.row (fsN g g.length))])=some (apN g):=by
   rw[N2 en];show(i8 (λis J=>(∀i∈is,i<g.length)/\∃a b,J=[a,b]) (by rintro i is J ⟨hi,a,b,rfl⟩;show⟨[k0b i,some (.sh (L (g.getD i [])))],rfl,rfl,?_,λj hj=>hi j (by simp[hj]),_,_,rfl⟩;have P:=hi i az;have X:(g.getD i []).length<=300:=O _ (by rw[aE,aG P];show dj P);show t7 (c7 rfl (x8 (z0 rfl z7) (y7 (show 1<=1000000 by decide))) (by rw[aL,dZ];lia))) (List.range g.length) _ [] ⟨λi hi=>bq.mp hi,_,_,rfl⟩ (y7 (by simp;lia))).trans ?_
   rfl
  show u9 (xa0 (j3 (w6 M rfl rfl)) cm λx U=>?_);let⟨i,_,rfl⟩:=bj.mp U;show⟨NI (g.getD i [])++[(i:Int)],by delta NI;rw[bN,bw];rfl⟩
 show L9 ((zg2 c3).trans rfl) ?_;have c4:wE (y0 (meqB true (yn3 (J5 n9 (z6 (mvar 9) (z6 (mvar 6) (z6 (mvar 8) anil))))) (bvar 11))) E3 [(p,.row (fsN g g.length))]=some false:=by
  have ef:yn3 (J5 n9 (z6 (mvar 9) (z6 (mvar 6) (z6 (mvar 8) anil)))) E3=some (g.map L):=by delta yn3 J5;rw[z0 (by rw[<-q];rfl) (z0 (by rw[<-q];rfl) (z0 (by rw[<-q];rfl) z7)),aI,hF];show some ((g.map λT=>T.map dN).map D.lst)=_;rw[bw];rfl
  show u9 (xa0 ef (by rw[<-q];rfl) Y)
 show(zg2 c4).trans rfl
end
end
section
open PySem L2
theorem ya8{i:Nat}{dss:List (List D)}{r:Out×Bx}(d:e[i]? =some (some (.own ds)))(c:m e=some dss)(b:ds.length<sizeLine)(h:∀p,p∉f.map Prod.fst->(a (e.set i (some (.own (ds++[.ptr p])))) ((p,.row (dss.map .l))::f)).map (letGo i f.length)=some r):zh3 i m a e f=some r:=by delta zh3;rw[d];simp only;rw[c,aI,aH b];show xt3 h
theorem wn5(a:List Int)(s:Int)(f:1<=s):∃l,Best (Wv (xr a) a.length s) l:=by
 let⟨m,⟨n,q,r⟩,o⟩:=za0 (p:=λk=>∃l,Wv (xr a) a.length s l/\l.length=k) a.length 0 ⟨[],.inl rfl,rfl⟩ λj b=>by
  let⟨l,h,e⟩:=b;rcases h with h|⟨d,h⟩
  .rw[<-e,h];show aW _
  .cases l with
   |nil=>show h.elim
   |cons p l=>have:=h.len;rw[<-e,bA];lia
 have mem:=(Y4 a s f m n).mpr ⟨q,r⟩;have g:=yy9 a s m;cases hc:ctsJ a s m with
 |nil=>rw[hc]at mem;ext mem
 |cons h t=>
  have hh:=(Y4 a s f m h).mp (by rw[hc];simp);show⟨h,hh.1,λx i=>?_⟩;cases ha:xf6 x h with
  |false=>rfl
  |true=>
   rcases (ze9 x h).mp ha with z|⟨u,c⟩
   .have:=o _ ⟨x,i,rfl⟩;lia
   .have hx2:=(Y4 a s f m x).mpr ⟨i,aw⟩;rw[hc]at hx2 g;rcases aT.mp hx2 with e|e
    .rw[e,zu7]at c;ext c
    .have:=D3 c ((bG.mp g).1 x e);rw[zu7]at this;ext this
section
variable (a:List Int)(s:Int)(b:1<=s)(c:a.length<=300)
include b c
theorem xg1(r:Best (Wv (xr a) a.length s) l)(d:Nat)(q:d<=100)(k n j i h g f:Option S)(u:zh5 [RI' a,.int s]=some (.fr ((cl a s l.length).map dN))):
  ∃m o:Option S,lowS D6 (EK k n j i h a s g d (some (.own [dN (tot a s l.length)])) f none)=some (.nx (EK k m j i h a s g d none o none)):=by
 let⟨m,e⟩:=vp6 a s b c r d q k n j i h g f u _ rfl _ rfl;have t:=yr4 a s b c r d q;generalize (ctsJ a s l.length).take d=qs at e t;show⟨m,some (.sh (.lst (qs.map L))),?_⟩;have w:D6 (EK k n j i h a s g d (some (.own [dN (tot a s l.length)])) f none) []=some (.nx (EK k m j i h a s g d none (some (.sh (.lst (qs.map L)))) none),[]):=by
  show ya8 (dss:=qs.map λT=>T.map dN) rfl ?_ (by have:=v3;simp;lia) λp _=>?_
  .delta J5;rw[z0 rfl (z0 rfl (z0 rfl z7)),aI,t]
  .have e1:((qs.map λT=>T.map dN).map Fl.l)=fsN qs 0:=by rw[xx4,bw];rfl
   rw[e1];show (M8 (EK k n j i h a s g d (some (.own [dN (tot a s l.length),.ptr p])) f none) [(p,.row (fsN qs 0))]).map (letGo 10 0)=_;rw[e p];rfl
 delta lowS;rw[w];rfl
end
theorem wx4(c:Int):∃a b:Int,xj4 [.int c]=some (.fr (RL a b)):=by have e:0+1+1<=sizeLine:=y7 ay;have d:∀i,K4 i 742938285=true:=λi=>zb9 _ _ ay ay;have q:∀i,za1 i 2147483647=true:=λi=>W7 _ _ ay;show⟨(if c<0 then -c else c),(c % 2147483647+1)*742938285 % 2147483647,?_⟩;delta xj4 xg6;show zr9 ?_;delta RL;simp_arith [d,q,e,if_true]
theorem ya5(h:m b=some ds)(a:f ds=some (.fr es)):W1 f m b=some es:=by delta W1;rw[h];show (match f ds with |some (.fr es)=>some es|_=>none)=_;rw[a]
theorem xr9{tl:List (Option S)}{a b m:Int}(f:x (e::d::c::some (.own (RL a b))::tl)=some (.int m))(h:0<m)(g:m<1073741824):u6 i5 3 (apu (z6 x anil)) (e::d::c::some (.own (RL a b))::tl)=some (.int (tkX a b m),e::d::c::some (.own (RL (tkA a m) (tkB a b)))::tl):=
 K6 rfl (R8 (z0 f z7)) rfl (λp=>yh4 p a b m h g) rfl
theorem yb5{b:Bool}(h:x a=some (.bl b,ρ1)):zz2 x a=some (b,ρ1):=by delta zz2;rw[h]
theorem zu6(h:c a=some (false,ρ1)):mifm c x w8 a=some (.nx ρ1):=by delta mifm;rw[h];rfl
theorem ya2(h:c b=some (true,ρ1))(a:x ρ1=o):mifm c x w8 b=o:=by delta mifm;rw[h];show a
def eV(scr:D)(k c a b:Int)(o4 o5 o6 o7 o8 o9 o10 o11 o12:Option S):Ro:=[some (.sh scr),k0c k,k0c c,some (.own (RL a b)),o4,o5,o6,o7,o8,o9,o10,o11,o12]
section
variable (d:D)(k c:Int)(q p o l j i g f:Option S)
theorem zk2(m:Int)(h:0<m)(n:m<1073741824)(a b:Int)(e:Option S):∃x s r,0<=x/\x<m/\u6 i5 3 (apu (z6 (mc (.int m)) anil)) (eV d k c a b e q p o l j i g f)=some (.int x,eV d k c s r e q p o l j i g f):=
 ⟨_,_,_,G9 a b m h,zs7 a b m h,xr9 rfl h n⟩
theorem xd8(ds:List Int)(u:ML)(A:∀G,y8 u G=some (ds.map .int))(B:∀x∈ds,∃n:Nat,n<=300/\x=(n:Int))(m:Int)(z:m=ds.length)(h:0<m)(C:m<1073741824)(a b:Int)(t:Option S):∃(w:Nat)(s r:Int),w<=300/\X8 4 (m2m ixLD (mpu (mlst (y8 u))) (u6 i5 3 (apu (z6 (mc (.int m)) anil)))) (eV d k c a b t q p o l j i g f)=some (.nx (eV d k c s r (some (.sh (dN w))) q p o l j i g f)):=by let⟨x,s,r,E,D,e⟩:=zk2 d k c q p o l j i g f m h C a b t;let⟨y,F,n,v,rfl⟩:=ze8 B x E (by rw[<-z];show D);show⟨n,s,r,v,(h6 (W2 (Y2 (t7 (A _))) e F)).trans rfl⟩
theorem wz4(a b:Int)(m:Nat)(r:m<=300):∃(w:Nat)(z v:Int),w<=300/\mifm (yx4 (cpu (y0 (m2 eqSD (mvar 1) (mc (.int 0))))) (zz2 (m2m eqSD (u6 i5 3 (apu (z6 (mc (.int 8)) anil))) (mpu (mc (.int 0)))))) (X8 4 (m2m ixLD (mpu (mlst (y8 (z6 (mc (.int 150)) (z6 (mc (.int 150)) (z6 (mc (.int 150)) (z6 (mc (.int 300)) anil))))))) (u6 i5 3 (apu (z6 (mc (.int 4)) anil))))) w8 (eV d k c a b (some (.sh (dN m))) q p o l j i g f)=some (.nx (eV d k c z v (some (.sh (dN w))) q p o l j i g f)):=by
 have s:cpu (y0 (m2 eqSD (mvar 1) (mc (.int 0)))) (eV d k c a b (some (.sh (dN m))) q p o l j i g f)=some (k==0,eV d k c a b (some (.sh (dN m))) q p o l j i g f):=by have:y0 (m2 eqSD (mvar 1) (mc (.int 0))) (eV d k c a b (some (.sh (dN m))) q p o l j i g f)=some (k==0):=u9 ((y9 rfl rfl).trans rfl);delta cpu;rw[this]
 cases hk:(k==0)with
 |false=>rw[hk]at s;show⟨m,a,b,r,zu6 (by delta yx4;rw[s])⟩
 |true=>
  rw[hk]at s;let⟨x,y,u,_,_,e⟩:=zk2 d k c q p o l j i g f 8 ay ay a b (some (.sh (dN m)));have t:yx4 (cpu (y0 (m2 eqSD (mvar 1) (mc (.int 0))))) (zz2 (m2m eqSD (u6 i5 3 (apu (z6 (mc (.int 8)) anil))) (mpu (mc (.int 0))))) (eV d k c a b (some (.sh (dN m))) q p o l j i g f)=some (x==0,eV d k c y u (some (.sh (dN m))) q p o l j i g f):=by delta yx4;rw[s];show yb5 (W2 e (Y2 rfl) rfl)
  cases n:(x==0)with
  |false=>rw[n]at t;show⟨m,y,u,r,zu6 t⟩
  |true=>
   rw[n]at t;let⟨w,z,v,hw,A⟩:=xd8 d k c q p o l j i g f [150,150,150,300] (z6 (mc (.int 150)) (z6 (mc (.int 150)) (z6 (mc (.int 150)) (z6 (mc (.int 300)) anil)))) (λB=>x8 (z0 rfl (z0 rfl (z0 rfl (z0 rfl z7)))) (y7 (show 4<=1000000 by decide))) (λx n=>by
    simp only[mem_cons,not_mem_nil,or_false]at n;rcases n with h|h|h|h <;> rw[h]
    .exact⟨150,by decide,rfl⟩
    .exact⟨150,by decide,rfl⟩
    .exact⟨150,by decide,rfl⟩
    .exact⟨300,by decide,rfl⟩) 4 rfl ay ay y u (some (.sh (dN m)))
   show⟨w,z,v,hw,ya2 t A⟩
end
end
end
theorem wn1(scr:D)(k c:Int)(o3 o4 o5 o6 o7 o8 o9 o10 o11:Option S)(Q:Out->Prop)(hQ:∀o1 o2 o3 o4 o5 o6 o7 o8 o9 o10 o11,Q (.nx [some (.sh scr),o1,o2,o3,o4,o5,o6,o7,o8,o9,o10,o11,none])):
  Run D8 [some (.sh scr),k0c k,k0c c,o3,o4,o5,o6,o7,o8,o9,o10,o11,none] Q:=by
 have big:=v3;delta D8;let⟨a,b,e0⟩:=wx4 c;show y6 (ρ':=eV scr k c a b o4 o5 o6 o7 o8 o9 o10 o11 none) ((f9 (ya5 (z0 (d:=.int c) rfl z7) e0)).trans rfl) ?_;let⟨w0,a1,b1,hw0,e1⟩:=xd8 scr k c o5 o6 o7 o8 o9 o10 o11 none [9,40] (z6 (mc (.int 9)) (z6 (mc (.int 40)) anil)) (λρ=>x8 (z0 rfl (z0 rfl z7)) (y7 (show 2<=1000000 by decide))) (λx hx=>by
  simp only[mem_cons,not_mem_nil,or_false]at hx;rcases hx with h|h <;> rw[h]
  .exact⟨9,by decide,rfl⟩
  .exact⟨40,by decide,rfl⟩) 2 rfl ay ay a b o4
 show y6 e1 ?_;let⟨w,a2,b2,hw,e2⟩:=wz4 scr k c o5 o6 o7 o8 o9 o10 o11 none a1 b1 w0 hw0;show y6 e2 ?_;let⟨i,a3,b3,hr,er⟩:=wf4 a2 b2 w hw;let⟨s,a4,b4,hs,es⟩:=wy5 a3 b3 i hr;show y6 (ρ':=eV scr k c a3 b3 (some (.sh (dN w))) (some (.sh (RI' i))) o6 o7 o8 o9 o10 o11 none) ((h6 (K6 (ρ:=eV scr k c a2 b2 (some (.sh (dN w))) o5 o6 o7 o8 o9 o10 o11 none) (r0:=RL a2 b2) (r2:=RL a2 b2) rfl (R8 (z0 (d:=dN w) rfl z7)) rfl er rfl)).trans rfl) ?_;show y6 (ρ':=eV scr k c a4 b4 (some (.sh (dN w))) (some (.sh (RI' i))) (k0c s) o7 o8 o9 o10 o11 none) ((h6 (K6 (ρ:=eV scr k c a3 b3 (some (.sh (dN w))) (some (.sh (RI' i))) o6 o7 o8 o9 o10 o11 none) (r0:=RL a3 b3) (r2:=RL a3 b3) rfl (R8 (z0 (d:=RI' i) rfl z7)) rfl es rfl)).trans rfl) ?_;let⟨x1,a5,b5,hx1,_,t1⟩:=zk2 scr k c (some (.sh (RI' i))) (k0c s) o7 o8 o9 o10 o11 none 101 ay ay a4 b4 (some (.sh (dN w)));let⟨x2,a6,b6,hx2,_,t2⟩:=zk2 scr k c (some (.sh (RI' i))) (k0c s) o7 o8 o9 o10 o11 none 4 ay ay a5 b5 (some (.sh (dN w)));show y6 (ρ':=eV scr k c a6 b6 (some (.sh (dN w))) (some (.sh (RI' i))) (k0c s) (some (.sh (.lst ([x1,x2,100].map .int)))) o8 o9 o10 o11 none) ((h6 (zp7 (ds:=[x1,x2,100].map .int) (k8 t1 (k8 t2 (R8 (z0 (d:=.int 100) rfl z7)))) (y7 (show 3<=1000000 by decide)))).trans rfl) ?_;let⟨x3,a7,b7,h3,h3',t3⟩:=zk2 scr k c (some (.sh (RI' i))) (k0c s) (some (.sh (.lst ([x1,x2,100].map .int)))) o8 o9 o10 o11 none 3 ay ay a6 b6 (some (.sh (dN w)));let⟨v,ev,hv⟩:=ze8 (ds:=[x1,x2,100]) (P:=λv=>0<=v) (λx hx=>by
  simp only[mem_cons,not_mem_nil,or_false]at hx;rcases hx with h|h|h <;> rw[h]
  .exact hx1
  .exact hx2
  .decide) x3 h3 h3'
 obtain⟨many,hm,em⟩:∃many:Nat,many<=100/\V8 Q3 (e8 (m2m ixLD (mpu (mvar 7)) (u6 i5 3 (apu (z6 (mc (.int 3)) anil)))) (apu (z6 (mix (y8 (z6 (mc (.int 100)) (z6 (mc (.int 3)) anil))) (w5 intF (z6 (m2 gtD (mvar 4) (mc (.int 40))) anil))) anil))) (eV scr k c a6 b6 (some (.sh (dN w))) (some (.sh (RI' i))) (k0c s) (some (.sh (.lst ([x1,x2,100].map .int)))) o8 o9 o10 o11 none)=some (dN many,eV scr k c a7 b7 (some (.sh (dN w))) (some (.sh (RI' i))) (k0c s) (some (.sh (.lst ([x1,x2,100].map .int)))) o8 o9 o10 o11 none):=by
  have gt:m2 gtD (mvar 4) (mc (.int 40)) (eV scr k c a7 b7 (some (.sh (dN w))) (some (.sh (RI' i))) (k0c s) (some (.sh (.lst ([x1,x2,100].map .int)))) o8 o9 o10 o11 none)=some (.bl (decide ((40:Int)<(w:Int)))):=(y9 (f:=gtD) (a:=dN w) (b:=.int 40) rfl rfl).trans rfl;have ix:=wp5 (x:=mc (.int 100)) (y:=mc (.int 3)) gt (a:=.int 100) (c:=.int 3) rfl rfl;have fin:∀y:Nat,y<=100->mix (y8 (z6 (mc (.int 100)) (z6 (mc (.int 3)) anil))) (w5 intF (z6 (m2 gtD (mvar 4) (mc (.int 40))) anil)) (eV scr k c a7 b7 (some (.sh (dN w))) (some (.sh (RI' i))) (k0c s) (some (.sh (.lst ([x1,x2,100].map .int)))) o8 o9 o10 o11 none)=some (dN y)->∃many:Nat,many<=100/\V8 Q3 (e8 (m2m ixLD (mpu (mvar 7)) (u6 i5 3 (apu (z6 (mc (.int 3)) anil)))) (apu (z6 (mix (y8 (z6 (mc (.int 100)) (z6 (mc (.int 3)) anil))) (w5 intF (z6 (m2 gtD (mvar 4) (mc (.int 40))) anil))) anil))) (eV scr k c a6 b6 (some (.sh (dN w))) (some (.sh (RI' i))) (k0c s) (some (.sh (.lst ([x1,x2,100].map .int)))) o8 o9 o10 o11 none)=some (dN many,eV scr k c a7 b7 (some (.sh (dN w))) (some (.sh (RI' i))) (k0c s) (some (.sh (.lst ([x1,x2,100].map .int)))) o8 o9 o10 o11 none):=λy hy iy=>by show⟨min v.toNat y,aw,zx6 (k8 (W2 (Y2 (d:=.lst ([x1,x2,100].map .int)) rfl) t3 (g:=.int v) ev) (R8 (z0 iy z7))) ?_⟩;show some (D.int (if (y:Int)<v then (y:Int)else v))=some (D.int ((min v.toNat y:Nat):Int));congr 2;split <;> lia
  cases hb:decide ((40:Int)<(w:Int))with
  |true=>rw[hb]at ix;show fin 3 ay ix
  |false=>rw[hb]at ix;show fin 100 ay ix
 show y6 (ρ':=eV scr k c a7 b7 (some (.sh (dN w))) (some (.sh (RI' i))) (k0c s) (some (.sh (.lst ([x1,x2,100].map .int)))) (some (.sh (dN many))) o9 o10 o11 none) ((h6 em).trans rfl) ?_;let⟨l,hl⟩:=wn5 i s hs;let⟨J,hJ,hc⟩:=yx0 i s hs hr;rw[yz4 hl (Int.le_refl _) hJ]at hc;show y6 (ρ':=eV scr k c a7 b7 (some (.sh (dN w))) (some (.sh (RI' i))) (k0c s) (some (.sh (.lst ([x1,x2,100].map .int)))) (some (.sh (dN many))) (some (.sh (RI' i))) o10 o11 none) ((v4 (t7 (ds:=i.map .int) rfl)).trans rfl) ?_;have hh:=Q6 i s hs hr hl;rw[xj2 hl]at hh;show y6 (ρ':=EK (some (.sh scr)) (k0c k) (k0c c) (some (.own (RL a7 b7))) (some (.sh (dN w))) i s (some (.sh (.lst ([x1,x2,100].map .int)))) many (some (.own [dN (tot i s l.length)])) o11 none) ((f9 (x8 (z0 (w9 (z0 (d:=RI' i) rfl (z0 (d:=.int s) rfl z7)) hh) z7) (y7 (show 1<=1000000 by decide)))).trans rfl) ?_;let⟨p1,p11,e⟩:=xg1 i s hs hr hl many hm (some (.sh scr)) (k0c k) (k0c c) (some (.own (RL a7 b7))) (some (.sh (dN w))) (some (.sh (.lst ([x1,x2,100].map .int)))) o11 hc;show⟨_,e,hQ _ _ _ _ _ _ _ _ _ _ _⟩
theorem law_true(ns:List Int)(K:ns.length<=63):za8 [.lst (ns.map .int)]=some (.sh (.bl true)):=by
 delta za8 xg2;show Y0 ?_;have J:=v3;have C:1<=sizeLine:=y7 ay;have H:mcut (bvar 0) W6 (k9 (mc (.int 3))) (u8 13 [.lst (ns.map .int)])=some ((ns.take 3).map .int):=by
  have:cutL (ns.map D.int) none (some ((3:Nat):Int))=(ns.take 3).map .int:=by rw[V2,yy8]
  delta mcut;show bf some this
 have G:y8 (z6 (mlen (bvar 0)) anil) (u8 13 [.lst (ns.map .int)])=some (([(ns.length:Int)]:List Int).map .int):=by show x8 (z0 (d:=.int (ns.length:Int)) ?_ z7) C;rw[u7 (show bvar 0 _=some (ns.map .int)from rfl),aL]
 have s:=c7 H G (by rw[aL,aL,cB,dZ];lia);rw[<-bN]at s;generalize E:ns.take 3++[(ns.length:Int)]=xs at s;have F:w4 Q8 (z6 (mlst (mcat (mcut (bvar 0) W6 (k9 (mc (.int 3)))) (y8 (z6 (mlen (bvar 0)) anil)))) anil) (u8 13 [.lst (ns.map .int)])=some ((List.range xs.length).map λ(i:Nat)=>D.tup [.int (i:Int),.int (xs.getD i 0)]):=by delta w4;rw[z0 (t7 s) z7,aI];show some (V9 0 (xs.map .int))=_;rw[N7];show bf some (ba λi _=>?_);rw[cg]
 show m8 (j6 xs.length (f:=λ(i:Nat)=>D.tup [.int (i:Int),.int (xs.getD i 0)]) F (I:=λ_ n=>∃r q m l k h g e c b a,n=[k0a ns,r,q,m,l,k,h,g,e,c,b,a,none]) _ ⟨_,_,_,_,_,_,_,_,_,_,_,rfl⟩ ?_ ?_)
 .intro j n hj hI;let⟨r,q,m,l,k,h,g,e,c,b,a,rfl⟩:=hI;show⟨_,rfl,wn1 _ (j:Int) (xs.getD j 0) m l k h g e c b a _ λB A z y x w v u t p o=>⟨B,A,z,y,x,w,v,u,t,p,o,rfl⟩⟩
 .intro n hI;let⟨r,q,m,l,k,h,g,e,c,b,a,rfl⟩:=hI;show⟨.rt (.bl true),rfl,rfl⟩
end Lw
namespace Lw
open List
open PySem L2
open PyProof.Rows
section
noncomputable def top(i:Nat):Stmt:=PySem.Challenge.pw_wavyrow_k20_the_longest_in_order.main.body.getD i (.Pass ⟨0,0,0,0⟩)
section
variable (P:Program)(w:World)(K:W.Frag)(mg:Qb)(base:Heap)
abbrev T_Z8:Prop:=QHd P w K mg base 1 "refuse_step" ["step"] (spR K 1 m_Z8)
abbrev T_Z9:Prop:=QHd P w K mg base 1 "later_steps" ["row","step"] (spR K 2 m_Z9)
abbrev vs5:Prop:=QHd P w K mg base 1 "are_places" ["row","places"] (spR K 2 wq3)
abbrev vs1:Prop:=QHd P w K mg base 1 "turns_of" ["numbers"] (spR K 1 wq1)
abbrev vs6:Prop:=QHd P w K mg base 2 "go_by_turns" ["numbers","step"] (spR K 2 wq4)
abbrev vt9:Prop:=QHd P w K mg base 3 "are_wavy" ["row","step","places"] (spR K 3 xz2)
abbrev vt7:Prop:=QHd P w K mg base 1 "added_up" ["tails","laters"] (spR K 2 ym4)
abbrev vs2:Prop:=QHd P w K mg base 2 "layers_of" ["row","step","most"] (spR K 3 xj5)
abbrev T_Z3:Prop:=QHd P w K mg base 1 "longest_joined" ["tails"] (spR K 1 m_Z3)
abbrev T_Z0:Prop:=QHd P w K mg base 2 "how_many_longest" ["row","step"] (spR K 2 m_Z0)
abbrev vt1:Prop:=QHd P w K mg base 4 "ways" ["row","step","layer","told","later"] (spR K 5 xz0)
abbrev vt3:Prop:=QHd P w K mg base 5 "picked" ["row","step","layers","number"] (spR K 4 xz1)
abbrev T_Z1:Prop:=QHd P w K mg base 1 "how_many_picked" ["layers"] (spR K 1 m_Z1)
abbrev T8:Prop:=QHd P w K mg base 6 "first_longest" ["row","step","many"] (spP K 3 n9)
abbrev vt6:Prop:=QHd P w K mg base 1 "_law_reel" ["cell"] (spR K 1 xj4)
abbrev xe0:Prop:=QHd P w K mg base 1 "_law_take" ["reel","many"] (spG K 2 i5)
abbrev T_Z6:Prop:=QHd P w K mg base 1 "_law_alike" ["found","due"] (spR K 2 m_Z6)
abbrev T_Z5:Prop:=QHd P w K mg base 2 "_law_alike" ["found","due"] (spR K 2 m_Z5)
abbrev T_Z7:Prop:=QHd P w K mg base 3 "_law_alike" ["found","due"] (spR K 2 m_Z7)
abbrev vt5:Prop:=QHd P w K mg base 2 "_law_row" ["reel","most"] (spG K 2 wr8)
abbrev vs0:Prop:=QHd P w K mg base 2 "_law_step" ["reel","row"] (spG K 2 wq0)
abbrev xf9:Prop:=QHd P w K mg base 1 "_law_wavy" ["row","step","places"] (spR K 3 zh4)
abbrev vt4:Prop:=QHd P w K mg base 2 "_law_all" ["row","step"] (spR K 2 xj3)
abbrev wk4:Prop:=QHd P w K mg base 1 "_law_put" ["some","others"] (spR K 2 zw8)
abbrev vs3:Prop:=QHd P w K mg base 2 "_law_counts" ["row","step"] (spR K 2 zh5)
abbrev yp9:Prop:=QHd P w K mg base 2 "_law_on" ["row","step"] (spR K 2 D2)
abbrev vt2:Prop:=QHd P w K mg base 1 "_law_of" ["some","many"] (spR K 2 ym3)
abbrev vs4:Prop:=QHd P w K mg base 2 "_law_before" ["row","step","on","one","k"] (spR K 5 wq2)
abbrev vt8:Prop:=QHd P w K mg base 3 "_law_rank" ["row","step","on","one"] (spR K 4 wr9)
abbrev T_Z2:Prop:=QHd P w K mg base 4 "_law_short_right" ["row","step","many","told"] (spR K 4 m_Z2)
abbrev T_Z4:Prop:=QHd P w K mg base 4 "_law_long_right" ["row","step","many","told"] (spR K 4 m_Z4)
end
abbrev Zs(mg:Qb):Prop:=mg "abs"=none/\mg "any"=none/\mg "bool"=none/\mg "enumerate"=none/\mg "int"=none/\mg "isinstance"=none/\mg "len"=none/\mg "list"=none/\mg "max"=none/\mg "min"=none/\mg "range"=none/\mg "reversed"=none/\mg "set"=none/\mg "sorted"=none/\mg "str"=none/\mg "sum"=none/\mg "tuple"=none/\mg "zip"=none/\True
theorem wj2{mg:Qb}(Z:Zs mg):mg "abs"=none:=Z.1
theorem vq0{mg:Qb}(Z:Zs mg):mg "any"=none:=Z.2.1
theorem wj1{mg:Qb}(Z:Zs mg):mg "bool"=none:=Z.2.2.1
theorem zd1{mg:Qb}(Z:Zs mg):mg "enumerate"=none:=Z.2.2.2.1
theorem wj0{mg:Qb}(Z:Zs mg):mg "int"=none:=Z.2.2.2.2.1
theorem zm5{mg:Qb}(Z:Zs mg):mg "isinstance"=none:=Z.2.2.2.2.2.1
theorem xr3{mg:Qb}(Z:Zs mg):mg "len"=none:=Z.2.2.2.2.2.2.1
theorem wk9{mg:Qb}(Z:Zs mg):mg "list"=none:=Z.2.2.2.2.2.2.2.1
theorem vr9{mg:Qb}(Z:Zs mg):mg "max"=none:=Z.2.2.2.2.2.2.2.2.1
theorem wk8{mg:Qb}(Z:Zs mg):mg "min"=none:=Z.2.2.2.2.2.2.2.2.2.1
theorem zs4{mg:Qb}(Z:Zs mg):mg "range"=none:=Z.2.2.2.2.2.2.2.2.2.2.1
theorem yo1{mg:Qb}(Z:Zs mg):mg "reversed"=none:=Z.2.2.2.2.2.2.2.2.2.2.2.1
theorem vr8{mg:Qb}(Z:Zs mg):mg "set"=none:=Z.2.2.2.2.2.2.2.2.2.2.2.2.1
theorem xr2{mg:Qb}(Z:Zs mg):mg "sorted"=none:=Z.2.2.2.2.2.2.2.2.2.2.2.2.2.1
theorem vr7{mg:Qb}(Z:Zs mg):mg "str"=none:=Z.2.2.2.2.2.2.2.2.2.2.2.2.2.2.1
theorem wk7{mg:Qb}(Z:Zs mg):mg "sum"=none:=Z.2.2.2.2.2.2.2.2.2.2.2.2.2.2.2.1
theorem xa9{mg:Qb}(Z:Zs mg):mg "tuple"=none:=Z.2.2.2.2.2.2.2.2.2.2.2.2.2.2.2.2.1
theorem vr6{mg:Qb}(Z:Zs mg):mg "zip"=none:=Z.2.2.2.2.2.2.2.2.2.2.2.2.2.2.2.2.2.1
variable {K:W.Frag}{mg:Qb}(P:Program)(w:World)(base:Heap)
local macro_rules
|`(tactic|subst $q:num)=>do
 let k (x:String):=(x.takeWhile Char.isDigit).toString.toNat!
 let n (x:String):=Lean.mkIdent (x.dropWhile Char.isDigit).toString.toName
 let h<-`(_);let u (x:String):Array (Lean.TSyntax `term):=Array.replicate (k x) h
 let f (x:String)(a:Lean.TSyntax `tactic):Lean.MacroM (Lean.TSyntax `tactic):=let u:=u x;let n:=n x;`(tactic|first|with_reducible refine' @$n $u*|$a:tactic)
 let g:=("3L2.PD 6wd9 10xc2 8yd9 9wb0 13wc9 4vo1 5wt2 11zq5 14xc1 8wt1 8xm3 8yt3 4L2.X6 11yd8 19wc8 11wc7 9zw4 9wc6 9wc5 10wc4 11zq4 12wt0 15wu9 12wu8 12yd7 8wc3 8wc2 5yd6 3wc1 5wc0 8wd8 8zj8 13xc0 6wd7 5L2.n5 4wv9;3PAs 8L2.x9 1L2.j9;3PSd 9yf3 14yn2 5ww6 7yf5 12ww5 12xo7 6yt0 14ww4 11xd6 11ww3 2zj3 25ww2 5ww1 5yu9 6xo6 7yf4 6xo5 13zq1 7xo4 13xo3 6yf2 13xo2 10yf1;3PSsd 7zj2 5zc8 4xo1 1yu8 4L2.E9;3L2.PB 5L2.U5 4wu7 4we6;3L2.PF 11zb3 8we9 20zb2 21xn6 11wu0 5zj6 4wv8 8we5 12vp8 21zb1 13yn5;3PC' 10wb3 5wt5 14zj9 12wb4 5wb2 5wb1 4pc_w;3L2.PE 4pe_M 11yn6 15qap 19qcl 8L2.pv 4pe_D 4pe_F 4pe_B 4pe_W;3PGd 5L2.W5 8wv6;3L2.PG 8L2.Q1 11yd3 10we4 10wv7 4pg_D;3PGs 8yt2 1yd2;4PId 12xn4 10yn4 12L2.K3 13zu5 11xn3 16ye3 5zq3 14xn2 15xn1;3PTsd 1L2.O5 4xp6;3OpR 1ws7 1zq8 1vo6 2wa4 1ws5 2xc9 1wa3 1wa2 1wa1 1xc8 1vo5 2wb9 1xc7;3OpD 1yc9 1ws4 1yc7 1yc6 1xc6 1ws3 1xc5 1yc5 1wt8 1yc4;3L2.PS 29yf6 11yf9 16ww8 5L2.J4 4ps_D;3PAm 8xm6 4xm5;3L2.PT 14wt4 4xm4 4vo2;3PCw' 4pcw 4yc0;3PCw 9wt3 9xc3 5wx8 5xd3;3PDm 10wu6 16yd5 14wu5 11xm2 9wd6 5wu4 12xm1 13wd5 4xm0;3PDw 4pdw 4zj7;3POs 1xn0 4xo9;3L2.PP 11ww9 17ye0;3PSsp 7L2.U3 5yu7;3PSsw 16yn1 7L2.O7 5zc7 5L2.J3 11zj1 1yu6 4L2.O6;3PSw 4psw 14zc6 11xd5 28yn0 4yf0 8xo0 7yu5 6zu3;3L2.PW 5xp5 9wx7;4Blk 9vu2;4L2.PI 5pi_D;3PTs 4we0".splitOn ";").map (·.splitOn " ");let q:=q.getNat;let w (i:Nat):=Lean.Syntax.mkNumLit (toString i)
 let mut a<-`(tactic|fail)
 if q<100 then for x in (g.getD q []).tail.reverse do a<-f x a
 else if q<200 then
  a<-`(tactic|subst $(w (if q=100 then 201 else if q*12<1188+g.length then q+1 else 200)))
  for j in (List.range' ((q-100)*12) 12).reverse do if j<g.length then
   let x:=(g.getD j []).head!;let u:=u x;let n:=n x;a<-`(tactic|first|((with_reducible show $n $u*);subst $(w j))|$a:tactic)
 else if q=201 then a<-`(tactic|first|exact rfl|exact Or.inl rfl|exact Or.inr rfl|(show (_:Prop);assumption)|exact λ_ _=>rfl|exact qsc|(show List.Nodup (nOf _ _ _);decide +kernel)|exact FnScope.nd (by assumption)|decide|subst 101)
 else
  a<-`(tactic|first|exact rfl|exact Or.inl rfl|exact Or.inr rfl|exact Or.inr (Or.inl rfl)|exact Or.inr (Or.inr rfl)|(show (_:Prop);assumption)|exact λ_ _=>rfl|decide|exact xq3 (by decide)|exact qsc|(show List.Nodup (nOf _ _ _);decide +kernel)|exact FnScope.nd (by assumption)|((with_reducible show ∀_,(_:Prop));intro a)|((with_reducible show PG _ _ _);refine pg_D ?_)|((with_reducible show PTs _ _ _);refine we0 ?_)|((with_reducible show PE _ _ _);first|refine pe_D ?_|refine pe_F ?_)|refine yt2 ?_ ?_|exact yd2|refine zj2 ?_ ?_|refine E9 ?_)
  for x in "3PassesOwn.never 1zz9 1zr6 2wj2 2vq0 2wj1 2zd1 2wj0 2zm5 2xr3 2wk9 2vr9 2wk8 2zs4 2yo1 2vr8 2xr2 2vr7 2wk7 2xa9 2vr6 4zi2 3Room.units".splitOn " " do a<-f x a
 return a
|`(tactic|sizeOf_list_dec)=>`(tactic|first|((with_reducible show _=_);first|exact rfl|exact qal1 _ _ (by assumption)|exact qal2 _ _ (by assumption)|exact qal3 _ _ (by assumption)|exact qal4 _ _ (by assumption)|exact qal5 _ _ (by assumption)|exact wm7 qal1 _ _ _ (by assumption))|subst 100)
abbrev s_Z8:Stmt:=top 5
theorem vn0(D:QDf K mg "refuse_step" s_Z8 ["step"]):T_Z8 P w K mg base:=D.okD (m:=b_Z8) (N:=["step"]) qsc (by
 delta b_Z8
 repeat' sizeOf_list_dec)
abbrev s_Z9:Stmt:=top 6
theorem vo9(D:QDf K mg "later_steps" s_Z9 ["row","step"])(Z:Zs mg):T_Z9 P w K mg base:=D.okD (m:=b_Z9) (N:=["row","step","above","below","place","number"]) qsc (by
 delta xu3 xu2 b_Z9
 repeat' sizeOf_list_dec)
abbrev wf0:Stmt:=top 7
theorem vy4(D:QDf K mg "are_places" wf0 ["row","places"])(Z:Zs mg):vs5 P w K mg base:=D.okD (m:=wm4) (N:=["row","places","least","place"]) qsc (by
 delta L3 wm4
 repeat' sizeOf_list_dec)
abbrev wg5:Stmt:=top 8
theorem vz9(D:QDf K mg "turns_of" wg5 ["numbers"])(Z:Zs mg):vs1 P w K mg base:=D.okD (m:=wm2) (N:=["numbers","many","left","middle","right"]) qsc (by
 delta zn7 wm2
 repeat' sizeOf_list_dec)
abbrev wf1:Stmt:=top 9
theorem vy5(D:QDf K mg "go_by_turns" wf1 ["numbers","step"])(a:vs1 P w K mg base)(Z:Zs mg):vs6 P w K mg base:=D.okD (m:=wm5) (N:=["numbers","step","left","right"]) qsc (by
 delta C5 wm5
 repeat' sizeOf_list_dec)
abbrev wg3:Stmt:=top 10
theorem vz7(D:QDf K mg "are_wavy" wg3 ["row","step","places"])(a:vs5 P w K mg base)(b:vs6 P w K mg base)(c:T_Z8 P w K mg base):vt9 P w K mg base:=D.okD (m:=xg7) (N:=["row","step","places"]) qsc (by
 delta xg7
 repeat' sizeOf_list_dec)
abbrev yg1:Stmt:=top 13
noncomputable abbrev vs9:List Str:=["tails","laters"]
theorem wh3:FnScope vs9 ["tails","laters"] (y4 yg1):=qsc
theorem zp2:List.Nodup (["each","tails"]:List Str):=by decide +kernel
theorem zp1:List.Nodup (["later","tails"]:List Str):=by decide +kernel
theorem vz4(D:QDf K mg "added_up" yg1 ["tails","laters"])(Z:Zs mg):vt7 P w K mg base:=
 D.mk λf j g=>g.okD (k:=0) (m:=wn9) wh3 λe A d s H E h=>(E9 (yu9 (zb2 (ze0 (N:=["each","tails"]) (src:=[none,some 0]) (y4 yg1) vs9 rfl rfl aA) rfl (zq3 (n5 1 (pv 1))) (λC b a c=>(W5 (i:=0) (Q1 zp2 rfl (Or.inl rfl)))) (λC b a c=>O5) (λC b a c=>(xc0 rfl rfl (wk7 Z) (we6 (zb2 (wn3 (N:=["later","tails"]) (src:=[none,some 1]) (y4 yg1) rfl aA) rfl (zq3 (n5 0 (pv 0))) (λC b a c=>(W5 (i:=0) (Q1 zp1 rfl (Or.inl rfl)))) (λC b a c=>O5) (λC b a c=>(zw4 (U5 1 (pv 1)) (n5 0 (pv 0)))))) PyProof.Rows.boot_sum)))))
abbrev wg7:Stmt:=top 14
theorem vy1(D:QDf K mg "layers_of" wg7 ["row","step","most"])(a:vt7 P w K mg base)(b:T_Z9 P w K mg base)(Z:Zs mg):vs2 P w K mg base:=D.okD (m:=xg9) (N:=["row","step","most","above","below","begun","ups","downs","layers"]) qsc (by
 delta C3 xg9
 repeat' sizeOf_list_dec)
abbrev s_Z3:Stmt:=top 15
theorem vn5(D:QDf K mg "longest_joined" s_Z3 ["tails"])(Z:Zs mg):T_Z3 P w K mg base:=D.okD (m:=b_Z3) (N:=["tails","known","most"]) qsc (by
 delta b_Z3
 repeat' sizeOf_list_dec)
abbrev s_Z0:Stmt:=top 16
theorem vn8(D:QDf K mg "how_many_longest" s_Z0 ["row","step"])(a:T_Z9 P w K mg base)(c:T_Z3 P w K mg base)(b:T_Z8 P w K mg base)(Z:Zs mg):T_Z0 P w K mg base:=D.okD (m:=b_Z0) (N:=["row","step","above","below","ups","downs","place","most"]) qsc (by
 delta yw1 xu8 b_Z0
 repeat' sizeOf_list_dec)
abbrev wh4:Stmt:=top 17
theorem wa7(D:QDf K mg "ways" wh4 ["row","step","layer","told","later"])(a:vt9 P w K mg base):vt1 P w K mg base:=D.okD (m:=wn6) (N:=["row","step","layer","told","later","begun","ups","downs"]) qsc (by
 delta wn6
 repeat' sizeOf_list_dec)
abbrev wh6:Stmt:=top 18
theorem wa9(D:QDf K mg "picked" wh6 ["row","step","layers","number"])(a:vt1 P w K mg base)(Z:Zs mg):vt3 P w K mg base:=D.okD (m:=xg3) (N:=["row","step","layers","number","told","place","layer","many"]) qsc (by
 delta C0 yq9 D9 xg3
 repeat' sizeOf_list_dec)
abbrev s_Z1:Stmt:=top 19
theorem vn7(D:QDf K mg "how_many_picked" s_Z1 ["layers"])(Z:Zs mg):T_Z1 P w K mg base:=D.okD (m:=b_Z1) (N:=["layers"]) qsc (by
 delta b_Z1
 repeat' sizeOf_list_dec)
abbrev f7:Stmt:=top 20
abbrev T9:List Str:=["row","step","many","layers","last"]
theorem sc_first_longest:FnScope T9 ["row","step","many"] (y4 f7):=qsc
theorem O8:List.Nodup (["number","row","step","layers"]:List Str):=by decide +kernel
theorem E1(D:QDf K mg "first_longest" f7 ["row","step","many"])(h:T_Z1 P w K mg base)(e:vs2 P w K mg base)(d:vt3 P w K mg base)(g:T_Z8 P w K mg base)(b:mg "MOST_TOLD"=some (.int (100) a))(Z:Zs mg):T8 P w K mg base:=
 D.mk λf r q=>q.okPB (k:=5) sc_first_longest (λo A l s H E j=>(U3 (yt0 (zq5 (λt c=>qcl g j c) rfl (x9 (n5 1 (pv 1)) j9) qal1)) (U3 (xd6 (pc_w (xc3 (zj9 wa1 xc5 (n5 2 (pv 2)) X6 (zi2 _)) (xd3 (zj9 wa3 xc6 (n5 2 (pv 2)) (yt3 rfl b) (zi2 _))))) (E9 zj3) yu8) (U3 (zq1 (i:=3) sc_first_longest.nd rfl (Or.inr rfl) (zq5 (λt c=>qcl e j c) rfl (x9 (n5 0 (pv 0)) (x9 (n5 1 (pv 1)) (x9 (zq4 rfl (xr3 Z) (U5 0 (pv 0))) j9))) qal3)) (U3 (zq1 (i:=4) sc_first_longest.nd rfl (Or.inl rfl) (yd7 rfl rfl (wk8 Z) (x9 (n5 2 (pv 2)) (x9 (zq5 (λt c=>qcl h j c) rfl (x9 (n5 3 (pv 3)) j9) qal1) j9)))) (yu7 (ye0 (ze0 (N:=["number","row","step","layers"]) (src:=[none,some 0,some 1,some 3]) (y4 f7) T9 rfl rfl aA) rfl (K3 rfl (zs4 Z) (x9 X6 (x9 (yd9 (n5 4 (pv 4)) X6) j9))) (λC n m p=>(W5 (i:=0) (Q1 O8 rfl (Or.inl rfl)))) (λC n m p=>(zb3 (λt c=>qcl d j c) rfl (x9 (n5 1 (pv 1)) (x9 (n5 2 (pv 2)) (x9 (n5 3 (pv 3)) (x9 (n5 0 (pv 0)) j9 se_n) se_n) se_n) se_n) qal4)))))))))
abbrev wg0:Stmt:=top 23
theorem vz3(D:QDf K mg "_law_reel" wg0 ["cell"])(Z:Zs mg):vt6 P w K mg base:=D.okD (m:=xg6) (N:=["cell"]) qsc (by
 delta xg6
 repeat' sizeOf_list_dec)
abbrev wg6:Stmt:=top 24
theorem vy0(D:QDf K mg "_law_take" wg6 ["reel","many"]):xe0 P w K mg base:=D.okG (m:=zv3) (N:=["reel","many","found","stir"]) qsc (by
 delta zv3
 repeat' sizeOf_list_dec)
abbrev zc3:Stmt:=top 25
abbrev s_Z6:Stmt:=top 25
theorem vn2(D:QDf K mg "_law_alike" s_Z6 ["found","due"])(Z:Zs mg):T_Z6 P w K mg base:=D.okD (m:=b_Z6) (N:=["found","due","k"]) qsc (by
 delta xu5 b_Z6
 repeat' sizeOf_list_dec)
abbrev s_Z5:Stmt:=top 25
theorem vn3(D:QDf K mg "_law_alike" s_Z5 ["found","due"])(a:T_Z6 P w K mg base)(Z:Zs mg):T_Z5 P w K mg base:=D.okD (m:=b_Z5) (N:=["found","due","k"]) qsc (by
 delta xu6 b_Z5
 repeat' sizeOf_list_dec)
abbrev s_Z7:Stmt:=top 25
theorem vn1(D:QDf K mg "_law_alike" s_Z7 ["found","due"])(a:T_Z5 P w K mg base)(Z:Zs mg):T_Z7 P w K mg base:=D.okD (m:=b_Z7) (N:=["found","due","k"]) qsc (by
 delta xu4 b_Z7
 repeat' sizeOf_list_dec)
abbrev wh9:Stmt:=top 26
theorem vz2(D:QDf K mg "_law_row" wh9 ["reel","most"])(a:xe0 P w K mg base)(Z:Zs mg):vt5 P w K mg base:=D.okG (m:=xg5) (N:=["reel","most","many","kind","span","found","k","number"]) qsc (by
 delta zn6 xg5
 repeat' sizeOf_list_dec)
abbrev wg4:Stmt:=top 27
theorem vz8(D:QDf K mg "_law_step" wg4 ["reel","row"])(a:xe0 P w K mg base)(Z:Zs mg):vs0 P w K mg base:=D.okG (m:=xg8) (N:=["reel","row","some","apart"]) qsc (by
 delta xg8
 repeat' sizeOf_list_dec)
abbrev wg2:Stmt:=top 28
theorem vz6(D:QDf K mg "_law_wavy" wg2 ["row","step","places"])(Z:Zs mg):xf9 P w K mg base:=D.okD (m:=wm1) (N:=["row","step","places","k","amid","apart"]) qsc (by
 delta C2 wm1
 repeat' sizeOf_list_dec)
abbrev wh7:Stmt:=top 29
theorem vz0(D:QDf K mg "_law_all" wh7 ["row","step"])(a:xf9 P w K mg base)(Z:Zs mg):vt4 P w K mg base:=D.okD (m:=wn8) (N:=["row","step","found","place","more"]) qsc (by
 delta C1 wn8
 repeat' sizeOf_list_dec)
abbrev wh8:Stmt:=top 30
theorem vz1(D:QDf K mg "_law_put" wh8 ["some","others"])(Z:Zs mg):wk4 P w K mg base:=D.okD (m:=xg4) (N:=["some","others","found","many","number"]) qsc (by
 delta zn5 xg4
 repeat' sizeOf_list_dec)
abbrev wg8:Stmt:=top 31
theorem vy2(D:QDf K mg "_law_counts" wg8 ["row","step"])(a:wk4 P w K mg base)(Z:Zs mg):vs3 P w K mg base:=D.okD (m:=xf0) (N:=["row","step","ends","found","place","number","own","j","kind","some","many"]) qsc (by
 delta C4 yp2 zn8 yp0 yp1 xf0
 repeat' sizeOf_list_dec)
abbrev E6:Stmt:=top 32
noncomputable abbrev yo0:List Str:=["row","step","found","place","other","kind"]
theorem sc_law_on:FnScope yo0 ["row","step"] (y4 E6):=qsc
theorem zb7:List.Nodup (["number"]:List Str):=by decide +kernel
theorem yb1(D:QDf K mg "_law_on" E6 ["row","step"])(a:wk4 P w K mg base)(Z:Zs mg):yp9 P w K mg base:=
 D.mk λf n l=>(l.okW (k:=1) (m:=D7) sc_law_on λj A b s H E g=>(zj1 (yf6 (i:=2) sc_law_on.nd rfl (Or.inl rfl) (ze0 (N:=["number"]) (src:=[none]) (y4 E6) yo0 rfl rfl aA) rfl (zq3 (n5 0 (pv 0))) (λC d c e=>(W5 (i:=0) (Q1 zb7 rfl (Or.inl rfl)))) (λC d c e=>O5) (λC d c e=>(zj6 j9))) (O7 (zc6 PassesOwn.never rfl (zu5 rfl (zs4 Z) (x9 (zj8 (zq4 rfl (xr3 Z) (U5 0 (pv 0))) X6) (x9 (yd6 X6) (x9 (yd6 X6) j9)))) (W5 (i:=3) (Q1 sc_law_on.nd rfl (Or.inl rfl))) (O7 (zu3 (yf9 (zj6 (x9 (wv9 (zj6 (x9 X6 (x9 X6 j9)))) (x9 (wv9 (zj6 (x9 X6 (x9 X6 j9)))) j9))) (yd3 (pv 2) (n5 3 (pv 3)) zr6))) (O6 (zc6 PassesOwn.never rfl (K3 rfl (zs4 Z) (x9 (yd9 (n5 3 (pv 3)) X6) (x9 (zq4 rfl (xr3 Z) (U5 0 (pv 0))) j9))) (W5 (i:=4) (Q1 sc_law_on.nd rfl (Or.inl rfl))) (O7 (psw (zq1 (i:=5) sc_law_on.nd rfl (Or.inl rfl) (yd8 rfl (wj0 Z) (x9 (xc1 ws5 yc7 (zj8 (zw4 (U5 0 (pv 0)) (n5 3 (pv 3))) (zw4 (U5 0 (pv 0)) (n5 4 (pv 4)))) (n5 1 (pv 1)) (zi2 _)) j9) PyProof.Rows.boot_int))) (O6 (xd5 (pcw (zj9 ws5 yc7 (xc2 rfl (wj2 Z) (x9 (zj8 (zw4 (U5 0 (pv 0)) (n5 4 (pv 4))) (zw4 (U5 0 (pv 0)) (n5 3 (pv 3)))) j9)) (n5 1 (pv 1)) (zi2 _))) (O6 (yu5 (yf9 (zj7 (zb3 (λt h=>qcl a g h) rfl (x9 (zw4 (wu7 (zw4 (U5 2 (pv 2)) (n5 3 (pv 3)))) (n5 5 (pv 5))) (x9 (zw4 (wu7 (zw4 (U5 2 (pv 2)) (n5 4 (pv 4)))) (zj8 X6 (n5 5 (pv 5)))) j9)) qal2)) (yd3 (yn6 zz9 (pv 2) (n5 3 (pv 3)) (λ_ _=>rfl)) (n5 5 (pv 5)) zr6)))) yu6))))))) (J3 2 (O6 (yf0 (J4 (pdw (n5 2 (pv 2)))))))))).plainW
abbrev wh5:Stmt:=top 33
theorem wa8(D:QDf K mg "_law_of" wh5 ["some","many"]):vt2 P w K mg base:=D.okD (m:=wn7) (N:=["some","many"]) qsc (by
 delta wn7
 repeat' sizeOf_list_dec)
abbrev wg9:Stmt:=top 34
theorem vy3(D:QDf K mg "_law_before" wg9 ["row","step","on","one","k"])(a:vt2 P w K mg base)(b:xf9 P w K mg base)(Z:Zs mg):vs4 P w K mg base:=D.okD (m:=wm3) (N:=["row","step","on","one","k","left","found","place","some"]) qsc (by
 delta L0 wm3
 repeat' sizeOf_list_dec)
abbrev wg1:Stmt:=top 35
theorem vz5(D:QDf K mg "_law_rank" wg1 ["row","step","on","one"])(a:vs4 P w K mg base)(Z:Zs mg):vt8 P w K mg base:=D.okD (m:=wm0) (N:=["row","step","on","one","found","k"]) qsc (by
 delta M9 wm0
 repeat' sizeOf_list_dec)
abbrev s_Z2:Stmt:=top 36
theorem vn6(D:QDf K mg "_law_short_right" s_Z2 ["row","step","many","told"])(b:T_Z7 P w K mg base)(a:vt4 P w K mg base)(Z:Zs mg):T_Z2 P w K mg base:=D.okD (m:=b_Z2) (N:=["row","step","many","told","some","most","due"]) qsc (by
 delta b_Z2
 repeat' sizeOf_list_dec)
abbrev s_Z4:Stmt:=top 37
theorem vn4(D:QDf K mg "_law_long_right" s_Z4 ["row","step","many","told"])(e:T_Z7 P w K mg base)(d:vs3 P w K mg base)(a:yp9 P w K mg base)(b:vt8 P w K mg base)(c:xf9 P w K mg base)(Z:Zs mg):T_Z4 P w K mg base:=D.okD (m:=b_Z4) (N:=["row","step","many","told","by","number","lists","one"]) qsc (by
 delta yw0 xu7 b_Z4
 repeat' sizeOf_list_dec)
abbrev zc4:Stmt:=top 38
abbrev vs8:List Str:=["script","k","cell","reel","most","row","step","some","many","handed","told","kept","one"]
theorem sc_Z29:FnScope vs8 ["script"] (y4 zc4):=qsc
theorem wa6(o:Fun K "law" "law" zc4 f h)(i:T_Z4 P w K mg base)(d:vt6 P w K mg base)(c:vt5 P w K mg base)(j:T_Z2 P w K mg base)(e:vs0 P w K mg base)(g:xe0 P w K mg base)(a:T8 P w K mg base)(l:T_Z0 P w K mg base)(Z:Zs mg):FnOk P w K mg base CX0 7 f h ["script"] (spR K 1 za8):=
 o.okD (k:=6) (m:=xg2) sc_Z29 λn A b s H E p=>by
  have:=@bh (y4 zc4) vs8;have:=sc_Z29.nd
  delta yq8 M8 D6 D8 xg2
  repeat' sizeOf_list_dec
theorem all_mk{w:World}{l:W.OpenLaw}{h:Heap}{V:Addr}(X:K.In h)(G:h.Ns mainGlobals mg)(T:mg "law"=some (.ref V))(d_Z8:QDn K "refuse_step" s_Z8)(d_Z9:QDn K "later_steps" s_Z9)(d_Z11:QDn K "are_places" wf0)(d_Z16:QDn K "turns_of" wg5)(d_Z10:QDn K "go_by_turns" wf1)(d_Z18:QDn K "are_wavy" wg3)(d_Z21:QDn K "added_up" yg1)(d_Z14:QDn K "layers_of" wg7)(d_Z3:QDn K "longest_joined" s_Z3)(d_Z0:QDn K "how_many_longest" s_Z0)(d_Z28:QDn K "ways" wh4)(d_Z26:QDn K "picked" wh6)(d_Z1:QDn K "how_many_picked" s_Z1)(d_first_longest:QDn K "first_longest" f7)(d_Z22:QDn K "_law_reel" wg0)(d_Z15:QDn K "_law_take" wg6)(d_law_alike:QDn K "_law_alike" zc3)(d_Z23:QDn K "_law_row" wh9)(d_Z17:QDn K "_law_step" wg4)(d_Z19:QDn K "_law_wavy" wg2)(d_Z25:QDn K "_law_all" wh7)(d_Z24:QDn K "_law_put" wh8)(d_Z13:QDn K "_law_counts" wg8)(d_law_on:QDn K "_law_on" E6)(d_Z27:QDn K "_law_of" wh5)(d_Z12:QDn K "_law_before" wg9)(d_Z20:QDn K "_law_rank" wg1)(d_Z2:QDn K "_law_short_right" s_Z2)(d_Z4:QDn K "_law_long_right" s_Z4)(d_Z29:QDn K "law" zc4){b:Tok}(f_MOST_TOLD:W.nsIn K mainGlobals "MOST_TOLD"=some (some (.int (100) b)))(y_abs:W.nsIn K mainGlobals "abs"=some none)(y_any:W.nsIn K mainGlobals "any"=some none)(y_bool:W.nsIn K mainGlobals "bool"=some none)(y_enumerate:W.nsIn K mainGlobals "enumerate"=some none)(y_int:W.nsIn K mainGlobals "int"=some none)(y_isinstance:W.nsIn K mainGlobals "isinstance"=some none)(y_len:W.nsIn K mainGlobals "len"=some none)(y_list:W.nsIn K mainGlobals "list"=some none)(y_max:W.nsIn K mainGlobals "max"=some none)(y_min:W.nsIn K mainGlobals "min"=some none)(y_range:W.nsIn K mainGlobals "range"=some none)(y_reversed:W.nsIn K mainGlobals "reversed"=some none)(y_set:W.nsIn K mainGlobals "set"=some none)(y_sorted:W.nsIn K mainGlobals "sorted"=some none)(y_str:W.nsIn K mainGlobals "str"=some none)(y_sum:W.nsIn K mainGlobals "sum"=some none)(y_tuple:W.nsIn K mainGlobals "tuple"=some none)(y_zip:W.nsIn K mainGlobals "zip"=some none):
  ∃U:FuncData,(∀(s:Shared)(v:Value),BindsTo s U ⟨[v],[]⟩ [("script",v)])/\∀base:Heap,K.In base->base.Ns mainGlobals mg->FnOk l.prog w K mg base CX0 7 V U ["script"] (spR K 1 za8):=by
 let⟨x,e,oc,o1,kV,dc,Y,o2,cd,ct,sl,l',c,k⟩:=d_Z29;have e:=T.symm.trans (W.mg_of X G e);ext e;have d:=W.mg_of X G f_MOST_TOLD;have Z:Zs mg:=⟨bQ X G y_abs,bQ X G y_any,bQ X G y_bool,bQ X G y_enumerate,bQ X G y_int,bQ X G y_isinstance,bQ X G y_len,bQ X G y_list,bQ X G y_max,bQ X G y_min,bQ X G y_range,bQ X G y_reversed,bQ X G y_set,bQ X G y_sorted,bQ X G y_str,bQ X G y_sum,bQ X G y_tuple,bQ X G y_zip,True.intro⟩;show⟨W.fnOf "law" "law" (V1 zc4) (i6 zc4) (y4 zc4) .none kV dc Y o2 cd ct,λs v=>.of_eq rfl,λbase _ _=>?_⟩;have j:=vn0 l.prog w base (d_Z8.d1 X G);have n:=vo9 l.prog w base (d_Z9.d2 X G) Z;have I:=vy4 l.prog w base (d_Z11.d2 X G) Z;have D:=vz9 l.prog w base (d_Z16.d1 X G) Z;have J:=vy5 l.prog w base (d_Z10.d2 X G) D Z;have B:=vz7 l.prog w base (d_Z18.d3 X G) I J j;have z:=vz4 l.prog w base (d_Z21.d2 X G) Z;have E:=vy1 l.prog w base (d_Z14.d3 X G) z n Z;have O:=vn5 l.prog w base (d_Z3.d1 X G) Z;have S:=vn8 l.prog w base (d_Z0.d2 X G) n O j Z;have p:=wa7 l.prog w base (d_Z28.d5 X G) B;have r:=wa9 l.prog w base (d_Z26.d4 X G) p Z;have R:=vn7 l.prog w base (d_Z1.d1 X G) Z;have a:=E1 l.prog w base (d_first_longest.d3 X G) R E r j d Z;have y:=vz3 l.prog w base (d_Z22.d1 X G) Z;have g:=vy0 l.prog w base (d_Z15.d2 X G);have L:=vn2 l.prog w base (d_law_alike.d2 X G) Z;have M:=vn3 l.prog w base (d_law_alike.d2 X G) L Z;have o:=vn1 l.prog w base (d_law_alike.d2 X G) M Z;have u:=vz2 l.prog w base (d_Z23.d2 X G) g Z;have C:=vz8 l.prog w base (d_Z17.d2 X G) g Z;have f:=vz6 l.prog w base (d_Z19.d3 X G) Z;have t:=vz0 l.prog w base (d_Z25.d2 X G) f Z;have m:=vz1 l.prog w base (d_Z24.d2 X G) Z;have F:=vy2 l.prog w base (d_Z13.d2 X G) m Z;have i:=yb1 l.prog w base (d_law_on.d2 X G) m Z;have q:=wa8 l.prog w base (d_Z27.d2 X G);have H:=vy3 l.prog w base (d_Z12.d5 X G) q f Z;have A:=vz5 l.prog w base (d_Z20.d4 X G) H Z;have Q:=vn6 l.prog w base (d_Z2.d4 X G) o t Z;have N:=vn4 l.prog w base (d_Z4.d4 X G) o F i A f Z;show wa6 l.prog w base (xx3 l' c k) N y u Q C g a S Z
theorem walk{l:W.OpenLaw}{q:Program}{b:List Str}{v:(Qb)->Heap->Prop}{j:World->Heap->Prop}{d:DefRec}{K:Params->W.Frag}(o:l.most=some 63)(e:d.params.defaults=[])
  (c:∀ns:List Int,ns.length<=63->za8 [.lst (ns.map .int)]=some (.sh (.bl true)))
  (r:∀(w:World)(h:Heap),j w h->(K w.params).In h)
  (F:∀(w:World)(mg:Qb)(i:Addr)(h:Heap),(K w.params).In h->h.Ns mainGlobals mg->mg d.name=some (.ref i)->
   ∃g:FuncData,(∀(s:Shared)(u:Value),BindsTo s g ⟨[u],[]⟩ [("script",u)])/\∀base:Heap,(K w.params).In base->base.Ns mainGlobals mg->FnOk l.prog w (K w.params) mg base CX0 7 i g ["script"] (spR (K w.params) 1 za8)):
  W.WalkO q b v j l.row.toRowW d [] (λf m=>PySem.call f m):=
 L2.walk_of (n:=63) (k:=7) (x:="script") (CX:=λ_=>CX0) (sp:=λw=>spR (K w.params) 1 za8) o ay e ⟨rfl,by decide,by decide⟩ r F (λw H a ns p _ t=>wh1 c H a ns p t _) λ_ _ _ _ _ z=>z
end
end Lw
open PySem PySem.W PyProof.Rows L2
set_option maxRecDepth 100000 in
set_option maxHeartbeats 0 in
theorem PySem.Challenge.cw_wavyrow_k20_the_longest_in_order_holds : PySem.Challenge.rw_wavyrow_k20_the_longest_in_order.Holds := by
 w_on;o_law;k_head;(case hw=>w_witness2)
 k_fill
 show Lw.walk (l:=PySem.Challenge.rw_wavyrow_k20_the_longest_in_order) rfl rfl Lw.law_true (λw h Y=>PySem.W.kIn_of Y) ?F
 case F=>
  intro w mg fa h KX G hmg;refine' Lw.all_mk KX G hmg  ?d_Z8 ?d_Z9 ?d_Z11 ?d_Z16 ?d_Z10 ?d_Z18 ?d_Z21 ?d_Z14 ?d_Z3 ?d_Z0 ?d_Z28 ?d_Z26 ?d_Z1 ?d_first_longest ?d_Z22 ?d_Z15 ?d_law_alike ?d_Z23 ?d_Z17 ?d_Z19 ?d_Z25 ?d_Z24 ?d_Z13 ?d_law_on ?d_Z27 ?d_Z12 ?d_Z20 ?d_Z2 ?d_Z4 ?d_Z29  ?f_MOST_TOLD  ?y_abs ?y_any ?y_bool ?y_enumerate ?y_int ?y_isinstance ?y_len ?y_list ?y_max ?y_min ?y_range ?y_reversed ?y_set ?y_sorted ?y_str ?y_sum ?y_tuple ?y_zip
  all_goals first| (refine' QDn.of ?e ?l ?c ?k;(case e=>k_is);(case l=>k_is);(case c=>k_is);(case k=>k_is))| (refine' QMn.of ?e ?i ?l ?c ?k;(case e=>k_is);(case i=>k_is);(case l=>k_is);(case c=>k_is);(case k=>k_is))|k_is|skip
